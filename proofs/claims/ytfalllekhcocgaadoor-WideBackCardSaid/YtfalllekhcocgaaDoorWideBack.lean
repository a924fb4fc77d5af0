/-
  A quotient times its divisor, and the rest, is what was divided; a sum without the one is the other: of any two numbers. No condition.
-/
import Derived.Test.YtfalllekhcocgaaDoorLawW
import Derived.Test.YtfalllekhcocgaaDoorRefO
namespace Go.Proofs.YtfalllekhcocgaaDoor.wideBack
open Go.ChangeShapes Go.WideShapes Go.ChangeAt Go.RowKit

theorem back {x y : Int} (h0 : y ≠ 0) : dq x y * y + dr x y = x := by
  have h := Int.emod_add_mul_ediv (mag x) (mag y)
  obtain ⟨Q, hQ⟩ : ∃ Q, Q = mag x / mag y := ⟨_, rfl⟩
  obtain ⟨R, hR⟩ : ∃ R, R = mag x % mag y := ⟨_, rfl⟩
  unfold dq dr
  rw [← hQ, ← hR] at h ⊢
  rcases mag_cases x with ⟨hx, ex⟩ | ⟨hx, ex⟩ <;> rcases mag_cases y with ⟨hy, ey⟩ | ⟨hy, ey⟩
  · rw [ex, ey, Int.neg_mul, Int.mul_comm] at h
    simp [hx, hy]
    omega
  · rw [ex, ey, Int.mul_comm] at h
    have hy' : ¬ y < 0 := by omega
    simp [hx, hy', Int.neg_mul]
    omega
  · rw [ex, ey, Int.neg_mul, Int.mul_comm] at h
    have hx' : ¬ x < 0 := by omega
    simp [hx', hy, Int.neg_mul]
    omega
  · rw [ex, ey, Int.mul_comm] at h
    have hy' : ¬ y < 0 := by omega
    have hx' : ¬ x < 0 := by omega
    simp [hx', hy']
    omega
theorem rest_sign {x y : Int} (h0 : y ≠ 0) (hr : dr x y ≠ 0) : cmp3 (dr x y) 0 = cmp3 x 0 := by
  have h1 := Int.emod_nonneg (mag x) (show mag y ≠ 0 by have := mag_pos h0; omega)
  by_cases h : x < 0
  · have hd : dr x y < 0 := by unfold dr at hr ⊢; rw [if_pos (by simpa using h)] at hr ⊢; omega
    rw [cmp3_lt h, cmp3_lt hd]
  · have hd : 0 < dr x y := by unfold dr at hr ⊢; rw [if_neg (by simpa using h)] at hr ⊢; omega
    have hx : 0 < x := by
      rcases Int.lt_trichotomy x 0 with h2 | h2 | h2
      · omega
      · subst h2
        exfalso
        apply hr
        unfold dr
        simp [mag]
      · exact h2
    rw [cmp3_gt hx, cmp3_gt hd]
theorem prod_fits {x y : Int} (hx : Fits x) (h0 : y ≠ 0) : Fits (dq x y * y) := by
  have h := back (x := x) h0
  have h1 := Int.emod_nonneg (mag x) (show mag y ≠ 0 by have := mag_pos h0; omega)
  have h4 : mag x % mag y ≤ mag x := by
    have h5 := Int.emod_add_mul_ediv (mag x) (mag y)
    have h6 : 0 ≤ mag y * (mag x / mag y) := Int.mul_nonneg (by have := mag_pos h0; omega) (Int.ediv_nonneg (by unfold mag; split <;> omega) (by have := mag_pos h0; omega))
    omega
  have h7 : dr x y = if decide (x < 0) = true then -(mag x % mag y) else mag x % mag y := rfl
  unfold Fits at hx ⊢
  rcases mag_cases x with ⟨hs, hm⟩ | ⟨hs, hm⟩
  · rw [if_pos (by simpa using hs)] at h7
    omega
  · rw [if_neg (by simpa using hs)] at h7
    omega
theorem over_sign {x y : Int} (hx : Fits x) (hy : Fits y) (h : ¬ Fits (x + y)) : cmp3 x 0 = cmp3 y 0 := by
  unfold Fits at hx hy h
  by_cases h1 : x < 0
  · rw [cmp3_lt h1, cmp3_lt (by omega)]
  · rw [cmp3_gt (by omega), cmp3_gt (by omega)]

set_option maxRecDepth 100000 in
set_option maxHeartbeats 4000000 in
theorem walk_A0_fit (w : World) (x y : Int) (hx : Fits x) (hy : Fits y) (h0 : y ≠ 0) (hf : Fits (dq x y)) (hr : dr x y = 0) (hs : Fits (x + y)) (htab : Lib.TabIs Tryd.prog w "internal/strconv.uint64pow10" .u64 Lib.pow10Tab) (hg : 2 < w.heap.size) :
    Calls Tryd.prog 9 #[WV x, WV y] w fun e w' => e = .returned (.bool true) ∧ Below w.heap.size w w' := by
  have D := fun w => divc_any w x y hx hy
  have hrf := dr_fits hx h0 hy
  have hpf := prod_fits (y := y) hx h0
  have M := fun w => mul_any w (dq x y) y hf hy
  have A1 := fun w => add_any w (dq x y * y) (dr x y) hpf hrf
  rw [resV_fit hpf] at M
  rw [back h0, resV_fit hx] at A1
  have SR := fun w => sign_any w (dr x y) hrf
  have SX := fun w => sign_any w x hx
  unfold divV at D
  rw [if_neg h0, if_pos hf] at D
  rw [show cmp3 (dr x y) 0 = 0 by rw [hr, cmp3_eq]] at SR
  have A2 := fun w => add_any w x y hx hy
  have B2 := fun w => sub_any w (x + y) y hs hy
  rw [resV_fit hs] at A2
  rw [show x + y - y = x by omega, resV_fit hx] at B2
  obtain ⟨sh, sl, es⟩ : ∃ hi lo : Int, WV (x + y) = .agg #[.int .i64 hi, .int .u64 lo] := ⟨_, _, rfl⟩
  obtain ⟨ah, al, e1⟩ : ∃ hi lo : Int, WV x = .agg #[.int .i64 hi, .int .u64 lo] := ⟨_, _, rfl⟩
  obtain ⟨bh, bl, e2⟩ : ∃ hi lo : Int, WV y = .agg #[.int .i64 hi, .int .u64 lo] := ⟨_, _, rfl⟩
  obtain ⟨qh, ql, eq⟩ : ∃ hi lo : Int, WV (dq x y) = .agg #[.int .i64 hi, .int .u64 lo] := ⟨_, _, rfl⟩
  obtain ⟨rh, rl, er⟩ : ∃ hi lo : Int, WV (dr x y) = .agg #[.int .i64 hi, .int .u64 lo] := ⟨_, _, rfl⟩
  obtain ⟨ph, pl, ep⟩ : ∃ hi lo : Int, WV (dq x y * y) = .agg #[.int .i64 hi, .int .u64 lo] := ⟨_, _, rfl⟩
  rw [eq, e2, ep] at M
  rw [ep, er, e1] at A1
  rw [er] at SR
  rw [e1] at SX
  rw [e1, e2, eq, er] at D
  rw [e1, e2, es] at A2
  rw [es, e2, e1] at B2
  rw [e1, e2]
  have D := hid D
  have A2 := hid A2
  have M := hid M
  have A1 := hid A1
  have SR := hid SR
  have SX := hid SX
  have B2 := hid B2
  have HT := hid htab
  clear htab e1 e2 hx hy hs h0 eq er ep hf hr hrf hpf es
  have R_a := (Row.new w 24 #[.int .i64 ah, .int .u64 al]).alloc (.cells #[.int .i64 bh, .int .u64 bl] 24)
  have R_b := Row.new (w.alloc (.cells #[.int .i64 ah, .int .u64 al] 24)) 24 #[.int .i64 bh, .int .u64 bl]
  have HU := ((Up.refl w).alloc (.cells #[.int .i64 ah, .int .u64 al] 24)).alloc (.cells #[.int .i64 bh, .int .u64 bl] 24)
  simp only [alloc_size] at R_b
  go_enter Tryd.func9, Tryd.ntmps9
  go_wp2_with fail
  refine (known_any _ (tab_below HT.out HU.below hg) (by have := HU.size; omega)).mono ?_; rintro e w1 ⟨rfl, hb_w1⟩
  have z_w1 := hb_w1.size
  try simp only [alloc_size, setCell_size] at z_w1
  replace R_a := R_a.mod (Mod.of_below hb_w1 Nil) (fun hf => hf)
  replace R_b := R_b.mod (Mod.of_below hb_w1 Nil) (fun hf => hf)
  replace HU := HU.trans hb_w1
  clear hb_w1
  have c1_0 := R_a.cell 0
  have c1_1 := R_a.cell 1
  have c2_0 := R_b.cell 0
  have c2_1 := R_b.cell 1
  simp at c1_0 c1_1 c2_0 c2_1
  go_wp2_with fail
  clear c1_0 c1_1 c2_0 c2_1
  refine Calls.mono (D.out _) ?_; rintro e w2 ⟨rfl, hb_w2⟩
  have z_w2 := hb_w2.size
  try simp only [alloc_size, setCell_size] at z_w2
  replace R_a := R_a.mod (Mod.of_below hb_w2 Nil) (fun hf => hf)
  replace R_b := R_b.mod (Mod.of_below hb_w2 Nil) (fun hf => hf)
  replace HU := HU.trans hb_w2
  clear hb_w2
  have R_q := Row.new (w2) 24 #[.int .i64 qh, .int .u64 ql]
  replace R_a := R_a.alloc (.cells #[.int .i64 qh, .int .u64 ql] 24)
  replace R_b := R_b.alloc (.cells #[.int .i64 qh, .int .u64 ql] 24)
  replace HU := HU.alloc (.cells #[.int .i64 qh, .int .u64 ql] 24)
  have R_r := Row.new ((w2).alloc (.cells #[.int .i64 qh, .int .u64 ql] 24)) 24 #[.int .i64 rh, .int .u64 rl]
  have hz : ((w2).alloc (.cells #[.int .i64 qh, .int .u64 ql] 24)).heap.size = w2.heap.size + 1 := by simp only [alloc_size, setCell_size]
  rw [hz] at R_r
  clear hz
  replace R_a := R_a.alloc (.cells #[.int .i64 rh, .int .u64 rl] 24)
  replace R_b := R_b.alloc (.cells #[.int .i64 rh, .int .u64 rl] 24)
  replace R_q := R_q.alloc (.cells #[.int .i64 rh, .int .u64 rl] 24)
  replace HU := HU.alloc (.cells #[.int .i64 rh, .int .u64 rl] 24)
  have c3_0 := R_q.cell 0
  have c3_1 := R_q.cell 1
  have c4_0 := R_b.cell 0
  have c4_1 := R_b.cell 1
  simp at c3_0 c3_1 c4_0 c4_1
  go_wp2_with fail
  clear c3_0 c3_1 c4_0 c4_1
  refine Calls.mono (M.out _) ?_; rintro e w3 ⟨rfl, hb_w3⟩
  have z_w3 := hb_w3.size
  try simp only [alloc_size, setCell_size] at z_w3
  replace R_a := R_a.mod (Mod.of_below hb_w3 Nil) (fun hf => hf)
  replace R_b := R_b.mod (Mod.of_below hb_w3 Nil) (fun hf => hf)
  replace R_q := R_q.mod (Mod.of_below hb_w3 Nil) (fun hf => hf)
  replace R_r := R_r.mod (Mod.of_below hb_w3 Nil) (fun hf => hf)
  replace HU := HU.trans hb_w3
  clear hb_w3
  have R_x := Row.new (w3) 24 #[.int .i64 ph, .int .u64 pl]
  replace R_a := R_a.alloc (.cells #[.int .i64 ph, .int .u64 pl] 24)
  replace R_b := R_b.alloc (.cells #[.int .i64 ph, .int .u64 pl] 24)
  replace R_q := R_q.alloc (.cells #[.int .i64 ph, .int .u64 pl] 24)
  replace R_r := R_r.alloc (.cells #[.int .i64 ph, .int .u64 pl] 24)
  replace HU := HU.alloc (.cells #[.int .i64 ph, .int .u64 pl] 24)
  have c5_0 := R_x.cell 0
  have c5_1 := R_x.cell 1
  have c6_0 := R_r.cell 0
  have c6_1 := R_r.cell 1
  simp at c5_0 c5_1 c6_0 c6_1
  go_wp2_with fail
  clear c5_0 c5_1 c6_0 c6_1
  refine Calls.mono (A1.out _) ?_; rintro e w4 ⟨rfl, hb_w4⟩
  have z_w4 := hb_w4.size
  try simp only [alloc_size, setCell_size] at z_w4
  replace R_a := R_a.mod (Mod.of_below hb_w4 Nil) (fun hf => hf)
  replace R_b := R_b.mod (Mod.of_below hb_w4 Nil) (fun hf => hf)
  replace R_q := R_q.mod (Mod.of_below hb_w4 Nil) (fun hf => hf)
  replace R_r := R_r.mod (Mod.of_below hb_w4 Nil) (fun hf => hf)
  replace R_x := R_x.mod (Mod.of_below hb_w4 Nil) (fun hf => hf)
  replace HU := HU.trans hb_w4
  clear hb_w4
  have R_y := Row.new (w4) 24 #[.int .i64 ah, .int .u64 al]
  replace R_a := R_a.alloc (.cells #[.int .i64 ah, .int .u64 al] 24)
  replace R_b := R_b.alloc (.cells #[.int .i64 ah, .int .u64 al] 24)
  replace R_q := R_q.alloc (.cells #[.int .i64 ah, .int .u64 al] 24)
  replace R_r := R_r.alloc (.cells #[.int .i64 ah, .int .u64 al] 24)
  replace R_x := R_x.alloc (.cells #[.int .i64 ah, .int .u64 al] 24)
  replace HU := HU.alloc (.cells #[.int .i64 ah, .int .u64 al] 24)
  go_wp2_with fail
  obtain ⟨V, h_V⟩ : ∃ V, V = (w4).alloc (.cells #[.int .i64 ah, .int .u64 al] 24) := ⟨_, rfl⟩
  rw [← h_V]
  rw [← h_V] at R_a R_b R_q R_r R_x R_y HU
  have z_V : V.heap.size = _ := congrArg (fun a => a.heap.size) h_V
  try simp only [alloc_size, setCell_size] at z_V
  clear h_V
  have MK : ∀ W, Up V.heap.size V W → Up V.heap.size V W ∧ W.cell? ⟨w.heap.size, 0, none⟩ = some (.int .i64 ah) ∧ W.cell? ⟨w.heap.size, 1, none⟩ = some (.int .u64 al) ∧ W.cell? ⟨w.heap.size + 1, 0, none⟩ = some (.int .i64 bh) ∧ W.cell? ⟨w.heap.size + 1, 1, none⟩ = some (.int .u64 bl) ∧ W.cell? ⟨w2.heap.size + 1, 0, none⟩ = some (.int .i64 rh) ∧ W.cell? ⟨w2.heap.size + 1, 1, none⟩ = some (.int .u64 rl) ∧ W.cell? ⟨w4.heap.size, 0, none⟩ = some (.int .i64 ah) ∧ W.cell? ⟨w4.heap.size, 1, none⟩ = some (.int .u64 al) := fun W hW => by
    have k_a := R_a.below hW.below R_a.lt
    have k_b := R_b.below hW.below R_b.lt
    have k_r := R_r.below hW.below R_r.lt
    have k_y := R_y.below hW.below R_y.lt
    exact ⟨hW, by simpa using k_a.cell 0, by simpa using k_a.cell 1, by simpa using k_b.cell 0, by simpa using k_b.cell 1, by simpa using k_r.cell 0, by simpa using k_r.cell 1, by simpa using k_y.cell 0, by simpa using k_y.cell 1⟩
  have MK := hid MK
  refine wp_region_noPanic ?_
  refine wp_region_held_drew (S := fun W => Up V.heap.size V W ∧ W.cell? ⟨w.heap.size, 0, none⟩ = some (.int .i64 ah) ∧ W.cell? ⟨w.heap.size, 1, none⟩ = some (.int .u64 al) ∧ W.cell? ⟨w.heap.size + 1, 0, none⟩ = some (.int .i64 bh) ∧ W.cell? ⟨w.heap.size + 1, 1, none⟩ = some (.int .u64 bl) ∧ W.cell? ⟨w2.heap.size + 1, 0, none⟩ = some (.int .i64 rh) ∧ W.cell? ⟨w2.heap.size + 1, 1, none⟩ = some (.int .u64 rl) ∧ W.cell? ⟨w4.heap.size, 0, none⟩ = some (.int .i64 ah) ∧ W.cell? ⟨w4.heap.size, 1, none⟩ = some (.int .u64 al)) (by kernel_rfl) (MK.out _ (Up.refl V).drew) (fun hHeld => ?_)
  refine wpAnyH_take (i := 0) (oi := { dst := some 39, op := Op.move (Operand.tmp 9), type := 25, pos := "law.go:113", after := #[], guard := none }) (v := ?_) rfl (by kernel_rfl) (by kernel_rfl) (by kernel_rfl) (fun _ _ _ h => h) (Or.inl ⟨by rfl, ?_⟩) hHeld ?_
  rotate_left
  · intro w' hSw; (try dsimp only at hSw); go_simp <;> with_reducible rfl
  try simp only [Act.put, List.setIfInBounds_toArray, List.set_cons_zero, List.set_cons_succ]
  refine wpAnyH_take (i := 1) (oi := { dst := some 40, op := Op.binOp BinOp.neq 25 (Operand.tmp 39) (Operand.const (Value.int IntKind.i64 0)) 25, type := 4, pos := "law.go:113", after := #[{ on := 0, ground := Ground.data }], guard := none }) (v := ?_) rfl (by kernel_rfl) (by kernel_rfl) (by kernel_rfl) (fun _ _ _ h => h) (Or.inl ⟨by rfl, ?_⟩) hHeld ?_
  rotate_left
  · intro w' hSw; (try dsimp only at hSw); go_simp <;> with_reducible rfl
  try simp only [Act.put, List.setIfInBounds_toArray, List.set_cons_zero, List.set_cons_succ]
  refine wpAnyH_take (i := 2) (oi := { dst := some 41, op := Op.move (Operand.tmp 40), type := 4, pos := "law.go:113", after := #[{ on := 1, ground := Ground.data }], guard := none }) (v := ?_) rfl (by kernel_rfl) (by kernel_rfl) (by kernel_rfl) (fun _ _ _ h => h) (Or.inl ⟨by rfl, ?_⟩) hHeld ?_
  rotate_left
  · intro w' hSw; (try dsimp only at hSw); go_simp <;> with_reducible rfl
  try simp only [Act.put, List.setIfInBounds_toArray, List.set_cons_zero, List.set_cons_succ]
  refine wpAnyH_take (i := 3) (oi := { dst := some 42, op := Op.move (Operand.tmp 11), type := 25, pos := "law.go:113", after := #[{ on := 2, ground := Ground.guard }], guard := some (2, false) }) (v := ?_) rfl (by kernel_rfl) (by kernel_rfl) (by kernel_rfl) (fun _ _ _ h => h) (Or.inl ⟨by rfl, ?_⟩) hHeld ?_
  rotate_left
  · intro w' hSw; (try dsimp only at hSw); go_simp <;> with_reducible rfl
  try simp only [Act.put, List.setIfInBounds_toArray, List.set_cons_zero, List.set_cons_succ]
  refine wpAnyH_take (i := 4) (oi := { dst := some 43, op := Op.binOp BinOp.neq 25 (Operand.tmp 42) (Operand.const (Value.int IntKind.i64 0)) 25, type := 4, pos := "law.go:113", after := #[{ on := 3, ground := Ground.data }, { on := 2, ground := Ground.guard }], guard := some (2, false) }) (v := ?_) rfl (by kernel_rfl) (by kernel_rfl) (by kernel_rfl) (fun _ _ _ h => h) (Or.inl ⟨by rfl, ?_⟩) hHeld ?_
  rotate_left
  · intro w' hSw; (try dsimp only at hSw); go_simp <;> with_reducible rfl
  try simp only [Act.put, List.setIfInBounds_toArray, List.set_cons_zero, List.set_cons_succ]
  refine wpAnyH_take (i := 5) (oi := { dst := some 44, op := Op.pick (Operand.tmp 41) (Operand.const (Value.bool true)) (Operand.tmp 43), type := 4, pos := "law.go:113", after := #[{ on := 2, ground := Ground.data }, { on := 4, ground := Ground.data }], guard := none }) (v := ?_) rfl (by kernel_rfl) (by kernel_rfl) (by kernel_rfl) (fun _ _ _ h => h) (Or.inl ⟨by rfl, ?_⟩) hHeld ?_
  rotate_left
  · intro w' hSw; (try dsimp only at hSw); go_simp <;> with_reducible rfl
  try simp only [Act.put, List.setIfInBounds_toArray, List.set_cons_zero, List.set_cons_succ]
  refine wpAnyH_take (i := 6) (oi := { dst := some 45, op := Op.move (Operand.tmp 44), type := 4, pos := "law.go:113", after := #[{ on := 5, ground := Ground.data }, { on := 2, ground := Ground.chain }], guard := none }) (v := ?_) rfl (by kernel_rfl) (by kernel_rfl) (by kernel_rfl) (fun _ _ _ h => h) (Or.inl ⟨by rfl, ?_⟩) hHeld ?_
  rotate_left
  · intro w' hSw; (try dsimp only at hSw); go_simp <;> with_reducible rfl
  try simp only [Act.put, List.setIfInBounds_toArray, List.set_cons_zero, List.set_cons_succ]
  refine wpAnyH_take (i := 7) (oi := { dst := some 46, op := Op.load 24 (Operand.tmp 10), type := 24, pos := "law.go:113", after := #[{ on := 6, ground := Ground.guard }], guard := some (6, false) }) (v := ?_) rfl (by kernel_rfl) (by kernel_rfl) (by kernel_rfl) (fun _ _ _ h => h) (Or.inl ⟨by rfl, ?_⟩) hHeld ?_
  rotate_left
  · intro w' hSw; (try dsimp only at hSw); go_simp <;> with_reducible rfl
  try simp only [Act.put, List.setIfInBounds_toArray, List.set_cons_zero, List.set_cons_succ]
  refine wpAnyH_take (i := 8) (oi := { dst := some 47, op := Op.load 24 (Operand.tmp 2), type := 24, pos := "law.go:113", after := #[{ on := 6, ground := Ground.guard }], guard := some (6, false) }) (v := ?_) rfl (by kernel_rfl) (by kernel_rfl) (by kernel_rfl) (fun _ _ _ h => h) (Or.inl ⟨by rfl, ?_⟩) hHeld ?_
  rotate_left
  · intro w' hSw; (try dsimp only at hSw); go_simp <;> with_reducible rfl
  try simp only [Act.put, List.setIfInBounds_toArray, List.set_cons_zero, List.set_cons_succ]
  refine wpAnyH_take (i := 9) (oi := { dst := some 48, op := Op.binOp BinOp.neq 24 (Operand.tmp 46) (Operand.tmp 47) 24, type := 4, pos := "law.go:113", after := #[{ on := 7, ground := Ground.data }, { on := 8, ground := Ground.data }, { on := 6, ground := Ground.guard }], guard := some (6, false) }) (v := ?_) rfl (by kernel_rfl) (by kernel_rfl) (by kernel_rfl) (fun _ _ _ h => h) (Or.inl ⟨by rfl, ?_⟩) hHeld ?_
  rotate_left
  · intro w' hSw; (try dsimp only at hSw); go_simp <;> with_reducible rfl
  try simp only [Act.put, List.setIfInBounds_toArray, List.set_cons_zero, List.set_cons_succ]
  refine wpAnyH_take (i := 10) (oi := { dst := some 49, op := Op.pick (Operand.tmp 45) (Operand.const (Value.bool true)) (Operand.tmp 48), type := 4, pos := "law.go:113", after := #[{ on := 6, ground := Ground.data }, { on := 9, ground := Ground.data }], guard := none }) (v := ?_) rfl (by kernel_rfl) (by kernel_rfl) (by kernel_rfl) (fun _ _ _ h => h) (Or.inl ⟨by rfl, ?_⟩) hHeld ?_
  rotate_left
  · intro w' hSw; (try dsimp only at hSw); go_simp <;> with_reducible rfl
  try simp only [Act.put, List.setIfInBounds_toArray, List.set_cons_zero, List.set_cons_succ]
  refine wpAnyH_take (i := 11) (oi := { dst := some 50, op := Op.move (Operand.tmp 49), type := 4, pos := "law.go:113", after := #[{ on := 10, ground := Ground.data }, { on := 6, ground := Ground.chain }], guard := none }) (v := ?_) rfl (by kernel_rfl) (by kernel_rfl) (by kernel_rfl) (fun _ _ _ h => h) (Or.inl ⟨by rfl, ?_⟩) hHeld ?_
  rotate_left
  · intro w' hSw; (try dsimp only at hSw); go_simp <;> with_reducible rfl
  try simp only [Act.put, List.setIfInBounds_toArray, List.set_cons_zero, List.set_cons_succ]
  refine wpAnyH_take (i := 12) (oi := { dst := some 51, op := Op.load 24 (Operand.tmp 6), type := 24, pos := "law.go:113", after := #[{ on := 11, ground := Ground.guard }], guard := some (11, false) }) (v := ?_) rfl (by kernel_rfl) (by kernel_rfl) (by kernel_rfl) (fun _ _ _ h => h) (Or.inl ⟨by rfl, ?_⟩) hHeld ?_
  rotate_left
  · intro w' hSw; (try dsimp only at hSw); go_simp <;> with_reducible rfl
  try simp only [Act.put, List.setIfInBounds_toArray, List.set_cons_zero, List.set_cons_succ]
  refine wpAnyH_ready (rs := [13]) (by kernel_rfl) (by simp) ?_
  refine AllReadyH.cons (o := { dst := some 52, op := Op.call { callee := Callee.value (Operand.func 29), args := #[Operand.tmp 51], argTypes := #[24] }, type := 3, pos := "law.go:113", after := #[{ on := 12, ground := Ground.data }, { on := 11, ground := Ground.chain }, { on := 11, ground := Ground.guard }], guard := some (11, false) }) rfl (fun K hK => ?_) AllReadyH.nil
  go_simp
  refine Calls.mono (SR.out _) ?_; rintro e v1 ⟨rfl, hbk⟩
  refine hK.out _ _ (MK.out _ (hHeld.1.trans hbk)) (fun hHeld => ?_)
  clear hK K
  try simp only [Act.put, List.setIfInBounds_toArray, List.set_cons_zero, List.set_cons_succ]
  refine wpAnyH_take (i := 14) (oi := { dst := some 53, op := Op.binOp BinOp.neq 3 (Operand.tmp 52) (Operand.const (Value.int IntKind.i64 0)) 3, type := 4, pos := "law.go:113", after := #[{ on := 13, ground := Ground.data }, { on := 11, ground := Ground.guard }], guard := some (11, false) }) (v := ?_) rfl (by kernel_rfl) (by kernel_rfl) (by kernel_rfl) (fun _ _ _ h => h) (Or.inl ⟨by rfl, ?_⟩) hHeld ?_
  rotate_left
  · intro w' hSw; (try dsimp only at hSw); go_simp <;> with_reducible rfl
  try simp only [Act.put, List.setIfInBounds_toArray, List.set_cons_zero, List.set_cons_succ]
  refine wpAnyH_take (i := 15) (oi := { dst := some 54, op := Op.move (Operand.tmp 53), type := 4, pos := "law.go:113", after := #[{ on := 14, ground := Ground.data }, { on := 13, ground := Ground.chain }, { on := 11, ground := Ground.guard }], guard := some (11, false) }) (v := ?_) rfl (by kernel_rfl) (by kernel_rfl) (by kernel_rfl) (fun _ _ _ h => h) (Or.inl ⟨by rfl, ?_⟩) hHeld ?_
  rotate_left
  · intro w' hSw; (try dsimp only at hSw); go_simp <;> with_reducible rfl
  try simp only [Act.put, List.setIfInBounds_toArray, List.set_cons_zero, List.set_cons_succ]
  refine wpAnyH_take (i := 16) (oi := { dst := some 55, op := Op.load 24 (Operand.tmp 6), type := 24, pos := "law.go:113", after := #[{ on := 15, ground := Ground.guard }], guard := some (15, true) }) (v := undef) rfl (by kernel_rfl) (by kernel_rfl) (by kernel_rfl) (fun _ _ _ h => h) (Or.inr ⟨by rfl, rfl⟩) hHeld ?_
  try simp only [Act.put, List.setIfInBounds_toArray, List.set_cons_zero, List.set_cons_succ]
  refine wpAnyH_take (i := 17) (oi := { dst := some 56, op := Op.call { callee := Callee.value (Operand.func 29), args := #[Operand.tmp 55], argTypes := #[24] }, type := 3, pos := "law.go:113", after := #[{ on := 16, ground := Ground.data }, { on := 15, ground := Ground.chain }, { on := 15, ground := Ground.guard }], guard := some (15, true) }) (v := undef) rfl (by kernel_rfl) (by kernel_rfl) (by kernel_rfl) (fun _ _ _ h => h) (Or.inr ⟨by rfl, rfl⟩) hHeld ?_
  try simp only [Act.put, List.setIfInBounds_toArray, List.set_cons_zero, List.set_cons_succ]
  refine wpAnyH_take (i := 18) (oi := { dst := some 57, op := Op.load 24 (Operand.tmp 2), type := 24, pos := "law.go:113", after := #[{ on := 15, ground := Ground.guard }], guard := some (15, true) }) (v := undef) rfl (by kernel_rfl) (by kernel_rfl) (by kernel_rfl) (fun _ _ _ h => h) (Or.inr ⟨by rfl, rfl⟩) hHeld ?_
  try simp only [Act.put, List.setIfInBounds_toArray, List.set_cons_zero, List.set_cons_succ]
  refine wpAnyH_take (i := 19) (oi := { dst := some 58, op := Op.call { callee := Callee.value (Operand.func 29), args := #[Operand.tmp 57], argTypes := #[24] }, type := 3, pos := "law.go:113", after := #[{ on := 18, ground := Ground.data }, { on := 17, ground := Ground.chain }, { on := 15, ground := Ground.guard }], guard := some (15, true) }) (v := undef) rfl (by kernel_rfl) (by kernel_rfl) (by kernel_rfl) (fun _ _ _ h => h) (Or.inr ⟨by rfl, rfl⟩) hHeld ?_
  try simp only [Act.put, List.setIfInBounds_toArray, List.set_cons_zero, List.set_cons_succ]
  refine wpAnyH_take (i := 20) (oi := { dst := some 59, op := Op.binOp BinOp.neq 3 (Operand.tmp 56) (Operand.tmp 58) 3, type := 4, pos := "law.go:113", after := #[{ on := 17, ground := Ground.data }, { on := 19, ground := Ground.data }, { on := 15, ground := Ground.guard }], guard := some (15, true) }) (v := undef) rfl (by kernel_rfl) (by kernel_rfl) (by kernel_rfl) (fun _ _ _ h => h) (Or.inr ⟨by rfl, rfl⟩) hHeld ?_
  try simp only [Act.put, List.setIfInBounds_toArray, List.set_cons_zero, List.set_cons_succ]
  refine wpAnyH_take (i := 21) (oi := { dst := some 60, op := Op.pick (Operand.tmp 54) (Operand.tmp 59) (Operand.const (Value.bool false)), type := 4, pos := "law.go:113", after := #[{ on := 15, ground := Ground.data }, { on := 20, ground := Ground.data }, { on := 11, ground := Ground.guard }], guard := some (11, false) }) (v := ?_) rfl (by kernel_rfl) (by kernel_rfl) (by kernel_rfl) (fun _ _ _ h => h) (Or.inl ⟨by rfl, ?_⟩) hHeld ?_
  rotate_left
  · intro w' hSw; (try dsimp only at hSw); go_simp <;> with_reducible rfl
  try simp only [Act.put, List.setIfInBounds_toArray, List.set_cons_zero, List.set_cons_succ]
  refine wpAnyH_take (i := 22) (oi := { dst := some 61, op := Op.pick (Operand.tmp 50) (Operand.const (Value.bool true)) (Operand.tmp 60), type := 4, pos := "law.go:113", after := #[{ on := 11, ground := Ground.data }, { on := 21, ground := Ground.data }], guard := none }) (v := ?_) rfl (by kernel_rfl) (by kernel_rfl) (by kernel_rfl) (fun _ _ _ h => h) (Or.inl ⟨by rfl, ?_⟩) hHeld ?_
  rotate_left
  · intro w' hSw; (try dsimp only at hSw); go_simp <;> with_reducible rfl
  try simp only [Act.put, List.setIfInBounds_toArray, List.set_cons_zero, List.set_cons_succ]
  refine wpAnyH_done (by kernel_rfl) ?_ _
  refine NoPanic.normal ?_
  have Ra2 := R_a.below hHeld.1.below R_a.lt
  have Rb2 := R_b.below hHeld.1.below R_b.lt
  have HU2 := HU.trans hHeld.1.below
  clear R_a R_b R_q R_r R_x R_y HU MK hHeld
  have R_a := Ra2
  have R_b := Rb2
  have HU := HU2
  clear Ra2 Rb2 HU2
  have c7_0 := R_a.cell 0
  have c7_1 := R_a.cell 1
  have c8_0 := R_b.cell 0
  have c8_1 := R_b.cell 1
  simp at c7_0 c7_1 c8_0 c8_1
  go_wp2_with fail
  clear c7_0 c7_1 c8_0 c8_1
  refine Calls.mono (A2.out _) ?_; rintro e w5 ⟨rfl, hb_w5⟩
  have z_w5 := hb_w5.size
  try simp only [alloc_size, setCell_size] at z_w5
  replace R_a := R_a.mod (Mod.of_below hb_w5 Nil) (fun hf => hf)
  replace R_b := R_b.mod (Mod.of_below hb_w5 Nil) (fun hf => hf)
  replace HU := HU.trans hb_w5
  clear hb_w5
  have R_s := Row.new (w5) 24 #[.int .i64 sh, .int .u64 sl]
  replace R_a := R_a.alloc (.cells #[.int .i64 sh, .int .u64 sl] 24)
  replace R_b := R_b.alloc (.cells #[.int .i64 sh, .int .u64 sl] 24)
  replace HU := HU.alloc (.cells #[.int .i64 sh, .int .u64 sl] 24)
  have c9_0 := R_s.cell 0
  have c9_1 := R_s.cell 1
  have c10_0 := R_b.cell 0
  have c10_1 := R_b.cell 1
  simp at c9_0 c9_1 c10_0 c10_1
  go_wp2_with fail
  clear c9_0 c9_1 c10_0 c10_1
  refine Calls.mono (B2.out _) ?_; rintro e w6 ⟨rfl, hb_w6⟩
  have z_w6 := hb_w6.size
  try simp only [alloc_size, setCell_size] at z_w6
  replace R_a := R_a.mod (Mod.of_below hb_w6 Nil) (fun hf => hf)
  replace R_b := R_b.mod (Mod.of_below hb_w6 Nil) (fun hf => hf)
  replace R_s := R_s.mod (Mod.of_below hb_w6 Nil) (fun hf => hf)
  replace HU := HU.trans hb_w6
  clear hb_w6
  have R_t := Row.new (w6) 24 #[.int .i64 ah, .int .u64 al]
  replace R_a := R_a.alloc (.cells #[.int .i64 ah, .int .u64 al] 24)
  replace R_b := R_b.alloc (.cells #[.int .i64 ah, .int .u64 al] 24)
  replace R_s := R_s.alloc (.cells #[.int .i64 ah, .int .u64 al] 24)
  replace HU := HU.alloc (.cells #[.int .i64 ah, .int .u64 al] 24)
  have c11_0 := R_a.cell 0
  have c11_1 := R_a.cell 1
  simp at c11_0 c11_1
  go_wp2_with fail
  clear c11_0 c11_1
  go_ret
  exact ⟨rfl, HU.below⟩

set_option maxRecDepth 100000 in
set_option maxHeartbeats 4000000 in
theorem walk_A0_over (w : World) (x y : Int) (hx : Fits x) (hy : Fits y) (h0 : y ≠ 0) (hf : Fits (dq x y)) (hr : dr x y = 0) (hs : ¬ Fits (x + y)) (htab : Lib.TabIs Tryd.prog w "internal/strconv.uint64pow10" .u64 Lib.pow10Tab) (hg : 2 < w.heap.size) :
    Calls Tryd.prog 9 #[WV x, WV y] w fun e w' => e = .returned (.bool true) ∧ Below w.heap.size w w' := by
  have D := fun w => divc_any w x y hx hy
  have hrf := dr_fits hx h0 hy
  have hpf := prod_fits (y := y) hx h0
  have M := fun w => mul_any w (dq x y) y hf hy
  have A1 := fun w => add_any w (dq x y * y) (dr x y) hpf hrf
  rw [resV_fit hpf] at M
  rw [back h0, resV_fit hx] at A1
  have SR := fun w => sign_any w (dr x y) hrf
  have SX := fun w => sign_any w x hx
  unfold divV at D
  rw [if_neg h0, if_pos hf] at D
  rw [show cmp3 (dr x y) 0 = 0 by rw [hr, cmp3_eq]] at SR
  have A2 := fun w => add_any w x y hx hy
  have TX := fun w => sign_any w x hx
  have TY := fun w => sign_any w y hy
  rw [← over_sign hx hy hs] at TY
  obtain ⟨d, hd⟩ : ∃ d, d = cmp3 x 0 := ⟨_, rfl⟩
  rw [← hd] at TX TY
  rw [resV_over hs] at A2
  have e0 : WV 0 = .agg #[.int .i64 0, .int .u64 0] := by kernel_rfl
  rw [e0] at A2
  obtain ⟨ah, al, e1⟩ : ∃ hi lo : Int, WV x = .agg #[.int .i64 hi, .int .u64 lo] := ⟨_, _, rfl⟩
  obtain ⟨bh, bl, e2⟩ : ∃ hi lo : Int, WV y = .agg #[.int .i64 hi, .int .u64 lo] := ⟨_, _, rfl⟩
  obtain ⟨qh, ql, eq⟩ : ∃ hi lo : Int, WV (dq x y) = .agg #[.int .i64 hi, .int .u64 lo] := ⟨_, _, rfl⟩
  obtain ⟨rh, rl, er⟩ : ∃ hi lo : Int, WV (dr x y) = .agg #[.int .i64 hi, .int .u64 lo] := ⟨_, _, rfl⟩
  obtain ⟨ph, pl, ep⟩ : ∃ hi lo : Int, WV (dq x y * y) = .agg #[.int .i64 hi, .int .u64 lo] := ⟨_, _, rfl⟩
  rw [eq, e2, ep] at M
  rw [ep, er, e1] at A1
  rw [er] at SR
  rw [e1] at SX
  rw [e1, e2, eq, er] at D
  rw [e1, e2] at A2
  rw [e1] at TX
  rw [e2] at TY
  rw [e1, e2]
  have D := hid D
  have A2 := hid A2
  have M := hid M
  have A1 := hid A1
  have SR := hid SR
  have SX := hid SX
  have TX := hid TX
  have TY := hid TY
  have HT := hid htab
  clear htab e1 e2 hx hy hs h0 eq er ep hf hr hrf hpf e0 hd
  have R_a := (Row.new w 24 #[.int .i64 ah, .int .u64 al]).alloc (.cells #[.int .i64 bh, .int .u64 bl] 24)
  have R_b := Row.new (w.alloc (.cells #[.int .i64 ah, .int .u64 al] 24)) 24 #[.int .i64 bh, .int .u64 bl]
  have HU := ((Up.refl w).alloc (.cells #[.int .i64 ah, .int .u64 al] 24)).alloc (.cells #[.int .i64 bh, .int .u64 bl] 24)
  simp only [alloc_size] at R_b
  go_enter Tryd.func9, Tryd.ntmps9
  go_wp2_with fail
  refine (known_any _ (tab_below HT.out HU.below hg) (by have := HU.size; omega)).mono ?_; rintro e w1 ⟨rfl, hb_w1⟩
  have z_w1 := hb_w1.size
  try simp only [alloc_size, setCell_size] at z_w1
  replace R_a := R_a.mod (Mod.of_below hb_w1 Nil) (fun hf => hf)
  replace R_b := R_b.mod (Mod.of_below hb_w1 Nil) (fun hf => hf)
  replace HU := HU.trans hb_w1
  clear hb_w1
  have c1_0 := R_a.cell 0
  have c1_1 := R_a.cell 1
  have c2_0 := R_b.cell 0
  have c2_1 := R_b.cell 1
  simp at c1_0 c1_1 c2_0 c2_1
  go_wp2_with fail
  clear c1_0 c1_1 c2_0 c2_1
  refine Calls.mono (D.out _) ?_; rintro e w2 ⟨rfl, hb_w2⟩
  have z_w2 := hb_w2.size
  try simp only [alloc_size, setCell_size] at z_w2
  replace R_a := R_a.mod (Mod.of_below hb_w2 Nil) (fun hf => hf)
  replace R_b := R_b.mod (Mod.of_below hb_w2 Nil) (fun hf => hf)
  replace HU := HU.trans hb_w2
  clear hb_w2
  have R_q := Row.new (w2) 24 #[.int .i64 qh, .int .u64 ql]
  replace R_a := R_a.alloc (.cells #[.int .i64 qh, .int .u64 ql] 24)
  replace R_b := R_b.alloc (.cells #[.int .i64 qh, .int .u64 ql] 24)
  replace HU := HU.alloc (.cells #[.int .i64 qh, .int .u64 ql] 24)
  have R_r := Row.new ((w2).alloc (.cells #[.int .i64 qh, .int .u64 ql] 24)) 24 #[.int .i64 rh, .int .u64 rl]
  have hz : ((w2).alloc (.cells #[.int .i64 qh, .int .u64 ql] 24)).heap.size = w2.heap.size + 1 := by simp only [alloc_size, setCell_size]
  rw [hz] at R_r
  clear hz
  replace R_a := R_a.alloc (.cells #[.int .i64 rh, .int .u64 rl] 24)
  replace R_b := R_b.alloc (.cells #[.int .i64 rh, .int .u64 rl] 24)
  replace R_q := R_q.alloc (.cells #[.int .i64 rh, .int .u64 rl] 24)
  replace HU := HU.alloc (.cells #[.int .i64 rh, .int .u64 rl] 24)
  have c3_0 := R_q.cell 0
  have c3_1 := R_q.cell 1
  have c4_0 := R_b.cell 0
  have c4_1 := R_b.cell 1
  simp at c3_0 c3_1 c4_0 c4_1
  go_wp2_with fail
  clear c3_0 c3_1 c4_0 c4_1
  refine Calls.mono (M.out _) ?_; rintro e w3 ⟨rfl, hb_w3⟩
  have z_w3 := hb_w3.size
  try simp only [alloc_size, setCell_size] at z_w3
  replace R_a := R_a.mod (Mod.of_below hb_w3 Nil) (fun hf => hf)
  replace R_b := R_b.mod (Mod.of_below hb_w3 Nil) (fun hf => hf)
  replace R_q := R_q.mod (Mod.of_below hb_w3 Nil) (fun hf => hf)
  replace R_r := R_r.mod (Mod.of_below hb_w3 Nil) (fun hf => hf)
  replace HU := HU.trans hb_w3
  clear hb_w3
  have R_x := Row.new (w3) 24 #[.int .i64 ph, .int .u64 pl]
  replace R_a := R_a.alloc (.cells #[.int .i64 ph, .int .u64 pl] 24)
  replace R_b := R_b.alloc (.cells #[.int .i64 ph, .int .u64 pl] 24)
  replace R_q := R_q.alloc (.cells #[.int .i64 ph, .int .u64 pl] 24)
  replace R_r := R_r.alloc (.cells #[.int .i64 ph, .int .u64 pl] 24)
  replace HU := HU.alloc (.cells #[.int .i64 ph, .int .u64 pl] 24)
  have c5_0 := R_x.cell 0
  have c5_1 := R_x.cell 1
  have c6_0 := R_r.cell 0
  have c6_1 := R_r.cell 1
  simp at c5_0 c5_1 c6_0 c6_1
  go_wp2_with fail
  clear c5_0 c5_1 c6_0 c6_1
  refine Calls.mono (A1.out _) ?_; rintro e w4 ⟨rfl, hb_w4⟩
  have z_w4 := hb_w4.size
  try simp only [alloc_size, setCell_size] at z_w4
  replace R_a := R_a.mod (Mod.of_below hb_w4 Nil) (fun hf => hf)
  replace R_b := R_b.mod (Mod.of_below hb_w4 Nil) (fun hf => hf)
  replace R_q := R_q.mod (Mod.of_below hb_w4 Nil) (fun hf => hf)
  replace R_r := R_r.mod (Mod.of_below hb_w4 Nil) (fun hf => hf)
  replace R_x := R_x.mod (Mod.of_below hb_w4 Nil) (fun hf => hf)
  replace HU := HU.trans hb_w4
  clear hb_w4
  have R_y := Row.new (w4) 24 #[.int .i64 ah, .int .u64 al]
  replace R_a := R_a.alloc (.cells #[.int .i64 ah, .int .u64 al] 24)
  replace R_b := R_b.alloc (.cells #[.int .i64 ah, .int .u64 al] 24)
  replace R_q := R_q.alloc (.cells #[.int .i64 ah, .int .u64 al] 24)
  replace R_r := R_r.alloc (.cells #[.int .i64 ah, .int .u64 al] 24)
  replace R_x := R_x.alloc (.cells #[.int .i64 ah, .int .u64 al] 24)
  replace HU := HU.alloc (.cells #[.int .i64 ah, .int .u64 al] 24)
  go_wp2_with fail
  obtain ⟨V, h_V⟩ : ∃ V, V = (w4).alloc (.cells #[.int .i64 ah, .int .u64 al] 24) := ⟨_, rfl⟩
  rw [← h_V]
  rw [← h_V] at R_a R_b R_q R_r R_x R_y HU
  have z_V : V.heap.size = _ := congrArg (fun a => a.heap.size) h_V
  try simp only [alloc_size, setCell_size] at z_V
  clear h_V
  have MK : ∀ W, Up V.heap.size V W → Up V.heap.size V W ∧ W.cell? ⟨w.heap.size, 0, none⟩ = some (.int .i64 ah) ∧ W.cell? ⟨w.heap.size, 1, none⟩ = some (.int .u64 al) ∧ W.cell? ⟨w.heap.size + 1, 0, none⟩ = some (.int .i64 bh) ∧ W.cell? ⟨w.heap.size + 1, 1, none⟩ = some (.int .u64 bl) ∧ W.cell? ⟨w2.heap.size + 1, 0, none⟩ = some (.int .i64 rh) ∧ W.cell? ⟨w2.heap.size + 1, 1, none⟩ = some (.int .u64 rl) ∧ W.cell? ⟨w4.heap.size, 0, none⟩ = some (.int .i64 ah) ∧ W.cell? ⟨w4.heap.size, 1, none⟩ = some (.int .u64 al) := fun W hW => by
    have k_a := R_a.below hW.below R_a.lt
    have k_b := R_b.below hW.below R_b.lt
    have k_r := R_r.below hW.below R_r.lt
    have k_y := R_y.below hW.below R_y.lt
    exact ⟨hW, by simpa using k_a.cell 0, by simpa using k_a.cell 1, by simpa using k_b.cell 0, by simpa using k_b.cell 1, by simpa using k_r.cell 0, by simpa using k_r.cell 1, by simpa using k_y.cell 0, by simpa using k_y.cell 1⟩
  have MK := hid MK
  refine wp_region_noPanic ?_
  refine wp_region_held_drew (S := fun W => Up V.heap.size V W ∧ W.cell? ⟨w.heap.size, 0, none⟩ = some (.int .i64 ah) ∧ W.cell? ⟨w.heap.size, 1, none⟩ = some (.int .u64 al) ∧ W.cell? ⟨w.heap.size + 1, 0, none⟩ = some (.int .i64 bh) ∧ W.cell? ⟨w.heap.size + 1, 1, none⟩ = some (.int .u64 bl) ∧ W.cell? ⟨w2.heap.size + 1, 0, none⟩ = some (.int .i64 rh) ∧ W.cell? ⟨w2.heap.size + 1, 1, none⟩ = some (.int .u64 rl) ∧ W.cell? ⟨w4.heap.size, 0, none⟩ = some (.int .i64 ah) ∧ W.cell? ⟨w4.heap.size, 1, none⟩ = some (.int .u64 al)) (by kernel_rfl) (MK.out _ (Up.refl V).drew) (fun hHeld => ?_)
  refine wpAnyH_take (i := 0) (oi := { dst := some 39, op := Op.move (Operand.tmp 9), type := 25, pos := "law.go:113", after := #[], guard := none }) (v := ?_) rfl (by kernel_rfl) (by kernel_rfl) (by kernel_rfl) (fun _ _ _ h => h) (Or.inl ⟨by rfl, ?_⟩) hHeld ?_
  rotate_left
  · intro w' hSw; (try dsimp only at hSw); go_simp <;> with_reducible rfl
  try simp only [Act.put, List.setIfInBounds_toArray, List.set_cons_zero, List.set_cons_succ]
  refine wpAnyH_take (i := 1) (oi := { dst := some 40, op := Op.binOp BinOp.neq 25 (Operand.tmp 39) (Operand.const (Value.int IntKind.i64 0)) 25, type := 4, pos := "law.go:113", after := #[{ on := 0, ground := Ground.data }], guard := none }) (v := ?_) rfl (by kernel_rfl) (by kernel_rfl) (by kernel_rfl) (fun _ _ _ h => h) (Or.inl ⟨by rfl, ?_⟩) hHeld ?_
  rotate_left
  · intro w' hSw; (try dsimp only at hSw); go_simp <;> with_reducible rfl
  try simp only [Act.put, List.setIfInBounds_toArray, List.set_cons_zero, List.set_cons_succ]
  refine wpAnyH_take (i := 2) (oi := { dst := some 41, op := Op.move (Operand.tmp 40), type := 4, pos := "law.go:113", after := #[{ on := 1, ground := Ground.data }], guard := none }) (v := ?_) rfl (by kernel_rfl) (by kernel_rfl) (by kernel_rfl) (fun _ _ _ h => h) (Or.inl ⟨by rfl, ?_⟩) hHeld ?_
  rotate_left
  · intro w' hSw; (try dsimp only at hSw); go_simp <;> with_reducible rfl
  try simp only [Act.put, List.setIfInBounds_toArray, List.set_cons_zero, List.set_cons_succ]
  refine wpAnyH_take (i := 3) (oi := { dst := some 42, op := Op.move (Operand.tmp 11), type := 25, pos := "law.go:113", after := #[{ on := 2, ground := Ground.guard }], guard := some (2, false) }) (v := ?_) rfl (by kernel_rfl) (by kernel_rfl) (by kernel_rfl) (fun _ _ _ h => h) (Or.inl ⟨by rfl, ?_⟩) hHeld ?_
  rotate_left
  · intro w' hSw; (try dsimp only at hSw); go_simp <;> with_reducible rfl
  try simp only [Act.put, List.setIfInBounds_toArray, List.set_cons_zero, List.set_cons_succ]
  refine wpAnyH_take (i := 4) (oi := { dst := some 43, op := Op.binOp BinOp.neq 25 (Operand.tmp 42) (Operand.const (Value.int IntKind.i64 0)) 25, type := 4, pos := "law.go:113", after := #[{ on := 3, ground := Ground.data }, { on := 2, ground := Ground.guard }], guard := some (2, false) }) (v := ?_) rfl (by kernel_rfl) (by kernel_rfl) (by kernel_rfl) (fun _ _ _ h => h) (Or.inl ⟨by rfl, ?_⟩) hHeld ?_
  rotate_left
  · intro w' hSw; (try dsimp only at hSw); go_simp <;> with_reducible rfl
  try simp only [Act.put, List.setIfInBounds_toArray, List.set_cons_zero, List.set_cons_succ]
  refine wpAnyH_take (i := 5) (oi := { dst := some 44, op := Op.pick (Operand.tmp 41) (Operand.const (Value.bool true)) (Operand.tmp 43), type := 4, pos := "law.go:113", after := #[{ on := 2, ground := Ground.data }, { on := 4, ground := Ground.data }], guard := none }) (v := ?_) rfl (by kernel_rfl) (by kernel_rfl) (by kernel_rfl) (fun _ _ _ h => h) (Or.inl ⟨by rfl, ?_⟩) hHeld ?_
  rotate_left
  · intro w' hSw; (try dsimp only at hSw); go_simp <;> with_reducible rfl
  try simp only [Act.put, List.setIfInBounds_toArray, List.set_cons_zero, List.set_cons_succ]
  refine wpAnyH_take (i := 6) (oi := { dst := some 45, op := Op.move (Operand.tmp 44), type := 4, pos := "law.go:113", after := #[{ on := 5, ground := Ground.data }, { on := 2, ground := Ground.chain }], guard := none }) (v := ?_) rfl (by kernel_rfl) (by kernel_rfl) (by kernel_rfl) (fun _ _ _ h => h) (Or.inl ⟨by rfl, ?_⟩) hHeld ?_
  rotate_left
  · intro w' hSw; (try dsimp only at hSw); go_simp <;> with_reducible rfl
  try simp only [Act.put, List.setIfInBounds_toArray, List.set_cons_zero, List.set_cons_succ]
  refine wpAnyH_take (i := 7) (oi := { dst := some 46, op := Op.load 24 (Operand.tmp 10), type := 24, pos := "law.go:113", after := #[{ on := 6, ground := Ground.guard }], guard := some (6, false) }) (v := ?_) rfl (by kernel_rfl) (by kernel_rfl) (by kernel_rfl) (fun _ _ _ h => h) (Or.inl ⟨by rfl, ?_⟩) hHeld ?_
  rotate_left
  · intro w' hSw; (try dsimp only at hSw); go_simp <;> with_reducible rfl
  try simp only [Act.put, List.setIfInBounds_toArray, List.set_cons_zero, List.set_cons_succ]
  refine wpAnyH_take (i := 8) (oi := { dst := some 47, op := Op.load 24 (Operand.tmp 2), type := 24, pos := "law.go:113", after := #[{ on := 6, ground := Ground.guard }], guard := some (6, false) }) (v := ?_) rfl (by kernel_rfl) (by kernel_rfl) (by kernel_rfl) (fun _ _ _ h => h) (Or.inl ⟨by rfl, ?_⟩) hHeld ?_
  rotate_left
  · intro w' hSw; (try dsimp only at hSw); go_simp <;> with_reducible rfl
  try simp only [Act.put, List.setIfInBounds_toArray, List.set_cons_zero, List.set_cons_succ]
  refine wpAnyH_take (i := 9) (oi := { dst := some 48, op := Op.binOp BinOp.neq 24 (Operand.tmp 46) (Operand.tmp 47) 24, type := 4, pos := "law.go:113", after := #[{ on := 7, ground := Ground.data }, { on := 8, ground := Ground.data }, { on := 6, ground := Ground.guard }], guard := some (6, false) }) (v := ?_) rfl (by kernel_rfl) (by kernel_rfl) (by kernel_rfl) (fun _ _ _ h => h) (Or.inl ⟨by rfl, ?_⟩) hHeld ?_
  rotate_left
  · intro w' hSw; (try dsimp only at hSw); go_simp <;> with_reducible rfl
  try simp only [Act.put, List.setIfInBounds_toArray, List.set_cons_zero, List.set_cons_succ]
  refine wpAnyH_take (i := 10) (oi := { dst := some 49, op := Op.pick (Operand.tmp 45) (Operand.const (Value.bool true)) (Operand.tmp 48), type := 4, pos := "law.go:113", after := #[{ on := 6, ground := Ground.data }, { on := 9, ground := Ground.data }], guard := none }) (v := ?_) rfl (by kernel_rfl) (by kernel_rfl) (by kernel_rfl) (fun _ _ _ h => h) (Or.inl ⟨by rfl, ?_⟩) hHeld ?_
  rotate_left
  · intro w' hSw; (try dsimp only at hSw); go_simp <;> with_reducible rfl
  try simp only [Act.put, List.setIfInBounds_toArray, List.set_cons_zero, List.set_cons_succ]
  refine wpAnyH_take (i := 11) (oi := { dst := some 50, op := Op.move (Operand.tmp 49), type := 4, pos := "law.go:113", after := #[{ on := 10, ground := Ground.data }, { on := 6, ground := Ground.chain }], guard := none }) (v := ?_) rfl (by kernel_rfl) (by kernel_rfl) (by kernel_rfl) (fun _ _ _ h => h) (Or.inl ⟨by rfl, ?_⟩) hHeld ?_
  rotate_left
  · intro w' hSw; (try dsimp only at hSw); go_simp <;> with_reducible rfl
  try simp only [Act.put, List.setIfInBounds_toArray, List.set_cons_zero, List.set_cons_succ]
  refine wpAnyH_take (i := 12) (oi := { dst := some 51, op := Op.load 24 (Operand.tmp 6), type := 24, pos := "law.go:113", after := #[{ on := 11, ground := Ground.guard }], guard := some (11, false) }) (v := ?_) rfl (by kernel_rfl) (by kernel_rfl) (by kernel_rfl) (fun _ _ _ h => h) (Or.inl ⟨by rfl, ?_⟩) hHeld ?_
  rotate_left
  · intro w' hSw; (try dsimp only at hSw); go_simp <;> with_reducible rfl
  try simp only [Act.put, List.setIfInBounds_toArray, List.set_cons_zero, List.set_cons_succ]
  refine wpAnyH_ready (rs := [13]) (by kernel_rfl) (by simp) ?_
  refine AllReadyH.cons (o := { dst := some 52, op := Op.call { callee := Callee.value (Operand.func 29), args := #[Operand.tmp 51], argTypes := #[24] }, type := 3, pos := "law.go:113", after := #[{ on := 12, ground := Ground.data }, { on := 11, ground := Ground.chain }, { on := 11, ground := Ground.guard }], guard := some (11, false) }) rfl (fun K hK => ?_) AllReadyH.nil
  go_simp
  refine Calls.mono (SR.out _) ?_; rintro e v1 ⟨rfl, hbk⟩
  refine hK.out _ _ (MK.out _ (hHeld.1.trans hbk)) (fun hHeld => ?_)
  clear hK K
  try simp only [Act.put, List.setIfInBounds_toArray, List.set_cons_zero, List.set_cons_succ]
  refine wpAnyH_take (i := 14) (oi := { dst := some 53, op := Op.binOp BinOp.neq 3 (Operand.tmp 52) (Operand.const (Value.int IntKind.i64 0)) 3, type := 4, pos := "law.go:113", after := #[{ on := 13, ground := Ground.data }, { on := 11, ground := Ground.guard }], guard := some (11, false) }) (v := ?_) rfl (by kernel_rfl) (by kernel_rfl) (by kernel_rfl) (fun _ _ _ h => h) (Or.inl ⟨by rfl, ?_⟩) hHeld ?_
  rotate_left
  · intro w' hSw; (try dsimp only at hSw); go_simp <;> with_reducible rfl
  try simp only [Act.put, List.setIfInBounds_toArray, List.set_cons_zero, List.set_cons_succ]
  refine wpAnyH_take (i := 15) (oi := { dst := some 54, op := Op.move (Operand.tmp 53), type := 4, pos := "law.go:113", after := #[{ on := 14, ground := Ground.data }, { on := 13, ground := Ground.chain }, { on := 11, ground := Ground.guard }], guard := some (11, false) }) (v := ?_) rfl (by kernel_rfl) (by kernel_rfl) (by kernel_rfl) (fun _ _ _ h => h) (Or.inl ⟨by rfl, ?_⟩) hHeld ?_
  rotate_left
  · intro w' hSw; (try dsimp only at hSw); go_simp <;> with_reducible rfl
  try simp only [Act.put, List.setIfInBounds_toArray, List.set_cons_zero, List.set_cons_succ]
  refine wpAnyH_take (i := 16) (oi := { dst := some 55, op := Op.load 24 (Operand.tmp 6), type := 24, pos := "law.go:113", after := #[{ on := 15, ground := Ground.guard }], guard := some (15, true) }) (v := undef) rfl (by kernel_rfl) (by kernel_rfl) (by kernel_rfl) (fun _ _ _ h => h) (Or.inr ⟨by rfl, rfl⟩) hHeld ?_
  try simp only [Act.put, List.setIfInBounds_toArray, List.set_cons_zero, List.set_cons_succ]
  refine wpAnyH_take (i := 17) (oi := { dst := some 56, op := Op.call { callee := Callee.value (Operand.func 29), args := #[Operand.tmp 55], argTypes := #[24] }, type := 3, pos := "law.go:113", after := #[{ on := 16, ground := Ground.data }, { on := 15, ground := Ground.chain }, { on := 15, ground := Ground.guard }], guard := some (15, true) }) (v := undef) rfl (by kernel_rfl) (by kernel_rfl) (by kernel_rfl) (fun _ _ _ h => h) (Or.inr ⟨by rfl, rfl⟩) hHeld ?_
  try simp only [Act.put, List.setIfInBounds_toArray, List.set_cons_zero, List.set_cons_succ]
  refine wpAnyH_take (i := 18) (oi := { dst := some 57, op := Op.load 24 (Operand.tmp 2), type := 24, pos := "law.go:113", after := #[{ on := 15, ground := Ground.guard }], guard := some (15, true) }) (v := undef) rfl (by kernel_rfl) (by kernel_rfl) (by kernel_rfl) (fun _ _ _ h => h) (Or.inr ⟨by rfl, rfl⟩) hHeld ?_
  try simp only [Act.put, List.setIfInBounds_toArray, List.set_cons_zero, List.set_cons_succ]
  refine wpAnyH_take (i := 19) (oi := { dst := some 58, op := Op.call { callee := Callee.value (Operand.func 29), args := #[Operand.tmp 57], argTypes := #[24] }, type := 3, pos := "law.go:113", after := #[{ on := 18, ground := Ground.data }, { on := 17, ground := Ground.chain }, { on := 15, ground := Ground.guard }], guard := some (15, true) }) (v := undef) rfl (by kernel_rfl) (by kernel_rfl) (by kernel_rfl) (fun _ _ _ h => h) (Or.inr ⟨by rfl, rfl⟩) hHeld ?_
  try simp only [Act.put, List.setIfInBounds_toArray, List.set_cons_zero, List.set_cons_succ]
  refine wpAnyH_take (i := 20) (oi := { dst := some 59, op := Op.binOp BinOp.neq 3 (Operand.tmp 56) (Operand.tmp 58) 3, type := 4, pos := "law.go:113", after := #[{ on := 17, ground := Ground.data }, { on := 19, ground := Ground.data }, { on := 15, ground := Ground.guard }], guard := some (15, true) }) (v := undef) rfl (by kernel_rfl) (by kernel_rfl) (by kernel_rfl) (fun _ _ _ h => h) (Or.inr ⟨by rfl, rfl⟩) hHeld ?_
  try simp only [Act.put, List.setIfInBounds_toArray, List.set_cons_zero, List.set_cons_succ]
  refine wpAnyH_take (i := 21) (oi := { dst := some 60, op := Op.pick (Operand.tmp 54) (Operand.tmp 59) (Operand.const (Value.bool false)), type := 4, pos := "law.go:113", after := #[{ on := 15, ground := Ground.data }, { on := 20, ground := Ground.data }, { on := 11, ground := Ground.guard }], guard := some (11, false) }) (v := ?_) rfl (by kernel_rfl) (by kernel_rfl) (by kernel_rfl) (fun _ _ _ h => h) (Or.inl ⟨by rfl, ?_⟩) hHeld ?_
  rotate_left
  · intro w' hSw; (try dsimp only at hSw); go_simp <;> with_reducible rfl
  try simp only [Act.put, List.setIfInBounds_toArray, List.set_cons_zero, List.set_cons_succ]
  refine wpAnyH_take (i := 22) (oi := { dst := some 61, op := Op.pick (Operand.tmp 50) (Operand.const (Value.bool true)) (Operand.tmp 60), type := 4, pos := "law.go:113", after := #[{ on := 11, ground := Ground.data }, { on := 21, ground := Ground.data }], guard := none }) (v := ?_) rfl (by kernel_rfl) (by kernel_rfl) (by kernel_rfl) (fun _ _ _ h => h) (Or.inl ⟨by rfl, ?_⟩) hHeld ?_
  rotate_left
  · intro w' hSw; (try dsimp only at hSw); go_simp <;> with_reducible rfl
  try simp only [Act.put, List.setIfInBounds_toArray, List.set_cons_zero, List.set_cons_succ]
  refine wpAnyH_done (by kernel_rfl) ?_ _
  refine NoPanic.normal ?_
  have Ra2 := R_a.below hHeld.1.below R_a.lt
  have Rb2 := R_b.below hHeld.1.below R_b.lt
  have HU2 := HU.trans hHeld.1.below
  clear R_a R_b R_q R_r R_x R_y HU MK hHeld
  have R_a := Ra2
  have R_b := Rb2
  have HU := HU2
  clear Ra2 Rb2 HU2
  have c7_0 := R_a.cell 0
  have c7_1 := R_a.cell 1
  have c8_0 := R_b.cell 0
  have c8_1 := R_b.cell 1
  simp at c7_0 c7_1 c8_0 c8_1
  go_wp2_with fail
  clear c7_0 c7_1 c8_0 c8_1
  refine Calls.mono (A2.out _) ?_; rintro e w5 ⟨rfl, hb_w5⟩
  have z_w5 := hb_w5.size
  try simp only [alloc_size, setCell_size] at z_w5
  replace R_a := R_a.mod (Mod.of_below hb_w5 Nil) (fun hf => hf)
  replace R_b := R_b.mod (Mod.of_below hb_w5 Nil) (fun hf => hf)
  replace HU := HU.trans hb_w5
  clear hb_w5
  have R_s := Row.new (w5) 24 #[.int .i64 0, .int .u64 0]
  replace R_a := R_a.alloc (.cells #[.int .i64 0, .int .u64 0] 24)
  replace R_b := R_b.alloc (.cells #[.int .i64 0, .int .u64 0] 24)
  replace HU := HU.alloc (.cells #[.int .i64 0, .int .u64 0] 24)
  go_wp2_with fail
  obtain ⟨V9, h_V9⟩ : ∃ V9, V9 = (w5).alloc (.cells #[.int .i64 0, .int .u64 0] 24) := ⟨_, rfl⟩
  rw [← h_V9]
  rw [← h_V9] at R_a R_b R_s HU
  have z_V9 : V9.heap.size = _ := congrArg (fun a => a.heap.size) h_V9
  try simp only [alloc_size, setCell_size] at z_V9
  clear h_V9
  have MK : ∀ W, Up V9.heap.size V9 W → Up V9.heap.size V9 W ∧ W.cell? ⟨w.heap.size, 0, none⟩ = some (.int .i64 ah) ∧ W.cell? ⟨w.heap.size, 1, none⟩ = some (.int .u64 al) ∧ W.cell? ⟨w.heap.size + 1, 0, none⟩ = some (.int .i64 bh) ∧ W.cell? ⟨w.heap.size + 1, 1, none⟩ = some (.int .u64 bl) := fun W hW => by
    have k_a := R_a.below hW.below R_a.lt
    have k_b := R_b.below hW.below R_b.lt
    exact ⟨hW, by simpa using k_a.cell 0, by simpa using k_a.cell 1, by simpa using k_b.cell 0, by simpa using k_b.cell 1⟩
  have MK := hid MK
  refine wp_region_noPanic ?_
  refine wp_region_held_drew (S := fun W => Up V9.heap.size V9 W ∧ W.cell? ⟨w.heap.size, 0, none⟩ = some (.int .i64 ah) ∧ W.cell? ⟨w.heap.size, 1, none⟩ = some (.int .u64 al) ∧ W.cell? ⟨w.heap.size + 1, 0, none⟩ = some (.int .i64 bh) ∧ W.cell? ⟨w.heap.size + 1, 1, none⟩ = some (.int .u64 bl)) (by kernel_rfl) (MK.out _ (Up.refl V9).drew) (fun hHeld => ?_)
  refine wpAnyH_take (i := 0) (oi := { dst := some 85, op := Op.move (Operand.tmp 13), type := 25, pos := "law.go:121", after := #[], guard := none }) (v := ?_) rfl (by kernel_rfl) (by kernel_rfl) (by kernel_rfl) (fun _ _ _ h => h) (Or.inl ⟨by rfl, ?_⟩) hHeld ?_
  rotate_left
  · intro w' hSw; (try dsimp only at hSw); go_simp <;> with_reducible rfl
  try simp only [Act.put, List.setIfInBounds_toArray, List.set_cons_zero, List.set_cons_succ]
  refine wpAnyH_take (i := 1) (oi := { dst := some 86, op := Op.binOp BinOp.eql 25 (Operand.tmp 85) (Operand.const (Value.int IntKind.i64 20)) 25, type := 4, pos := "law.go:121", after := #[{ on := 0, ground := Ground.data }], guard := none }) (v := ?_) rfl (by kernel_rfl) (by kernel_rfl) (by kernel_rfl) (fun _ _ _ h => h) (Or.inl ⟨by rfl, ?_⟩) hHeld ?_
  rotate_left
  · intro w' hSw; (try dsimp only at hSw); go_simp <;> with_reducible rfl
  try simp only [Act.put, List.setIfInBounds_toArray, List.set_cons_zero, List.set_cons_succ]
  refine wpAnyH_take (i := 2) (oi := { dst := some 87, op := Op.move (Operand.tmp 86), type := 4, pos := "law.go:121", after := #[{ on := 1, ground := Ground.data }], guard := none }) (v := ?_) rfl (by kernel_rfl) (by kernel_rfl) (by kernel_rfl) (fun _ _ _ h => h) (Or.inl ⟨by rfl, ?_⟩) hHeld ?_
  rotate_left
  · intro w' hSw; (try dsimp only at hSw); go_simp <;> with_reducible rfl
  try simp only [Act.put, List.setIfInBounds_toArray, List.set_cons_zero, List.set_cons_succ]
  refine wpAnyH_take (i := 3) (oi := { dst := some 88, op := Op.load 24 (Operand.tmp 2), type := 24, pos := "law.go:121", after := #[{ on := 2, ground := Ground.guard }], guard := some (2, true) }) (v := ?_) rfl (by kernel_rfl) (by kernel_rfl) (by kernel_rfl) (fun _ _ _ h => h) (Or.inl ⟨by rfl, ?_⟩) hHeld ?_
  rotate_left
  · intro w' hSw; (try dsimp only at hSw); go_simp <;> with_reducible rfl
  try simp only [Act.put, List.setIfInBounds_toArray, List.set_cons_zero, List.set_cons_succ]
  refine wpAnyH_take (i := 5) (oi := { dst := some 90, op := Op.load 24 (Operand.tmp 3), type := 24, pos := "law.go:121", after := #[{ on := 2, ground := Ground.guard }], guard := some (2, true) }) (v := ?_) rfl (by kernel_rfl) (by kernel_rfl) (by kernel_rfl) (fun _ _ _ h => h) (Or.inl ⟨by rfl, ?_⟩) hHeld ?_
  rotate_left
  · intro w' hSw; (try dsimp only at hSw); go_simp <;> with_reducible rfl
  try simp only [Act.put, List.setIfInBounds_toArray, List.set_cons_zero, List.set_cons_succ]
  refine wpAnyH_ready (rs := [4]) (by kernel_rfl) (by simp) ?_
  refine AllReadyH.cons (o := { dst := some 89, op := Op.call { callee := Callee.value (Operand.func 29), args := #[Operand.tmp 88], argTypes := #[24] }, type := 3, pos := "law.go:121", after := #[{ on := 3, ground := Ground.data }, { on := 2, ground := Ground.chain }, { on := 2, ground := Ground.guard }], guard := some (2, true) }) rfl (fun K hK => ?_) AllReadyH.nil
  go_simp
  refine Calls.mono (TX.out _) ?_; rintro e v9 ⟨rfl, hbk⟩
  refine hK.out _ _ (MK.out _ (hHeld.1.trans hbk)) (fun hHeld => ?_)
  clear hK K
  try simp only [Act.put, List.setIfInBounds_toArray, List.set_cons_zero, List.set_cons_succ]
  refine wpAnyH_ready (rs := [6]) (by kernel_rfl) (by simp) ?_
  refine AllReadyH.cons (o := { dst := some 91, op := Op.call { callee := Callee.value (Operand.func 29), args := #[Operand.tmp 90], argTypes := #[24] }, type := 3, pos := "law.go:121", after := #[{ on := 5, ground := Ground.data }, { on := 4, ground := Ground.chain }, { on := 2, ground := Ground.guard }], guard := some (2, true) }) rfl (fun K hK => ?_) AllReadyH.nil
  go_simp
  refine Calls.mono (TY.out _) ?_; rintro e v9 ⟨rfl, hbk⟩
  refine hK.out _ _ (MK.out _ (hHeld.1.trans hbk)) (fun hHeld => ?_)
  clear hK K
  try simp only [Act.put, List.setIfInBounds_toArray, List.set_cons_zero, List.set_cons_succ]
  refine wpAnyH_take (i := 7) (oi := { dst := some 92, op := Op.binOp BinOp.eql 3 (Operand.tmp 89) (Operand.tmp 91) 3, type := 4, pos := "law.go:121", after := #[{ on := 4, ground := Ground.data }, { on := 6, ground := Ground.data }, { on := 2, ground := Ground.guard }], guard := some (2, true) }) (v := ?_) rfl (by kernel_rfl) (by kernel_rfl) (by kernel_rfl) (fun _ _ _ h => h) (Or.inl ⟨by rfl, ?_⟩) hHeld ?_
  rotate_left
  · intro w' hSw; (try dsimp only at hSw); go_simp <;> with_reducible rfl
  try simp only [Act.put, List.setIfInBounds_toArray, List.set_cons_zero, List.set_cons_succ]
  refine wpAnyH_take (i := 8) (oi := { dst := some 93, op := Op.pick (Operand.tmp 87) (Operand.tmp 92) (Operand.const (Value.bool false)), type := 4, pos := "law.go:121", after := #[{ on := 2, ground := Ground.data }, { on := 7, ground := Ground.data }], guard := none }) (v := ?_) rfl (by kernel_rfl) (by kernel_rfl) (by kernel_rfl) (fun _ _ _ h => h) (Or.inl ⟨by rfl, ?_⟩) hHeld ?_
  rotate_left
  · intro w' hSw; (try dsimp only at hSw); go_simp <;> with_reducible rfl
  try simp only [Act.put, List.setIfInBounds_toArray, List.set_cons_zero, List.set_cons_succ]
  refine wpAnyH_take (i := 9) (oi := { dst := some 4, op := Op.assign (Operand.tmp 93), type := 4, pos := "law.go:121", after := #[{ on := 8, ground := Ground.data }, { on := 6, ground := Ground.chain }, { on := 0, ground := Ground.phase }, { on := 1, ground := Ground.phase }, { on := 2, ground := Ground.phase }, { on := 3, ground := Ground.phase }, { on := 4, ground := Ground.phase }, { on := 5, ground := Ground.phase }, { on := 6, ground := Ground.phase }, { on := 7, ground := Ground.phase }, { on := 8, ground := Ground.phase }], guard := none }) (v := ?_) rfl (by kernel_rfl) (by kernel_rfl) (by kernel_rfl) (fun _ _ _ h => h) (Or.inl ⟨by rfl, ?_⟩) hHeld ?_
  rotate_left
  · intro w' hSw; (try dsimp only at hSw); go_simp <;> with_reducible rfl
  try simp only [Act.put, List.setIfInBounds_toArray, List.set_cons_zero, List.set_cons_succ]
  refine wpAnyH_done (by kernel_rfl) ?_ _
  refine NoPanic.normal ?_
  go_wp2_with fail
  go_ret
  exact ⟨rfl, (HU.trans hHeld.1.below).below⟩

set_option maxRecDepth 100000 in
set_option maxHeartbeats 4000000 in
theorem walk_A1_fit (w : World) (x y : Int) (hx : Fits x) (hy : Fits y) (h0 : y ≠ 0) (hf : Fits (dq x y)) (hr : dr x y ≠ 0) (hs : Fits (x + y)) (htab : Lib.TabIs Tryd.prog w "internal/strconv.uint64pow10" .u64 Lib.pow10Tab) (hg : 2 < w.heap.size) :
    Calls Tryd.prog 9 #[WV x, WV y] w fun e w' => e = .returned (.bool true) ∧ Below w.heap.size w w' := by
  have D := fun w => divc_any w x y hx hy
  have hrf := dr_fits hx h0 hy
  have hpf := prod_fits (y := y) hx h0
  have M := fun w => mul_any w (dq x y) y hf hy
  have A1 := fun w => add_any w (dq x y * y) (dr x y) hpf hrf
  rw [resV_fit hpf] at M
  rw [back h0, resV_fit hx] at A1
  have SR := fun w => sign_any w (dr x y) hrf
  have SX := fun w => sign_any w x hx
  unfold divV at D
  rw [if_neg h0, if_pos hf] at D
  rw [rest_sign h0 hr] at SR
  obtain ⟨c, hc, hc0⟩ : ∃ c, c = cmp3 x 0 ∧ (c != 0) = true := ⟨_, rfl, by
    rcases cmp3_cases x 0 with ⟨h1, h2⟩ | ⟨h1, h2⟩ | ⟨h1, h2⟩
    · rw [h2]; decide
    · rw [h2]; decide
    · exfalso; apply hr; subst h1; unfold dr; simp [mag]⟩
  rw [← hc] at SR SX
  have A2 := fun w => add_any w x y hx hy
  have B2 := fun w => sub_any w (x + y) y hs hy
  rw [resV_fit hs] at A2
  rw [show x + y - y = x by omega, resV_fit hx] at B2
  obtain ⟨sh, sl, es⟩ : ∃ hi lo : Int, WV (x + y) = .agg #[.int .i64 hi, .int .u64 lo] := ⟨_, _, rfl⟩
  obtain ⟨ah, al, e1⟩ : ∃ hi lo : Int, WV x = .agg #[.int .i64 hi, .int .u64 lo] := ⟨_, _, rfl⟩
  obtain ⟨bh, bl, e2⟩ : ∃ hi lo : Int, WV y = .agg #[.int .i64 hi, .int .u64 lo] := ⟨_, _, rfl⟩
  obtain ⟨qh, ql, eq⟩ : ∃ hi lo : Int, WV (dq x y) = .agg #[.int .i64 hi, .int .u64 lo] := ⟨_, _, rfl⟩
  obtain ⟨rh, rl, er⟩ : ∃ hi lo : Int, WV (dr x y) = .agg #[.int .i64 hi, .int .u64 lo] := ⟨_, _, rfl⟩
  obtain ⟨ph, pl, ep⟩ : ∃ hi lo : Int, WV (dq x y * y) = .agg #[.int .i64 hi, .int .u64 lo] := ⟨_, _, rfl⟩
  rw [eq, e2, ep] at M
  rw [ep, er, e1] at A1
  rw [er] at SR
  rw [e1] at SX
  rw [e1, e2, eq, er] at D
  rw [e1, e2, es] at A2
  rw [es, e2, e1] at B2
  rw [e1, e2]
  have D := hid D
  have A2 := hid A2
  have M := hid M
  have A1 := hid A1
  have SR := hid SR
  have SX := hid SX
  have B2 := hid B2
  have HT := hid htab
  clear htab e1 e2 hx hy hs h0 eq er ep hf hr hrf hpf hc es
  have R_a := (Row.new w 24 #[.int .i64 ah, .int .u64 al]).alloc (.cells #[.int .i64 bh, .int .u64 bl] 24)
  have R_b := Row.new (w.alloc (.cells #[.int .i64 ah, .int .u64 al] 24)) 24 #[.int .i64 bh, .int .u64 bl]
  have HU := ((Up.refl w).alloc (.cells #[.int .i64 ah, .int .u64 al] 24)).alloc (.cells #[.int .i64 bh, .int .u64 bl] 24)
  simp only [alloc_size] at R_b
  go_enter Tryd.func9, Tryd.ntmps9
  go_wp2_with fail
  refine (known_any _ (tab_below HT.out HU.below hg) (by have := HU.size; omega)).mono ?_; rintro e w1 ⟨rfl, hb_w1⟩
  have z_w1 := hb_w1.size
  try simp only [alloc_size, setCell_size] at z_w1
  replace R_a := R_a.mod (Mod.of_below hb_w1 Nil) (fun hf => hf)
  replace R_b := R_b.mod (Mod.of_below hb_w1 Nil) (fun hf => hf)
  replace HU := HU.trans hb_w1
  clear hb_w1
  have c1_0 := R_a.cell 0
  have c1_1 := R_a.cell 1
  have c2_0 := R_b.cell 0
  have c2_1 := R_b.cell 1
  simp at c1_0 c1_1 c2_0 c2_1
  go_wp2_with fail
  clear c1_0 c1_1 c2_0 c2_1
  refine Calls.mono (D.out _) ?_; rintro e w2 ⟨rfl, hb_w2⟩
  have z_w2 := hb_w2.size
  try simp only [alloc_size, setCell_size] at z_w2
  replace R_a := R_a.mod (Mod.of_below hb_w2 Nil) (fun hf => hf)
  replace R_b := R_b.mod (Mod.of_below hb_w2 Nil) (fun hf => hf)
  replace HU := HU.trans hb_w2
  clear hb_w2
  have R_q := Row.new (w2) 24 #[.int .i64 qh, .int .u64 ql]
  replace R_a := R_a.alloc (.cells #[.int .i64 qh, .int .u64 ql] 24)
  replace R_b := R_b.alloc (.cells #[.int .i64 qh, .int .u64 ql] 24)
  replace HU := HU.alloc (.cells #[.int .i64 qh, .int .u64 ql] 24)
  have R_r := Row.new ((w2).alloc (.cells #[.int .i64 qh, .int .u64 ql] 24)) 24 #[.int .i64 rh, .int .u64 rl]
  have hz : ((w2).alloc (.cells #[.int .i64 qh, .int .u64 ql] 24)).heap.size = w2.heap.size + 1 := by simp only [alloc_size, setCell_size]
  rw [hz] at R_r
  clear hz
  replace R_a := R_a.alloc (.cells #[.int .i64 rh, .int .u64 rl] 24)
  replace R_b := R_b.alloc (.cells #[.int .i64 rh, .int .u64 rl] 24)
  replace R_q := R_q.alloc (.cells #[.int .i64 rh, .int .u64 rl] 24)
  replace HU := HU.alloc (.cells #[.int .i64 rh, .int .u64 rl] 24)
  have c3_0 := R_q.cell 0
  have c3_1 := R_q.cell 1
  have c4_0 := R_b.cell 0
  have c4_1 := R_b.cell 1
  simp at c3_0 c3_1 c4_0 c4_1
  go_wp2_with fail
  clear c3_0 c3_1 c4_0 c4_1
  refine Calls.mono (M.out _) ?_; rintro e w3 ⟨rfl, hb_w3⟩
  have z_w3 := hb_w3.size
  try simp only [alloc_size, setCell_size] at z_w3
  replace R_a := R_a.mod (Mod.of_below hb_w3 Nil) (fun hf => hf)
  replace R_b := R_b.mod (Mod.of_below hb_w3 Nil) (fun hf => hf)
  replace R_q := R_q.mod (Mod.of_below hb_w3 Nil) (fun hf => hf)
  replace R_r := R_r.mod (Mod.of_below hb_w3 Nil) (fun hf => hf)
  replace HU := HU.trans hb_w3
  clear hb_w3
  have R_x := Row.new (w3) 24 #[.int .i64 ph, .int .u64 pl]
  replace R_a := R_a.alloc (.cells #[.int .i64 ph, .int .u64 pl] 24)
  replace R_b := R_b.alloc (.cells #[.int .i64 ph, .int .u64 pl] 24)
  replace R_q := R_q.alloc (.cells #[.int .i64 ph, .int .u64 pl] 24)
  replace R_r := R_r.alloc (.cells #[.int .i64 ph, .int .u64 pl] 24)
  replace HU := HU.alloc (.cells #[.int .i64 ph, .int .u64 pl] 24)
  have c5_0 := R_x.cell 0
  have c5_1 := R_x.cell 1
  have c6_0 := R_r.cell 0
  have c6_1 := R_r.cell 1
  simp at c5_0 c5_1 c6_0 c6_1
  go_wp2_with fail
  clear c5_0 c5_1 c6_0 c6_1
  refine Calls.mono (A1.out _) ?_; rintro e w4 ⟨rfl, hb_w4⟩
  have z_w4 := hb_w4.size
  try simp only [alloc_size, setCell_size] at z_w4
  replace R_a := R_a.mod (Mod.of_below hb_w4 Nil) (fun hf => hf)
  replace R_b := R_b.mod (Mod.of_below hb_w4 Nil) (fun hf => hf)
  replace R_q := R_q.mod (Mod.of_below hb_w4 Nil) (fun hf => hf)
  replace R_r := R_r.mod (Mod.of_below hb_w4 Nil) (fun hf => hf)
  replace R_x := R_x.mod (Mod.of_below hb_w4 Nil) (fun hf => hf)
  replace HU := HU.trans hb_w4
  clear hb_w4
  have R_y := Row.new (w4) 24 #[.int .i64 ah, .int .u64 al]
  replace R_a := R_a.alloc (.cells #[.int .i64 ah, .int .u64 al] 24)
  replace R_b := R_b.alloc (.cells #[.int .i64 ah, .int .u64 al] 24)
  replace R_q := R_q.alloc (.cells #[.int .i64 ah, .int .u64 al] 24)
  replace R_r := R_r.alloc (.cells #[.int .i64 ah, .int .u64 al] 24)
  replace R_x := R_x.alloc (.cells #[.int .i64 ah, .int .u64 al] 24)
  replace HU := HU.alloc (.cells #[.int .i64 ah, .int .u64 al] 24)
  go_wp2_with fail
  obtain ⟨V, h_V⟩ : ∃ V, V = (w4).alloc (.cells #[.int .i64 ah, .int .u64 al] 24) := ⟨_, rfl⟩
  rw [← h_V]
  rw [← h_V] at R_a R_b R_q R_r R_x R_y HU
  have z_V : V.heap.size = _ := congrArg (fun a => a.heap.size) h_V
  try simp only [alloc_size, setCell_size] at z_V
  clear h_V
  have MK : ∀ W, Up V.heap.size V W → Up V.heap.size V W ∧ W.cell? ⟨w.heap.size, 0, none⟩ = some (.int .i64 ah) ∧ W.cell? ⟨w.heap.size, 1, none⟩ = some (.int .u64 al) ∧ W.cell? ⟨w.heap.size + 1, 0, none⟩ = some (.int .i64 bh) ∧ W.cell? ⟨w.heap.size + 1, 1, none⟩ = some (.int .u64 bl) ∧ W.cell? ⟨w2.heap.size + 1, 0, none⟩ = some (.int .i64 rh) ∧ W.cell? ⟨w2.heap.size + 1, 1, none⟩ = some (.int .u64 rl) ∧ W.cell? ⟨w4.heap.size, 0, none⟩ = some (.int .i64 ah) ∧ W.cell? ⟨w4.heap.size, 1, none⟩ = some (.int .u64 al) := fun W hW => by
    have k_a := R_a.below hW.below R_a.lt
    have k_b := R_b.below hW.below R_b.lt
    have k_r := R_r.below hW.below R_r.lt
    have k_y := R_y.below hW.below R_y.lt
    exact ⟨hW, by simpa using k_a.cell 0, by simpa using k_a.cell 1, by simpa using k_b.cell 0, by simpa using k_b.cell 1, by simpa using k_r.cell 0, by simpa using k_r.cell 1, by simpa using k_y.cell 0, by simpa using k_y.cell 1⟩
  have MK := hid MK
  refine wp_region_noPanic ?_
  refine wp_region_held_drew (S := fun W => Up V.heap.size V W ∧ W.cell? ⟨w.heap.size, 0, none⟩ = some (.int .i64 ah) ∧ W.cell? ⟨w.heap.size, 1, none⟩ = some (.int .u64 al) ∧ W.cell? ⟨w.heap.size + 1, 0, none⟩ = some (.int .i64 bh) ∧ W.cell? ⟨w.heap.size + 1, 1, none⟩ = some (.int .u64 bl) ∧ W.cell? ⟨w2.heap.size + 1, 0, none⟩ = some (.int .i64 rh) ∧ W.cell? ⟨w2.heap.size + 1, 1, none⟩ = some (.int .u64 rl) ∧ W.cell? ⟨w4.heap.size, 0, none⟩ = some (.int .i64 ah) ∧ W.cell? ⟨w4.heap.size, 1, none⟩ = some (.int .u64 al)) (by kernel_rfl) (MK.out _ (Up.refl V).drew) (fun hHeld => ?_)
  refine wpAnyH_take (i := 0) (oi := { dst := some 39, op := Op.move (Operand.tmp 9), type := 25, pos := "law.go:113", after := #[], guard := none }) (v := ?_) rfl (by kernel_rfl) (by kernel_rfl) (by kernel_rfl) (fun _ _ _ h => h) (Or.inl ⟨by rfl, ?_⟩) hHeld ?_
  rotate_left
  · intro w' hSw; (try dsimp only at hSw); go_simp <;> with_reducible rfl
  try simp only [Act.put, List.setIfInBounds_toArray, List.set_cons_zero, List.set_cons_succ]
  refine wpAnyH_take (i := 1) (oi := { dst := some 40, op := Op.binOp BinOp.neq 25 (Operand.tmp 39) (Operand.const (Value.int IntKind.i64 0)) 25, type := 4, pos := "law.go:113", after := #[{ on := 0, ground := Ground.data }], guard := none }) (v := ?_) rfl (by kernel_rfl) (by kernel_rfl) (by kernel_rfl) (fun _ _ _ h => h) (Or.inl ⟨by rfl, ?_⟩) hHeld ?_
  rotate_left
  · intro w' hSw; (try dsimp only at hSw); go_simp <;> with_reducible rfl
  try simp only [Act.put, List.setIfInBounds_toArray, List.set_cons_zero, List.set_cons_succ]
  refine wpAnyH_take (i := 2) (oi := { dst := some 41, op := Op.move (Operand.tmp 40), type := 4, pos := "law.go:113", after := #[{ on := 1, ground := Ground.data }], guard := none }) (v := ?_) rfl (by kernel_rfl) (by kernel_rfl) (by kernel_rfl) (fun _ _ _ h => h) (Or.inl ⟨by rfl, ?_⟩) hHeld ?_
  rotate_left
  · intro w' hSw; (try dsimp only at hSw); go_simp <;> with_reducible rfl
  try simp only [Act.put, List.setIfInBounds_toArray, List.set_cons_zero, List.set_cons_succ]
  refine wpAnyH_take (i := 3) (oi := { dst := some 42, op := Op.move (Operand.tmp 11), type := 25, pos := "law.go:113", after := #[{ on := 2, ground := Ground.guard }], guard := some (2, false) }) (v := ?_) rfl (by kernel_rfl) (by kernel_rfl) (by kernel_rfl) (fun _ _ _ h => h) (Or.inl ⟨by rfl, ?_⟩) hHeld ?_
  rotate_left
  · intro w' hSw; (try dsimp only at hSw); go_simp <;> with_reducible rfl
  try simp only [Act.put, List.setIfInBounds_toArray, List.set_cons_zero, List.set_cons_succ]
  refine wpAnyH_take (i := 4) (oi := { dst := some 43, op := Op.binOp BinOp.neq 25 (Operand.tmp 42) (Operand.const (Value.int IntKind.i64 0)) 25, type := 4, pos := "law.go:113", after := #[{ on := 3, ground := Ground.data }, { on := 2, ground := Ground.guard }], guard := some (2, false) }) (v := ?_) rfl (by kernel_rfl) (by kernel_rfl) (by kernel_rfl) (fun _ _ _ h => h) (Or.inl ⟨by rfl, ?_⟩) hHeld ?_
  rotate_left
  · intro w' hSw; (try dsimp only at hSw); go_simp <;> with_reducible rfl
  try simp only [Act.put, List.setIfInBounds_toArray, List.set_cons_zero, List.set_cons_succ]
  refine wpAnyH_take (i := 5) (oi := { dst := some 44, op := Op.pick (Operand.tmp 41) (Operand.const (Value.bool true)) (Operand.tmp 43), type := 4, pos := "law.go:113", after := #[{ on := 2, ground := Ground.data }, { on := 4, ground := Ground.data }], guard := none }) (v := ?_) rfl (by kernel_rfl) (by kernel_rfl) (by kernel_rfl) (fun _ _ _ h => h) (Or.inl ⟨by rfl, ?_⟩) hHeld ?_
  rotate_left
  · intro w' hSw; (try dsimp only at hSw); go_simp <;> with_reducible rfl
  try simp only [Act.put, List.setIfInBounds_toArray, List.set_cons_zero, List.set_cons_succ]
  refine wpAnyH_take (i := 6) (oi := { dst := some 45, op := Op.move (Operand.tmp 44), type := 4, pos := "law.go:113", after := #[{ on := 5, ground := Ground.data }, { on := 2, ground := Ground.chain }], guard := none }) (v := ?_) rfl (by kernel_rfl) (by kernel_rfl) (by kernel_rfl) (fun _ _ _ h => h) (Or.inl ⟨by rfl, ?_⟩) hHeld ?_
  rotate_left
  · intro w' hSw; (try dsimp only at hSw); go_simp <;> with_reducible rfl
  try simp only [Act.put, List.setIfInBounds_toArray, List.set_cons_zero, List.set_cons_succ]
  refine wpAnyH_take (i := 7) (oi := { dst := some 46, op := Op.load 24 (Operand.tmp 10), type := 24, pos := "law.go:113", after := #[{ on := 6, ground := Ground.guard }], guard := some (6, false) }) (v := ?_) rfl (by kernel_rfl) (by kernel_rfl) (by kernel_rfl) (fun _ _ _ h => h) (Or.inl ⟨by rfl, ?_⟩) hHeld ?_
  rotate_left
  · intro w' hSw; (try dsimp only at hSw); go_simp <;> with_reducible rfl
  try simp only [Act.put, List.setIfInBounds_toArray, List.set_cons_zero, List.set_cons_succ]
  refine wpAnyH_take (i := 8) (oi := { dst := some 47, op := Op.load 24 (Operand.tmp 2), type := 24, pos := "law.go:113", after := #[{ on := 6, ground := Ground.guard }], guard := some (6, false) }) (v := ?_) rfl (by kernel_rfl) (by kernel_rfl) (by kernel_rfl) (fun _ _ _ h => h) (Or.inl ⟨by rfl, ?_⟩) hHeld ?_
  rotate_left
  · intro w' hSw; (try dsimp only at hSw); go_simp <;> with_reducible rfl
  try simp only [Act.put, List.setIfInBounds_toArray, List.set_cons_zero, List.set_cons_succ]
  refine wpAnyH_take (i := 9) (oi := { dst := some 48, op := Op.binOp BinOp.neq 24 (Operand.tmp 46) (Operand.tmp 47) 24, type := 4, pos := "law.go:113", after := #[{ on := 7, ground := Ground.data }, { on := 8, ground := Ground.data }, { on := 6, ground := Ground.guard }], guard := some (6, false) }) (v := ?_) rfl (by kernel_rfl) (by kernel_rfl) (by kernel_rfl) (fun _ _ _ h => h) (Or.inl ⟨by rfl, ?_⟩) hHeld ?_
  rotate_left
  · intro w' hSw; (try dsimp only at hSw); go_simp <;> with_reducible rfl
  try simp only [Act.put, List.setIfInBounds_toArray, List.set_cons_zero, List.set_cons_succ]
  refine wpAnyH_take (i := 10) (oi := { dst := some 49, op := Op.pick (Operand.tmp 45) (Operand.const (Value.bool true)) (Operand.tmp 48), type := 4, pos := "law.go:113", after := #[{ on := 6, ground := Ground.data }, { on := 9, ground := Ground.data }], guard := none }) (v := ?_) rfl (by kernel_rfl) (by kernel_rfl) (by kernel_rfl) (fun _ _ _ h => h) (Or.inl ⟨by rfl, ?_⟩) hHeld ?_
  rotate_left
  · intro w' hSw; (try dsimp only at hSw); go_simp <;> with_reducible rfl
  try simp only [Act.put, List.setIfInBounds_toArray, List.set_cons_zero, List.set_cons_succ]
  refine wpAnyH_take (i := 11) (oi := { dst := some 50, op := Op.move (Operand.tmp 49), type := 4, pos := "law.go:113", after := #[{ on := 10, ground := Ground.data }, { on := 6, ground := Ground.chain }], guard := none }) (v := ?_) rfl (by kernel_rfl) (by kernel_rfl) (by kernel_rfl) (fun _ _ _ h => h) (Or.inl ⟨by rfl, ?_⟩) hHeld ?_
  rotate_left
  · intro w' hSw; (try dsimp only at hSw); go_simp <;> with_reducible rfl
  try simp only [Act.put, List.setIfInBounds_toArray, List.set_cons_zero, List.set_cons_succ]
  refine wpAnyH_take (i := 12) (oi := { dst := some 51, op := Op.load 24 (Operand.tmp 6), type := 24, pos := "law.go:113", after := #[{ on := 11, ground := Ground.guard }], guard := some (11, false) }) (v := ?_) rfl (by kernel_rfl) (by kernel_rfl) (by kernel_rfl) (fun _ _ _ h => h) (Or.inl ⟨by rfl, ?_⟩) hHeld ?_
  rotate_left
  · intro w' hSw; (try dsimp only at hSw); go_simp <;> with_reducible rfl
  try simp only [Act.put, List.setIfInBounds_toArray, List.set_cons_zero, List.set_cons_succ]
  refine wpAnyH_ready (rs := [13]) (by kernel_rfl) (by simp) ?_
  refine AllReadyH.cons (o := { dst := some 52, op := Op.call { callee := Callee.value (Operand.func 29), args := #[Operand.tmp 51], argTypes := #[24] }, type := 3, pos := "law.go:113", after := #[{ on := 12, ground := Ground.data }, { on := 11, ground := Ground.chain }, { on := 11, ground := Ground.guard }], guard := some (11, false) }) rfl (fun K hK => ?_) AllReadyH.nil
  go_simp
  refine Calls.mono (SR.out _) ?_; rintro e v1 ⟨rfl, hbk⟩
  refine hK.out _ _ (MK.out _ (hHeld.1.trans hbk)) (fun hHeld => ?_)
  clear hK K
  try simp only [Act.put, List.setIfInBounds_toArray, List.set_cons_zero, List.set_cons_succ]
  refine wpAnyH_take (i := 14) (oi := { dst := some 53, op := Op.binOp BinOp.neq 3 (Operand.tmp 52) (Operand.const (Value.int IntKind.i64 0)) 3, type := 4, pos := "law.go:113", after := #[{ on := 13, ground := Ground.data }, { on := 11, ground := Ground.guard }], guard := some (11, false) }) (v := ?_) rfl (by kernel_rfl) (by kernel_rfl) (by kernel_rfl) (fun _ _ _ h => h) (Or.inl ⟨by rfl, ?_⟩) hHeld ?_
  rotate_left
  · intro w' hSw; (try dsimp only at hSw); go_simp <;> with_reducible rfl
  try simp only [Act.put, List.setIfInBounds_toArray, List.set_cons_zero, List.set_cons_succ]
  refine wpAnyH_take (i := 15) (oi := { dst := some 54, op := Op.move (Operand.tmp 53), type := 4, pos := "law.go:113", after := #[{ on := 14, ground := Ground.data }, { on := 13, ground := Ground.chain }, { on := 11, ground := Ground.guard }], guard := some (11, false) }) (v := ?_) rfl (by kernel_rfl) (by kernel_rfl) (by kernel_rfl) (fun _ _ _ h => h) (Or.inl ⟨by rfl, ?_⟩) hHeld ?_
  rotate_left
  · intro w' hSw; (try dsimp only at hSw); go_simp <;> with_reducible rfl
  try simp only [Act.put, List.setIfInBounds_toArray, List.set_cons_zero, List.set_cons_succ]
  refine wpAnyH_take (i := 16) (oi := { dst := some 55, op := Op.load 24 (Operand.tmp 6), type := 24, pos := "law.go:113", after := #[{ on := 15, ground := Ground.guard }], guard := some (15, true) }) (v := ?_) rfl (by kernel_rfl) (by kernel_rfl) (by kernel_rfl) (fun _ _ _ h => h) (Or.inl ⟨by rfl, ?_⟩) hHeld ?_
  rotate_left
  · intro w' hSw; (try dsimp only at hSw); go_simp <;> with_reducible rfl
  try simp only [Act.put, List.setIfInBounds_toArray, List.set_cons_zero, List.set_cons_succ]
  refine wpAnyH_take (i := 18) (oi := { dst := some 57, op := Op.load 24 (Operand.tmp 2), type := 24, pos := "law.go:113", after := #[{ on := 15, ground := Ground.guard }], guard := some (15, true) }) (v := ?_) rfl (by kernel_rfl) (by kernel_rfl) (by kernel_rfl) (fun _ _ _ h => h) (Or.inl ⟨by rfl, ?_⟩) hHeld ?_
  rotate_left
  · intro w' hSw; (try dsimp only at hSw); go_simp <;> with_reducible rfl
  try simp only [Act.put, List.setIfInBounds_toArray, List.set_cons_zero, List.set_cons_succ]
  refine wpAnyH_ready (rs := [17]) (by kernel_rfl) (by simp) ?_
  refine AllReadyH.cons (o := { dst := some 56, op := Op.call { callee := Callee.value (Operand.func 29), args := #[Operand.tmp 55], argTypes := #[24] }, type := 3, pos := "law.go:113", after := #[{ on := 16, ground := Ground.data }, { on := 15, ground := Ground.chain }, { on := 15, ground := Ground.guard }], guard := some (15, true) }) rfl (fun K hK => ?_) AllReadyH.nil
  go_simp
  refine Calls.mono (SR.out _) ?_; rintro e v2 ⟨rfl, hbk⟩
  refine hK.out _ _ (MK.out _ (hHeld.1.trans hbk)) (fun hHeld => ?_)
  clear hK K
  try simp only [Act.put, List.setIfInBounds_toArray, List.set_cons_zero, List.set_cons_succ]
  refine wpAnyH_ready (rs := [19]) (by kernel_rfl) (by simp) ?_
  refine AllReadyH.cons (o := { dst := some 58, op := Op.call { callee := Callee.value (Operand.func 29), args := #[Operand.tmp 57], argTypes := #[24] }, type := 3, pos := "law.go:113", after := #[{ on := 18, ground := Ground.data }, { on := 17, ground := Ground.chain }, { on := 15, ground := Ground.guard }], guard := some (15, true) }) rfl (fun K hK => ?_) AllReadyH.nil
  go_simp
  refine Calls.mono (SX.out _) ?_; rintro e v3 ⟨rfl, hbk⟩
  refine hK.out _ _ (MK.out _ (hHeld.1.trans hbk)) (fun hHeld => ?_)
  clear hK K
  try simp only [Act.put, List.setIfInBounds_toArray, List.set_cons_zero, List.set_cons_succ]
  refine wpAnyH_take (i := 20) (oi := { dst := some 59, op := Op.binOp BinOp.neq 3 (Operand.tmp 56) (Operand.tmp 58) 3, type := 4, pos := "law.go:113", after := #[{ on := 17, ground := Ground.data }, { on := 19, ground := Ground.data }, { on := 15, ground := Ground.guard }], guard := some (15, true) }) (v := ?_) rfl (by kernel_rfl) (by kernel_rfl) (by kernel_rfl) (fun _ _ _ h => h) (Or.inl ⟨by rfl, ?_⟩) hHeld ?_
  rotate_left
  · intro w' hSw; (try dsimp only at hSw); go_simp <;> with_reducible rfl
  try simp only [Act.put, List.setIfInBounds_toArray, List.set_cons_zero, List.set_cons_succ]
  refine wpAnyH_take (i := 21) (oi := { dst := some 60, op := Op.pick (Operand.tmp 54) (Operand.tmp 59) (Operand.const (Value.bool false)), type := 4, pos := "law.go:113", after := #[{ on := 15, ground := Ground.data }, { on := 20, ground := Ground.data }, { on := 11, ground := Ground.guard }], guard := some (11, false) }) (v := ?_) rfl (by kernel_rfl) (by kernel_rfl) (by kernel_rfl) (fun _ _ _ h => h) (Or.inl ⟨by rfl, ?_⟩) hHeld ?_
  rotate_left
  · intro w' hSw; (try dsimp only at hSw); go_simp <;> with_reducible rfl
  try simp only [Act.put, List.setIfInBounds_toArray, List.set_cons_zero, List.set_cons_succ]
  refine wpAnyH_take (i := 22) (oi := { dst := some 61, op := Op.pick (Operand.tmp 50) (Operand.const (Value.bool true)) (Operand.tmp 60), type := 4, pos := "law.go:113", after := #[{ on := 11, ground := Ground.data }, { on := 21, ground := Ground.data }], guard := none }) (v := ?_) rfl (by kernel_rfl) (by kernel_rfl) (by kernel_rfl) (fun _ _ _ h => h) (Or.inl ⟨by rfl, ?_⟩) hHeld ?_
  rotate_left
  · intro w' hSw; (try dsimp only at hSw); go_simp <;> with_reducible rfl
  try simp only [Act.put, List.setIfInBounds_toArray, List.set_cons_zero, List.set_cons_succ]
  refine wpAnyH_done (by kernel_rfl) ?_ _
  refine NoPanic.normal ?_
  have Ra2 := R_a.below hHeld.1.below R_a.lt
  have Rb2 := R_b.below hHeld.1.below R_b.lt
  have HU2 := HU.trans hHeld.1.below
  clear R_a R_b R_q R_r R_x R_y HU MK hHeld
  have R_a := Ra2
  have R_b := Rb2
  have HU := HU2
  clear Ra2 Rb2 HU2
  have c7_0 := R_a.cell 0
  have c7_1 := R_a.cell 1
  have c8_0 := R_b.cell 0
  have c8_1 := R_b.cell 1
  simp at c7_0 c7_1 c8_0 c8_1
  go_wp2_with fail
  clear c7_0 c7_1 c8_0 c8_1
  refine Calls.mono (A2.out _) ?_; rintro e w5 ⟨rfl, hb_w5⟩
  have z_w5 := hb_w5.size
  try simp only [alloc_size, setCell_size] at z_w5
  replace R_a := R_a.mod (Mod.of_below hb_w5 Nil) (fun hf => hf)
  replace R_b := R_b.mod (Mod.of_below hb_w5 Nil) (fun hf => hf)
  replace HU := HU.trans hb_w5
  clear hb_w5
  have R_s := Row.new (w5) 24 #[.int .i64 sh, .int .u64 sl]
  replace R_a := R_a.alloc (.cells #[.int .i64 sh, .int .u64 sl] 24)
  replace R_b := R_b.alloc (.cells #[.int .i64 sh, .int .u64 sl] 24)
  replace HU := HU.alloc (.cells #[.int .i64 sh, .int .u64 sl] 24)
  have c9_0 := R_s.cell 0
  have c9_1 := R_s.cell 1
  have c10_0 := R_b.cell 0
  have c10_1 := R_b.cell 1
  simp at c9_0 c9_1 c10_0 c10_1
  go_wp2_with fail
  clear c9_0 c9_1 c10_0 c10_1
  refine Calls.mono (B2.out _) ?_; rintro e w6 ⟨rfl, hb_w6⟩
  have z_w6 := hb_w6.size
  try simp only [alloc_size, setCell_size] at z_w6
  replace R_a := R_a.mod (Mod.of_below hb_w6 Nil) (fun hf => hf)
  replace R_b := R_b.mod (Mod.of_below hb_w6 Nil) (fun hf => hf)
  replace R_s := R_s.mod (Mod.of_below hb_w6 Nil) (fun hf => hf)
  replace HU := HU.trans hb_w6
  clear hb_w6
  have R_t := Row.new (w6) 24 #[.int .i64 ah, .int .u64 al]
  replace R_a := R_a.alloc (.cells #[.int .i64 ah, .int .u64 al] 24)
  replace R_b := R_b.alloc (.cells #[.int .i64 ah, .int .u64 al] 24)
  replace R_s := R_s.alloc (.cells #[.int .i64 ah, .int .u64 al] 24)
  replace HU := HU.alloc (.cells #[.int .i64 ah, .int .u64 al] 24)
  have c11_0 := R_a.cell 0
  have c11_1 := R_a.cell 1
  simp at c11_0 c11_1
  go_wp2_with fail
  clear c11_0 c11_1
  go_ret
  exact ⟨rfl, HU.below⟩

set_option maxRecDepth 100000 in
set_option maxHeartbeats 4000000 in
theorem walk_A1_over (w : World) (x y : Int) (hx : Fits x) (hy : Fits y) (h0 : y ≠ 0) (hf : Fits (dq x y)) (hr : dr x y ≠ 0) (hs : ¬ Fits (x + y)) (htab : Lib.TabIs Tryd.prog w "internal/strconv.uint64pow10" .u64 Lib.pow10Tab) (hg : 2 < w.heap.size) :
    Calls Tryd.prog 9 #[WV x, WV y] w fun e w' => e = .returned (.bool true) ∧ Below w.heap.size w w' := by
  have D := fun w => divc_any w x y hx hy
  have hrf := dr_fits hx h0 hy
  have hpf := prod_fits (y := y) hx h0
  have M := fun w => mul_any w (dq x y) y hf hy
  have A1 := fun w => add_any w (dq x y * y) (dr x y) hpf hrf
  rw [resV_fit hpf] at M
  rw [back h0, resV_fit hx] at A1
  have SR := fun w => sign_any w (dr x y) hrf
  have SX := fun w => sign_any w x hx
  unfold divV at D
  rw [if_neg h0, if_pos hf] at D
  rw [rest_sign h0 hr] at SR
  obtain ⟨c, hc, hc0⟩ : ∃ c, c = cmp3 x 0 ∧ (c != 0) = true := ⟨_, rfl, by
    rcases cmp3_cases x 0 with ⟨h1, h2⟩ | ⟨h1, h2⟩ | ⟨h1, h2⟩
    · rw [h2]; decide
    · rw [h2]; decide
    · exfalso; apply hr; subst h1; unfold dr; simp [mag]⟩
  rw [← hc] at SR SX
  have A2 := fun w => add_any w x y hx hy
  have TX := fun w => sign_any w x hx
  have TY := fun w => sign_any w y hy
  rw [← over_sign hx hy hs] at TY
  obtain ⟨d, hd⟩ : ∃ d, d = cmp3 x 0 := ⟨_, rfl⟩
  rw [← hd] at TX TY
  rw [resV_over hs] at A2
  have e0 : WV 0 = .agg #[.int .i64 0, .int .u64 0] := by kernel_rfl
  rw [e0] at A2
  obtain ⟨ah, al, e1⟩ : ∃ hi lo : Int, WV x = .agg #[.int .i64 hi, .int .u64 lo] := ⟨_, _, rfl⟩
  obtain ⟨bh, bl, e2⟩ : ∃ hi lo : Int, WV y = .agg #[.int .i64 hi, .int .u64 lo] := ⟨_, _, rfl⟩
  obtain ⟨qh, ql, eq⟩ : ∃ hi lo : Int, WV (dq x y) = .agg #[.int .i64 hi, .int .u64 lo] := ⟨_, _, rfl⟩
  obtain ⟨rh, rl, er⟩ : ∃ hi lo : Int, WV (dr x y) = .agg #[.int .i64 hi, .int .u64 lo] := ⟨_, _, rfl⟩
  obtain ⟨ph, pl, ep⟩ : ∃ hi lo : Int, WV (dq x y * y) = .agg #[.int .i64 hi, .int .u64 lo] := ⟨_, _, rfl⟩
  rw [eq, e2, ep] at M
  rw [ep, er, e1] at A1
  rw [er] at SR
  rw [e1] at SX
  rw [e1, e2, eq, er] at D
  rw [e1, e2] at A2
  rw [e1] at TX
  rw [e2] at TY
  rw [e1, e2]
  have D := hid D
  have A2 := hid A2
  have M := hid M
  have A1 := hid A1
  have SR := hid SR
  have SX := hid SX
  have TX := hid TX
  have TY := hid TY
  have HT := hid htab
  clear htab e1 e2 hx hy hs h0 eq er ep hf hr hrf hpf hc e0 hd
  have R_a := (Row.new w 24 #[.int .i64 ah, .int .u64 al]).alloc (.cells #[.int .i64 bh, .int .u64 bl] 24)
  have R_b := Row.new (w.alloc (.cells #[.int .i64 ah, .int .u64 al] 24)) 24 #[.int .i64 bh, .int .u64 bl]
  have HU := ((Up.refl w).alloc (.cells #[.int .i64 ah, .int .u64 al] 24)).alloc (.cells #[.int .i64 bh, .int .u64 bl] 24)
  simp only [alloc_size] at R_b
  go_enter Tryd.func9, Tryd.ntmps9
  go_wp2_with fail
  refine (known_any _ (tab_below HT.out HU.below hg) (by have := HU.size; omega)).mono ?_; rintro e w1 ⟨rfl, hb_w1⟩
  have z_w1 := hb_w1.size
  try simp only [alloc_size, setCell_size] at z_w1
  replace R_a := R_a.mod (Mod.of_below hb_w1 Nil) (fun hf => hf)
  replace R_b := R_b.mod (Mod.of_below hb_w1 Nil) (fun hf => hf)
  replace HU := HU.trans hb_w1
  clear hb_w1
  have c1_0 := R_a.cell 0
  have c1_1 := R_a.cell 1
  have c2_0 := R_b.cell 0
  have c2_1 := R_b.cell 1
  simp at c1_0 c1_1 c2_0 c2_1
  go_wp2_with fail
  clear c1_0 c1_1 c2_0 c2_1
  refine Calls.mono (D.out _) ?_; rintro e w2 ⟨rfl, hb_w2⟩
  have z_w2 := hb_w2.size
  try simp only [alloc_size, setCell_size] at z_w2
  replace R_a := R_a.mod (Mod.of_below hb_w2 Nil) (fun hf => hf)
  replace R_b := R_b.mod (Mod.of_below hb_w2 Nil) (fun hf => hf)
  replace HU := HU.trans hb_w2
  clear hb_w2
  have R_q := Row.new (w2) 24 #[.int .i64 qh, .int .u64 ql]
  replace R_a := R_a.alloc (.cells #[.int .i64 qh, .int .u64 ql] 24)
  replace R_b := R_b.alloc (.cells #[.int .i64 qh, .int .u64 ql] 24)
  replace HU := HU.alloc (.cells #[.int .i64 qh, .int .u64 ql] 24)
  have R_r := Row.new ((w2).alloc (.cells #[.int .i64 qh, .int .u64 ql] 24)) 24 #[.int .i64 rh, .int .u64 rl]
  have hz : ((w2).alloc (.cells #[.int .i64 qh, .int .u64 ql] 24)).heap.size = w2.heap.size + 1 := by simp only [alloc_size, setCell_size]
  rw [hz] at R_r
  clear hz
  replace R_a := R_a.alloc (.cells #[.int .i64 rh, .int .u64 rl] 24)
  replace R_b := R_b.alloc (.cells #[.int .i64 rh, .int .u64 rl] 24)
  replace R_q := R_q.alloc (.cells #[.int .i64 rh, .int .u64 rl] 24)
  replace HU := HU.alloc (.cells #[.int .i64 rh, .int .u64 rl] 24)
  have c3_0 := R_q.cell 0
  have c3_1 := R_q.cell 1
  have c4_0 := R_b.cell 0
  have c4_1 := R_b.cell 1
  simp at c3_0 c3_1 c4_0 c4_1
  go_wp2_with fail
  clear c3_0 c3_1 c4_0 c4_1
  refine Calls.mono (M.out _) ?_; rintro e w3 ⟨rfl, hb_w3⟩
  have z_w3 := hb_w3.size
  try simp only [alloc_size, setCell_size] at z_w3
  replace R_a := R_a.mod (Mod.of_below hb_w3 Nil) (fun hf => hf)
  replace R_b := R_b.mod (Mod.of_below hb_w3 Nil) (fun hf => hf)
  replace R_q := R_q.mod (Mod.of_below hb_w3 Nil) (fun hf => hf)
  replace R_r := R_r.mod (Mod.of_below hb_w3 Nil) (fun hf => hf)
  replace HU := HU.trans hb_w3
  clear hb_w3
  have R_x := Row.new (w3) 24 #[.int .i64 ph, .int .u64 pl]
  replace R_a := R_a.alloc (.cells #[.int .i64 ph, .int .u64 pl] 24)
  replace R_b := R_b.alloc (.cells #[.int .i64 ph, .int .u64 pl] 24)
  replace R_q := R_q.alloc (.cells #[.int .i64 ph, .int .u64 pl] 24)
  replace R_r := R_r.alloc (.cells #[.int .i64 ph, .int .u64 pl] 24)
  replace HU := HU.alloc (.cells #[.int .i64 ph, .int .u64 pl] 24)
  have c5_0 := R_x.cell 0
  have c5_1 := R_x.cell 1
  have c6_0 := R_r.cell 0
  have c6_1 := R_r.cell 1
  simp at c5_0 c5_1 c6_0 c6_1
  go_wp2_with fail
  clear c5_0 c5_1 c6_0 c6_1
  refine Calls.mono (A1.out _) ?_; rintro e w4 ⟨rfl, hb_w4⟩
  have z_w4 := hb_w4.size
  try simp only [alloc_size, setCell_size] at z_w4
  replace R_a := R_a.mod (Mod.of_below hb_w4 Nil) (fun hf => hf)
  replace R_b := R_b.mod (Mod.of_below hb_w4 Nil) (fun hf => hf)
  replace R_q := R_q.mod (Mod.of_below hb_w4 Nil) (fun hf => hf)
  replace R_r := R_r.mod (Mod.of_below hb_w4 Nil) (fun hf => hf)
  replace R_x := R_x.mod (Mod.of_below hb_w4 Nil) (fun hf => hf)
  replace HU := HU.trans hb_w4
  clear hb_w4
  have R_y := Row.new (w4) 24 #[.int .i64 ah, .int .u64 al]
  replace R_a := R_a.alloc (.cells #[.int .i64 ah, .int .u64 al] 24)
  replace R_b := R_b.alloc (.cells #[.int .i64 ah, .int .u64 al] 24)
  replace R_q := R_q.alloc (.cells #[.int .i64 ah, .int .u64 al] 24)
  replace R_r := R_r.alloc (.cells #[.int .i64 ah, .int .u64 al] 24)
  replace R_x := R_x.alloc (.cells #[.int .i64 ah, .int .u64 al] 24)
  replace HU := HU.alloc (.cells #[.int .i64 ah, .int .u64 al] 24)
  go_wp2_with fail
  obtain ⟨V, h_V⟩ : ∃ V, V = (w4).alloc (.cells #[.int .i64 ah, .int .u64 al] 24) := ⟨_, rfl⟩
  rw [← h_V]
  rw [← h_V] at R_a R_b R_q R_r R_x R_y HU
  have z_V : V.heap.size = _ := congrArg (fun a => a.heap.size) h_V
  try simp only [alloc_size, setCell_size] at z_V
  clear h_V
  have MK : ∀ W, Up V.heap.size V W → Up V.heap.size V W ∧ W.cell? ⟨w.heap.size, 0, none⟩ = some (.int .i64 ah) ∧ W.cell? ⟨w.heap.size, 1, none⟩ = some (.int .u64 al) ∧ W.cell? ⟨w.heap.size + 1, 0, none⟩ = some (.int .i64 bh) ∧ W.cell? ⟨w.heap.size + 1, 1, none⟩ = some (.int .u64 bl) ∧ W.cell? ⟨w2.heap.size + 1, 0, none⟩ = some (.int .i64 rh) ∧ W.cell? ⟨w2.heap.size + 1, 1, none⟩ = some (.int .u64 rl) ∧ W.cell? ⟨w4.heap.size, 0, none⟩ = some (.int .i64 ah) ∧ W.cell? ⟨w4.heap.size, 1, none⟩ = some (.int .u64 al) := fun W hW => by
    have k_a := R_a.below hW.below R_a.lt
    have k_b := R_b.below hW.below R_b.lt
    have k_r := R_r.below hW.below R_r.lt
    have k_y := R_y.below hW.below R_y.lt
    exact ⟨hW, by simpa using k_a.cell 0, by simpa using k_a.cell 1, by simpa using k_b.cell 0, by simpa using k_b.cell 1, by simpa using k_r.cell 0, by simpa using k_r.cell 1, by simpa using k_y.cell 0, by simpa using k_y.cell 1⟩
  have MK := hid MK
  refine wp_region_noPanic ?_
  refine wp_region_held_drew (S := fun W => Up V.heap.size V W ∧ W.cell? ⟨w.heap.size, 0, none⟩ = some (.int .i64 ah) ∧ W.cell? ⟨w.heap.size, 1, none⟩ = some (.int .u64 al) ∧ W.cell? ⟨w.heap.size + 1, 0, none⟩ = some (.int .i64 bh) ∧ W.cell? ⟨w.heap.size + 1, 1, none⟩ = some (.int .u64 bl) ∧ W.cell? ⟨w2.heap.size + 1, 0, none⟩ = some (.int .i64 rh) ∧ W.cell? ⟨w2.heap.size + 1, 1, none⟩ = some (.int .u64 rl) ∧ W.cell? ⟨w4.heap.size, 0, none⟩ = some (.int .i64 ah) ∧ W.cell? ⟨w4.heap.size, 1, none⟩ = some (.int .u64 al)) (by kernel_rfl) (MK.out _ (Up.refl V).drew) (fun hHeld => ?_)
  refine wpAnyH_take (i := 0) (oi := { dst := some 39, op := Op.move (Operand.tmp 9), type := 25, pos := "law.go:113", after := #[], guard := none }) (v := ?_) rfl (by kernel_rfl) (by kernel_rfl) (by kernel_rfl) (fun _ _ _ h => h) (Or.inl ⟨by rfl, ?_⟩) hHeld ?_
  rotate_left
  · intro w' hSw; (try dsimp only at hSw); go_simp <;> with_reducible rfl
  try simp only [Act.put, List.setIfInBounds_toArray, List.set_cons_zero, List.set_cons_succ]
  refine wpAnyH_take (i := 1) (oi := { dst := some 40, op := Op.binOp BinOp.neq 25 (Operand.tmp 39) (Operand.const (Value.int IntKind.i64 0)) 25, type := 4, pos := "law.go:113", after := #[{ on := 0, ground := Ground.data }], guard := none }) (v := ?_) rfl (by kernel_rfl) (by kernel_rfl) (by kernel_rfl) (fun _ _ _ h => h) (Or.inl ⟨by rfl, ?_⟩) hHeld ?_
  rotate_left
  · intro w' hSw; (try dsimp only at hSw); go_simp <;> with_reducible rfl
  try simp only [Act.put, List.setIfInBounds_toArray, List.set_cons_zero, List.set_cons_succ]
  refine wpAnyH_take (i := 2) (oi := { dst := some 41, op := Op.move (Operand.tmp 40), type := 4, pos := "law.go:113", after := #[{ on := 1, ground := Ground.data }], guard := none }) (v := ?_) rfl (by kernel_rfl) (by kernel_rfl) (by kernel_rfl) (fun _ _ _ h => h) (Or.inl ⟨by rfl, ?_⟩) hHeld ?_
  rotate_left
  · intro w' hSw; (try dsimp only at hSw); go_simp <;> with_reducible rfl
  try simp only [Act.put, List.setIfInBounds_toArray, List.set_cons_zero, List.set_cons_succ]
  refine wpAnyH_take (i := 3) (oi := { dst := some 42, op := Op.move (Operand.tmp 11), type := 25, pos := "law.go:113", after := #[{ on := 2, ground := Ground.guard }], guard := some (2, false) }) (v := ?_) rfl (by kernel_rfl) (by kernel_rfl) (by kernel_rfl) (fun _ _ _ h => h) (Or.inl ⟨by rfl, ?_⟩) hHeld ?_
  rotate_left
  · intro w' hSw; (try dsimp only at hSw); go_simp <;> with_reducible rfl
  try simp only [Act.put, List.setIfInBounds_toArray, List.set_cons_zero, List.set_cons_succ]
  refine wpAnyH_take (i := 4) (oi := { dst := some 43, op := Op.binOp BinOp.neq 25 (Operand.tmp 42) (Operand.const (Value.int IntKind.i64 0)) 25, type := 4, pos := "law.go:113", after := #[{ on := 3, ground := Ground.data }, { on := 2, ground := Ground.guard }], guard := some (2, false) }) (v := ?_) rfl (by kernel_rfl) (by kernel_rfl) (by kernel_rfl) (fun _ _ _ h => h) (Or.inl ⟨by rfl, ?_⟩) hHeld ?_
  rotate_left
  · intro w' hSw; (try dsimp only at hSw); go_simp <;> with_reducible rfl
  try simp only [Act.put, List.setIfInBounds_toArray, List.set_cons_zero, List.set_cons_succ]
  refine wpAnyH_take (i := 5) (oi := { dst := some 44, op := Op.pick (Operand.tmp 41) (Operand.const (Value.bool true)) (Operand.tmp 43), type := 4, pos := "law.go:113", after := #[{ on := 2, ground := Ground.data }, { on := 4, ground := Ground.data }], guard := none }) (v := ?_) rfl (by kernel_rfl) (by kernel_rfl) (by kernel_rfl) (fun _ _ _ h => h) (Or.inl ⟨by rfl, ?_⟩) hHeld ?_
  rotate_left
  · intro w' hSw; (try dsimp only at hSw); go_simp <;> with_reducible rfl
  try simp only [Act.put, List.setIfInBounds_toArray, List.set_cons_zero, List.set_cons_succ]
  refine wpAnyH_take (i := 6) (oi := { dst := some 45, op := Op.move (Operand.tmp 44), type := 4, pos := "law.go:113", after := #[{ on := 5, ground := Ground.data }, { on := 2, ground := Ground.chain }], guard := none }) (v := ?_) rfl (by kernel_rfl) (by kernel_rfl) (by kernel_rfl) (fun _ _ _ h => h) (Or.inl ⟨by rfl, ?_⟩) hHeld ?_
  rotate_left
  · intro w' hSw; (try dsimp only at hSw); go_simp <;> with_reducible rfl
  try simp only [Act.put, List.setIfInBounds_toArray, List.set_cons_zero, List.set_cons_succ]
  refine wpAnyH_take (i := 7) (oi := { dst := some 46, op := Op.load 24 (Operand.tmp 10), type := 24, pos := "law.go:113", after := #[{ on := 6, ground := Ground.guard }], guard := some (6, false) }) (v := ?_) rfl (by kernel_rfl) (by kernel_rfl) (by kernel_rfl) (fun _ _ _ h => h) (Or.inl ⟨by rfl, ?_⟩) hHeld ?_
  rotate_left
  · intro w' hSw; (try dsimp only at hSw); go_simp <;> with_reducible rfl
  try simp only [Act.put, List.setIfInBounds_toArray, List.set_cons_zero, List.set_cons_succ]
  refine wpAnyH_take (i := 8) (oi := { dst := some 47, op := Op.load 24 (Operand.tmp 2), type := 24, pos := "law.go:113", after := #[{ on := 6, ground := Ground.guard }], guard := some (6, false) }) (v := ?_) rfl (by kernel_rfl) (by kernel_rfl) (by kernel_rfl) (fun _ _ _ h => h) (Or.inl ⟨by rfl, ?_⟩) hHeld ?_
  rotate_left
  · intro w' hSw; (try dsimp only at hSw); go_simp <;> with_reducible rfl
  try simp only [Act.put, List.setIfInBounds_toArray, List.set_cons_zero, List.set_cons_succ]
  refine wpAnyH_take (i := 9) (oi := { dst := some 48, op := Op.binOp BinOp.neq 24 (Operand.tmp 46) (Operand.tmp 47) 24, type := 4, pos := "law.go:113", after := #[{ on := 7, ground := Ground.data }, { on := 8, ground := Ground.data }, { on := 6, ground := Ground.guard }], guard := some (6, false) }) (v := ?_) rfl (by kernel_rfl) (by kernel_rfl) (by kernel_rfl) (fun _ _ _ h => h) (Or.inl ⟨by rfl, ?_⟩) hHeld ?_
  rotate_left
  · intro w' hSw; (try dsimp only at hSw); go_simp <;> with_reducible rfl
  try simp only [Act.put, List.setIfInBounds_toArray, List.set_cons_zero, List.set_cons_succ]
  refine wpAnyH_take (i := 10) (oi := { dst := some 49, op := Op.pick (Operand.tmp 45) (Operand.const (Value.bool true)) (Operand.tmp 48), type := 4, pos := "law.go:113", after := #[{ on := 6, ground := Ground.data }, { on := 9, ground := Ground.data }], guard := none }) (v := ?_) rfl (by kernel_rfl) (by kernel_rfl) (by kernel_rfl) (fun _ _ _ h => h) (Or.inl ⟨by rfl, ?_⟩) hHeld ?_
  rotate_left
  · intro w' hSw; (try dsimp only at hSw); go_simp <;> with_reducible rfl
  try simp only [Act.put, List.setIfInBounds_toArray, List.set_cons_zero, List.set_cons_succ]
  refine wpAnyH_take (i := 11) (oi := { dst := some 50, op := Op.move (Operand.tmp 49), type := 4, pos := "law.go:113", after := #[{ on := 10, ground := Ground.data }, { on := 6, ground := Ground.chain }], guard := none }) (v := ?_) rfl (by kernel_rfl) (by kernel_rfl) (by kernel_rfl) (fun _ _ _ h => h) (Or.inl ⟨by rfl, ?_⟩) hHeld ?_
  rotate_left
  · intro w' hSw; (try dsimp only at hSw); go_simp <;> with_reducible rfl
  try simp only [Act.put, List.setIfInBounds_toArray, List.set_cons_zero, List.set_cons_succ]
  refine wpAnyH_take (i := 12) (oi := { dst := some 51, op := Op.load 24 (Operand.tmp 6), type := 24, pos := "law.go:113", after := #[{ on := 11, ground := Ground.guard }], guard := some (11, false) }) (v := ?_) rfl (by kernel_rfl) (by kernel_rfl) (by kernel_rfl) (fun _ _ _ h => h) (Or.inl ⟨by rfl, ?_⟩) hHeld ?_
  rotate_left
  · intro w' hSw; (try dsimp only at hSw); go_simp <;> with_reducible rfl
  try simp only [Act.put, List.setIfInBounds_toArray, List.set_cons_zero, List.set_cons_succ]
  refine wpAnyH_ready (rs := [13]) (by kernel_rfl) (by simp) ?_
  refine AllReadyH.cons (o := { dst := some 52, op := Op.call { callee := Callee.value (Operand.func 29), args := #[Operand.tmp 51], argTypes := #[24] }, type := 3, pos := "law.go:113", after := #[{ on := 12, ground := Ground.data }, { on := 11, ground := Ground.chain }, { on := 11, ground := Ground.guard }], guard := some (11, false) }) rfl (fun K hK => ?_) AllReadyH.nil
  go_simp
  refine Calls.mono (SR.out _) ?_; rintro e v1 ⟨rfl, hbk⟩
  refine hK.out _ _ (MK.out _ (hHeld.1.trans hbk)) (fun hHeld => ?_)
  clear hK K
  try simp only [Act.put, List.setIfInBounds_toArray, List.set_cons_zero, List.set_cons_succ]
  refine wpAnyH_take (i := 14) (oi := { dst := some 53, op := Op.binOp BinOp.neq 3 (Operand.tmp 52) (Operand.const (Value.int IntKind.i64 0)) 3, type := 4, pos := "law.go:113", after := #[{ on := 13, ground := Ground.data }, { on := 11, ground := Ground.guard }], guard := some (11, false) }) (v := ?_) rfl (by kernel_rfl) (by kernel_rfl) (by kernel_rfl) (fun _ _ _ h => h) (Or.inl ⟨by rfl, ?_⟩) hHeld ?_
  rotate_left
  · intro w' hSw; (try dsimp only at hSw); go_simp <;> with_reducible rfl
  try simp only [Act.put, List.setIfInBounds_toArray, List.set_cons_zero, List.set_cons_succ]
  refine wpAnyH_take (i := 15) (oi := { dst := some 54, op := Op.move (Operand.tmp 53), type := 4, pos := "law.go:113", after := #[{ on := 14, ground := Ground.data }, { on := 13, ground := Ground.chain }, { on := 11, ground := Ground.guard }], guard := some (11, false) }) (v := ?_) rfl (by kernel_rfl) (by kernel_rfl) (by kernel_rfl) (fun _ _ _ h => h) (Or.inl ⟨by rfl, ?_⟩) hHeld ?_
  rotate_left
  · intro w' hSw; (try dsimp only at hSw); go_simp <;> with_reducible rfl
  try simp only [Act.put, List.setIfInBounds_toArray, List.set_cons_zero, List.set_cons_succ]
  refine wpAnyH_take (i := 16) (oi := { dst := some 55, op := Op.load 24 (Operand.tmp 6), type := 24, pos := "law.go:113", after := #[{ on := 15, ground := Ground.guard }], guard := some (15, true) }) (v := ?_) rfl (by kernel_rfl) (by kernel_rfl) (by kernel_rfl) (fun _ _ _ h => h) (Or.inl ⟨by rfl, ?_⟩) hHeld ?_
  rotate_left
  · intro w' hSw; (try dsimp only at hSw); go_simp <;> with_reducible rfl
  try simp only [Act.put, List.setIfInBounds_toArray, List.set_cons_zero, List.set_cons_succ]
  refine wpAnyH_take (i := 18) (oi := { dst := some 57, op := Op.load 24 (Operand.tmp 2), type := 24, pos := "law.go:113", after := #[{ on := 15, ground := Ground.guard }], guard := some (15, true) }) (v := ?_) rfl (by kernel_rfl) (by kernel_rfl) (by kernel_rfl) (fun _ _ _ h => h) (Or.inl ⟨by rfl, ?_⟩) hHeld ?_
  rotate_left
  · intro w' hSw; (try dsimp only at hSw); go_simp <;> with_reducible rfl
  try simp only [Act.put, List.setIfInBounds_toArray, List.set_cons_zero, List.set_cons_succ]
  refine wpAnyH_ready (rs := [17]) (by kernel_rfl) (by simp) ?_
  refine AllReadyH.cons (o := { dst := some 56, op := Op.call { callee := Callee.value (Operand.func 29), args := #[Operand.tmp 55], argTypes := #[24] }, type := 3, pos := "law.go:113", after := #[{ on := 16, ground := Ground.data }, { on := 15, ground := Ground.chain }, { on := 15, ground := Ground.guard }], guard := some (15, true) }) rfl (fun K hK => ?_) AllReadyH.nil
  go_simp
  refine Calls.mono (SR.out _) ?_; rintro e v2 ⟨rfl, hbk⟩
  refine hK.out _ _ (MK.out _ (hHeld.1.trans hbk)) (fun hHeld => ?_)
  clear hK K
  try simp only [Act.put, List.setIfInBounds_toArray, List.set_cons_zero, List.set_cons_succ]
  refine wpAnyH_ready (rs := [19]) (by kernel_rfl) (by simp) ?_
  refine AllReadyH.cons (o := { dst := some 58, op := Op.call { callee := Callee.value (Operand.func 29), args := #[Operand.tmp 57], argTypes := #[24] }, type := 3, pos := "law.go:113", after := #[{ on := 18, ground := Ground.data }, { on := 17, ground := Ground.chain }, { on := 15, ground := Ground.guard }], guard := some (15, true) }) rfl (fun K hK => ?_) AllReadyH.nil
  go_simp
  refine Calls.mono (SX.out _) ?_; rintro e v3 ⟨rfl, hbk⟩
  refine hK.out _ _ (MK.out _ (hHeld.1.trans hbk)) (fun hHeld => ?_)
  clear hK K
  try simp only [Act.put, List.setIfInBounds_toArray, List.set_cons_zero, List.set_cons_succ]
  refine wpAnyH_take (i := 20) (oi := { dst := some 59, op := Op.binOp BinOp.neq 3 (Operand.tmp 56) (Operand.tmp 58) 3, type := 4, pos := "law.go:113", after := #[{ on := 17, ground := Ground.data }, { on := 19, ground := Ground.data }, { on := 15, ground := Ground.guard }], guard := some (15, true) }) (v := ?_) rfl (by kernel_rfl) (by kernel_rfl) (by kernel_rfl) (fun _ _ _ h => h) (Or.inl ⟨by rfl, ?_⟩) hHeld ?_
  rotate_left
  · intro w' hSw; (try dsimp only at hSw); go_simp <;> with_reducible rfl
  try simp only [Act.put, List.setIfInBounds_toArray, List.set_cons_zero, List.set_cons_succ]
  refine wpAnyH_take (i := 21) (oi := { dst := some 60, op := Op.pick (Operand.tmp 54) (Operand.tmp 59) (Operand.const (Value.bool false)), type := 4, pos := "law.go:113", after := #[{ on := 15, ground := Ground.data }, { on := 20, ground := Ground.data }, { on := 11, ground := Ground.guard }], guard := some (11, false) }) (v := ?_) rfl (by kernel_rfl) (by kernel_rfl) (by kernel_rfl) (fun _ _ _ h => h) (Or.inl ⟨by rfl, ?_⟩) hHeld ?_
  rotate_left
  · intro w' hSw; (try dsimp only at hSw); go_simp <;> with_reducible rfl
  try simp only [Act.put, List.setIfInBounds_toArray, List.set_cons_zero, List.set_cons_succ]
  refine wpAnyH_take (i := 22) (oi := { dst := some 61, op := Op.pick (Operand.tmp 50) (Operand.const (Value.bool true)) (Operand.tmp 60), type := 4, pos := "law.go:113", after := #[{ on := 11, ground := Ground.data }, { on := 21, ground := Ground.data }], guard := none }) (v := ?_) rfl (by kernel_rfl) (by kernel_rfl) (by kernel_rfl) (fun _ _ _ h => h) (Or.inl ⟨by rfl, ?_⟩) hHeld ?_
  rotate_left
  · intro w' hSw; (try dsimp only at hSw); go_simp <;> with_reducible rfl
  try simp only [Act.put, List.setIfInBounds_toArray, List.set_cons_zero, List.set_cons_succ]
  refine wpAnyH_done (by kernel_rfl) ?_ _
  refine NoPanic.normal ?_
  have Ra2 := R_a.below hHeld.1.below R_a.lt
  have Rb2 := R_b.below hHeld.1.below R_b.lt
  have HU2 := HU.trans hHeld.1.below
  clear R_a R_b R_q R_r R_x R_y HU MK hHeld
  have R_a := Ra2
  have R_b := Rb2
  have HU := HU2
  clear Ra2 Rb2 HU2
  have c7_0 := R_a.cell 0
  have c7_1 := R_a.cell 1
  have c8_0 := R_b.cell 0
  have c8_1 := R_b.cell 1
  simp at c7_0 c7_1 c8_0 c8_1
  go_wp2_with fail
  clear c7_0 c7_1 c8_0 c8_1
  refine Calls.mono (A2.out _) ?_; rintro e w5 ⟨rfl, hb_w5⟩
  have z_w5 := hb_w5.size
  try simp only [alloc_size, setCell_size] at z_w5
  replace R_a := R_a.mod (Mod.of_below hb_w5 Nil) (fun hf => hf)
  replace R_b := R_b.mod (Mod.of_below hb_w5 Nil) (fun hf => hf)
  replace HU := HU.trans hb_w5
  clear hb_w5
  have R_s := Row.new (w5) 24 #[.int .i64 0, .int .u64 0]
  replace R_a := R_a.alloc (.cells #[.int .i64 0, .int .u64 0] 24)
  replace R_b := R_b.alloc (.cells #[.int .i64 0, .int .u64 0] 24)
  replace HU := HU.alloc (.cells #[.int .i64 0, .int .u64 0] 24)
  go_wp2_with fail
  obtain ⟨V9, h_V9⟩ : ∃ V9, V9 = (w5).alloc (.cells #[.int .i64 0, .int .u64 0] 24) := ⟨_, rfl⟩
  rw [← h_V9]
  rw [← h_V9] at R_a R_b R_s HU
  have z_V9 : V9.heap.size = _ := congrArg (fun a => a.heap.size) h_V9
  try simp only [alloc_size, setCell_size] at z_V9
  clear h_V9
  have MK : ∀ W, Up V9.heap.size V9 W → Up V9.heap.size V9 W ∧ W.cell? ⟨w.heap.size, 0, none⟩ = some (.int .i64 ah) ∧ W.cell? ⟨w.heap.size, 1, none⟩ = some (.int .u64 al) ∧ W.cell? ⟨w.heap.size + 1, 0, none⟩ = some (.int .i64 bh) ∧ W.cell? ⟨w.heap.size + 1, 1, none⟩ = some (.int .u64 bl) := fun W hW => by
    have k_a := R_a.below hW.below R_a.lt
    have k_b := R_b.below hW.below R_b.lt
    exact ⟨hW, by simpa using k_a.cell 0, by simpa using k_a.cell 1, by simpa using k_b.cell 0, by simpa using k_b.cell 1⟩
  have MK := hid MK
  refine wp_region_noPanic ?_
  refine wp_region_held_drew (S := fun W => Up V9.heap.size V9 W ∧ W.cell? ⟨w.heap.size, 0, none⟩ = some (.int .i64 ah) ∧ W.cell? ⟨w.heap.size, 1, none⟩ = some (.int .u64 al) ∧ W.cell? ⟨w.heap.size + 1, 0, none⟩ = some (.int .i64 bh) ∧ W.cell? ⟨w.heap.size + 1, 1, none⟩ = some (.int .u64 bl)) (by kernel_rfl) (MK.out _ (Up.refl V9).drew) (fun hHeld => ?_)
  refine wpAnyH_take (i := 0) (oi := { dst := some 85, op := Op.move (Operand.tmp 13), type := 25, pos := "law.go:121", after := #[], guard := none }) (v := ?_) rfl (by kernel_rfl) (by kernel_rfl) (by kernel_rfl) (fun _ _ _ h => h) (Or.inl ⟨by rfl, ?_⟩) hHeld ?_
  rotate_left
  · intro w' hSw; (try dsimp only at hSw); go_simp <;> with_reducible rfl
  try simp only [Act.put, List.setIfInBounds_toArray, List.set_cons_zero, List.set_cons_succ]
  refine wpAnyH_take (i := 1) (oi := { dst := some 86, op := Op.binOp BinOp.eql 25 (Operand.tmp 85) (Operand.const (Value.int IntKind.i64 20)) 25, type := 4, pos := "law.go:121", after := #[{ on := 0, ground := Ground.data }], guard := none }) (v := ?_) rfl (by kernel_rfl) (by kernel_rfl) (by kernel_rfl) (fun _ _ _ h => h) (Or.inl ⟨by rfl, ?_⟩) hHeld ?_
  rotate_left
  · intro w' hSw; (try dsimp only at hSw); go_simp <;> with_reducible rfl
  try simp only [Act.put, List.setIfInBounds_toArray, List.set_cons_zero, List.set_cons_succ]
  refine wpAnyH_take (i := 2) (oi := { dst := some 87, op := Op.move (Operand.tmp 86), type := 4, pos := "law.go:121", after := #[{ on := 1, ground := Ground.data }], guard := none }) (v := ?_) rfl (by kernel_rfl) (by kernel_rfl) (by kernel_rfl) (fun _ _ _ h => h) (Or.inl ⟨by rfl, ?_⟩) hHeld ?_
  rotate_left
  · intro w' hSw; (try dsimp only at hSw); go_simp <;> with_reducible rfl
  try simp only [Act.put, List.setIfInBounds_toArray, List.set_cons_zero, List.set_cons_succ]
  refine wpAnyH_take (i := 3) (oi := { dst := some 88, op := Op.load 24 (Operand.tmp 2), type := 24, pos := "law.go:121", after := #[{ on := 2, ground := Ground.guard }], guard := some (2, true) }) (v := ?_) rfl (by kernel_rfl) (by kernel_rfl) (by kernel_rfl) (fun _ _ _ h => h) (Or.inl ⟨by rfl, ?_⟩) hHeld ?_
  rotate_left
  · intro w' hSw; (try dsimp only at hSw); go_simp <;> with_reducible rfl
  try simp only [Act.put, List.setIfInBounds_toArray, List.set_cons_zero, List.set_cons_succ]
  refine wpAnyH_take (i := 5) (oi := { dst := some 90, op := Op.load 24 (Operand.tmp 3), type := 24, pos := "law.go:121", after := #[{ on := 2, ground := Ground.guard }], guard := some (2, true) }) (v := ?_) rfl (by kernel_rfl) (by kernel_rfl) (by kernel_rfl) (fun _ _ _ h => h) (Or.inl ⟨by rfl, ?_⟩) hHeld ?_
  rotate_left
  · intro w' hSw; (try dsimp only at hSw); go_simp <;> with_reducible rfl
  try simp only [Act.put, List.setIfInBounds_toArray, List.set_cons_zero, List.set_cons_succ]
  refine wpAnyH_ready (rs := [4]) (by kernel_rfl) (by simp) ?_
  refine AllReadyH.cons (o := { dst := some 89, op := Op.call { callee := Callee.value (Operand.func 29), args := #[Operand.tmp 88], argTypes := #[24] }, type := 3, pos := "law.go:121", after := #[{ on := 3, ground := Ground.data }, { on := 2, ground := Ground.chain }, { on := 2, ground := Ground.guard }], guard := some (2, true) }) rfl (fun K hK => ?_) AllReadyH.nil
  go_simp
  refine Calls.mono (TX.out _) ?_; rintro e v9 ⟨rfl, hbk⟩
  refine hK.out _ _ (MK.out _ (hHeld.1.trans hbk)) (fun hHeld => ?_)
  clear hK K
  try simp only [Act.put, List.setIfInBounds_toArray, List.set_cons_zero, List.set_cons_succ]
  refine wpAnyH_ready (rs := [6]) (by kernel_rfl) (by simp) ?_
  refine AllReadyH.cons (o := { dst := some 91, op := Op.call { callee := Callee.value (Operand.func 29), args := #[Operand.tmp 90], argTypes := #[24] }, type := 3, pos := "law.go:121", after := #[{ on := 5, ground := Ground.data }, { on := 4, ground := Ground.chain }, { on := 2, ground := Ground.guard }], guard := some (2, true) }) rfl (fun K hK => ?_) AllReadyH.nil
  go_simp
  refine Calls.mono (TY.out _) ?_; rintro e v9 ⟨rfl, hbk⟩
  refine hK.out _ _ (MK.out _ (hHeld.1.trans hbk)) (fun hHeld => ?_)
  clear hK K
  try simp only [Act.put, List.setIfInBounds_toArray, List.set_cons_zero, List.set_cons_succ]
  refine wpAnyH_take (i := 7) (oi := { dst := some 92, op := Op.binOp BinOp.eql 3 (Operand.tmp 89) (Operand.tmp 91) 3, type := 4, pos := "law.go:121", after := #[{ on := 4, ground := Ground.data }, { on := 6, ground := Ground.data }, { on := 2, ground := Ground.guard }], guard := some (2, true) }) (v := ?_) rfl (by kernel_rfl) (by kernel_rfl) (by kernel_rfl) (fun _ _ _ h => h) (Or.inl ⟨by rfl, ?_⟩) hHeld ?_
  rotate_left
  · intro w' hSw; (try dsimp only at hSw); go_simp <;> with_reducible rfl
  try simp only [Act.put, List.setIfInBounds_toArray, List.set_cons_zero, List.set_cons_succ]
  refine wpAnyH_take (i := 8) (oi := { dst := some 93, op := Op.pick (Operand.tmp 87) (Operand.tmp 92) (Operand.const (Value.bool false)), type := 4, pos := "law.go:121", after := #[{ on := 2, ground := Ground.data }, { on := 7, ground := Ground.data }], guard := none }) (v := ?_) rfl (by kernel_rfl) (by kernel_rfl) (by kernel_rfl) (fun _ _ _ h => h) (Or.inl ⟨by rfl, ?_⟩) hHeld ?_
  rotate_left
  · intro w' hSw; (try dsimp only at hSw); go_simp <;> with_reducible rfl
  try simp only [Act.put, List.setIfInBounds_toArray, List.set_cons_zero, List.set_cons_succ]
  refine wpAnyH_take (i := 9) (oi := { dst := some 4, op := Op.assign (Operand.tmp 93), type := 4, pos := "law.go:121", after := #[{ on := 8, ground := Ground.data }, { on := 6, ground := Ground.chain }, { on := 0, ground := Ground.phase }, { on := 1, ground := Ground.phase }, { on := 2, ground := Ground.phase }, { on := 3, ground := Ground.phase }, { on := 4, ground := Ground.phase }, { on := 5, ground := Ground.phase }, { on := 6, ground := Ground.phase }, { on := 7, ground := Ground.phase }, { on := 8, ground := Ground.phase }], guard := none }) (v := ?_) rfl (by kernel_rfl) (by kernel_rfl) (by kernel_rfl) (fun _ _ _ h => h) (Or.inl ⟨by rfl, ?_⟩) hHeld ?_
  rotate_left
  · intro w' hSw; (try dsimp only at hSw); go_simp <;> with_reducible rfl
  try simp only [Act.put, List.setIfInBounds_toArray, List.set_cons_zero, List.set_cons_succ]
  refine wpAnyH_done (by kernel_rfl) ?_ _
  refine NoPanic.normal ?_
  go_wp2_with fail
  go_ret
  exact ⟨rfl, (HU.trans hHeld.1.below).below⟩

set_option maxRecDepth 100000 in
set_option maxHeartbeats 4000000 in
theorem walk_B_fit (w : World) (x y : Int) (hx : Fits x) (hy : Fits y) (h0 : y = 0) (hs : Fits (x + y)) (htab : Lib.TabIs Tryd.prog w "internal/strconv.uint64pow10" .u64 Lib.pow10Tab) (hg : 2 < w.heap.size) :
    Calls Tryd.prog 9 #[WV x, WV y] w fun e w' => e = .returned (.bool true) ∧ Below w.heap.size w w' := by
  have D := fun w => divc_any w x y hx hy
  unfold divV at D
  rw [if_pos h0] at D
  have A2 := fun w => add_any w x y hx hy
  have B2 := fun w => sub_any w (x + y) y hs hy
  rw [resV_fit hs] at A2
  rw [show x + y - y = x by omega, resV_fit hx] at B2
  obtain ⟨sh, sl, es⟩ : ∃ hi lo : Int, WV (x + y) = .agg #[.int .i64 hi, .int .u64 lo] := ⟨_, _, rfl⟩
  obtain ⟨ah, al, e1⟩ : ∃ hi lo : Int, WV x = .agg #[.int .i64 hi, .int .u64 lo] := ⟨_, _, rfl⟩
  have e2 : WV y = .agg #[.int .i64 0, .int .u64 0] := by rw [h0]; kernel_rfl
  rw [e1, e2] at D
  rw [e1, e2, es] at A2
  rw [es, e2, e1] at B2
  rw [e1, e2]
  have D := hid D
  have A2 := hid A2
  have B2 := hid B2
  have HT := hid htab
  clear htab e1 e2 hx hy hs h0 es
  have R_a := (Row.new w 24 #[.int .i64 ah, .int .u64 al]).alloc (.cells #[.int .i64 0, .int .u64 0] 24)
  have R_b := Row.new (w.alloc (.cells #[.int .i64 ah, .int .u64 al] 24)) 24 #[.int .i64 0, .int .u64 0]
  have HU := ((Up.refl w).alloc (.cells #[.int .i64 ah, .int .u64 al] 24)).alloc (.cells #[.int .i64 0, .int .u64 0] 24)
  simp only [alloc_size] at R_b
  go_enter Tryd.func9, Tryd.ntmps9
  go_wp2_with fail
  refine (known_any _ (tab_below HT.out HU.below hg) (by have := HU.size; omega)).mono ?_; rintro e w1 ⟨rfl, hb_w1⟩
  have z_w1 := hb_w1.size
  try simp only [alloc_size, setCell_size] at z_w1
  replace R_a := R_a.mod (Mod.of_below hb_w1 Nil) (fun hf => hf)
  replace R_b := R_b.mod (Mod.of_below hb_w1 Nil) (fun hf => hf)
  replace HU := HU.trans hb_w1
  clear hb_w1
  have c1_0 := R_a.cell 0
  have c1_1 := R_a.cell 1
  have c2_0 := R_b.cell 0
  have c2_1 := R_b.cell 1
  simp at c1_0 c1_1 c2_0 c2_1
  go_wp2_with fail
  clear c1_0 c1_1 c2_0 c2_1
  refine Calls.mono (D.out _) ?_; rintro e w2 ⟨rfl, hb_w2⟩
  have z_w2 := hb_w2.size
  try simp only [alloc_size, setCell_size] at z_w2
  replace R_a := R_a.mod (Mod.of_below hb_w2 Nil) (fun hf => hf)
  replace R_b := R_b.mod (Mod.of_below hb_w2 Nil) (fun hf => hf)
  replace HU := HU.trans hb_w2
  clear hb_w2
  have R_q := Row.new (w2) 24 #[.int .i64 0, .int .u64 0]
  replace R_a := R_a.alloc (.cells #[.int .i64 0, .int .u64 0] 24)
  replace R_b := R_b.alloc (.cells #[.int .i64 0, .int .u64 0] 24)
  replace HU := HU.alloc (.cells #[.int .i64 0, .int .u64 0] 24)
  have R_r := Row.new ((w2).alloc (.cells #[.int .i64 0, .int .u64 0] 24)) 24 #[.int .i64 0, .int .u64 0]
  have hz : ((w2).alloc (.cells #[.int .i64 0, .int .u64 0] 24)).heap.size = w2.heap.size + 1 := by simp only [alloc_size, setCell_size]
  rw [hz] at R_r
  clear hz
  replace R_a := R_a.alloc (.cells #[.int .i64 0, .int .u64 0] 24)
  replace R_b := R_b.alloc (.cells #[.int .i64 0, .int .u64 0] 24)
  replace R_q := R_q.alloc (.cells #[.int .i64 0, .int .u64 0] 24)
  replace HU := HU.alloc (.cells #[.int .i64 0, .int .u64 0] 24)
  have c3_0 := R_a.cell 0
  have c3_1 := R_a.cell 1
  have c4_0 := R_b.cell 0
  have c4_1 := R_b.cell 1
  simp at c3_0 c3_1 c4_0 c4_1
  go_wp2_with fail
  clear c3_0 c3_1 c4_0 c4_1
  refine Calls.mono (A2.out _) ?_; rintro e w5 ⟨rfl, hb_w5⟩
  have z_w5 := hb_w5.size
  try simp only [alloc_size, setCell_size] at z_w5
  replace R_a := R_a.mod (Mod.of_below hb_w5 Nil) (fun hf => hf)
  replace R_b := R_b.mod (Mod.of_below hb_w5 Nil) (fun hf => hf)
  replace R_q := R_q.mod (Mod.of_below hb_w5 Nil) (fun hf => hf)
  replace R_r := R_r.mod (Mod.of_below hb_w5 Nil) (fun hf => hf)
  replace HU := HU.trans hb_w5
  clear hb_w5
  have R_s := Row.new (w5) 24 #[.int .i64 sh, .int .u64 sl]
  replace R_a := R_a.alloc (.cells #[.int .i64 sh, .int .u64 sl] 24)
  replace R_b := R_b.alloc (.cells #[.int .i64 sh, .int .u64 sl] 24)
  replace R_q := R_q.alloc (.cells #[.int .i64 sh, .int .u64 sl] 24)
  replace R_r := R_r.alloc (.cells #[.int .i64 sh, .int .u64 sl] 24)
  replace HU := HU.alloc (.cells #[.int .i64 sh, .int .u64 sl] 24)
  have c5_0 := R_s.cell 0
  have c5_1 := R_s.cell 1
  have c6_0 := R_b.cell 0
  have c6_1 := R_b.cell 1
  simp at c5_0 c5_1 c6_0 c6_1
  go_wp2_with fail
  clear c5_0 c5_1 c6_0 c6_1
  refine Calls.mono (B2.out _) ?_; rintro e w6 ⟨rfl, hb_w6⟩
  have z_w6 := hb_w6.size
  try simp only [alloc_size, setCell_size] at z_w6
  replace R_a := R_a.mod (Mod.of_below hb_w6 Nil) (fun hf => hf)
  replace R_b := R_b.mod (Mod.of_below hb_w6 Nil) (fun hf => hf)
  replace R_q := R_q.mod (Mod.of_below hb_w6 Nil) (fun hf => hf)
  replace R_r := R_r.mod (Mod.of_below hb_w6 Nil) (fun hf => hf)
  replace R_s := R_s.mod (Mod.of_below hb_w6 Nil) (fun hf => hf)
  replace HU := HU.trans hb_w6
  clear hb_w6
  have R_t := Row.new (w6) 24 #[.int .i64 ah, .int .u64 al]
  replace R_a := R_a.alloc (.cells #[.int .i64 ah, .int .u64 al] 24)
  replace R_b := R_b.alloc (.cells #[.int .i64 ah, .int .u64 al] 24)
  replace R_q := R_q.alloc (.cells #[.int .i64 ah, .int .u64 al] 24)
  replace R_r := R_r.alloc (.cells #[.int .i64 ah, .int .u64 al] 24)
  replace R_s := R_s.alloc (.cells #[.int .i64 ah, .int .u64 al] 24)
  replace HU := HU.alloc (.cells #[.int .i64 ah, .int .u64 al] 24)
  have c7_0 := R_a.cell 0
  have c7_1 := R_a.cell 1
  simp at c7_0 c7_1
  go_wp2_with fail
  clear c7_0 c7_1
  go_ret
  exact ⟨rfl, HU.below⟩

set_option maxRecDepth 100000 in
set_option maxHeartbeats 4000000 in
theorem walk_B_over (w : World) (x y : Int) (hx : Fits x) (hy : Fits y) (h0 : y = 0) (hs : ¬ Fits (x + y)) (htab : Lib.TabIs Tryd.prog w "internal/strconv.uint64pow10" .u64 Lib.pow10Tab) (hg : 2 < w.heap.size) :
    Calls Tryd.prog 9 #[WV x, WV y] w fun e w' => e = .returned (.bool true) ∧ Below w.heap.size w w' := by
  have D := fun w => divc_any w x y hx hy
  unfold divV at D
  rw [if_pos h0] at D
  have A2 := fun w => add_any w x y hx hy
  have TX := fun w => sign_any w x hx
  have TY := fun w => sign_any w y hy
  rw [← over_sign hx hy hs] at TY
  obtain ⟨d, hd⟩ : ∃ d, d = cmp3 x 0 := ⟨_, rfl⟩
  rw [← hd] at TX TY
  rw [resV_over hs] at A2
  have e0 : WV 0 = .agg #[.int .i64 0, .int .u64 0] := by kernel_rfl
  rw [e0] at A2
  obtain ⟨ah, al, e1⟩ : ∃ hi lo : Int, WV x = .agg #[.int .i64 hi, .int .u64 lo] := ⟨_, _, rfl⟩
  have e2 : WV y = .agg #[.int .i64 0, .int .u64 0] := by rw [h0]; kernel_rfl
  rw [e1, e2] at D
  rw [e1, e2] at A2
  rw [e1] at TX
  rw [e2] at TY
  rw [e1, e2]
  have D := hid D
  have A2 := hid A2
  have TX := hid TX
  have TY := hid TY
  have HT := hid htab
  clear htab e1 e2 hx hy hs h0 e0 hd
  have R_a := (Row.new w 24 #[.int .i64 ah, .int .u64 al]).alloc (.cells #[.int .i64 0, .int .u64 0] 24)
  have R_b := Row.new (w.alloc (.cells #[.int .i64 ah, .int .u64 al] 24)) 24 #[.int .i64 0, .int .u64 0]
  have HU := ((Up.refl w).alloc (.cells #[.int .i64 ah, .int .u64 al] 24)).alloc (.cells #[.int .i64 0, .int .u64 0] 24)
  simp only [alloc_size] at R_b
  go_enter Tryd.func9, Tryd.ntmps9
  go_wp2_with fail
  refine (known_any _ (tab_below HT.out HU.below hg) (by have := HU.size; omega)).mono ?_; rintro e w1 ⟨rfl, hb_w1⟩
  have z_w1 := hb_w1.size
  try simp only [alloc_size, setCell_size] at z_w1
  replace R_a := R_a.mod (Mod.of_below hb_w1 Nil) (fun hf => hf)
  replace R_b := R_b.mod (Mod.of_below hb_w1 Nil) (fun hf => hf)
  replace HU := HU.trans hb_w1
  clear hb_w1
  have c1_0 := R_a.cell 0
  have c1_1 := R_a.cell 1
  have c2_0 := R_b.cell 0
  have c2_1 := R_b.cell 1
  simp at c1_0 c1_1 c2_0 c2_1
  go_wp2_with fail
  clear c1_0 c1_1 c2_0 c2_1
  refine Calls.mono (D.out _) ?_; rintro e w2 ⟨rfl, hb_w2⟩
  have z_w2 := hb_w2.size
  try simp only [alloc_size, setCell_size] at z_w2
  replace R_a := R_a.mod (Mod.of_below hb_w2 Nil) (fun hf => hf)
  replace R_b := R_b.mod (Mod.of_below hb_w2 Nil) (fun hf => hf)
  replace HU := HU.trans hb_w2
  clear hb_w2
  have R_q := Row.new (w2) 24 #[.int .i64 0, .int .u64 0]
  replace R_a := R_a.alloc (.cells #[.int .i64 0, .int .u64 0] 24)
  replace R_b := R_b.alloc (.cells #[.int .i64 0, .int .u64 0] 24)
  replace HU := HU.alloc (.cells #[.int .i64 0, .int .u64 0] 24)
  have R_r := Row.new ((w2).alloc (.cells #[.int .i64 0, .int .u64 0] 24)) 24 #[.int .i64 0, .int .u64 0]
  have hz : ((w2).alloc (.cells #[.int .i64 0, .int .u64 0] 24)).heap.size = w2.heap.size + 1 := by simp only [alloc_size, setCell_size]
  rw [hz] at R_r
  clear hz
  replace R_a := R_a.alloc (.cells #[.int .i64 0, .int .u64 0] 24)
  replace R_b := R_b.alloc (.cells #[.int .i64 0, .int .u64 0] 24)
  replace R_q := R_q.alloc (.cells #[.int .i64 0, .int .u64 0] 24)
  replace HU := HU.alloc (.cells #[.int .i64 0, .int .u64 0] 24)
  have c3_0 := R_a.cell 0
  have c3_1 := R_a.cell 1
  have c4_0 := R_b.cell 0
  have c4_1 := R_b.cell 1
  simp at c3_0 c3_1 c4_0 c4_1
  go_wp2_with fail
  clear c3_0 c3_1 c4_0 c4_1
  refine Calls.mono (A2.out _) ?_; rintro e w5 ⟨rfl, hb_w5⟩
  have z_w5 := hb_w5.size
  try simp only [alloc_size, setCell_size] at z_w5
  replace R_a := R_a.mod (Mod.of_below hb_w5 Nil) (fun hf => hf)
  replace R_b := R_b.mod (Mod.of_below hb_w5 Nil) (fun hf => hf)
  replace R_q := R_q.mod (Mod.of_below hb_w5 Nil) (fun hf => hf)
  replace R_r := R_r.mod (Mod.of_below hb_w5 Nil) (fun hf => hf)
  replace HU := HU.trans hb_w5
  clear hb_w5
  have R_s := Row.new (w5) 24 #[.int .i64 0, .int .u64 0]
  replace R_a := R_a.alloc (.cells #[.int .i64 0, .int .u64 0] 24)
  replace R_b := R_b.alloc (.cells #[.int .i64 0, .int .u64 0] 24)
  replace R_q := R_q.alloc (.cells #[.int .i64 0, .int .u64 0] 24)
  replace R_r := R_r.alloc (.cells #[.int .i64 0, .int .u64 0] 24)
  replace HU := HU.alloc (.cells #[.int .i64 0, .int .u64 0] 24)
  go_wp2_with fail
  obtain ⟨V9, h_V9⟩ : ∃ V9, V9 = (w5).alloc (.cells #[.int .i64 0, .int .u64 0] 24) := ⟨_, rfl⟩
  rw [← h_V9]
  rw [← h_V9] at R_a R_b R_q R_r R_s HU
  have z_V9 : V9.heap.size = _ := congrArg (fun a => a.heap.size) h_V9
  try simp only [alloc_size, setCell_size] at z_V9
  clear h_V9
  have MK : ∀ W, Up V9.heap.size V9 W → Up V9.heap.size V9 W ∧ W.cell? ⟨w.heap.size, 0, none⟩ = some (.int .i64 ah) ∧ W.cell? ⟨w.heap.size, 1, none⟩ = some (.int .u64 al) ∧ W.cell? ⟨w.heap.size + 1, 0, none⟩ = some (.int .i64 0) ∧ W.cell? ⟨w.heap.size + 1, 1, none⟩ = some (.int .u64 0) := fun W hW => by
    have k_a := R_a.below hW.below R_a.lt
    have k_b := R_b.below hW.below R_b.lt
    exact ⟨hW, by simpa using k_a.cell 0, by simpa using k_a.cell 1, by simpa using k_b.cell 0, by simpa using k_b.cell 1⟩
  have MK := hid MK
  refine wp_region_noPanic ?_
  refine wp_region_held_drew (S := fun W => Up V9.heap.size V9 W ∧ W.cell? ⟨w.heap.size, 0, none⟩ = some (.int .i64 ah) ∧ W.cell? ⟨w.heap.size, 1, none⟩ = some (.int .u64 al) ∧ W.cell? ⟨w.heap.size + 1, 0, none⟩ = some (.int .i64 0) ∧ W.cell? ⟨w.heap.size + 1, 1, none⟩ = some (.int .u64 0)) (by kernel_rfl) (MK.out _ (Up.refl V9).drew) (fun hHeld => ?_)
  refine wpAnyH_take (i := 0) (oi := { dst := some 85, op := Op.move (Operand.tmp 13), type := 25, pos := "law.go:121", after := #[], guard := none }) (v := ?_) rfl (by kernel_rfl) (by kernel_rfl) (by kernel_rfl) (fun _ _ _ h => h) (Or.inl ⟨by rfl, ?_⟩) hHeld ?_
  rotate_left
  · intro w' hSw; (try dsimp only at hSw); go_simp <;> with_reducible rfl
  try simp only [Act.put, List.setIfInBounds_toArray, List.set_cons_zero, List.set_cons_succ]
  refine wpAnyH_take (i := 1) (oi := { dst := some 86, op := Op.binOp BinOp.eql 25 (Operand.tmp 85) (Operand.const (Value.int IntKind.i64 20)) 25, type := 4, pos := "law.go:121", after := #[{ on := 0, ground := Ground.data }], guard := none }) (v := ?_) rfl (by kernel_rfl) (by kernel_rfl) (by kernel_rfl) (fun _ _ _ h => h) (Or.inl ⟨by rfl, ?_⟩) hHeld ?_
  rotate_left
  · intro w' hSw; (try dsimp only at hSw); go_simp <;> with_reducible rfl
  try simp only [Act.put, List.setIfInBounds_toArray, List.set_cons_zero, List.set_cons_succ]
  refine wpAnyH_take (i := 2) (oi := { dst := some 87, op := Op.move (Operand.tmp 86), type := 4, pos := "law.go:121", after := #[{ on := 1, ground := Ground.data }], guard := none }) (v := ?_) rfl (by kernel_rfl) (by kernel_rfl) (by kernel_rfl) (fun _ _ _ h => h) (Or.inl ⟨by rfl, ?_⟩) hHeld ?_
  rotate_left
  · intro w' hSw; (try dsimp only at hSw); go_simp <;> with_reducible rfl
  try simp only [Act.put, List.setIfInBounds_toArray, List.set_cons_zero, List.set_cons_succ]
  refine wpAnyH_take (i := 3) (oi := { dst := some 88, op := Op.load 24 (Operand.tmp 2), type := 24, pos := "law.go:121", after := #[{ on := 2, ground := Ground.guard }], guard := some (2, true) }) (v := ?_) rfl (by kernel_rfl) (by kernel_rfl) (by kernel_rfl) (fun _ _ _ h => h) (Or.inl ⟨by rfl, ?_⟩) hHeld ?_
  rotate_left
  · intro w' hSw; (try dsimp only at hSw); go_simp <;> with_reducible rfl
  try simp only [Act.put, List.setIfInBounds_toArray, List.set_cons_zero, List.set_cons_succ]
  refine wpAnyH_take (i := 5) (oi := { dst := some 90, op := Op.load 24 (Operand.tmp 3), type := 24, pos := "law.go:121", after := #[{ on := 2, ground := Ground.guard }], guard := some (2, true) }) (v := ?_) rfl (by kernel_rfl) (by kernel_rfl) (by kernel_rfl) (fun _ _ _ h => h) (Or.inl ⟨by rfl, ?_⟩) hHeld ?_
  rotate_left
  · intro w' hSw; (try dsimp only at hSw); go_simp <;> with_reducible rfl
  try simp only [Act.put, List.setIfInBounds_toArray, List.set_cons_zero, List.set_cons_succ]
  refine wpAnyH_ready (rs := [4]) (by kernel_rfl) (by simp) ?_
  refine AllReadyH.cons (o := { dst := some 89, op := Op.call { callee := Callee.value (Operand.func 29), args := #[Operand.tmp 88], argTypes := #[24] }, type := 3, pos := "law.go:121", after := #[{ on := 3, ground := Ground.data }, { on := 2, ground := Ground.chain }, { on := 2, ground := Ground.guard }], guard := some (2, true) }) rfl (fun K hK => ?_) AllReadyH.nil
  go_simp
  refine Calls.mono (TX.out _) ?_; rintro e v9 ⟨rfl, hbk⟩
  refine hK.out _ _ (MK.out _ (hHeld.1.trans hbk)) (fun hHeld => ?_)
  clear hK K
  try simp only [Act.put, List.setIfInBounds_toArray, List.set_cons_zero, List.set_cons_succ]
  refine wpAnyH_ready (rs := [6]) (by kernel_rfl) (by simp) ?_
  refine AllReadyH.cons (o := { dst := some 91, op := Op.call { callee := Callee.value (Operand.func 29), args := #[Operand.tmp 90], argTypes := #[24] }, type := 3, pos := "law.go:121", after := #[{ on := 5, ground := Ground.data }, { on := 4, ground := Ground.chain }, { on := 2, ground := Ground.guard }], guard := some (2, true) }) rfl (fun K hK => ?_) AllReadyH.nil
  go_simp
  refine Calls.mono (TY.out _) ?_; rintro e v9 ⟨rfl, hbk⟩
  refine hK.out _ _ (MK.out _ (hHeld.1.trans hbk)) (fun hHeld => ?_)
  clear hK K
  try simp only [Act.put, List.setIfInBounds_toArray, List.set_cons_zero, List.set_cons_succ]
  refine wpAnyH_take (i := 7) (oi := { dst := some 92, op := Op.binOp BinOp.eql 3 (Operand.tmp 89) (Operand.tmp 91) 3, type := 4, pos := "law.go:121", after := #[{ on := 4, ground := Ground.data }, { on := 6, ground := Ground.data }, { on := 2, ground := Ground.guard }], guard := some (2, true) }) (v := ?_) rfl (by kernel_rfl) (by kernel_rfl) (by kernel_rfl) (fun _ _ _ h => h) (Or.inl ⟨by rfl, ?_⟩) hHeld ?_
  rotate_left
  · intro w' hSw; (try dsimp only at hSw); go_simp <;> with_reducible rfl
  try simp only [Act.put, List.setIfInBounds_toArray, List.set_cons_zero, List.set_cons_succ]
  refine wpAnyH_take (i := 8) (oi := { dst := some 93, op := Op.pick (Operand.tmp 87) (Operand.tmp 92) (Operand.const (Value.bool false)), type := 4, pos := "law.go:121", after := #[{ on := 2, ground := Ground.data }, { on := 7, ground := Ground.data }], guard := none }) (v := ?_) rfl (by kernel_rfl) (by kernel_rfl) (by kernel_rfl) (fun _ _ _ h => h) (Or.inl ⟨by rfl, ?_⟩) hHeld ?_
  rotate_left
  · intro w' hSw; (try dsimp only at hSw); go_simp <;> with_reducible rfl
  try simp only [Act.put, List.setIfInBounds_toArray, List.set_cons_zero, List.set_cons_succ]
  refine wpAnyH_take (i := 9) (oi := { dst := some 4, op := Op.assign (Operand.tmp 93), type := 4, pos := "law.go:121", after := #[{ on := 8, ground := Ground.data }, { on := 6, ground := Ground.chain }, { on := 0, ground := Ground.phase }, { on := 1, ground := Ground.phase }, { on := 2, ground := Ground.phase }, { on := 3, ground := Ground.phase }, { on := 4, ground := Ground.phase }, { on := 5, ground := Ground.phase }, { on := 6, ground := Ground.phase }, { on := 7, ground := Ground.phase }, { on := 8, ground := Ground.phase }], guard := none }) (v := ?_) rfl (by kernel_rfl) (by kernel_rfl) (by kernel_rfl) (fun _ _ _ h => h) (Or.inl ⟨by rfl, ?_⟩) hHeld ?_
  rotate_left
  · intro w' hSw; (try dsimp only at hSw); go_simp <;> with_reducible rfl
  try simp only [Act.put, List.setIfInBounds_toArray, List.set_cons_zero, List.set_cons_succ]
  refine wpAnyH_done (by kernel_rfl) ?_ _
  refine NoPanic.normal ?_
  go_wp2_with fail
  go_ret
  exact ⟨rfl, (HU.trans hHeld.1.below).below⟩

set_option maxRecDepth 100000 in
set_option maxHeartbeats 4000000 in
theorem walk_C_fit (w : World) (x y : Int) (hx : Fits x) (hy : Fits y) (h0 : y ≠ 0) (hf : ¬ Fits (dq x y)) (hs : Fits (x + y)) (htab : Lib.TabIs Tryd.prog w "internal/strconv.uint64pow10" .u64 Lib.pow10Tab) (hg : 2 < w.heap.size) :
    Calls Tryd.prog 9 #[WV x, WV y] w fun e w' => e = .returned (.bool true) ∧ Below w.heap.size w w' := by
  have D := fun w => divc_any w x y hx hy
  unfold divV at D
  rw [if_neg h0, if_neg hf] at D
  have A2 := fun w => add_any w x y hx hy
  have B2 := fun w => sub_any w (x + y) y hs hy
  rw [resV_fit hs] at A2
  rw [show x + y - y = x by omega, resV_fit hx] at B2
  obtain ⟨sh, sl, es⟩ : ∃ hi lo : Int, WV (x + y) = .agg #[.int .i64 hi, .int .u64 lo] := ⟨_, _, rfl⟩
  obtain ⟨ah, al, e1⟩ : ∃ hi lo : Int, WV x = .agg #[.int .i64 hi, .int .u64 lo] := ⟨_, _, rfl⟩
  obtain ⟨bh, bl, e2⟩ : ∃ hi lo : Int, WV y = .agg #[.int .i64 hi, .int .u64 lo] := ⟨_, _, rfl⟩
  rw [e1, e2] at D
  rw [e1, e2, es] at A2
  rw [es, e2, e1] at B2
  rw [e1, e2]
  have D := hid D
  have A2 := hid A2
  have B2 := hid B2
  have HT := hid htab
  clear htab e1 e2 hx hy hs h0 hf es
  have R_a := (Row.new w 24 #[.int .i64 ah, .int .u64 al]).alloc (.cells #[.int .i64 bh, .int .u64 bl] 24)
  have R_b := Row.new (w.alloc (.cells #[.int .i64 ah, .int .u64 al] 24)) 24 #[.int .i64 bh, .int .u64 bl]
  have HU := ((Up.refl w).alloc (.cells #[.int .i64 ah, .int .u64 al] 24)).alloc (.cells #[.int .i64 bh, .int .u64 bl] 24)
  simp only [alloc_size] at R_b
  go_enter Tryd.func9, Tryd.ntmps9
  go_wp2_with fail
  refine (known_any _ (tab_below HT.out HU.below hg) (by have := HU.size; omega)).mono ?_; rintro e w1 ⟨rfl, hb_w1⟩
  have z_w1 := hb_w1.size
  try simp only [alloc_size, setCell_size] at z_w1
  replace R_a := R_a.mod (Mod.of_below hb_w1 Nil) (fun hf => hf)
  replace R_b := R_b.mod (Mod.of_below hb_w1 Nil) (fun hf => hf)
  replace HU := HU.trans hb_w1
  clear hb_w1
  have c1_0 := R_a.cell 0
  have c1_1 := R_a.cell 1
  have c2_0 := R_b.cell 0
  have c2_1 := R_b.cell 1
  simp at c1_0 c1_1 c2_0 c2_1
  go_wp2_with fail
  clear c1_0 c1_1 c2_0 c2_1
  refine Calls.mono (D.out _) ?_; rintro e w2 ⟨rfl, hb_w2⟩
  have z_w2 := hb_w2.size
  try simp only [alloc_size, setCell_size] at z_w2
  replace R_a := R_a.mod (Mod.of_below hb_w2 Nil) (fun hf => hf)
  replace R_b := R_b.mod (Mod.of_below hb_w2 Nil) (fun hf => hf)
  replace HU := HU.trans hb_w2
  clear hb_w2
  have R_q := Row.new (w2) 24 #[.int .i64 0, .int .u64 0]
  replace R_a := R_a.alloc (.cells #[.int .i64 0, .int .u64 0] 24)
  replace R_b := R_b.alloc (.cells #[.int .i64 0, .int .u64 0] 24)
  replace HU := HU.alloc (.cells #[.int .i64 0, .int .u64 0] 24)
  have R_r := Row.new ((w2).alloc (.cells #[.int .i64 0, .int .u64 0] 24)) 24 #[.int .i64 0, .int .u64 0]
  have hz : ((w2).alloc (.cells #[.int .i64 0, .int .u64 0] 24)).heap.size = w2.heap.size + 1 := by simp only [alloc_size, setCell_size]
  rw [hz] at R_r
  clear hz
  replace R_a := R_a.alloc (.cells #[.int .i64 0, .int .u64 0] 24)
  replace R_b := R_b.alloc (.cells #[.int .i64 0, .int .u64 0] 24)
  replace R_q := R_q.alloc (.cells #[.int .i64 0, .int .u64 0] 24)
  replace HU := HU.alloc (.cells #[.int .i64 0, .int .u64 0] 24)
  have c3_0 := R_a.cell 0
  have c3_1 := R_a.cell 1
  have c4_0 := R_b.cell 0
  have c4_1 := R_b.cell 1
  simp at c3_0 c3_1 c4_0 c4_1
  go_wp2_with fail
  clear c3_0 c3_1 c4_0 c4_1
  refine Calls.mono (A2.out _) ?_; rintro e w5 ⟨rfl, hb_w5⟩
  have z_w5 := hb_w5.size
  try simp only [alloc_size, setCell_size] at z_w5
  replace R_a := R_a.mod (Mod.of_below hb_w5 Nil) (fun hf => hf)
  replace R_b := R_b.mod (Mod.of_below hb_w5 Nil) (fun hf => hf)
  replace R_q := R_q.mod (Mod.of_below hb_w5 Nil) (fun hf => hf)
  replace R_r := R_r.mod (Mod.of_below hb_w5 Nil) (fun hf => hf)
  replace HU := HU.trans hb_w5
  clear hb_w5
  have R_s := Row.new (w5) 24 #[.int .i64 sh, .int .u64 sl]
  replace R_a := R_a.alloc (.cells #[.int .i64 sh, .int .u64 sl] 24)
  replace R_b := R_b.alloc (.cells #[.int .i64 sh, .int .u64 sl] 24)
  replace R_q := R_q.alloc (.cells #[.int .i64 sh, .int .u64 sl] 24)
  replace R_r := R_r.alloc (.cells #[.int .i64 sh, .int .u64 sl] 24)
  replace HU := HU.alloc (.cells #[.int .i64 sh, .int .u64 sl] 24)
  have c5_0 := R_s.cell 0
  have c5_1 := R_s.cell 1
  have c6_0 := R_b.cell 0
  have c6_1 := R_b.cell 1
  simp at c5_0 c5_1 c6_0 c6_1
  go_wp2_with fail
  clear c5_0 c5_1 c6_0 c6_1
  refine Calls.mono (B2.out _) ?_; rintro e w6 ⟨rfl, hb_w6⟩
  have z_w6 := hb_w6.size
  try simp only [alloc_size, setCell_size] at z_w6
  replace R_a := R_a.mod (Mod.of_below hb_w6 Nil) (fun hf => hf)
  replace R_b := R_b.mod (Mod.of_below hb_w6 Nil) (fun hf => hf)
  replace R_q := R_q.mod (Mod.of_below hb_w6 Nil) (fun hf => hf)
  replace R_r := R_r.mod (Mod.of_below hb_w6 Nil) (fun hf => hf)
  replace R_s := R_s.mod (Mod.of_below hb_w6 Nil) (fun hf => hf)
  replace HU := HU.trans hb_w6
  clear hb_w6
  have R_t := Row.new (w6) 24 #[.int .i64 ah, .int .u64 al]
  replace R_a := R_a.alloc (.cells #[.int .i64 ah, .int .u64 al] 24)
  replace R_b := R_b.alloc (.cells #[.int .i64 ah, .int .u64 al] 24)
  replace R_q := R_q.alloc (.cells #[.int .i64 ah, .int .u64 al] 24)
  replace R_r := R_r.alloc (.cells #[.int .i64 ah, .int .u64 al] 24)
  replace R_s := R_s.alloc (.cells #[.int .i64 ah, .int .u64 al] 24)
  replace HU := HU.alloc (.cells #[.int .i64 ah, .int .u64 al] 24)
  have c7_0 := R_a.cell 0
  have c7_1 := R_a.cell 1
  simp at c7_0 c7_1
  go_wp2_with fail
  clear c7_0 c7_1
  go_ret
  exact ⟨rfl, HU.below⟩

set_option maxRecDepth 100000 in
set_option maxHeartbeats 4000000 in
theorem walk_C_over (w : World) (x y : Int) (hx : Fits x) (hy : Fits y) (h0 : y ≠ 0) (hf : ¬ Fits (dq x y)) (hs : ¬ Fits (x + y)) (htab : Lib.TabIs Tryd.prog w "internal/strconv.uint64pow10" .u64 Lib.pow10Tab) (hg : 2 < w.heap.size) :
    Calls Tryd.prog 9 #[WV x, WV y] w fun e w' => e = .returned (.bool true) ∧ Below w.heap.size w w' := by
  have D := fun w => divc_any w x y hx hy
  unfold divV at D
  rw [if_neg h0, if_neg hf] at D
  have A2 := fun w => add_any w x y hx hy
  have TX := fun w => sign_any w x hx
  have TY := fun w => sign_any w y hy
  rw [← over_sign hx hy hs] at TY
  obtain ⟨d, hd⟩ : ∃ d, d = cmp3 x 0 := ⟨_, rfl⟩
  rw [← hd] at TX TY
  rw [resV_over hs] at A2
  have e0 : WV 0 = .agg #[.int .i64 0, .int .u64 0] := by kernel_rfl
  rw [e0] at A2
  obtain ⟨ah, al, e1⟩ : ∃ hi lo : Int, WV x = .agg #[.int .i64 hi, .int .u64 lo] := ⟨_, _, rfl⟩
  obtain ⟨bh, bl, e2⟩ : ∃ hi lo : Int, WV y = .agg #[.int .i64 hi, .int .u64 lo] := ⟨_, _, rfl⟩
  rw [e1, e2] at D
  rw [e1, e2] at A2
  rw [e1] at TX
  rw [e2] at TY
  rw [e1, e2]
  have D := hid D
  have A2 := hid A2
  have TX := hid TX
  have TY := hid TY
  have HT := hid htab
  clear htab e1 e2 hx hy hs h0 hf e0 hd
  have R_a := (Row.new w 24 #[.int .i64 ah, .int .u64 al]).alloc (.cells #[.int .i64 bh, .int .u64 bl] 24)
  have R_b := Row.new (w.alloc (.cells #[.int .i64 ah, .int .u64 al] 24)) 24 #[.int .i64 bh, .int .u64 bl]
  have HU := ((Up.refl w).alloc (.cells #[.int .i64 ah, .int .u64 al] 24)).alloc (.cells #[.int .i64 bh, .int .u64 bl] 24)
  simp only [alloc_size] at R_b
  go_enter Tryd.func9, Tryd.ntmps9
  go_wp2_with fail
  refine (known_any _ (tab_below HT.out HU.below hg) (by have := HU.size; omega)).mono ?_; rintro e w1 ⟨rfl, hb_w1⟩
  have z_w1 := hb_w1.size
  try simp only [alloc_size, setCell_size] at z_w1
  replace R_a := R_a.mod (Mod.of_below hb_w1 Nil) (fun hf => hf)
  replace R_b := R_b.mod (Mod.of_below hb_w1 Nil) (fun hf => hf)
  replace HU := HU.trans hb_w1
  clear hb_w1
  have c1_0 := R_a.cell 0
  have c1_1 := R_a.cell 1
  have c2_0 := R_b.cell 0
  have c2_1 := R_b.cell 1
  simp at c1_0 c1_1 c2_0 c2_1
  go_wp2_with fail
  clear c1_0 c1_1 c2_0 c2_1
  refine Calls.mono (D.out _) ?_; rintro e w2 ⟨rfl, hb_w2⟩
  have z_w2 := hb_w2.size
  try simp only [alloc_size, setCell_size] at z_w2
  replace R_a := R_a.mod (Mod.of_below hb_w2 Nil) (fun hf => hf)
  replace R_b := R_b.mod (Mod.of_below hb_w2 Nil) (fun hf => hf)
  replace HU := HU.trans hb_w2
  clear hb_w2
  have R_q := Row.new (w2) 24 #[.int .i64 0, .int .u64 0]
  replace R_a := R_a.alloc (.cells #[.int .i64 0, .int .u64 0] 24)
  replace R_b := R_b.alloc (.cells #[.int .i64 0, .int .u64 0] 24)
  replace HU := HU.alloc (.cells #[.int .i64 0, .int .u64 0] 24)
  have R_r := Row.new ((w2).alloc (.cells #[.int .i64 0, .int .u64 0] 24)) 24 #[.int .i64 0, .int .u64 0]
  have hz : ((w2).alloc (.cells #[.int .i64 0, .int .u64 0] 24)).heap.size = w2.heap.size + 1 := by simp only [alloc_size, setCell_size]
  rw [hz] at R_r
  clear hz
  replace R_a := R_a.alloc (.cells #[.int .i64 0, .int .u64 0] 24)
  replace R_b := R_b.alloc (.cells #[.int .i64 0, .int .u64 0] 24)
  replace R_q := R_q.alloc (.cells #[.int .i64 0, .int .u64 0] 24)
  replace HU := HU.alloc (.cells #[.int .i64 0, .int .u64 0] 24)
  have c3_0 := R_a.cell 0
  have c3_1 := R_a.cell 1
  have c4_0 := R_b.cell 0
  have c4_1 := R_b.cell 1
  simp at c3_0 c3_1 c4_0 c4_1
  go_wp2_with fail
  clear c3_0 c3_1 c4_0 c4_1
  refine Calls.mono (A2.out _) ?_; rintro e w5 ⟨rfl, hb_w5⟩
  have z_w5 := hb_w5.size
  try simp only [alloc_size, setCell_size] at z_w5
  replace R_a := R_a.mod (Mod.of_below hb_w5 Nil) (fun hf => hf)
  replace R_b := R_b.mod (Mod.of_below hb_w5 Nil) (fun hf => hf)
  replace R_q := R_q.mod (Mod.of_below hb_w5 Nil) (fun hf => hf)
  replace R_r := R_r.mod (Mod.of_below hb_w5 Nil) (fun hf => hf)
  replace HU := HU.trans hb_w5
  clear hb_w5
  have R_s := Row.new (w5) 24 #[.int .i64 0, .int .u64 0]
  replace R_a := R_a.alloc (.cells #[.int .i64 0, .int .u64 0] 24)
  replace R_b := R_b.alloc (.cells #[.int .i64 0, .int .u64 0] 24)
  replace R_q := R_q.alloc (.cells #[.int .i64 0, .int .u64 0] 24)
  replace R_r := R_r.alloc (.cells #[.int .i64 0, .int .u64 0] 24)
  replace HU := HU.alloc (.cells #[.int .i64 0, .int .u64 0] 24)
  go_wp2_with fail
  obtain ⟨V9, h_V9⟩ : ∃ V9, V9 = (w5).alloc (.cells #[.int .i64 0, .int .u64 0] 24) := ⟨_, rfl⟩
  rw [← h_V9]
  rw [← h_V9] at R_a R_b R_q R_r R_s HU
  have z_V9 : V9.heap.size = _ := congrArg (fun a => a.heap.size) h_V9
  try simp only [alloc_size, setCell_size] at z_V9
  clear h_V9
  have MK : ∀ W, Up V9.heap.size V9 W → Up V9.heap.size V9 W ∧ W.cell? ⟨w.heap.size, 0, none⟩ = some (.int .i64 ah) ∧ W.cell? ⟨w.heap.size, 1, none⟩ = some (.int .u64 al) ∧ W.cell? ⟨w.heap.size + 1, 0, none⟩ = some (.int .i64 bh) ∧ W.cell? ⟨w.heap.size + 1, 1, none⟩ = some (.int .u64 bl) := fun W hW => by
    have k_a := R_a.below hW.below R_a.lt
    have k_b := R_b.below hW.below R_b.lt
    exact ⟨hW, by simpa using k_a.cell 0, by simpa using k_a.cell 1, by simpa using k_b.cell 0, by simpa using k_b.cell 1⟩
  have MK := hid MK
  refine wp_region_noPanic ?_
  refine wp_region_held_drew (S := fun W => Up V9.heap.size V9 W ∧ W.cell? ⟨w.heap.size, 0, none⟩ = some (.int .i64 ah) ∧ W.cell? ⟨w.heap.size, 1, none⟩ = some (.int .u64 al) ∧ W.cell? ⟨w.heap.size + 1, 0, none⟩ = some (.int .i64 bh) ∧ W.cell? ⟨w.heap.size + 1, 1, none⟩ = some (.int .u64 bl)) (by kernel_rfl) (MK.out _ (Up.refl V9).drew) (fun hHeld => ?_)
  refine wpAnyH_take (i := 0) (oi := { dst := some 85, op := Op.move (Operand.tmp 13), type := 25, pos := "law.go:121", after := #[], guard := none }) (v := ?_) rfl (by kernel_rfl) (by kernel_rfl) (by kernel_rfl) (fun _ _ _ h => h) (Or.inl ⟨by rfl, ?_⟩) hHeld ?_
  rotate_left
  · intro w' hSw; (try dsimp only at hSw); go_simp <;> with_reducible rfl
  try simp only [Act.put, List.setIfInBounds_toArray, List.set_cons_zero, List.set_cons_succ]
  refine wpAnyH_take (i := 1) (oi := { dst := some 86, op := Op.binOp BinOp.eql 25 (Operand.tmp 85) (Operand.const (Value.int IntKind.i64 20)) 25, type := 4, pos := "law.go:121", after := #[{ on := 0, ground := Ground.data }], guard := none }) (v := ?_) rfl (by kernel_rfl) (by kernel_rfl) (by kernel_rfl) (fun _ _ _ h => h) (Or.inl ⟨by rfl, ?_⟩) hHeld ?_
  rotate_left
  · intro w' hSw; (try dsimp only at hSw); go_simp <;> with_reducible rfl
  try simp only [Act.put, List.setIfInBounds_toArray, List.set_cons_zero, List.set_cons_succ]
  refine wpAnyH_take (i := 2) (oi := { dst := some 87, op := Op.move (Operand.tmp 86), type := 4, pos := "law.go:121", after := #[{ on := 1, ground := Ground.data }], guard := none }) (v := ?_) rfl (by kernel_rfl) (by kernel_rfl) (by kernel_rfl) (fun _ _ _ h => h) (Or.inl ⟨by rfl, ?_⟩) hHeld ?_
  rotate_left
  · intro w' hSw; (try dsimp only at hSw); go_simp <;> with_reducible rfl
  try simp only [Act.put, List.setIfInBounds_toArray, List.set_cons_zero, List.set_cons_succ]
  refine wpAnyH_take (i := 3) (oi := { dst := some 88, op := Op.load 24 (Operand.tmp 2), type := 24, pos := "law.go:121", after := #[{ on := 2, ground := Ground.guard }], guard := some (2, true) }) (v := ?_) rfl (by kernel_rfl) (by kernel_rfl) (by kernel_rfl) (fun _ _ _ h => h) (Or.inl ⟨by rfl, ?_⟩) hHeld ?_
  rotate_left
  · intro w' hSw; (try dsimp only at hSw); go_simp <;> with_reducible rfl
  try simp only [Act.put, List.setIfInBounds_toArray, List.set_cons_zero, List.set_cons_succ]
  refine wpAnyH_take (i := 5) (oi := { dst := some 90, op := Op.load 24 (Operand.tmp 3), type := 24, pos := "law.go:121", after := #[{ on := 2, ground := Ground.guard }], guard := some (2, true) }) (v := ?_) rfl (by kernel_rfl) (by kernel_rfl) (by kernel_rfl) (fun _ _ _ h => h) (Or.inl ⟨by rfl, ?_⟩) hHeld ?_
  rotate_left
  · intro w' hSw; (try dsimp only at hSw); go_simp <;> with_reducible rfl
  try simp only [Act.put, List.setIfInBounds_toArray, List.set_cons_zero, List.set_cons_succ]
  refine wpAnyH_ready (rs := [4]) (by kernel_rfl) (by simp) ?_
  refine AllReadyH.cons (o := { dst := some 89, op := Op.call { callee := Callee.value (Operand.func 29), args := #[Operand.tmp 88], argTypes := #[24] }, type := 3, pos := "law.go:121", after := #[{ on := 3, ground := Ground.data }, { on := 2, ground := Ground.chain }, { on := 2, ground := Ground.guard }], guard := some (2, true) }) rfl (fun K hK => ?_) AllReadyH.nil
  go_simp
  refine Calls.mono (TX.out _) ?_; rintro e v9 ⟨rfl, hbk⟩
  refine hK.out _ _ (MK.out _ (hHeld.1.trans hbk)) (fun hHeld => ?_)
  clear hK K
  try simp only [Act.put, List.setIfInBounds_toArray, List.set_cons_zero, List.set_cons_succ]
  refine wpAnyH_ready (rs := [6]) (by kernel_rfl) (by simp) ?_
  refine AllReadyH.cons (o := { dst := some 91, op := Op.call { callee := Callee.value (Operand.func 29), args := #[Operand.tmp 90], argTypes := #[24] }, type := 3, pos := "law.go:121", after := #[{ on := 5, ground := Ground.data }, { on := 4, ground := Ground.chain }, { on := 2, ground := Ground.guard }], guard := some (2, true) }) rfl (fun K hK => ?_) AllReadyH.nil
  go_simp
  refine Calls.mono (TY.out _) ?_; rintro e v9 ⟨rfl, hbk⟩
  refine hK.out _ _ (MK.out _ (hHeld.1.trans hbk)) (fun hHeld => ?_)
  clear hK K
  try simp only [Act.put, List.setIfInBounds_toArray, List.set_cons_zero, List.set_cons_succ]
  refine wpAnyH_take (i := 7) (oi := { dst := some 92, op := Op.binOp BinOp.eql 3 (Operand.tmp 89) (Operand.tmp 91) 3, type := 4, pos := "law.go:121", after := #[{ on := 4, ground := Ground.data }, { on := 6, ground := Ground.data }, { on := 2, ground := Ground.guard }], guard := some (2, true) }) (v := ?_) rfl (by kernel_rfl) (by kernel_rfl) (by kernel_rfl) (fun _ _ _ h => h) (Or.inl ⟨by rfl, ?_⟩) hHeld ?_
  rotate_left
  · intro w' hSw; (try dsimp only at hSw); go_simp <;> with_reducible rfl
  try simp only [Act.put, List.setIfInBounds_toArray, List.set_cons_zero, List.set_cons_succ]
  refine wpAnyH_take (i := 8) (oi := { dst := some 93, op := Op.pick (Operand.tmp 87) (Operand.tmp 92) (Operand.const (Value.bool false)), type := 4, pos := "law.go:121", after := #[{ on := 2, ground := Ground.data }, { on := 7, ground := Ground.data }], guard := none }) (v := ?_) rfl (by kernel_rfl) (by kernel_rfl) (by kernel_rfl) (fun _ _ _ h => h) (Or.inl ⟨by rfl, ?_⟩) hHeld ?_
  rotate_left
  · intro w' hSw; (try dsimp only at hSw); go_simp <;> with_reducible rfl
  try simp only [Act.put, List.setIfInBounds_toArray, List.set_cons_zero, List.set_cons_succ]
  refine wpAnyH_take (i := 9) (oi := { dst := some 4, op := Op.assign (Operand.tmp 93), type := 4, pos := "law.go:121", after := #[{ on := 8, ground := Ground.data }, { on := 6, ground := Ground.chain }, { on := 0, ground := Ground.phase }, { on := 1, ground := Ground.phase }, { on := 2, ground := Ground.phase }, { on := 3, ground := Ground.phase }, { on := 4, ground := Ground.phase }, { on := 5, ground := Ground.phase }, { on := 6, ground := Ground.phase }, { on := 7, ground := Ground.phase }, { on := 8, ground := Ground.phase }], guard := none }) (v := ?_) rfl (by kernel_rfl) (by kernel_rfl) (by kernel_rfl) (fun _ _ _ h => h) (Or.inl ⟨by rfl, ?_⟩) hHeld ?_
  rotate_left
  · intro w' hSw; (try dsimp only at hSw); go_simp <;> with_reducible rfl
  try simp only [Act.put, List.setIfInBounds_toArray, List.set_cons_zero, List.set_cons_succ]
  refine wpAnyH_done (by kernel_rfl) ?_ _
  refine NoPanic.normal ?_
  go_wp2_with fail
  go_ret
  exact ⟨rfl, (HU.trans hHeld.1.below).below⟩

theorem walk (w : World) (x y : Int) (hx : Fits x) (hy : Fits y) (htab : Lib.TabIs Tryd.prog w "internal/strconv.uint64pow10" .u64 Lib.pow10Tab) (hg : 2 < w.heap.size) :
    Calls Tryd.prog 9 #[WV x, WV y] w fun e w' => e = .returned (.bool true) ∧ Below w.heap.size w w' := by
  by_cases hs : Fits (x + y)
  · by_cases h0 : y = 0
    · exact walk_B_fit w x y hx hy h0 hs htab hg
    · by_cases hf : Fits (dq x y)
      · by_cases hr : dr x y = 0
        · exact walk_A0_fit w x y hx hy h0 hf hr hs htab hg
        · exact walk_A1_fit w x y hx hy h0 hf hr hs htab hg
      · exact walk_C_fit w x y hx hy h0 hf hs htab hg
  · by_cases h0 : y = 0
    · exact walk_B_over w x y hx hy h0 hs htab hg
    · by_cases hf : Fits (dq x y)
      · by_cases hr : dr x y = 0
        · exact walk_A0_over w x y hx hy h0 hf hr hs htab hg
        · exact walk_A1_over w x y hx hy h0 hf hr hs htab hg
      · exact walk_C_over w x y hx hy h0 hf hs htab hg

set_option maxRecDepth 100000 in
theorem contract (H : Type) (enc : TypeId × Value → H) (W : World) (base : Nat) (args : Array Value) (ds gs : List (DataW H)) (before : List MemPlace)
    (hval : ∀ (j : Nat) t v, Tryd.f9.params[j]? = some t → args[j]? = some v → Value.okWide Tryd.prog W .any base t v)
    (hW : DataW.Whole enc Tryd.prog Tryd.f9.params.toList Rows.wideBackSpec.vars false W args.toList ds gs before) (hL : laidMetH Tryd.prog Rows.wideBackRow.laid W) :
    Calls Tryd.prog 9 args W fun e W' => ∃ v, e = .returned v ∧ Rows.wideBackSpec.post enc Tryd.prog Tryd.f9 false true false false W args v W' := by
  obtain ⟨ht, hg⟩ := table_of hL
  have hW' := hW
  obtain ⟨p, q, hA0, hV, rfl, hfz, hnd⟩ := hW
  have hA : DataW.TrodAll enc Tryd.prog W 0 (fun _ => true) true Tryd.f9.params.toList args.toList ds p := hA0
  rw [Tryd.params9] at hA hval
  obtain ⟨v0, v1, d0, d1, p0, p1, rfl, rfl, rfl, h0, h1⟩ := trodAll_two hA
  obtain ⟨rfl, rfl⟩ := trodVars_none hV
  obtain ⟨x0, rfl, hx0⟩ := open_wide (hval 0 24 v0 rfl rfl) h0
  obtain ⟨x1, rfl, hx1⟩ := open_wide (hval 1 24 v1 rfl rfl) h1
  refine (walk W x0 x1 hx0 hx1 ht hg).mono fun e W' ⟨he, hbl⟩ => ⟨.bool true, he, ?_⟩
  exact law_post laidOut (by kernel_rfl) Tryd.underlying4 (readable_of (by kernel_rfl)) rfl rfl hW' hbl

theorem laid_met (os : Os) : laidMet Tryd.prog Rows.wideBackRow.laid ((laidWorld os).forCall (fun _ _ => 0) ⟨#[], #[.agg #[.int .i64 0, .int .u64 0], .agg #[.int .i64 0, .int .u64 0]], []⟩).memory := laidMet_of_run' 8 (by kernel_rfl) (by kernel_rfl)
theorem reads (os : Os) {H : Type} (enc : TypeId × Value → H) : ∃ places, DataW.whole enc Tryd.prog ((laidWorld os).forCall (fun _ _ => 0) ⟨#[], #[.agg #[.int .i64 0, .int .u64 0], .agg #[.int .i64 0, .int .u64 0]], []⟩).memory Tryd.f9.params.toList Rows.wideBackSpec.vars false (#[.agg #[.int .i64 0, .int .u64 0], .agg #[.int .i64 0, .int .u64 0]] : Array Value).toList 8 = some ([.agg [.lit (.int .i64 0), .lit (.int .u64 0)], .agg [.lit (.int .i64 0), .lit (.int .u64 0)]], [], places) :=
  ⟨[], by kernel_rfl⟩

set_option maxRecDepth 100000 in
theorem lifted (os : Os) (started : os.Started) (H : Type) (enc : TypeId × Value → H) (F : Stop.Interp) :
    ReturnsInHanded {} Tryd.checked os 9 .any ((OpenSpec.ofChange Rows.wideBackSpec).preRow enc Tryd.prog Tryd.f9 Rows.wideBackRow.domain false Rows.wideBackRow.laid) (((OpenSpec.ofChange Rows.wideBackSpec).at F).post enc Tryd.prog Tryd.f9 false true false false) := by
  obtain ⟨places, hx⟩ := reads os enc
  refine returnsInHanded_of_row (C := Tryd.checked) (s := OpenSpec.ofChange Rows.wideBackSpec) own started (by kernel_rfl) Tryd.func9
    (witness_row_atRef (enc := enc) (C := Tryd.checked) false (laidWorld os) #[.agg #[.int .i64 0, .int .u64 0], .agg #[.int .i64 0, .int .u64 0]] rfl (by kernel_rfl) (by kernel_rfl) (by kernel_rfl)
      (OpenSpec.preRow_of_cond 8 hx (by kernel_rfl) (fun k hk => by cases hk) (by kernel_rfl) (laid_met os))) ?_
  intro W base args ds gs before hval hW _ _ _ hL _ _
  exact contract H enc W base args ds gs before hval hW hL

theorem said : Rows.WideBackSaid :=
  OpenClaim.holds_of_cond 9 Tryd.f9 rfl rfl rfl rfl rfl rfl rfl ⟨rfl, rfl, rfl, rfl, rfl⟩ rfl rfl rfl rfl rfl (by kernel_rfl) Tryd.func9 (by kernel_rfl)
    (of_decide_eq_true (by kernel_rfl)) (by unfold Func.isWrapper; first | (rw [if_pos (by decide +kernel)]; kernel_rfl) | (rw [if_neg (by decide +kernel)]; exact ⟨rfl, rfl⟩))
    (fun os started H enc _ F => by rw [OpenClaim.pre_eq_preRow]; exact lifted os started H enc F)

/-- No parameter wants a stand-in: what the card asks. -/
theorem plain (f : FuncId) (fn : Func) (hf : Tryd.pinned.checked.prog.funcNamed "bursar/bursarlaw2.WideBack" = some f) (hfn : Tryd.pinned.checked.prog.funcs[f]? = some fn) :
    true = Tryd.pinned.checked.prog.looks [] ∧ ∀ (j : Nat) t, fn.params[j]? = some t → Tryd.pinned.checked.prog.wantsStandIn t = false := by
  obtain rfl : f = 9 := Option.some.inj ((show Tryd.prog.funcNamed "bursar/bursarlaw2.WideBack" = some 9 by kernel_rfl).symm.trans hf) |>.symm
  obtain rfl : fn = Tryd.f9 := (Option.some.inj (Tryd.func9.symm.trans hfn)).symm
  refine ⟨by kernel_rfl, fun j t ht => ?_⟩
  rw [Tryd.params9] at ht
  have hm : t ∈ [24, 24] := by simpa using Array.mem_of_getElem? ht
  have hall : ([24, 24].all fun u => !Tryd.prog.wantsStandIn u) = true := by kernel_rfl
  exact (show Tryd.prog.wantsStandIn t = false by simpa using List.all_eq_true.1 hall t hm)

/-- THE CARD -/
theorem proved : Rows.WideBackCardSaid :=
  Claim7.holds_tied_plain_at .later [] _ _ _ _ said (fun _ h => by cases h) (by kernel_rfl) (fun _ h => by cases h) wideBack_row_tie rfl ⟨rfl, rfl⟩ (by kernel_rfl) rfl plain (by kernel_rfl)

end Go.Proofs.YtfalllekhcocgaaDoor.wideBack
