/-
  The reference's Add, Sub, Mul of numbers of two words.
-/
import Derived.Test.YtfalllekhcocgaaDoorRefJ
namespace Go.Proofs.YtfalllekhcocgaaDoor
open Go.RowKit

theorem fits_small {x : Int} (h : Fits x) : x.natAbs < BP 5 := by
  have b4 : BP 4 = 340282366920938463463374607431768211456 := by decide
  have b : BP 4 ≤ BP 5 := BP_le (by decide)
  rw [b4] at b
  unfold Fits at h
  omega
theorem prod_small {x y : Int} {i j k : Nat} (hx : x.natAbs < BP i) (hy : y.natAbs < BP j) (h : i + j ≤ k) : (x * y).natAbs < BP k := by
  rw [Int.natAbs_mul]
  have h1 : x.natAbs * y.natAbs ≤ x.natAbs * BP j := Nat.mul_le_mul_left _ (Nat.le_of_lt hy)
  have h2 : x.natAbs * BP j < BP i * BP j := Nat.mul_lt_mul_of_pos_right hx (BP_pos j)
  rw [← BP_add] at h2
  have h3 := BP_le h
  omega
theorem sum_small {x y : Int} {i : Nat} (hx : x.natAbs < BP i) (hy : y.natAbs < BP i) : (x + y).natAbs < BP (i + 1) := by
  have h := BP_succ i
  omega
theorem neg_small {x : Int} {i : Nat} (hx : x.natAbs < BP i) : (-x).natAbs < BP i := by omega
theorem size_W : (Tryd.prog.info? 24).map (·.size) = some 2 := by kernel_rfl

set_option maxRecDepth 100000 in
set_option maxHeartbeats 2000000 in
theorem rmulw_any (w : World) (x y : Int) (hx : Fits x) (hy : Fits y) : Calls Tryd.prog 31 #[WV x, WV y] w fun e w' => e = .returned (resV (x * y)) ∧ Below w.heap.size w w' := by
  have sx := fits_small hx
  have sy := fits_small hy
  have O1 := fun w => rof_any w x hx
  have O2 := fun w => rof_any w y hy
  have QM := fun w => rtimes_any w x y (Nat.lt_of_lt_of_le sx (BP_le (by decide))) (Nat.lt_of_lt_of_le sy (BP_le (by decide)))
  have QW := fun w => rwide_any w (x * y) (prod_small sx sy (by decide))
  obtain ⟨X, hX⟩ : ∃ X, X = BigZ x := ⟨_, rfl⟩
  obtain ⟨Y, hY⟩ : ∃ Y, Y = BigZ y := ⟨_, rfl⟩
  obtain ⟨xh, xl, e1⟩ : ∃ hi lo : Int, WV x = .agg #[.int .i64 hi, .int .u64 lo] := ⟨_, _, rfl⟩
  obtain ⟨yh, yl, e2⟩ : ∃ hi lo : Int, WV y = .agg #[.int .i64 hi, .int .u64 lo] := ⟨_, _, rfl⟩
  obtain ⟨rh, rl, rk, e3⟩ := resV_form (x * y)
  rw [e1] at O1
  rw [e2] at O2
  rw [e3] at QW
  rw [e1, e2, e3]
  have HO1 := hid O1
  have HO2 := hid O2
  have HQM := hid QM
  have HQW := hid QW
  clear O1 O2 QM QW e1 e2 e3 sx sy hx hy
  clear hX hY X Y
  have h1 := ((Row.new w 24 #[.int .i64 xh, .int .u64 xl]).alloc (.cells #[.int .i64 yh, .int .u64 yl] 24)).alloc (.cells #[.int .i64 0, .int .u64 0] 24)
  have h2 := (Row.new (w.alloc (.cells #[.int .i64 xh, .int .u64 xl] 24)) 24 #[.int .i64 yh, .int .u64 yl]).alloc (.cells #[.int .i64 0, .int .u64 0] 24)
  have hR := Row.new ((w.alloc (.cells #[.int .i64 xh, .int .u64 xl] 24)).alloc (.cells #[.int .i64 yh, .int .u64 yl] 24)) 24 #[.int .i64 0, .int .u64 0]
  have hU := (((Up.refl w).alloc (.cells #[.int .i64 xh, .int .u64 xl] 24)).alloc (.cells #[.int .i64 yh, .int .u64 yl] 24)).alloc (.cells #[.int .i64 0, .int .u64 0] 24)
  simp only [alloc_size] at h2 hR
  go_enter Tryd.func31, Tryd.ntmps31
  go_upto_region 1 with fail
  obtain ⟨V, hV⟩ : ∃ V, V = ((w.alloc (.cells #[.int .i64 xh, .int .u64 xl] 24)).alloc (.cells #[.int .i64 yh, .int .u64 yl] 24)).alloc (.cells #[.int .i64 0, .int .u64 0] 24) := ⟨_, rfl⟩
  rw [← hV] at h1 h2 hR hU ⊢
  clear hV
  have MK : ∀ W, Row W (w.heap.size) 24 #[.int .i64 xh, .int .u64 xl] → Row W (w.heap.size + 1) 24 #[.int .i64 yh, .int .u64 yl] → (∃ p q : Int, Row W (w.heap.size + 1 + 1) 24 #[.int .i64 p, .int .u64 q]) → Up w.heap.size w W → W.cell? ⟨w.heap.size, 0, none⟩ = some (.int .i64 xh) ∧ W.cell? ⟨w.heap.size, 1, none⟩ = some (.int .u64 xl) ∧ W.cell? ⟨w.heap.size + 1, 0, none⟩ = some (.int .i64 yh) ∧ W.cell? ⟨w.heap.size + 1, 1, none⟩ = some (.int .u64 yl) ∧ Row W (w.heap.size) 24 #[.int .i64 xh, .int .u64 xl] ∧ Row W (w.heap.size + 1) 24 #[.int .i64 yh, .int .u64 yl] ∧ (∃ p q : Int, Row W (w.heap.size + 1 + 1) 24 #[.int .i64 p, .int .u64 q]) ∧ Up w.heap.size w W := fun W h1 h2 h3 h4 => ⟨by simpa using h1.cell 0, by simpa using h1.cell 1, by simpa using h2.cell 0, by simpa using h2.cell 1, h1, h2, h3, h4⟩
  have MK := hid MK
  refine wp_region_noPanic ?_
  refine wp_region_held_drew (S := fun W => W.cell? ⟨w.heap.size, 0, none⟩ = some (.int .i64 xh) ∧ W.cell? ⟨w.heap.size, 1, none⟩ = some (.int .u64 xl) ∧ W.cell? ⟨w.heap.size + 1, 0, none⟩ = some (.int .i64 yh) ∧ W.cell? ⟨w.heap.size + 1, 1, none⟩ = some (.int .u64 yl) ∧ Row W (w.heap.size) 24 #[.int .i64 xh, .int .u64 xl] ∧ Row W (w.heap.size + 1) 24 #[.int .i64 yh, .int .u64 yl] ∧ (∃ p q : Int, Row W (w.heap.size + 1 + 1) 24 #[.int .i64 p, .int .u64 q]) ∧ Up w.heap.size w W) (by kernel_rfl) (MK.out _ h1.drew h2.drew ⟨_, _, hR.drew⟩ hU.drew) (fun hHeld => ?_)
  refine wpAnyH_take (i := 0) (oi := { dst := some 6, op := Op.load 24 (Operand.tmp 2), type := 24, pos := "ref.go:175", after := #[], guard := none }) (v := ?_) rfl (by kernel_rfl) (by kernel_rfl) (by kernel_rfl) (fun _ _ _ h => h) (Or.inl ⟨by rfl, ?_⟩) hHeld ?_
  rotate_left
  · intro w' hSw; (try dsimp only at hSw); go_simp <;> with_reducible rfl
  try simp only [Act.put, List.setIfInBounds_toArray, List.set_cons_zero, List.set_cons_succ]
  refine wpAnyH_take (i := 2) (oi := { dst := some 8, op := Op.load 24 (Operand.tmp 3), type := 24, pos := "ref.go:175", after := #[], guard := none }) (v := ?_) rfl (by kernel_rfl) (by kernel_rfl) (by kernel_rfl) (fun _ _ _ h => h) (Or.inl ⟨by rfl, ?_⟩) hHeld ?_
  rotate_left
  · intro w' hSw; (try dsimp only at hSw); go_simp <;> with_reducible rfl
  try simp only [Act.put, List.setIfInBounds_toArray, List.set_cons_zero, List.set_cons_succ]
  refine wpAnyH_ready (rs := [1]) (by kernel_rfl) (by simp) ?_
  refine AllReadyH.cons (o := { dst := some 7, op := Op.call { callee := Callee.value (Operand.func 56), args := #[Operand.tmp 6], argTypes := #[24] }, type := 76, pos := "ref.go:175", after := #[{ on := 0, ground := Ground.data }], guard := none }) rfl (fun K hK => ?_) AllReadyH.nil
  go_simp
  refine Calls.mono (HO1.out _) ?_; rintro e w9 ⟨rfl, hb⟩
  refine hK.out _ _ (MK.out _ ((hHeld.2.2.2.2.1).mod (Mod.of_below hb Nil) (fun hf => hf)) ((hHeld.2.2.2.2.2.1).mod (Mod.of_below hb Nil) (fun hf => hf)) (by obtain ⟨p, q, h1⟩ := hHeld.2.2.2.2.2.2.1; exact ⟨p, q, (h1).mod (Mod.of_below hb Nil) (fun hf => hf)⟩) (hHeld.2.2.2.2.2.2.2.trans hb)) (fun hHeld => ?_)
  clear hK K
  try simp only [Act.put, List.setIfInBounds_toArray, List.set_cons_zero, List.set_cons_succ]
  refine wpAnyH_ready (rs := [3]) (by kernel_rfl) (by simp) ?_
  refine AllReadyH.cons (o := { dst := some 9, op := Op.call { callee := Callee.value (Operand.func 56), args := #[Operand.tmp 8], argTypes := #[24] }, type := 76, pos := "ref.go:175", after := #[{ on := 2, ground := Ground.data }, { on := 1, ground := Ground.chain }], guard := none }) rfl (fun K hK => ?_) AllReadyH.nil
  go_simp
  refine Calls.mono (HO2.out _) ?_; rintro e w9 ⟨rfl, hb⟩
  refine hK.out _ _ (MK.out _ ((hHeld.2.2.2.2.1).mod (Mod.of_below hb Nil) (fun hf => hf)) ((hHeld.2.2.2.2.2.1).mod (Mod.of_below hb Nil) (fun hf => hf)) (by obtain ⟨p, q, h1⟩ := hHeld.2.2.2.2.2.2.1; exact ⟨p, q, (h1).mod (Mod.of_below hb Nil) (fun hf => hf)⟩) (hHeld.2.2.2.2.2.2.2.trans hb)) (fun hHeld => ?_)
  clear hK K
  try simp only [Act.put, List.setIfInBounds_toArray, List.set_cons_zero, List.set_cons_succ]
  refine wpAnyH_ready (rs := [4]) (by kernel_rfl) (by simp) ?_
  refine AllReadyH.cons (o := { dst := some 10, op := Op.call { callee := Callee.value (Operand.func 63), args := #[Operand.tmp 7, Operand.tmp 9], argTypes := #[76, 76] }, type := 76, pos := "ref.go:175", after := #[{ on := 1, ground := Ground.data }, { on := 3, ground := Ground.data }, { on := 3, ground := Ground.chain }], guard := none }) rfl (fun K hK => ?_) AllReadyH.nil
  go_simp
  refine Calls.mono (HQM.out _) ?_; rintro e w9 ⟨rfl, hb⟩
  refine hK.out _ _ (MK.out _ ((hHeld.2.2.2.2.1).mod (Mod.of_below hb Nil) (fun hf => hf)) ((hHeld.2.2.2.2.2.1).mod (Mod.of_below hb Nil) (fun hf => hf)) (by obtain ⟨p, q, h1⟩ := hHeld.2.2.2.2.2.2.1; exact ⟨p, q, (h1).mod (Mod.of_below hb Nil) (fun hf => hf)⟩) (hHeld.2.2.2.2.2.2.2.trans hb)) (fun hHeld => ?_)
  clear hK K
  try simp only [Act.put, List.setIfInBounds_toArray, List.set_cons_zero, List.set_cons_succ]
  refine wpAnyH_ready (rs := [5]) (by kernel_rfl) (by simp) ?_
  refine AllReadyH.cons (o := { dst := some 11, op := Op.call { callee := Callee.value (Operand.func 54), args := #[Operand.tmp 10], argTypes := #[76] }, type := 26, pos := "ref.go:175", after := #[{ on := 4, ground := Ground.data }, { on := 4, ground := Ground.chain }], guard := none }) rfl (fun K hK => ?_) AllReadyH.nil
  go_simp
  refine Calls.mono (HQW.out _) ?_; rintro e w9 ⟨rfl, hb⟩
  refine hK.out _ _ (MK.out _ ((hHeld.2.2.2.2.1).mod (Mod.of_below hb Nil) (fun hf => hf)) ((hHeld.2.2.2.2.2.1).mod (Mod.of_below hb Nil) (fun hf => hf)) (by obtain ⟨p, q, h1⟩ := hHeld.2.2.2.2.2.2.1; exact ⟨p, q, (h1).mod (Mod.of_below hb Nil) (fun hf => hf)⟩) (hHeld.2.2.2.2.2.2.2.trans hb)) (fun hHeld => ?_)
  clear hK K
  try simp only [Act.put, List.setIfInBounds_toArray, List.set_cons_zero, List.set_cons_succ]
  refine wpAnyH_take (i := 6) (oi := { dst := some 12, op := Op.extract (Operand.tmp 11) 0, type := 24, pos := "ref.go:175", after := #[{ on := 5, ground := Ground.data }], guard := none }) (v := ?_) rfl (by kernel_rfl) (by kernel_rfl) (by kernel_rfl) (fun _ _ _ h => h) (Or.inl ⟨by rfl, ?_⟩) hHeld ?_
  rotate_left
  · intro w' hSw; (try dsimp only at hSw); go_simp <;> with_reducible rfl
  try simp only [Act.put, List.setIfInBounds_toArray, List.set_cons_zero, List.set_cons_succ]
  refine wpAnyH_take (i := 7) (oi := { dst := some 13, op := Op.extract (Operand.tmp 11) 1, type := 25, pos := "ref.go:175", after := #[{ on := 5, ground := Ground.data }], guard := none }) (v := ?_) rfl (by kernel_rfl) (by kernel_rfl) (by kernel_rfl) (fun _ _ _ h => h) (Or.inl ⟨by rfl, ?_⟩) hHeld ?_
  rotate_left
  · intro w' hSw; (try dsimp only at hSw); go_simp <;> with_reducible rfl
  try simp only [Act.put, List.setIfInBounds_toArray, List.set_cons_zero, List.set_cons_succ]
  obtain ⟨p, q, hcs⟩ := hHeld.2.2.2.2.2.2.1
  refine wpAnyH_ready (rs := [8]) (by kernel_rfl) (by simp) ?_
  refine AllReadyH.cons (o := { dst := none, op := Op.store 24 (Operand.tmp 4) (Operand.tmp 12), type := 0, pos := "ref.go:175", after := #[{ on := 6, ground := Ground.data }, { on := 5, ground := Ground.chain }, { on := 0, ground := Ground.phase }, { on := 1, ground := Ground.phase }, { on := 2, ground := Ground.phase }, { on := 3, ground := Ground.phase }, { on := 4, ground := Ground.phase }, { on := 5, ground := Ground.phase }, { on := 6, ground := Ground.phase }, { on := 7, ground := Ground.phase }], guard := none }) rfl (fun K hK => ?_) AllReadyH.nil
  refine (if_pos (by rfl)).mpr ?_
  refine wp_store_row 24 _ _ rfl (w.heap.size + 1 + 1) #[.int .i64 rh, .int .u64 rl] rfl rfl 24 #[.int .i64 p, .int .u64 q] hcs size_W rfl (by simp [Value.oneCell']) ?_
  refine hK.out _ _ (MK.out _ (hHeld.2.2.2.2.1.farRow (by omega) _) (hHeld.2.2.2.2.2.1.farRow (by omega) _) ⟨_, _, hcs.putRow _⟩ (hHeld.2.2.2.2.2.2.2.setRow (by omega) _)) (fun hHeld => ?_)
  clear hK K
  try simp only [Act.put, List.setIfInBounds_toArray, List.set_cons_zero, List.set_cons_succ]
  refine wpAnyH_take (i := 9) (oi := { dst := some 5, op := Op.assign (Operand.tmp 13), type := 25, pos := "ref.go:175", after := #[{ on := 7, ground := Ground.data }, { on := 8, ground := Ground.chain }, { on := 0, ground := Ground.phase }, { on := 1, ground := Ground.phase }, { on := 2, ground := Ground.phase }, { on := 3, ground := Ground.phase }, { on := 4, ground := Ground.phase }, { on := 5, ground := Ground.phase }, { on := 6, ground := Ground.phase }, { on := 7, ground := Ground.phase }, { on := 8, ground := Ground.phase }], guard := none }) (v := ?_) rfl (by kernel_rfl) (by kernel_rfl) (by kernel_rfl) (fun _ _ _ h => h) (Or.inl ⟨by rfl, ?_⟩) hHeld ?_
  rotate_left
  · intro w' hSw; (try dsimp only at hSw); go_simp <;> with_reducible rfl
  try simp only [Act.put, List.setIfInBounds_toArray, List.set_cons_zero, List.set_cons_succ]
  refine wpAnyH_done (by kernel_rfl) ?_ _
  refine NoPanic.normal ?_
  go_wp2_with fail
  have r1 := run_loadVar_row (P := Tryd.prog) _ (w.heap.size + 1 + 1) 24 24 #[.int .i64 rh, .int .u64 rl] (0, 0) _ (hcs.putRow #[.int .i64 rh, .int .u64 rl]) Tryd.underlying24 rfl size_W
  exact bodyPost_ret (v := .tuple #[.agg #[.int .i64 rh, .int .u64 rl], .int .i64 rk]) (by simp [results, Tryd.results31, asAddr, r1]) rfl ⟨rfl, hHeld.2.2.2.2.2.2.2.below⟩
end Go.Proofs.YtfalllekhcocgaaDoor
