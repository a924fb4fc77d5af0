/-
  Scr · RefR
-/
import Derived.Test.YtfalllekhcocgaaDoorA08
import Derived.Test.YtfalllekhcocgaaDoorA09
import Derived.Test.YtfalllekhcocgaaDoorB07
set_option linter.unusedSimpArgs false
set_option linter.unusedVariables false

namespace Go.Proofs.YtfalllekhcocgaaDoor
open Go.RowKit

theorem mag_abs (x : Int) : mag x = (x.natAbs : Int) := by
  unfold mag
  split <;> omega
theorem scZ_round (x y : Int) (k : Nat) : scZ x y k = roundZ (x * y) (k : Int) := by
  have hm : mag x * mag y = ((x * y).natAbs : Int) := by rw [mag_abs, mag_abs, Int.natAbs_mul, Int.natCast_mul]
  have hs : (decide (x < 0) != decide (y < 0)) = true → x * y ≤ 0 := by
    intro h
    by_cases h1 : x < 0 <;> by_cases h2 : y < 0
    · simp [h1, h2] at h
    · exact Int.mul_nonpos_of_nonpos_of_nonneg (by omega) (by omega)
    · exact Int.mul_nonpos_of_nonneg_of_nonpos (by omega) (by omega)
    · simp [h1, h2] at h
  have hn : ¬ (decide (x < 0) != decide (y < 0)) = true → 0 ≤ x * y := by
    intro h
    by_cases h1 : x < 0 <;> by_cases h2 : y < 0
    · exact Int.mul_nonneg_of_nonpos_of_nonpos (by omega) (by omega)
    · simp [h1, h2] at h
    · simp [h1, h2] at h
    · exact Int.mul_nonneg (by omega) (by omega)
  unfold scZ
  rw [hm, hE_nat]
  obtain ⟨z, hz⟩ : ∃ z, z = x * y := ⟨_, rfl⟩
  rw [← hz] at hs hn ⊢
  have h0 : z = 0 → halfEven z.natAbs (10 ^ k) = 0 := by
    rintro rfl
    unfold halfEven
    have := Nat.pow_pos (n := k) (show 0 < 10 by decide)
    first | (simp; done) | (simp; omega)
  unfold roundZ rounded
  by_cases hk : (k : Int) ≤ 0
  · have hk0 : k = 0 := by omega
    subst hk0
    rw [if_pos hk]
    have h1 : halfEven z.natAbs (10 ^ 0) = z.natAbs := by
      unfold halfEven
      rw [Nat.pow_zero, Nat.mod_one, Nat.div_one]
      simp
    rw [h1]
    have h3 : ((10 ^ (-((0 : Nat) : Int)).toNat : Nat) : Int) = 1 := by decide
    rw [h3, Int.mul_one]
    by_cases hx : (decide (x < 0) != decide (y < 0)) = true
    · rw [if_pos hx]
      have := hs hx
      omega
    · rw [if_neg hx]
      have := hn hx
      omega
  · rw [if_neg hk, Int.toNat_natCast]
    by_cases hx : (decide (x < 0) != decide (y < 0)) = true
    · rw [if_pos hx]
      have := hs hx
      by_cases hz0 : z = 0
      · rw [h0 hz0, if_neg (by omega)]; rfl
      · rw [if_pos (by omega)]
    · rw [if_neg hx]
      have := hn hx
      rw [if_neg (by omega)]

end Go.Proofs.YtfalllekhcocgaaDoor

namespace Go.Proofs.YtfalllekhcocgaaDoor
open Go.RowKit

set_option maxRecDepth 100000 in
set_option maxHeartbeats 4000000 in
theorem round_up (w : World) (z k : Int) (j : Nat) (hz : z.natAbs < BP 8) (hk : k = -(j : Int)) (hj : j ≤ 67) :
    Calls Tryd.prog 66 #[BigZ z, .int .i64 k] w fun e w' => e = .returned (BigZ (z * ((10 ^ j : Nat) : Int))) ∧ Below w.heap.size w w' := by
  have QT := fun w => rten_any w (j : Int) (by omega)
  rw [Int.toNat_natCast] at QT
  have h67 : 10 ^ j < BP 7 := by
    have h1 : 10 ^ j ≤ 10 ^ 67 := Nat.pow_le_pow_right (by decide) hj
    have h2 : (10 : Nat) ^ 67 < BP 7 := by decide
    omega
  have QM := fun w => rtimes_any w z ((10 ^ j : Nat) : Int) hz (by rw [Int.natAbs_natCast]; exact h67)
  obtain ⟨d, hd⟩ : ∃ d, d = 10 ^ j := ⟨_, rfl⟩
  rw [← hd] at QT QM ⊢
  rw [← pos_bigr] at QM
  obtain ⟨R, hR⟩ : ∃ R, R = bigs (decide (z * (d : Int) < 0)) (z * (d : Int)).natAbs := ⟨_, rfl⟩
  have hRv : BigZ (z * (d : Int)) = .agg R := by rw [hR]; rfl
  rw [hRv] at QM ⊢
  obtain ⟨A, hA⟩ : ∃ A, A = bigs (decide (z < 0)) z.natAbs := ⟨_, rfl⟩
  have hAv : BigZ z = .agg A := by rw [hA]; rfl
  rw [hAv] at QM ⊢
  unfold BigV at QM
  unfold DV at QT
  obtain ⟨E, hE⟩ : ∃ E, E = digs d := ⟨_, rfl⟩
  obtain ⟨C, hC⟩ : ∃ C, C = bigs false d := ⟨_, rfl⟩
  rw [← hE] at QT
  rw [← hC] at QM
  have HA := hid hA
  have HR := hid hR
  have HE := hid hE
  have HC := hid hC
  have HQT := hid QT
  have HQM := hid QM
  have wn : IntKind.i64.wrap (-k) = (j : Int) := by rw [IntKind.wrap_i64]; omega
  have hk1 : k ≤ 0 := by omega
  clear QT QM hA hR hE hC hRv hAv hd h67 hz hk hj
  have r2 := (Row.new w 76 A).alloc (.cells (bigs false 0) 76)
  have rr := Row.new (w.alloc (.cells A 76)) 76 (bigs false 0)
  have hU := ((Up.refl w).alloc (.cells A 76)).alloc (.cells (bigs false 0) 76)
  simp only [alloc_size] at rr
  go_enter Tryd.func66, Tryd.ntmps66
  go_upto_region 2 with fail
  obtain ⟨V, hV⟩ : ∃ V, V = (w.alloc (.cells A 76)).alloc (.cells (bigs false 0) 76) := ⟨_, rfl⟩
  rw [bigs_0] at hV
  rw [← hV]
  rw [← bigs_0] at hV
  rw [← hV] at r2 rr hU
  clear hV hk1
  have MK : ∀ W, Row W (w.heap.size) 76 A → (∃ cs : Array Value, Row W (w.heap.size + 1) 76 cs ∧ cs.size = 17) → Up w.heap.size w W → Row W (w.heap.size) 76 A ∧ (∃ cs : Array Value, Row W (w.heap.size + 1) 76 cs ∧ cs.size = 17) ∧ Up w.heap.size w W := fun W k0 k1 k2 => ⟨k0, k1, k2⟩
  have MK := hid MK
  refine wp_region_noPanic ?_
  refine wp_region_held_drew (S := fun W => Row W (w.heap.size) 76 A ∧ (∃ cs : Array Value, Row W (w.heap.size + 1) 76 cs ∧ cs.size = 17) ∧ Up w.heap.size w W) (by kernel_rfl) (MK.out _ r2.drew ⟨_, rr.drew, bigs_size _ _⟩ hU.drew) (fun hHeld => ?_)
  refine wpAnyH_take (i := 0) (oi := { dst := some 12, op := Op.load 76 (Operand.tmp 2), type := 76, pos := "ref.go:215", after := #[], guard := none }) (v := .agg A) rfl (by kernel_rfl) (by kernel_rfl) (by kernel_rfl) (fun _ _ _ h => h) (Or.inl ⟨by rfl, fun W hW => exec_load_row 76 _ rfl (w.heap.size) rfl 76 A _ Tryd.underlying76 rfl (size_Bn (sizeC HA)) W hW.1⟩) hHeld ?_
  try simp only [Act.put, List.setIfInBounds_toArray, List.set_cons_zero, List.set_cons_succ]
  refine wpAnyH_take (i := 1) (oi := { dst := some 13, op := Op.move (Operand.tmp 1), type := 3, pos := "ref.go:215", after := #[], guard := none }) (v := ?_) rfl (by kernel_rfl) (by kernel_rfl) (by kernel_rfl) (fun _ _ _ h => h) (Or.inl ⟨by rfl, ?_⟩) hHeld ?_
  rotate_left
  · intro w' hSw; (try dsimp only at hSw); go_simp <;> with_reducible rfl
  try simp only [Act.put, List.setIfInBounds_toArray, List.set_cons_zero, List.set_cons_succ]
  refine wpAnyH_take (i := 2) (oi := { dst := some 14, op := Op.unOp UnOp.neg 3 (Operand.tmp 13), type := 3, pos := "ref.go:215", after := #[{ on := 1, ground := Ground.data }], guard := none }) (v := ?_) rfl (by kernel_rfl) (by kernel_rfl) (by kernel_rfl) (fun _ _ _ h => h) (Or.inl ⟨by rfl, ?_⟩) hHeld ?_
  rotate_left
  · intro w' hSw; (try dsimp only at hSw); go_simp <;> with_reducible rfl
  try simp only [Act.put, List.setIfInBounds_toArray, List.set_cons_zero, List.set_cons_succ]
  refine wpAnyH_ready (rs := [3]) (by kernel_rfl) (by simp) ?_
  refine AllReadyH.cons (o := { dst := some 15, op := Op.call { callee := Callee.value (Operand.func 67), args := #[Operand.tmp 14], argTypes := #[3] }, type := 74, pos := "ref.go:215", after := #[{ on := 2, ground := Ground.data }], guard := none }) rfl (fun K hK => ?_) AllReadyH.nil
  go_simp
  refine Calls.mono (HQT.out _) ?_; rintro e w5 ⟨rfl, hb⟩
  refine hK.out _ _ (MK.out _ ((hHeld.1).mod (Mod.of_below hb Nil) (fun hf => hf)) ((by obtain ⟨cs, h1, h2⟩ := hHeld.2.1; exact ⟨cs, (h1).mod (Mod.of_below hb Nil) (fun hf => hf), h2⟩)) ((hHeld.2.2).trans hb)) (fun hHeld => ?_)
  clear hK K
  try simp only [Act.put, List.setIfInBounds_toArray, List.set_cons_zero, List.set_cons_succ]
  refine wpAnyH_take (i := 4) (oi := { dst := some 16, op := Op.build 76 #[(0, Operand.const (Value.bool false)), (1, Operand.tmp 15)], type := 76, pos := "ref.go:215", after := #[{ on := 3, ground := Ground.data }], guard := none }) (v := .agg C) rfl (by kernel_rfl) (by kernel_rfl) (by kernel_rfl) (fun _ _ _ h => h) (Or.inl ⟨by rfl, fun W hW => exec_build_C HC HE _ _ rfl rfl rfl⟩) hHeld ?_
  try simp only [Act.put, List.setIfInBounds_toArray, List.set_cons_zero, List.set_cons_succ]
  refine wpAnyH_ready (rs := [5]) (by kernel_rfl) (by simp) ?_
  refine AllReadyH.cons (o := { dst := some 17, op := Op.call { callee := Callee.value (Operand.func 63), args := #[Operand.tmp 12, Operand.tmp 16], argTypes := #[76, 76] }, type := 76, pos := "ref.go:215", after := #[{ on := 0, ground := Ground.data }, { on := 4, ground := Ground.data }, { on := 3, ground := Ground.chain }], guard := none }) rfl (fun K hK => ?_) AllReadyH.nil
  go_simp
  refine Calls.mono (HQM.out _) ?_; rintro e w6 ⟨rfl, hb⟩
  refine hK.out _ _ (MK.out _ ((hHeld.1).mod (Mod.of_below hb Nil) (fun hf => hf)) ((by obtain ⟨cs, h1, h2⟩ := hHeld.2.1; exact ⟨cs, (h1).mod (Mod.of_below hb Nil) (fun hf => hf), h2⟩)) ((hHeld.2.2).trans hb)) (fun hHeld => ?_)
  clear hK K
  try simp only [Act.put, List.setIfInBounds_toArray, List.set_cons_zero, List.set_cons_succ]
  obtain ⟨cs, hcs, hcz⟩ := hHeld.2.1
  refine wpAnyH_ready (rs := [6]) (by kernel_rfl) (by simp) ?_
  refine AllReadyH.cons (o := { dst := none, op := Op.store 76 (Operand.tmp 4) (Operand.tmp 17), type := 0, pos := "ref.go:215", after := #[{ on := 5, ground := Ground.data }, { on := 5, ground := Ground.chain }, { on := 0, ground := Ground.phase }, { on := 1, ground := Ground.phase }, { on := 2, ground := Ground.phase }, { on := 3, ground := Ground.phase }, { on := 4, ground := Ground.phase }, { on := 5, ground := Ground.phase }], guard := none }) rfl (fun K hK => ?_) AllReadyH.nil
  refine (if_pos (by rfl)).mpr ?_
  refine wp_store_row 76 _ _ rfl (w.heap.size + 1) R rfl rfl 76 cs hcs (size_Bn (sizeC HR)) (by rw [hcz, sizeC HR]) (oneC HR) ?_
  refine hK.out _ _ (MK.out _ ((hHeld.1).farRow (by omega) R) (⟨R, hcs.putRow R, sizeC HR⟩) ((hHeld.2.2).setRow (by omega) R)) (fun hHeld => ?_)
  clear hK K
  try simp only [Act.put, List.setIfInBounds_toArray, List.set_cons_zero, List.set_cons_succ]
  refine wpAnyH_done (by kernel_rfl) ?_ _
  refine NoPanic.normal ?_
  go_wp2_with fail
  exact bodyPost_ret (v := .agg R) (results_cell_row Tryd.results66 _ _ (w.heap.size + 1) 76 R (0, 0) _ rfl (hcs.putRow _) Tryd.underlying76 rfl (size_Bn (sizeC HR))) rfl ⟨rfl, hHeld.2.2.below⟩

theorem round_any (w : World) (z k : Int) (hz : z.natAbs < BP 8) (hk : -67 ≤ k ∧ k ≤ 77) :
    Calls Tryd.prog 66 #[BigZ z, .int .i64 k] w fun e w' => e = .returned (BigZ (roundZ z k)) ∧ Below w.heap.size w w' := by
  unfold roundZ
  by_cases h : k ≤ 0
  · rw [if_pos h]
    exact round_up w z k (-k).toNat hz (by omega) (by omega)
  · rw [if_neg h]
    exact round_down w z k (Nat.lt_of_lt_of_le hz (BP_le (by decide))) ⟨by omega, hk.2⟩
theorem rounded_small {z : Int} {d i : Nat} (hd : 0 < d) (hz : z.natAbs < BP i) : (rounded z d).natAbs < BP (i + 1) := by
  have h1 : halfEven z.natAbs d ≤ z.natAbs + 1 := by
    unfold halfEven
    have := Nat.div_le_self z.natAbs d
    split <;> omega
  have h2 := BP_succ i
  have h3 := BP_pos i
  unfold rounded
  split <;> omega
theorem roundZ_small {z k : Int} (hz : z.natAbs < BP 8) (hk : -67 ≤ k ∧ k ≤ 77) : (roundZ z k).natAbs < BP 16 := by
  unfold roundZ
  by_cases h : k ≤ 0
  · rw [if_pos h]
    have h67 : 10 ^ (-k).toNat < BP 7 := by
      have h1 : 10 ^ (-k).toNat ≤ 10 ^ 67 := Nat.pow_le_pow_right (by decide) (by omega)
      have h2 : (10 : Nat) ^ 67 < BP 7 := by decide
      omega
    exact prod_small hz (j := 7) (by rw [Int.natAbs_natCast]; exact h67) (by decide)
  · rw [if_neg h]
    exact Nat.lt_of_lt_of_le (rounded_small (Nat.pow_pos (by decide)) hz) (BP_le (by decide))

set_option maxRecDepth 100000 in
set_option maxHeartbeats 2000000 in
theorem rscaled_any (w : World) (x y k : Int) (hx : Fits x) (hy : Fits y) (hk : 0 ≤ k ∧ k ≤ 36) : Calls Tryd.prog 33 #[WV x, WV y, .int .i64 k] w fun e w' => e = .returned (resV (roundZ (x * y) k)) ∧ Below w.heap.size w w' := by
  have b4 : BP 4 = 340282366920938463463374607431768211456 := by decide
  have sx : x.natAbs < BP 4 := by rw [b4]; unfold Fits at hx; omega
  have sy : y.natAbs < BP 4 := by rw [b4]; unfold Fits at hy; omega
  have sp := prod_small sx sy (show 4 + 4 ≤ 8 by decide)
  have O1 := fun w => rof_any w x hx
  have O2 := fun w => rof_any w y hy
  have QM := fun w => rtimes_any w x y (Nat.lt_of_lt_of_le sx (BP_le (by decide))) (Nat.lt_of_lt_of_le sy (BP_le (by decide)))
  have QR := fun w => round_any w (x * y) k sp (by omega)
  have QW := fun w => rwide_any w (roundZ (x * y) k) (roundZ_small sp (by omega))
  obtain ⟨xh, xl, e1⟩ : ∃ hi lo : Int, WV x = .agg #[.int .i64 hi, .int .u64 lo] := ⟨_, _, rfl⟩
  obtain ⟨yh, yl, e2⟩ : ∃ hi lo : Int, WV y = .agg #[.int .i64 hi, .int .u64 lo] := ⟨_, _, rfl⟩
  obtain ⟨rh, rl, rk, e3⟩ := resV_form (roundZ (x * y) k)
  rw [e1] at O1
  rw [e2] at O2
  rw [e3] at QW
  rw [e1, e2, e3]
  obtain ⟨X, hX⟩ : ∃ X, X = BigZ x := ⟨_, rfl⟩
  obtain ⟨Y, hY⟩ : ∃ Y, Y = BigZ y := ⟨_, rfl⟩
  obtain ⟨Q, hQ⟩ : ∃ Q, Q = BigZ (x * y) := ⟨_, rfl⟩
  obtain ⟨R, hR⟩ : ∃ R, R = BigZ (roundZ (x * y) k) := ⟨_, rfl⟩
  rw [← hX] at O1 QM
  rw [← hY] at O2 QM
  rw [← hQ] at QM QR
  rw [← hR] at QR QW
  have HO1 := hid O1
  have HO2 := hid O2
  have HQM := hid QM
  have HQR := hid QR
  have HQW := hid QW
  have hk1 : ¬ k < 0 := by omega
  have hk2 : k ≤ 36 := by omega
  clear O1 O2 QM QR QW e1 e2 e3 hX hY hQ hR sp sx sy b4 hx hy hk
  have h1 := ((Row.new w 24 #[.int .i64 xh, .int .u64 xl]).alloc (.cells #[.int .i64 yh, .int .u64 yl] 24)).alloc (.cells #[.int .i64 0, .int .u64 0] 24)
  have h2 := (Row.new (w.alloc (.cells #[.int .i64 xh, .int .u64 xl] 24)) 24 #[.int .i64 yh, .int .u64 yl]).alloc (.cells #[.int .i64 0, .int .u64 0] 24)
  have hR := Row.new ((w.alloc (.cells #[.int .i64 xh, .int .u64 xl] 24)).alloc (.cells #[.int .i64 yh, .int .u64 yl] 24)) 24 #[.int .i64 0, .int .u64 0]
  have hU := (((Up.refl w).alloc (.cells #[.int .i64 xh, .int .u64 xl] 24)).alloc (.cells #[.int .i64 yh, .int .u64 yl] 24)).alloc (.cells #[.int .i64 0, .int .u64 0] 24)
  simp only [alloc_size] at h2 hR
  go_enter Tryd.func33, Tryd.ntmps33
  go_upto_region 3 with fail
  obtain ⟨V, hV⟩ : ∃ V, V = ((w.alloc (.cells #[.int .i64 xh, .int .u64 xl] 24)).alloc (.cells #[.int .i64 yh, .int .u64 yl] 24)).alloc (.cells #[.int .i64 0, .int .u64 0] 24) := ⟨_, rfl⟩
  rw [← hV] at h1 h2 hR hU ⊢
  clear hV hk1 hk2
  have MK : ∀ W, Row W (w.heap.size) 24 #[.int .i64 xh, .int .u64 xl] → Row W (w.heap.size + 1) 24 #[.int .i64 yh, .int .u64 yl] → (∃ p q : Int, Row W (w.heap.size + 1 + 1) 24 #[.int .i64 p, .int .u64 q]) → Up w.heap.size w W → Row W (w.heap.size) 24 #[.int .i64 xh, .int .u64 xl] ∧ Row W (w.heap.size + 1) 24 #[.int .i64 yh, .int .u64 yl] ∧ (∃ p q : Int, Row W (w.heap.size + 1 + 1) 24 #[.int .i64 p, .int .u64 q]) ∧ Up w.heap.size w W ∧ W.cell? ⟨w.heap.size, 0, none⟩ = some (.int .i64 xh) ∧ W.cell? ⟨w.heap.size, 1, none⟩ = some (.int .u64 xl) ∧ W.cell? ⟨w.heap.size + 1, 0, none⟩ = some (.int .i64 yh) ∧ W.cell? ⟨w.heap.size + 1, 1, none⟩ = some (.int .u64 yl) := fun W k0 k1 k2 k3 => ⟨k0, k1, k2, k3, by simpa using k0.cell 0, by simpa using k0.cell 1, by simpa using k1.cell 0, by simpa using k1.cell 1⟩
  have MK := hid MK
  refine wp_region_noPanic ?_
  refine wp_region_held_drew (S := fun W => Row W (w.heap.size) 24 #[.int .i64 xh, .int .u64 xl] ∧ Row W (w.heap.size + 1) 24 #[.int .i64 yh, .int .u64 yl] ∧ (∃ p q : Int, Row W (w.heap.size + 1 + 1) 24 #[.int .i64 p, .int .u64 q]) ∧ Up w.heap.size w W ∧ W.cell? ⟨w.heap.size, 0, none⟩ = some (.int .i64 xh) ∧ W.cell? ⟨w.heap.size, 1, none⟩ = some (.int .u64 xl) ∧ W.cell? ⟨w.heap.size + 1, 0, none⟩ = some (.int .i64 yh) ∧ W.cell? ⟨w.heap.size + 1, 1, none⟩ = some (.int .u64 yl)) (by kernel_rfl) (MK.out _ h1.drew h2.drew ⟨_, _, hR.drew⟩ hU.drew) (fun hHeld => ?_)
  refine wpAnyH_take (i := 0) (oi := { dst := some 15, op := Op.load 24 (Operand.tmp 3), type := 24, pos := "ref.go:233", after := #[], guard := none }) (v := ?_) rfl (by kernel_rfl) (by kernel_rfl) (by kernel_rfl) (fun _ _ _ h => h) (Or.inl ⟨by rfl, ?_⟩) hHeld ?_
  rotate_left
  · intro w' hSw; (try dsimp only at hSw); go_simp <;> with_reducible rfl
  try simp only [Act.put, List.setIfInBounds_toArray, List.set_cons_zero, List.set_cons_succ]
  refine wpAnyH_take (i := 2) (oi := { dst := some 17, op := Op.load 24 (Operand.tmp 4), type := 24, pos := "ref.go:233", after := #[], guard := none }) (v := ?_) rfl (by kernel_rfl) (by kernel_rfl) (by kernel_rfl) (fun _ _ _ h => h) (Or.inl ⟨by rfl, ?_⟩) hHeld ?_
  rotate_left
  · intro w' hSw; (try dsimp only at hSw); go_simp <;> with_reducible rfl
  try simp only [Act.put, List.setIfInBounds_toArray, List.set_cons_zero, List.set_cons_succ]
  refine wpAnyH_take (i := 5) (oi := { dst := some 20, op := Op.move (Operand.tmp 2), type := 3, pos := "ref.go:233", after := #[], guard := none }) (v := ?_) rfl (by kernel_rfl) (by kernel_rfl) (by kernel_rfl) (fun _ _ _ h => h) (Or.inl ⟨by rfl, ?_⟩) hHeld ?_
  rotate_left
  · intro w' hSw; (try dsimp only at hSw); go_simp <;> with_reducible rfl
  try simp only [Act.put, List.setIfInBounds_toArray, List.set_cons_zero, List.set_cons_succ]
  refine wpAnyH_ready (rs := [1]) (by kernel_rfl) (by simp) ?_
  refine AllReadyH.cons (o := { dst := some 16, op := Op.call { callee := Callee.value (Operand.func 56), args := #[Operand.tmp 15], argTypes := #[24] }, type := 76, pos := "ref.go:233", after := #[{ on := 0, ground := Ground.data }], guard := none }) rfl (fun K hK => ?_) AllReadyH.nil
  go_simp
  refine Calls.mono (HO1.out _) ?_; rintro e w9 ⟨rfl, hb⟩
  refine hK.out _ _ (MK.out _ ((hHeld.1).mod (Mod.of_below hb Nil) (fun hf => hf)) ((hHeld.2.1).mod (Mod.of_below hb Nil) (fun hf => hf)) ((by obtain ⟨p, q, h1⟩ := hHeld.2.2.1; exact ⟨p, q, (h1).mod (Mod.of_below hb Nil) (fun hf => hf)⟩)) ((hHeld.2.2.2.1).trans hb)) (fun hHeld => ?_)
  clear hK K
  try simp only [Act.put, List.setIfInBounds_toArray, List.set_cons_zero, List.set_cons_succ]
  refine wpAnyH_ready (rs := [3]) (by kernel_rfl) (by simp) ?_
  refine AllReadyH.cons (o := { dst := some 18, op := Op.call { callee := Callee.value (Operand.func 56), args := #[Operand.tmp 17], argTypes := #[24] }, type := 76, pos := "ref.go:233", after := #[{ on := 2, ground := Ground.data }, { on := 1, ground := Ground.chain }], guard := none }) rfl (fun K hK => ?_) AllReadyH.nil
  go_simp
  refine Calls.mono (HO2.out _) ?_; rintro e w9 ⟨rfl, hb⟩
  refine hK.out _ _ (MK.out _ ((hHeld.1).mod (Mod.of_below hb Nil) (fun hf => hf)) ((hHeld.2.1).mod (Mod.of_below hb Nil) (fun hf => hf)) ((by obtain ⟨p, q, h1⟩ := hHeld.2.2.1; exact ⟨p, q, (h1).mod (Mod.of_below hb Nil) (fun hf => hf)⟩)) ((hHeld.2.2.2.1).trans hb)) (fun hHeld => ?_)
  clear hK K
  try simp only [Act.put, List.setIfInBounds_toArray, List.set_cons_zero, List.set_cons_succ]
  refine wpAnyH_ready (rs := [4]) (by kernel_rfl) (by simp) ?_
  refine AllReadyH.cons (o := { dst := some 19, op := Op.call { callee := Callee.value (Operand.func 63), args := #[Operand.tmp 16, Operand.tmp 18], argTypes := #[76, 76] }, type := 76, pos := "ref.go:233", after := #[{ on := 1, ground := Ground.data }, { on := 3, ground := Ground.data }, { on := 3, ground := Ground.chain }], guard := none }) rfl (fun K hK => ?_) AllReadyH.nil
  go_simp
  refine Calls.mono (HQM.out _) ?_; rintro e w9 ⟨rfl, hb⟩
  refine hK.out _ _ (MK.out _ ((hHeld.1).mod (Mod.of_below hb Nil) (fun hf => hf)) ((hHeld.2.1).mod (Mod.of_below hb Nil) (fun hf => hf)) ((by obtain ⟨p, q, h1⟩ := hHeld.2.2.1; exact ⟨p, q, (h1).mod (Mod.of_below hb Nil) (fun hf => hf)⟩)) ((hHeld.2.2.2.1).trans hb)) (fun hHeld => ?_)
  clear hK K
  try simp only [Act.put, List.setIfInBounds_toArray, List.set_cons_zero, List.set_cons_succ]
  refine wpAnyH_ready (rs := [6]) (by kernel_rfl) (by simp) ?_
  refine AllReadyH.cons (o := { dst := some 21, op := Op.call { callee := Callee.value (Operand.func 66), args := #[Operand.tmp 19, Operand.tmp 20], argTypes := #[76, 3] }, type := 76, pos := "ref.go:233", after := #[{ on := 4, ground := Ground.data }, { on := 5, ground := Ground.data }, { on := 4, ground := Ground.chain }], guard := none }) rfl (fun K hK => ?_) AllReadyH.nil
  go_simp
  refine Calls.mono (HQR.out _) ?_; rintro e w9 ⟨rfl, hb⟩
  refine hK.out _ _ (MK.out _ ((hHeld.1).mod (Mod.of_below hb Nil) (fun hf => hf)) ((hHeld.2.1).mod (Mod.of_below hb Nil) (fun hf => hf)) ((by obtain ⟨p, q, h1⟩ := hHeld.2.2.1; exact ⟨p, q, (h1).mod (Mod.of_below hb Nil) (fun hf => hf)⟩)) ((hHeld.2.2.2.1).trans hb)) (fun hHeld => ?_)
  clear hK K
  try simp only [Act.put, List.setIfInBounds_toArray, List.set_cons_zero, List.set_cons_succ]
  refine wpAnyH_ready (rs := [7]) (by kernel_rfl) (by simp) ?_
  refine AllReadyH.cons (o := { dst := some 22, op := Op.call { callee := Callee.value (Operand.func 54), args := #[Operand.tmp 21], argTypes := #[76] }, type := 26, pos := "ref.go:233", after := #[{ on := 6, ground := Ground.data }, { on := 6, ground := Ground.chain }], guard := none }) rfl (fun K hK => ?_) AllReadyH.nil
  go_simp
  refine Calls.mono (HQW.out _) ?_; rintro e w9 ⟨rfl, hb⟩
  refine hK.out _ _ (MK.out _ ((hHeld.1).mod (Mod.of_below hb Nil) (fun hf => hf)) ((hHeld.2.1).mod (Mod.of_below hb Nil) (fun hf => hf)) ((by obtain ⟨p, q, h1⟩ := hHeld.2.2.1; exact ⟨p, q, (h1).mod (Mod.of_below hb Nil) (fun hf => hf)⟩)) ((hHeld.2.2.2.1).trans hb)) (fun hHeld => ?_)
  clear hK K
  try simp only [Act.put, List.setIfInBounds_toArray, List.set_cons_zero, List.set_cons_succ]
  refine wpAnyH_take (i := 8) (oi := { dst := some 23, op := Op.extract (Operand.tmp 22) 0, type := 24, pos := "ref.go:233", after := #[{ on := 7, ground := Ground.data }], guard := none }) (v := ?_) rfl (by kernel_rfl) (by kernel_rfl) (by kernel_rfl) (fun _ _ _ h => h) (Or.inl ⟨by rfl, ?_⟩) hHeld ?_
  rotate_left
  · intro w' hSw; (try dsimp only at hSw); go_simp <;> with_reducible rfl
  try simp only [Act.put, List.setIfInBounds_toArray, List.set_cons_zero, List.set_cons_succ]
  refine wpAnyH_take (i := 9) (oi := { dst := some 24, op := Op.extract (Operand.tmp 22) 1, type := 25, pos := "ref.go:233", after := #[{ on := 7, ground := Ground.data }], guard := none }) (v := ?_) rfl (by kernel_rfl) (by kernel_rfl) (by kernel_rfl) (fun _ _ _ h => h) (Or.inl ⟨by rfl, ?_⟩) hHeld ?_
  rotate_left
  · intro w' hSw; (try dsimp only at hSw); go_simp <;> with_reducible rfl
  try simp only [Act.put, List.setIfInBounds_toArray, List.set_cons_zero, List.set_cons_succ]
  obtain ⟨p, q, hcs⟩ := hHeld.2.2.1
  refine wpAnyH_ready (rs := [10]) (by kernel_rfl) (by simp) ?_
  refine AllReadyH.cons (o := { dst := none, op := Op.store 24 (Operand.tmp 6) (Operand.tmp 23), type := 0, pos := "ref.go:233", after := #[{ on := 8, ground := Ground.data }, { on := 7, ground := Ground.chain }, { on := 0, ground := Ground.phase }, { on := 1, ground := Ground.phase }, { on := 2, ground := Ground.phase }, { on := 3, ground := Ground.phase }, { on := 4, ground := Ground.phase }, { on := 5, ground := Ground.phase }, { on := 6, ground := Ground.phase }, { on := 7, ground := Ground.phase }, { on := 8, ground := Ground.phase }, { on := 9, ground := Ground.phase }], guard := none }) rfl (fun K hK => ?_) AllReadyH.nil
  refine (if_pos (by rfl)).mpr ?_
  refine wp_store_row 24 _ _ rfl (w.heap.size + 1 + 1) #[.int .i64 rh, .int .u64 rl] rfl rfl 24 #[.int .i64 p, .int .u64 q] hcs size_W rfl (by simp [Value.oneCell']) ?_
  refine hK.out _ _ (MK.out _ ((hHeld.1).farRow (by omega) _) ((hHeld.2.1).farRow (by omega) _) (⟨_, _, hcs.putRow _⟩) ((hHeld.2.2.2.1).setRow (by omega) _)) (fun hHeld => ?_)
  clear hK K
  try simp only [Act.put, List.setIfInBounds_toArray, List.set_cons_zero, List.set_cons_succ]
  refine wpAnyH_take (i := 11) (oi := { dst := some 7, op := Op.assign (Operand.tmp 24), type := 25, pos := "ref.go:233", after := #[{ on := 9, ground := Ground.data }, { on := 10, ground := Ground.chain }, { on := 0, ground := Ground.phase }, { on := 1, ground := Ground.phase }, { on := 2, ground := Ground.phase }, { on := 3, ground := Ground.phase }, { on := 4, ground := Ground.phase }, { on := 5, ground := Ground.phase }, { on := 6, ground := Ground.phase }, { on := 7, ground := Ground.phase }, { on := 8, ground := Ground.phase }, { on := 9, ground := Ground.phase }, { on := 10, ground := Ground.phase }], guard := none }) (v := ?_) rfl (by kernel_rfl) (by kernel_rfl) (by kernel_rfl) (fun _ _ _ h => h) (Or.inl ⟨by rfl, ?_⟩) hHeld ?_
  rotate_left
  · intro w' hSw; (try dsimp only at hSw); go_simp <;> with_reducible rfl
  try simp only [Act.put, List.setIfInBounds_toArray, List.set_cons_zero, List.set_cons_succ]
  refine wpAnyH_done (by kernel_rfl) ?_ _
  refine NoPanic.normal ?_
  go_wp2_with fail
  have r1 := run_loadVar_row (P := Tryd.prog) _ (w.heap.size + 1 + 1) 24 24 #[.int .i64 rh, .int .u64 rl] (0, 0) _ (hcs.putRow #[.int .i64 rh, .int .u64 rl]) Tryd.underlying24 rfl size_W
  exact bodyPost_ret (v := .tuple #[.agg #[.int .i64 rh, .int .u64 rl], .int .i64 rk]) (by simp [results, Tryd.results33, asAddr, r1]) rfl ⟨rfl, hHeld.2.2.2.1.below⟩

end Go.Proofs.YtfalllekhcocgaaDoor
