/-
  RefR
-/
import Derived.Test.YtmamedobphlpkaaDoorE08
import Derived.Test.YtmamedobphlpkaaDoorS04
set_option linter.unusedSimpArgs false
set_option linter.unusedVariables false

namespace Go.Proofs.YtmamedobphlpkaaDoor
open Go.RowKit

set_option maxRecDepth 100000 in
set_option maxHeartbeats 4000000 in
theorem round_up (w : World) (z k : Int) (j : Nat) (hz : z.natAbs < BP 8) (hk : k = -(j : Int)) (hj : j ≤ 67) :
    Calls Tryd.prog 48 #[BigZ z, .int .i64 k] w fun e w' => e = .returned (BigZ (z * ((10 ^ j : Nat) : Int))) ∧ Below w.heap.size w w' := by
  have QT := fun w => rten_any w (j : Int) (by omega)
  rw [Int.toNat_natCast] at QT
  have h67 : 10 ^ j < BP 7 := by
    have h1 : 10 ^ j ≤ 10 ^ 67 := Nat.pow_le_pow_right (by decide) hj
    have h2 : (10 : Nat) ^ 67 < BP 7 := by decide
    omega
  have QM := fun w => rtimes_any w z ((10 ^ j : Nat) : Int) hz (by rw [Int.natAbs_natCast]; exact h67)
  obtain ⟨d, hd⟩ : ∃ d, d = 10 ^ j := ⟨_, rfl⟩
  rw [← hd] at QT QM ⊢
  rw [← pos_bigr] at QM
  obtain ⟨R, hR⟩ : ∃ R, R = bigs (decide (z * (d : Int) < 0)) (z * (d : Int)).natAbs := ⟨_, rfl⟩
  have hRv : BigZ (z * (d : Int)) = .agg R := by rw [hR]; rfl
  rw [hRv] at QM ⊢
  obtain ⟨A, hA⟩ : ∃ A, A = bigs (decide (z < 0)) z.natAbs := ⟨_, rfl⟩
  have hAv : BigZ z = .agg A := by rw [hA]; rfl
  rw [hAv] at QM ⊢
  unfold BigV at QM
  unfold DV at QT
  obtain ⟨E, hE⟩ : ∃ E, E = digs d := ⟨_, rfl⟩
  obtain ⟨C, hC⟩ : ∃ C, C = bigs false d := ⟨_, rfl⟩
  rw [← hE] at QT
  rw [← hC] at QM
  have HA := hid hA
  have HR := hid hR
  have HE := hid hE
  have HC := hid hC
  have HQT := hid QT
  have HQM := hid QM
  have wn : IntKind.i64.wrap (-k) = (j : Int) := by rw [IntKind.wrap_i64]; omega
  have hk1 : k ≤ 0 := by omega
  clear QT QM hA hR hE hC hRv hAv hd h67 hz hk hj
  have r2 := (Row.new w 55 A).alloc (.cells (bigs false 0) 55)
  have rr := Row.new (w.alloc (.cells A 55)) 55 (bigs false 0)
  have hU := ((Up.refl w).alloc (.cells A 55)).alloc (.cells (bigs false 0) 55)
  simp only [alloc_size] at rr
  go_enter Tryd.func48, Tryd.ntmps48
  go_upto_region 2 with fail
  obtain ⟨V, hV⟩ : ∃ V, V = (w.alloc (.cells A 55)).alloc (.cells (bigs false 0) 55) := ⟨_, rfl⟩
  rw [bigs_0] at hV
  rw [← hV]
  rw [← bigs_0] at hV
  rw [← hV] at r2 rr hU
  clear hV hk1
  have MK : ∀ W, Row W (w.heap.size) 55 A → (∃ cs : Array Value, Row W (w.heap.size + 1) 55 cs ∧ cs.size = 17) → Up w.heap.size w W → Row W (w.heap.size) 55 A ∧ (∃ cs : Array Value, Row W (w.heap.size + 1) 55 cs ∧ cs.size = 17) ∧ Up w.heap.size w W := fun W k0 k1 k2 => ⟨k0, k1, k2⟩
  have MK := hid MK
  refine wp_region_noPanic ?_
  refine wp_region_held_drew (S := fun W => Row W (w.heap.size) 55 A ∧ (∃ cs : Array Value, Row W (w.heap.size + 1) 55 cs ∧ cs.size = 17) ∧ Up w.heap.size w W) (by kernel_rfl) (MK.out _ r2.drew ⟨_, rr.drew, bigs_size _ _⟩ hU.drew) (fun hHeld => ?_)
  refine wpAnyH_take (i := 0) (oi := { dst := some 12, op := Op.load 55 (Operand.tmp 2), type := 55, pos := "ref.go:215", after := #[], guard := none }) (v := .agg A) rfl (by kernel_rfl) (by kernel_rfl) (by kernel_rfl) (fun _ _ _ h => h) (Or.inl ⟨by rfl, fun W hW => exec_load_row 55 _ rfl (w.heap.size) rfl 55 A _ Tryd.underlying55 rfl (size_Bn (sizeC HA)) W hW.1⟩) hHeld ?_
  try simp only [Act.put, List.setIfInBounds_toArray, List.set_cons_zero, List.set_cons_succ]
  refine wpAnyH_take (i := 1) (oi := { dst := some 13, op := Op.move (Operand.tmp 1), type := 3, pos := "ref.go:215", after := #[], guard := none }) (v := ?_) rfl (by kernel_rfl) (by kernel_rfl) (by kernel_rfl) (fun _ _ _ h => h) (Or.inl ⟨by rfl, ?_⟩) hHeld ?_
  rotate_left
  · intro w' hSw; (try dsimp only at hSw); go_simp <;> with_reducible rfl
  try simp only [Act.put, List.setIfInBounds_toArray, List.set_cons_zero, List.set_cons_succ]
  refine wpAnyH_take (i := 2) (oi := { dst := some 14, op := Op.unOp UnOp.neg 3 (Operand.tmp 13), type := 3, pos := "ref.go:215", after := #[{ on := 1, ground := Ground.data }], guard := none }) (v := ?_) rfl (by kernel_rfl) (by kernel_rfl) (by kernel_rfl) (fun _ _ _ h => h) (Or.inl ⟨by rfl, ?_⟩) hHeld ?_
  rotate_left
  · intro w' hSw; (try dsimp only at hSw); go_simp <;> with_reducible rfl
  try simp only [Act.put, List.setIfInBounds_toArray, List.set_cons_zero, List.set_cons_succ]
  refine wpAnyH_ready (rs := [3]) (by kernel_rfl) (by simp) ?_
  refine AllReadyH.cons (o := { dst := some 15, op := Op.call { callee := Callee.value (Operand.func 70), args := #[Operand.tmp 14], argTypes := #[3] }, type := 53, pos := "ref.go:215", after := #[{ on := 2, ground := Ground.data }], guard := none }) rfl (fun K hK => ?_) AllReadyH.nil
  go_simp
  refine Calls.mono (HQT.out _) ?_; rintro e w5 ⟨rfl, hb⟩
  refine hK.out _ _ (MK.out _ ((hHeld.1).mod (Mod.of_below hb Nil) (fun hf => hf)) ((by obtain ⟨cs, h1, h2⟩ := hHeld.2.1; exact ⟨cs, (h1).mod (Mod.of_below hb Nil) (fun hf => hf), h2⟩)) ((hHeld.2.2).trans hb)) (fun hHeld => ?_)
  clear hK K
  try simp only [Act.put, List.setIfInBounds_toArray, List.set_cons_zero, List.set_cons_succ]
  refine wpAnyH_take (i := 4) (oi := { dst := some 16, op := Op.build 55 #[(0, Operand.const (Value.bool false)), (1, Operand.tmp 15)], type := 55, pos := "ref.go:215", after := #[{ on := 3, ground := Ground.data }], guard := none }) (v := .agg C) rfl (by kernel_rfl) (by kernel_rfl) (by kernel_rfl) (fun _ _ _ h => h) (Or.inl ⟨by rfl, fun W hW => exec_build_C HC HE _ _ rfl rfl rfl⟩) hHeld ?_
  try simp only [Act.put, List.setIfInBounds_toArray, List.set_cons_zero, List.set_cons_succ]
  refine wpAnyH_ready (rs := [5]) (by kernel_rfl) (by simp) ?_
  refine AllReadyH.cons (o := { dst := some 17, op := Op.call { callee := Callee.value (Operand.func 49), args := #[Operand.tmp 12, Operand.tmp 16], argTypes := #[55, 55] }, type := 55, pos := "ref.go:215", after := #[{ on := 0, ground := Ground.data }, { on := 4, ground := Ground.data }, { on := 3, ground := Ground.chain }], guard := none }) rfl (fun K hK => ?_) AllReadyH.nil
  go_simp
  refine Calls.mono (HQM.out _) ?_; rintro e w6 ⟨rfl, hb⟩
  refine hK.out _ _ (MK.out _ ((hHeld.1).mod (Mod.of_below hb Nil) (fun hf => hf)) ((by obtain ⟨cs, h1, h2⟩ := hHeld.2.1; exact ⟨cs, (h1).mod (Mod.of_below hb Nil) (fun hf => hf), h2⟩)) ((hHeld.2.2).trans hb)) (fun hHeld => ?_)
  clear hK K
  try simp only [Act.put, List.setIfInBounds_toArray, List.set_cons_zero, List.set_cons_succ]
  obtain ⟨cs, hcs, hcz⟩ := hHeld.2.1
  refine wpAnyH_ready (rs := [6]) (by kernel_rfl) (by simp) ?_
  refine AllReadyH.cons (o := { dst := none, op := Op.store 55 (Operand.tmp 4) (Operand.tmp 17), type := 0, pos := "ref.go:215", after := #[{ on := 5, ground := Ground.data }, { on := 5, ground := Ground.chain }, { on := 0, ground := Ground.phase }, { on := 1, ground := Ground.phase }, { on := 2, ground := Ground.phase }, { on := 3, ground := Ground.phase }, { on := 4, ground := Ground.phase }, { on := 5, ground := Ground.phase }], guard := none }) rfl (fun K hK => ?_) AllReadyH.nil
  refine (if_pos (by rfl)).mpr ?_
  refine wp_store_row 55 _ _ rfl (w.heap.size + 1) R rfl rfl 55 cs hcs (size_Bn (sizeC HR)) (by rw [hcz, sizeC HR]) (oneC HR) ?_
  refine hK.out _ _ (MK.out _ ((hHeld.1).farRow (by omega) R) (⟨R, hcs.putRow R, sizeC HR⟩) ((hHeld.2.2).setRow (by omega) R)) (fun hHeld => ?_)
  clear hK K
  try simp only [Act.put, List.setIfInBounds_toArray, List.set_cons_zero, List.set_cons_succ]
  refine wpAnyH_done (by kernel_rfl) ?_ _
  refine NoPanic.normal ?_
  go_wp2_with fail
  exact bodyPost_ret (v := .agg R) (results_cell_row Tryd.results48 _ _ (w.heap.size + 1) 55 R (0, 0) _ rfl (hcs.putRow _) Tryd.underlying55 rfl (size_Bn (sizeC HR))) rfl ⟨rfl, hHeld.2.2.below⟩

theorem round_any (w : World) (z k : Int) (hz : z.natAbs < BP 8) (hk : -67 ≤ k ∧ k ≤ 77) :
    Calls Tryd.prog 48 #[BigZ z, .int .i64 k] w fun e w' => e = .returned (BigZ (roundZ z k)) ∧ Below w.heap.size w w' := by
  unfold roundZ
  by_cases h : k ≤ 0
  · rw [if_pos h]
    exact round_up w z k (-k).toNat hz (by omega) (by omega)
  · rw [if_neg h]
    exact round_down w z k (Nat.lt_of_lt_of_le hz (BP_le (by decide))) ⟨by omega, hk.2⟩
theorem rounded_small {z : Int} {d i : Nat} (hd : 0 < d) (hz : z.natAbs < BP i) : (rounded z d).natAbs < BP (i + 1) := by
  have h1 : halfEven z.natAbs d ≤ z.natAbs + 1 := by
    unfold halfEven
    have := Nat.div_le_self z.natAbs d
    split <;> omega
  have h2 := BP_succ i
  have h3 := BP_pos i
  unfold rounded
  split <;> omega
theorem roundZ_small {z k : Int} (hz : z.natAbs < BP 8) (hk : -67 ≤ k ∧ k ≤ 77) : (roundZ z k).natAbs < BP 16 := by
  unfold roundZ
  by_cases h : k ≤ 0
  · rw [if_pos h]
    have h67 : 10 ^ (-k).toNat < BP 7 := by
      have h1 : 10 ^ (-k).toNat ≤ 10 ^ 67 := Nat.pow_le_pow_right (by decide) (by omega)
      have h2 : (10 : Nat) ^ 67 < BP 7 := by decide
      omega
    exact prod_small hz (j := 7) (by rw [Int.natAbs_natCast]; exact h67) (by decide)
  · rw [if_neg h]
    exact Nat.lt_of_lt_of_le (rounded_small (Nat.pow_pos (by decide)) hz) (BP_le (by decide))

end Go.Proofs.YtmamedobphlpkaaDoor
