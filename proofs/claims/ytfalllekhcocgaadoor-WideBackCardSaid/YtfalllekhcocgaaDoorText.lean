/-
  The example of chapter 2 for Text: -120.
-/
import Derived.Test.YtfalllekhcocgaaDoorFmt
namespace Go.Proofs.YtfalllekhcocgaaDoor
open Go.RowKit

theorem text_120 (w : World) (htab : Lib.TabIs Tryd.prog w "internal/strconv.uint64pow10" .u64 Lib.pow10Tab) (hg : 2 < w.heap.size) :
    Calls Tryd.prog 21 #[WV (-120)] w fun e w' => e = .returned (.string ⟨#[45, 49, 50, 48]⟩) ∧ Below w.heap.size w w' := by
  have eW : WV (-120) = .agg #[.int .i64 (-1), .int .u64 18446744073709551496] := by
    unfold WV
    rw [show (-120 : Int) / 18446744073709551616 = -1 by decide, show (-120 : Int) % 18446744073709551616 = 18446744073709551496 by decide]
  have eU : UV (mag (-120)) = .agg #[.int .u64 0, .int .u64 120] := by
    rw [show mag (-120) = 120 by decide]
    rfl
  have S := fun w => sized_any w (-120) (by unfold Fits; omega)
  rw [eW, eU, show decide ((-120 : Int) < 0) = true by decide] at S
  have S := hid S
  have T := hid (fun w => show Calls Tryd.prog 49 #[.int .i64 19] w fun e w' => e = .returned (.int .u64 10000000000000000000) ∧ Below w.heap.size w w' from ten_any w 19 (by decide))
  have D := hid (fun w => show Calls Tryd.prog 51 #[.int .u64 0, .int .u64 120, .int .u64 10000000000000000000] w fun e w' => e = .returned (.tuple #[.int .u64 0, .int .u64 120]) ∧ ∃ n, w' = w.drewN n from div64_small w 120 10000000000000000000 (by decide) (by decide))
  have F := hid (fun w h => show Calls Tryd.prog 52 #[.int .u64 120, .int .i64 10] w fun e w' => e = .returned (.string ⟨#[49, 50, 48]⟩) ∧ Below w.heap.size w w' from by
    have := formatUint_any w 120 (by decide) (by decide) h
    rwa [show (Lib.decDigits 120).toArray = #[49, 50, 48] by decide +kernel] at this)
  have HT := hid htab
  rw [eW]
  clear htab eW eU
  go_enter Tryd.func21, Tryd.ntmps21
  go_wp2_with fail
  refine Calls.mono (S.out _) ?_; rintro e w1 ⟨rfl, hb1⟩
  have hU1 := ((Up.refl w).alloc (.cells #[.int .i64 (-1), .int .u64 18446744073709551496] 24)).trans hb1
  have hM := Row.new w1 54 #[.int .u64 0, .int .u64 120]
  have hU2 := hU1.alloc (.cells #[.int .u64 0, .int .u64 120] 54)
  clear hb1
  go_wp2_with fail
  obtain ⟨V, hV⟩ : ∃ V, V = w1.alloc (.cells #[.int .u64 0, .int .u64 120] 54) := ⟨_, rfl⟩
  rw [← hV] at hM hU2 ⊢
  clear hV
  have MK : ∀ W, Up V.heap.size V W → W.cell? ⟨w1.heap.size, 0, none⟩ = some (.int .u64 0) ∧ W.cell? ⟨w1.heap.size, 1, none⟩ = some (.int .u64 120) ∧ Up w.heap.size w W := fun W hW => by
    have h := hM.below hW.below hM.lt
    exact ⟨by simpa using h.cell 0, by simpa using h.cell 1, hU2.trans hW.below⟩
  have MK := hid MK
  clear hM hU1
  refine wp_region_noPanic ?_
  refine wp_region_held_drew (S := fun W => W.cell? ⟨w1.heap.size, 0, none⟩ = some (.int .u64 0) ∧ W.cell? ⟨w1.heap.size, 1, none⟩ = some (.int .u64 120) ∧ Up w.heap.size w W) (by kernel_rfl) (MK.out _ (Up.refl V).drew) (fun hHeld => ?_)
  refine wpAnyH_take (i := 0) (oi := { dst := some 14, op := Op.fieldAddr 54 (Operand.tmp 3) 0, type := 0, pos := "text.go:16", after := #[], guard := none }) (v := ?_) rfl (by kernel_rfl) (by kernel_rfl) (by kernel_rfl) (fun _ _ _ h => h) (Or.inl ⟨by rfl, ?_⟩) hHeld ?_
  rotate_left
  · intro w' hSw; (try dsimp only at hSw); go_simp <;> with_reducible rfl
  try simp only [Act.put, List.setIfInBounds_toArray, List.set_cons_zero, List.set_cons_succ]
  refine wpAnyH_take (i := 1) (oi := { dst := some 15, op := Op.load 22 (Operand.tmp 14), type := 22, pos := "text.go:16", after := #[{ on := 0, ground := Ground.data }], guard := none }) (v := ?_) rfl (by kernel_rfl) (by kernel_rfl) (by kernel_rfl) (fun _ _ _ h => h) (Or.inl ⟨by rfl, ?_⟩) hHeld ?_
  rotate_left
  · intro w' hSw; (try dsimp only at hSw); go_simp <;> with_reducible rfl
  try simp only [Act.put, List.setIfInBounds_toArray, List.set_cons_zero, List.set_cons_succ]
  refine wpAnyH_take (i := 2) (oi := { dst := some 16, op := Op.fieldAddr 54 (Operand.tmp 3) 1, type := 0, pos := "text.go:16", after := #[], guard := none }) (v := ?_) rfl (by kernel_rfl) (by kernel_rfl) (by kernel_rfl) (fun _ _ _ h => h) (Or.inl ⟨by rfl, ?_⟩) hHeld ?_
  rotate_left
  · intro w' hSw; (try dsimp only at hSw); go_simp <;> with_reducible rfl
  try simp only [Act.put, List.setIfInBounds_toArray, List.set_cons_zero, List.set_cons_succ]
  refine wpAnyH_take (i := 3) (oi := { dst := some 17, op := Op.load 22 (Operand.tmp 16), type := 22, pos := "text.go:16", after := #[{ on := 2, ground := Ground.data }], guard := none }) (v := ?_) rfl (by kernel_rfl) (by kernel_rfl) (by kernel_rfl) (fun _ _ _ h => h) (Or.inl ⟨by rfl, ?_⟩) hHeld ?_
  rotate_left
  · intro w' hSw; (try dsimp only at hSw); go_simp <;> with_reducible rfl
  try simp only [Act.put, List.setIfInBounds_toArray, List.set_cons_zero, List.set_cons_succ]
  refine wpAnyH_ready (rs := [4]) (by kernel_rfl) (by simp) ?_
  refine AllReadyH.cons (o := { dst := some 18, op := Op.call { callee := Callee.value (Operand.func 49), args := #[Operand.const (Value.int IntKind.i64 19)], argTypes := #[3] }, type := 22, pos := "text.go:16", after := #[], guard := none }) rfl (fun K hK => ?_) AllReadyH.nil
  go_simp
  refine Calls.mono (T.out _) ?_; rintro e w2 ⟨rfl, hb2⟩
  have hU3 := ((Up.refl V).drew).trans hb2
  refine hK.out _ _ (MK.out _ hU3) (fun hHeld => ?_)
  clear hK K
  try simp only [Act.put, List.setIfInBounds_toArray, List.set_cons_zero, List.set_cons_succ]
  refine wpAnyH_ready (rs := [5]) (by kernel_rfl) (by simp) ?_
  refine AllReadyH.cons (o := { dst := some 19, op := Op.call { callee := Callee.value (Operand.func 51), args := #[Operand.tmp 15, Operand.tmp 17, Operand.tmp 18], argTypes := #[22, 22, 22] }, type := 66, pos := "text.go:16", after := #[{ on := 1, ground := Ground.data }, { on := 3, ground := Ground.data }, { on := 4, ground := Ground.data }, { on := 4, ground := Ground.chain }], guard := none }) rfl (fun K hK => ?_) AllReadyH.nil
  go_simp
  refine Calls.mono (D.out _) ?_; rintro e w3 ⟨rfl, n, rfl⟩
  have hU4 := hU3.drewN n
  refine hK.out _ _ (MK.out _ hU4) (fun hHeld => ?_)
  clear hK K
  try simp only [Act.put, List.setIfInBounds_toArray, List.set_cons_zero, List.set_cons_succ]
  refine wpAnyH_take (i := 6) (oi := { dst := some 13, op := Op.move (Operand.tmp 19), type := 66, pos := "text.go:16", after := #[{ on := 5, ground := Ground.data }], guard := none }) (v := ?_) rfl (by kernel_rfl) (by kernel_rfl) (by kernel_rfl) (fun _ _ _ h => h) (Or.inl ⟨by rfl, ?_⟩) hHeld ?_
  rotate_left
  · intro w' hSw; (try dsimp only at hSw); go_simp <;> with_reducible rfl
  try simp only [Act.put, List.setIfInBounds_toArray, List.set_cons_zero, List.set_cons_succ]
  refine wpAnyH_take (i := 7) (oi := { dst := some 20, op := Op.extract (Operand.tmp 13) 0, type := 22, pos := "text.go:16", after := #[{ on := 6, ground := Ground.data }], guard := none }) (v := ?_) rfl (by kernel_rfl) (by kernel_rfl) (by kernel_rfl) (fun _ _ _ h => h) (Or.inl ⟨by rfl, ?_⟩) hHeld ?_
  rotate_left
  · intro w' hSw; (try dsimp only at hSw); go_simp <;> with_reducible rfl
  try simp only [Act.put, List.setIfInBounds_toArray, List.set_cons_zero, List.set_cons_succ]
  refine wpAnyH_take (i := 8) (oi := { dst := some 21, op := Op.extract (Operand.tmp 13) 1, type := 22, pos := "text.go:16", after := #[{ on := 6, ground := Ground.data }, { on := 9, ground := Ground.gcOnly Departure.lateStores }], guard := none }) (v := ?_) rfl (by kernel_rfl) (by kernel_rfl) (by kernel_rfl) (fun _ _ _ h => h) (Or.inl ⟨by rfl, ?_⟩) hHeld ?_
  rotate_left
  · intro w' hSw; (try dsimp only at hSw); go_simp <;> with_reducible rfl
  try simp only [Act.put, List.setIfInBounds_toArray, List.set_cons_zero, List.set_cons_succ]
  refine wpAnyH_take (i := 9) (oi := { dst := some 5, op := Op.assign (Operand.tmp 20), type := 22, pos := "text.go:16", after := #[{ on := 7, ground := Ground.data }, { on := 5, ground := Ground.chain }, { on := 0, ground := Ground.phase }, { on := 1, ground := Ground.phase }, { on := 2, ground := Ground.phase }, { on := 3, ground := Ground.phase }, { on := 4, ground := Ground.phase }, { on := 5, ground := Ground.phase }, { on := 6, ground := Ground.phase }, { on := 7, ground := Ground.phase }, { on := 8, ground := Ground.textOnly Departure.lateStores }], guard := none }) (v := ?_) rfl (by kernel_rfl) (by kernel_rfl) (by kernel_rfl) (fun _ _ _ h => h) (Or.inl ⟨by rfl, ?_⟩) hHeld ?_
  rotate_left
  · intro w' hSw; (try dsimp only at hSw); go_simp <;> with_reducible rfl
  try simp only [Act.put, List.setIfInBounds_toArray, List.set_cons_zero, List.set_cons_succ]
  refine wpAnyH_take (i := 10) (oi := { dst := some 6, op := Op.assign (Operand.tmp 21), type := 22, pos := "text.go:16", after := #[{ on := 8, ground := Ground.data }, { on := 9, ground := Ground.chain }, { on := 0, ground := Ground.phase }, { on := 1, ground := Ground.phase }, { on := 2, ground := Ground.phase }, { on := 3, ground := Ground.phase }, { on := 4, ground := Ground.phase }, { on := 5, ground := Ground.phase }, { on := 6, ground := Ground.phase }, { on := 7, ground := Ground.phase }, { on := 8, ground := Ground.phase }, { on := 9, ground := Ground.phase }], guard := none }) (v := ?_) rfl (by kernel_rfl) (by kernel_rfl) (by kernel_rfl) (fun _ _ _ h => h) (Or.inl ⟨by rfl, ?_⟩) hHeld ?_
  rotate_left
  · intro w' hSw; (try dsimp only at hSw); go_simp <;> with_reducible rfl
  try simp only [Act.put, List.setIfInBounds_toArray, List.set_cons_zero, List.set_cons_succ]
  refine wpAnyH_done (by kernel_rfl) ?_ _
  refine NoPanic.normal ?_
  go_wp2_with fail
  refine Calls.mono (F.out _ (tab_below HT.out hHeld.2.2.below hg)) ?_; rintro e w4 ⟨rfl, hb4⟩
  go_wp2_with fail
  go_ret
  exact ⟨rfl, (hHeld.2.2.trans hb4).below⟩
end Go.Proofs.YtfalllekhcocgaaDoor
