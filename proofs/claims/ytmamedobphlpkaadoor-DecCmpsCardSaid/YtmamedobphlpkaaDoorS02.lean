/-
  RefD · Bigt · RefE · RefF · RefG · Loop · Digw
-/
import Derived.Test.YtmamedobphlpkaaDoorE02
import Derived.Test.YtmamedobphlpkaaDoorF03
import Derived.Test.YtmamedobphlpkaaDoorS01
import Derived.Deep.Cut
import Derived.LoopN
set_option linter.unusedSimpArgs false
set_option linter.unusedVariables false

namespace Go.Proofs.YtmamedobphlpkaaDoor
open Go.RowKit

theorem size_B : (Tryd.prog.info? 55).map (·.size) = some 17 := by kernel_rfl
theorem size_Bn {C : Array Value} (h : C.size = 17) : (Tryd.prog.info? 55).map (·.size) = some C.size := by rw [h]; exact size_B
theorem bigs_one (b : Bool) (n : Nat) : (bigs b n).all (·.oneCell') = true := by
  unfold bigs
  rw [Array.all_append, digs_one]
  simp [Value.oneCell']
theorem bigs_0 (b : Bool) : bigs b 0 = #[.bool b, .int .u64 0, .int .u64 0, .int .u64 0, .int .u64 0, .int .u64 0, .int .u64 0, .int .u64 0, .int .u64 0, .int .u64 0, .int .u64 0, .int .u64 0, .int .u64 0, .int .u64 0, .int .u64 0, .int .u64 0, .int .u64 0] := by
  unfold bigs
  rw [digs_0]
  rfl
/-- four digits written into a number of none -/
theorem row_four {W : World} {g : Nat} {t : TypeId} {b : Bool} (hR : Row W g t #[.bool b, .int .u64 0, .int .u64 0, .int .u64 0, .int .u64 0, .int .u64 0, .int .u64 0, .int .u64 0, .int .u64 0, .int .u64 0, .int .u64 0, .int .u64 0, .int .u64 0, .int .u64 0, .int .u64 0, .int .u64 0, .int .u64 0]) (h l : Nat) (hh : h < 18446744073709551616) (hl : l < 18446744073709551616) :
    Row ((((W.setCell ⟨g, 1, none⟩ (.int .u64 ((l : Int) % 4294967296))).setCell ⟨g, 2, none⟩ (.int .u64 ((l : Int) / 4294967296))).setCell ⟨g, 3, none⟩ (.int .u64 ((h : Int) % 4294967296))).setCell ⟨g, 4, none⟩ (.int .u64 ((h : Int) / 4294967296))) g t (bigs b (h * 18446744073709551616 + l)) := by
  rw [← bigs_0] at hR
  have e1 : ((l : Int) % 4294967296) = ((l % 4294967296 : Nat) : Int) := by omega
  have e2 : ((l : Int) / 4294967296) = ((l / 4294967296 : Nat) : Int) := by omega
  have e3 : ((h : Int) % 4294967296) = ((h % 4294967296 : Nat) : Int) := by omega
  have e4 : ((h : Int) / 4294967296) = ((h / 4294967296 : Nat) : Int) := by omega
  rw [e1, e2, e3, e4]
  have r1 := hR.set 1 (.int .u64 ((l % 4294967296 : Nat) : Int))
  rw [bigs_set b _ (j := 0) (v := l % 4294967296) (by omega)] at r1
  have r2 := r1.set 2 (.int .u64 ((l / 4294967296 : Nat) : Int))
  rw [bigs_set b _ (j := 1) (v := l / 4294967296) (by omega)] at r2
  have r3 := r2.set 3 (.int .u64 ((h % 4294967296 : Nat) : Int))
  rw [bigs_set b _ (j := 2) (v := h % 4294967296) (by omega)] at r3
  have r4 := r3.set 4 (.int .u64 ((h / 4294967296 : Nat) : Int))
  rw [bigs_set b _ (j := 3) (v := h / 4294967296) (by omega), put_four h l hh hl] at r4
  exact r4

set_option maxRecDepth 100000 in
set_option maxHeartbeats 2000000 in
theorem of_pos (w : World) (h l : Nat) (h1 : h < 9223372036854775808) (hl : l < 18446744073709551616) : Calls Tryd.prog 41 #[.agg #[.int .i64 h, .int .u64 l]] w fun e w' => e = .returned (BigV false (h * 18446744073709551616 + l)) ∧ Below w.heap.size w w' := by
  have hd : decide ((h : Int) < 0) = false := by simp
  obtain ⟨V, hV⟩ : ∃ V, V = (((w.alloc (.cells #[.int .i64 h, .int .u64 l] 24)).alloc (.cells #[.bool false, .int .u64 0, .int .u64 0, .int .u64 0, .int .u64 0, .int .u64 0, .int .u64 0, .int .u64 0, .int .u64 0, .int .u64 0, .int .u64 0, .int .u64 0, .int .u64 0, .int .u64 0, .int .u64 0, .int .u64 0, .int .u64 0] 55)).alloc (.cells #[.bool false, .int .u64 0, .int .u64 0, .int .u64 0, .int .u64 0, .int .u64 0, .int .u64 0, .int .u64 0, .int .u64 0, .int .u64 0, .int .u64 0, .int .u64 0, .int .u64 0, .int .u64 0, .int .u64 0, .int .u64 0, .int .u64 0] 55)) := ⟨_, rfl⟩
  have hT1 : Row V (w.heap.size + 1 + 1) 55 #[.bool false, .int .u64 0, .int .u64 0, .int .u64 0, .int .u64 0, .int .u64 0, .int .u64 0, .int .u64 0, .int .u64 0, .int .u64 0, .int .u64 0, .int .u64 0, .int .u64 0, .int .u64 0, .int .u64 0, .int .u64 0, .int .u64 0] := by
    have h := Row.new ((w.alloc (.cells #[.int .i64 h, .int .u64 l] 24)).alloc (.cells #[.bool false, .int .u64 0, .int .u64 0, .int .u64 0, .int .u64 0, .int .u64 0, .int .u64 0, .int .u64 0, .int .u64 0, .int .u64 0, .int .u64 0, .int .u64 0, .int .u64 0, .int .u64 0, .int .u64 0, .int .u64 0, .int .u64 0] 55)) 55 #[.bool false, .int .u64 0, .int .u64 0, .int .u64 0, .int .u64 0, .int .u64 0, .int .u64 0, .int .u64 0, .int .u64 0, .int .u64 0, .int .u64 0, .int .u64 0, .int .u64 0, .int .u64 0, .int .u64 0, .int .u64 0, .int .u64 0]
    rw [← hV] at h
    simpa only [alloc_sz] using h
  have hS1 : Row V (w.heap.size + 1) 55 #[.bool false, .int .u64 0, .int .u64 0, .int .u64 0, .int .u64 0, .int .u64 0, .int .u64 0, .int .u64 0, .int .u64 0, .int .u64 0, .int .u64 0, .int .u64 0, .int .u64 0, .int .u64 0, .int .u64 0, .int .u64 0, .int .u64 0] := by
    have h := (Row.new (w.alloc (.cells #[.int .i64 h, .int .u64 l] 24)) 55 #[.bool false, .int .u64 0, .int .u64 0, .int .u64 0, .int .u64 0, .int .u64 0, .int .u64 0, .int .u64 0, .int .u64 0, .int .u64 0, .int .u64 0, .int .u64 0, .int .u64 0, .int .u64 0, .int .u64 0, .int .u64 0, .int .u64 0]).alloc (.cells #[.bool false, .int .u64 0, .int .u64 0, .int .u64 0, .int .u64 0, .int .u64 0, .int .u64 0, .int .u64 0, .int .u64 0, .int .u64 0, .int .u64 0, .int .u64 0, .int .u64 0, .int .u64 0, .int .u64 0, .int .u64 0, .int .u64 0] 55)
    rw [← hV] at h
    simpa only [alloc_sz] using h
  have hU1 := ((Up.refl w).alloc (.cells #[.int .i64 h, .int .u64 l] 24)).alloc (.cells #[.bool false, .int .u64 0, .int .u64 0, .int .u64 0, .int .u64 0, .int .u64 0, .int .u64 0, .int .u64 0, .int .u64 0, .int .u64 0, .int .u64 0, .int .u64 0, .int .u64 0, .int .u64 0, .int .u64 0, .int .u64 0, .int .u64 0] 55) |>.alloc (.cells #[.bool false, .int .u64 0, .int .u64 0, .int .u64 0, .int .u64 0, .int .u64 0, .int .u64 0, .int .u64 0, .int .u64 0, .int .u64 0, .int .u64 0, .int .u64 0, .int .u64 0, .int .u64 0, .int .u64 0, .int .u64 0, .int .u64 0] 55)
  rw [← hV] at hU1
  have hF := hT1.frozen
  have hT5 := row_four hT1 h l (by omega) hl
  have hS5 := (((hS1.far (p := ⟨w.heap.size + 1 + 1, 1, none⟩) (by simp) (.int .u64 ((l : Int) % 4294967296))).far (p := ⟨w.heap.size + 1 + 1, 2, none⟩) (by simp) (.int .u64 ((l : Int) / 4294967296))).far (p := ⟨w.heap.size + 1 + 1, 3, none⟩) (by simp) (.int .u64 ((h : Int) % 4294967296))).far (p := ⟨w.heap.size + 1 + 1, 4, none⟩) (by simp) (.int .u64 ((h : Int) / 4294967296))
  have hU5 := (((hU1.setCell (p := w.heap.size + 1 + 1) (i := 1) (by omega) (.int .u64 ((l : Int) % 4294967296))).setCell (p := w.heap.size + 1 + 1) (i := 2) (by omega) (.int .u64 ((l : Int) / 4294967296))).setCell (p := w.heap.size + 1 + 1) (i := 3) (by omega) (.int .u64 ((h : Int) % 4294967296))).setCell (p := w.heap.size + 1 + 1) (i := 4) (by omega) (.int .u64 ((h : Int) / 4294967296))
  have hc1 := hT1.cell 1
  have hc2 := hT1.cell 2
  have hc3 := hT1.cell 3
  have hc4 := hT1.cell 4
  simp at hc1 hc2 hc3 hc4
  clear hT1 hS1 hU1
  unfold BigV
  obtain ⟨C, hC⟩ : ∃ C, C = bigs false (h * 18446744073709551616 + l) := ⟨_, rfl⟩
  have hC1 : C.all (·.oneCell') = true := by rw [hC]; exact bigs_one _ _
  have hC2 : C.size = 17 := by rw [hC]; exact bigs_size _ _
  rw [← hC] at hT5 ⊢
  clear hC
  have HC2 := hid hC2
  have HV := hid hV
  clear hC2 hV
  go_enter Tryd.func41, Tryd.ntmps41
  go_upto_region 11 with fail
  rw [← HV.out]
  go_upto_region 15 with fail
  obtain ⟨V2, hV2⟩ : ∃ V2, V2 = (((V.setCell ⟨w.heap.size + 1 + 1, 1, none⟩ (.int .u64 ((l : Int) % 4294967296))).setCell ⟨w.heap.size + 1 + 1, 2, none⟩ (.int .u64 ((l : Int) / 4294967296))).setCell ⟨w.heap.size + 1 + 1, 3, none⟩ (.int .u64 ((h : Int) % 4294967296))).setCell ⟨w.heap.size + 1 + 1, 4, none⟩ (.int .u64 ((h : Int) / 4294967296)) := ⟨_, rfl⟩
  rw [← hV2] at hT5 hS5 hU5 ⊢
  clear hV2
  go_wp2_with (first | (refine wpList_load_row rfl 55 (.tmp 6) rfl (w.heap.size + 1 + 1) rfl 55 C (0, 0) _ hT5 Tryd.underlying55 rfl (size_Bn HC2.out) ?_) | (refine wpList_store_row rfl 55 (.tmp 2) (.tmp 44) rfl (w.heap.size + 1) C rfl rfl 55 #[.bool false, .int .u64 0, .int .u64 0, .int .u64 0, .int .u64 0, .int .u64 0, .int .u64 0, .int .u64 0, .int .u64 0, .int .u64 0, .int .u64 0, .int .u64 0, .int .u64 0, .int .u64 0, .int .u64 0, .int .u64 0, .int .u64 0] hS5 (size_Bn HC2.out) HC2.out.symm hC1 ?_))
  exact bodyPost_ret (v := .agg C) (results_cell_row Tryd.results41 _ _ (w.heap.size + 1) 55 C (0, 0) _ rfl (hS5.putRow _) Tryd.underlying55 rfl (size_Bn HC2.out)) rfl ⟨rfl, (hU5.setRow (by omega) _).below⟩

set_option maxRecDepth 100000 in
set_option maxHeartbeats 2000000 in
theorem of_negA (w : World) (x : Int) (X y L h l : Nat) (hd : decide (x < 0) = true) (wx : IntKind.u64.wrap x = (X : Int)) (nX : bits .xor .u64 (if IntKind.u64.signed = true then -1 else IntKind.u64.max) (X : Int) = (h : Int)) (nY : bits .xor .u64 (if IntKind.u64.signed = true then -1 else IntKind.u64.max) (y : Int) = (L : Int)) (wl : IntKind.u64.wrap ((L : Int) + 1) = (l : Int)) (hz : ((l : Int) == 0) = false) (hh : h < 18446744073709551616) (hl : l < 18446744073709551616) : Calls Tryd.prog 41 #[.agg #[.int .i64 x, .int .u64 y]] w fun e w' => e = .returned (BigV true (h * 18446744073709551616 + l)) ∧ Below w.heap.size w w' := by
  obtain ⟨V, hV⟩ : ∃ V, V = (((w.alloc (.cells #[.int .i64 x, .int .u64 y] 24)).alloc (.cells #[.bool false, .int .u64 0, .int .u64 0, .int .u64 0, .int .u64 0, .int .u64 0, .int .u64 0, .int .u64 0, .int .u64 0, .int .u64 0, .int .u64 0, .int .u64 0, .int .u64 0, .int .u64 0, .int .u64 0, .int .u64 0, .int .u64 0] 55)).alloc (.cells #[.bool true, .int .u64 0, .int .u64 0, .int .u64 0, .int .u64 0, .int .u64 0, .int .u64 0, .int .u64 0, .int .u64 0, .int .u64 0, .int .u64 0, .int .u64 0, .int .u64 0, .int .u64 0, .int .u64 0, .int .u64 0, .int .u64 0] 55)) := ⟨_, rfl⟩
  have hT1 : Row V (w.heap.size + 1 + 1) 55 #[.bool true, .int .u64 0, .int .u64 0, .int .u64 0, .int .u64 0, .int .u64 0, .int .u64 0, .int .u64 0, .int .u64 0, .int .u64 0, .int .u64 0, .int .u64 0, .int .u64 0, .int .u64 0, .int .u64 0, .int .u64 0, .int .u64 0] := by
    have h := Row.new ((w.alloc (.cells #[.int .i64 x, .int .u64 y] 24)).alloc (.cells #[.bool false, .int .u64 0, .int .u64 0, .int .u64 0, .int .u64 0, .int .u64 0, .int .u64 0, .int .u64 0, .int .u64 0, .int .u64 0, .int .u64 0, .int .u64 0, .int .u64 0, .int .u64 0, .int .u64 0, .int .u64 0, .int .u64 0] 55)) 55 #[.bool true, .int .u64 0, .int .u64 0, .int .u64 0, .int .u64 0, .int .u64 0, .int .u64 0, .int .u64 0, .int .u64 0, .int .u64 0, .int .u64 0, .int .u64 0, .int .u64 0, .int .u64 0, .int .u64 0, .int .u64 0, .int .u64 0]
    rw [← hV] at h
    simpa only [alloc_sz] using h
  have hS1 : Row V (w.heap.size + 1) 55 #[.bool false, .int .u64 0, .int .u64 0, .int .u64 0, .int .u64 0, .int .u64 0, .int .u64 0, .int .u64 0, .int .u64 0, .int .u64 0, .int .u64 0, .int .u64 0, .int .u64 0, .int .u64 0, .int .u64 0, .int .u64 0, .int .u64 0] := by
    have h := (Row.new (w.alloc (.cells #[.int .i64 x, .int .u64 y] 24)) 55 #[.bool false, .int .u64 0, .int .u64 0, .int .u64 0, .int .u64 0, .int .u64 0, .int .u64 0, .int .u64 0, .int .u64 0, .int .u64 0, .int .u64 0, .int .u64 0, .int .u64 0, .int .u64 0, .int .u64 0, .int .u64 0, .int .u64 0]).alloc (.cells #[.bool true, .int .u64 0, .int .u64 0, .int .u64 0, .int .u64 0, .int .u64 0, .int .u64 0, .int .u64 0, .int .u64 0, .int .u64 0, .int .u64 0, .int .u64 0, .int .u64 0, .int .u64 0, .int .u64 0, .int .u64 0, .int .u64 0] 55)
    rw [← hV] at h
    simpa only [alloc_sz] using h
  have hU1 := ((Up.refl w).alloc (.cells #[.int .i64 x, .int .u64 y] 24)).alloc (.cells #[.bool false, .int .u64 0, .int .u64 0, .int .u64 0, .int .u64 0, .int .u64 0, .int .u64 0, .int .u64 0, .int .u64 0, .int .u64 0, .int .u64 0, .int .u64 0, .int .u64 0, .int .u64 0, .int .u64 0, .int .u64 0, .int .u64 0] 55) |>.alloc (.cells #[.bool true, .int .u64 0, .int .u64 0, .int .u64 0, .int .u64 0, .int .u64 0, .int .u64 0, .int .u64 0, .int .u64 0, .int .u64 0, .int .u64 0, .int .u64 0, .int .u64 0, .int .u64 0, .int .u64 0, .int .u64 0, .int .u64 0] 55)
  rw [← hV] at hU1
  have hF := hT1.frozen
  have hT5 := row_four hT1 h l hh hl
  have hS5 := (((hS1.far (p := ⟨w.heap.size + 1 + 1, 1, none⟩) (by simp) (.int .u64 ((l : Int) % 4294967296))).far (p := ⟨w.heap.size + 1 + 1, 2, none⟩) (by simp) (.int .u64 ((l : Int) / 4294967296))).far (p := ⟨w.heap.size + 1 + 1, 3, none⟩) (by simp) (.int .u64 ((h : Int) % 4294967296))).far (p := ⟨w.heap.size + 1 + 1, 4, none⟩) (by simp) (.int .u64 ((h : Int) / 4294967296))
  have hU5 := (((hU1.setCell (p := w.heap.size + 1 + 1) (i := 1) (by omega) (.int .u64 ((l : Int) % 4294967296))).setCell (p := w.heap.size + 1 + 1) (i := 2) (by omega) (.int .u64 ((l : Int) / 4294967296))).setCell (p := w.heap.size + 1 + 1) (i := 3) (by omega) (.int .u64 ((h : Int) % 4294967296))).setCell (p := w.heap.size + 1 + 1) (i := 4) (by omega) (.int .u64 ((h : Int) / 4294967296))
  have hc1 := hT1.cell 1
  have hc2 := hT1.cell 2
  have hc3 := hT1.cell 3
  have hc4 := hT1.cell 4
  simp at hc1 hc2 hc3 hc4
  clear hT1 hS1 hU1
  unfold BigV
  obtain ⟨C, hC⟩ : ∃ C, C = bigs true (h * 18446744073709551616 + l) := ⟨_, rfl⟩
  have hC1 : C.all (·.oneCell') = true := by rw [hC]; exact bigs_one _ _
  have hC2 : C.size = 17 := by rw [hC]; exact bigs_size _ _
  rw [← hC] at hT5 ⊢
  clear hC
  have HC2 := hid hC2
  have HV := hid hV
  clear hC2 hV
  go_enter Tryd.func41, Tryd.ntmps41
  go_upto_region 11 with fail
  rw [← HV.out]
  go_upto_region 15 with fail
  obtain ⟨V2, hV2⟩ : ∃ V2, V2 = (((V.setCell ⟨w.heap.size + 1 + 1, 1, none⟩ (.int .u64 ((l : Int) % 4294967296))).setCell ⟨w.heap.size + 1 + 1, 2, none⟩ (.int .u64 ((l : Int) / 4294967296))).setCell ⟨w.heap.size + 1 + 1, 3, none⟩ (.int .u64 ((h : Int) % 4294967296))).setCell ⟨w.heap.size + 1 + 1, 4, none⟩ (.int .u64 ((h : Int) / 4294967296)) := ⟨_, rfl⟩
  rw [← hV2] at hT5 hS5 hU5 ⊢
  clear hV2
  go_wp2_with (first | (refine wpList_load_row rfl 55 (.tmp 6) rfl (w.heap.size + 1 + 1) rfl 55 C (0, 0) _ hT5 Tryd.underlying55 rfl (size_Bn HC2.out) ?_) | (refine wpList_store_row rfl 55 (.tmp 2) (.tmp 44) rfl (w.heap.size + 1) C rfl rfl 55 #[.bool false, .int .u64 0, .int .u64 0, .int .u64 0, .int .u64 0, .int .u64 0, .int .u64 0, .int .u64 0, .int .u64 0, .int .u64 0, .int .u64 0, .int .u64 0, .int .u64 0, .int .u64 0, .int .u64 0, .int .u64 0, .int .u64 0] hS5 (size_Bn HC2.out) HC2.out.symm hC1 ?_))
  exact bodyPost_ret (v := .agg C) (results_cell_row Tryd.results41 _ _ (w.heap.size + 1) 55 C (0, 0) _ rfl (hS5.putRow _) Tryd.underlying55 rfl (size_Bn HC2.out)) rfl ⟨rfl, (hU5.setRow (by omega) _).below⟩

set_option maxRecDepth 100000 in
set_option maxHeartbeats 2000000 in
theorem of_negB (w : World) (x : Int) (X y L H h l : Nat) (hd : decide (x < 0) = true) (wx : IntKind.u64.wrap x = (X : Int)) (nX : bits .xor .u64 (if IntKind.u64.signed = true then -1 else IntKind.u64.max) (X : Int) = (H : Int)) (wh : IntKind.u64.wrap ((H : Int) + 1) = (h : Int)) (nY : bits .xor .u64 (if IntKind.u64.signed = true then -1 else IntKind.u64.max) (y : Int) = (L : Int)) (wl : IntKind.u64.wrap ((L : Int) + 1) = (l : Int)) (hz : ((l : Int) == 0) = true) (hh : h < 18446744073709551616) (hl : l < 18446744073709551616) : Calls Tryd.prog 41 #[.agg #[.int .i64 x, .int .u64 y]] w fun e w' => e = .returned (BigV true (h * 18446744073709551616 + l)) ∧ Below w.heap.size w w' := by
  obtain ⟨V, hV⟩ : ∃ V, V = (((w.alloc (.cells #[.int .i64 x, .int .u64 y] 24)).alloc (.cells #[.bool false, .int .u64 0, .int .u64 0, .int .u64 0, .int .u64 0, .int .u64 0, .int .u64 0, .int .u64 0, .int .u64 0, .int .u64 0, .int .u64 0, .int .u64 0, .int .u64 0, .int .u64 0, .int .u64 0, .int .u64 0, .int .u64 0] 55)).alloc (.cells #[.bool true, .int .u64 0, .int .u64 0, .int .u64 0, .int .u64 0, .int .u64 0, .int .u64 0, .int .u64 0, .int .u64 0, .int .u64 0, .int .u64 0, .int .u64 0, .int .u64 0, .int .u64 0, .int .u64 0, .int .u64 0, .int .u64 0] 55)) := ⟨_, rfl⟩
  have hT1 : Row V (w.heap.size + 1 + 1) 55 #[.bool true, .int .u64 0, .int .u64 0, .int .u64 0, .int .u64 0, .int .u64 0, .int .u64 0, .int .u64 0, .int .u64 0, .int .u64 0, .int .u64 0, .int .u64 0, .int .u64 0, .int .u64 0, .int .u64 0, .int .u64 0, .int .u64 0] := by
    have h := Row.new ((w.alloc (.cells #[.int .i64 x, .int .u64 y] 24)).alloc (.cells #[.bool false, .int .u64 0, .int .u64 0, .int .u64 0, .int .u64 0, .int .u64 0, .int .u64 0, .int .u64 0, .int .u64 0, .int .u64 0, .int .u64 0, .int .u64 0, .int .u64 0, .int .u64 0, .int .u64 0, .int .u64 0, .int .u64 0] 55)) 55 #[.bool true, .int .u64 0, .int .u64 0, .int .u64 0, .int .u64 0, .int .u64 0, .int .u64 0, .int .u64 0, .int .u64 0, .int .u64 0, .int .u64 0, .int .u64 0, .int .u64 0, .int .u64 0, .int .u64 0, .int .u64 0, .int .u64 0]
    rw [← hV] at h
    simpa only [alloc_sz] using h
  have hS1 : Row V (w.heap.size + 1) 55 #[.bool false, .int .u64 0, .int .u64 0, .int .u64 0, .int .u64 0, .int .u64 0, .int .u64 0, .int .u64 0, .int .u64 0, .int .u64 0, .int .u64 0, .int .u64 0, .int .u64 0, .int .u64 0, .int .u64 0, .int .u64 0, .int .u64 0] := by
    have h := (Row.new (w.alloc (.cells #[.int .i64 x, .int .u64 y] 24)) 55 #[.bool false, .int .u64 0, .int .u64 0, .int .u64 0, .int .u64 0, .int .u64 0, .int .u64 0, .int .u64 0, .int .u64 0, .int .u64 0, .int .u64 0, .int .u64 0, .int .u64 0, .int .u64 0, .int .u64 0, .int .u64 0, .int .u64 0]).alloc (.cells #[.bool true, .int .u64 0, .int .u64 0, .int .u64 0, .int .u64 0, .int .u64 0, .int .u64 0, .int .u64 0, .int .u64 0, .int .u64 0, .int .u64 0, .int .u64 0, .int .u64 0, .int .u64 0, .int .u64 0, .int .u64 0, .int .u64 0] 55)
    rw [← hV] at h
    simpa only [alloc_sz] using h
  have hU1 := ((Up.refl w).alloc (.cells #[.int .i64 x, .int .u64 y] 24)).alloc (.cells #[.bool false, .int .u64 0, .int .u64 0, .int .u64 0, .int .u64 0, .int .u64 0, .int .u64 0, .int .u64 0, .int .u64 0, .int .u64 0, .int .u64 0, .int .u64 0, .int .u64 0, .int .u64 0, .int .u64 0, .int .u64 0, .int .u64 0] 55) |>.alloc (.cells #[.bool true, .int .u64 0, .int .u64 0, .int .u64 0, .int .u64 0, .int .u64 0, .int .u64 0, .int .u64 0, .int .u64 0, .int .u64 0, .int .u64 0, .int .u64 0, .int .u64 0, .int .u64 0, .int .u64 0, .int .u64 0, .int .u64 0] 55)
  rw [← hV] at hU1
  have hF := hT1.frozen
  have hT5 := row_four hT1 h l hh hl
  have hS5 := (((hS1.far (p := ⟨w.heap.size + 1 + 1, 1, none⟩) (by simp) (.int .u64 ((l : Int) % 4294967296))).far (p := ⟨w.heap.size + 1 + 1, 2, none⟩) (by simp) (.int .u64 ((l : Int) / 4294967296))).far (p := ⟨w.heap.size + 1 + 1, 3, none⟩) (by simp) (.int .u64 ((h : Int) % 4294967296))).far (p := ⟨w.heap.size + 1 + 1, 4, none⟩) (by simp) (.int .u64 ((h : Int) / 4294967296))
  have hU5 := (((hU1.setCell (p := w.heap.size + 1 + 1) (i := 1) (by omega) (.int .u64 ((l : Int) % 4294967296))).setCell (p := w.heap.size + 1 + 1) (i := 2) (by omega) (.int .u64 ((l : Int) / 4294967296))).setCell (p := w.heap.size + 1 + 1) (i := 3) (by omega) (.int .u64 ((h : Int) % 4294967296))).setCell (p := w.heap.size + 1 + 1) (i := 4) (by omega) (.int .u64 ((h : Int) / 4294967296))
  have hc1 := hT1.cell 1
  have hc2 := hT1.cell 2
  have hc3 := hT1.cell 3
  have hc4 := hT1.cell 4
  simp at hc1 hc2 hc3 hc4
  clear hT1 hS1 hU1
  unfold BigV
  obtain ⟨C, hC⟩ : ∃ C, C = bigs true (h * 18446744073709551616 + l) := ⟨_, rfl⟩
  have hC1 : C.all (·.oneCell') = true := by rw [hC]; exact bigs_one _ _
  have hC2 : C.size = 17 := by rw [hC]; exact bigs_size _ _
  rw [← hC] at hT5 ⊢
  clear hC
  have HC2 := hid hC2
  have HV := hid hV
  clear hC2 hV
  go_enter Tryd.func41, Tryd.ntmps41
  go_upto_region 11 with fail
  rw [← HV.out]
  go_upto_region 15 with fail
  obtain ⟨V2, hV2⟩ : ∃ V2, V2 = (((V.setCell ⟨w.heap.size + 1 + 1, 1, none⟩ (.int .u64 ((l : Int) % 4294967296))).setCell ⟨w.heap.size + 1 + 1, 2, none⟩ (.int .u64 ((l : Int) / 4294967296))).setCell ⟨w.heap.size + 1 + 1, 3, none⟩ (.int .u64 ((h : Int) % 4294967296))).setCell ⟨w.heap.size + 1 + 1, 4, none⟩ (.int .u64 ((h : Int) / 4294967296)) := ⟨_, rfl⟩
  rw [← hV2] at hT5 hS5 hU5 ⊢
  clear hV2
  go_wp2_with (first | (refine wpList_load_row rfl 55 (.tmp 6) rfl (w.heap.size + 1 + 1) rfl 55 C (0, 0) _ hT5 Tryd.underlying55 rfl (size_Bn HC2.out) ?_) | (refine wpList_store_row rfl 55 (.tmp 2) (.tmp 44) rfl (w.heap.size + 1) C rfl rfl 55 #[.bool false, .int .u64 0, .int .u64 0, .int .u64 0, .int .u64 0, .int .u64 0, .int .u64 0, .int .u64 0, .int .u64 0, .int .u64 0, .int .u64 0, .int .u64 0, .int .u64 0, .int .u64 0, .int .u64 0, .int .u64 0, .int .u64 0] hS5 (size_Bn HC2.out) HC2.out.symm hC1 ?_))
  exact bodyPost_ret (v := .agg C) (results_cell_row Tryd.results41 _ _ (w.heap.size + 1) 55 C (0, 0) _ rfl (hS5.putRow _) Tryd.underlying55 rfl (size_Bn HC2.out)) rfl ⟨rfl, (hU5.setRow (by omega) _).below⟩
end Go.Proofs.YtmamedobphlpkaaDoor

namespace Go.Proofs.YtmamedobphlpkaaDoor
open Go.RowKit
def bigZ (z : Int) : Array Value := bigs (decide (z < 0)) z.natAbs
theorem bigZ_size (z : Int) : (bigZ z).size = 17 := bigs_size _ _
theorem tyBigC (z : Int) : AggOf Tryd.prog 55 (bigZ z).size := by rw [bigZ_size]; exact tyBig
def zBig : Array Value := #[.bool false, .int .u64 0, .int .u64 0, .int .u64 0, .int .u64 0, .int .u64 0, .int .u64 0, .int .u64 0, .int .u64 0, .int .u64 0, .int .u64 0, .int .u64 0, .int .u64 0, .int .u64 0, .int .u64 0, .int .u64 0, .int .u64 0]
theorem zBig_size : zBig.size = 17 := rfl
theorem zeBig : Zero Tryd.prog 55 zBig := zero_of (z := .agg zBig) (by kernel_rfl) rfl
theorem oneL_iff : ∀ {l : List Value}, (∀ v ∈ l, v.oneCell' = true) → oneL l = true
  | [], _ => rfl
  | v :: r, h => by
    unfold oneL
    rw [h v (by simp)]
    exact oneL_iff fun u hu => h u (by simp [hu])
theorem bigZ_one (z : Int) : oneL (bigZ z).toList = true := by
  refine oneL_iff fun v hv => ?_
  have h := bigs_one (decide (z < 0)) z.natAbs
  exact (Array.all_eq_true_iff_forall_mem.1 h) v (by simpa [bigZ] using hv)
theorem digs_oneL (n : Nat) : oneL (digs n).toList = true := by
  refine oneL_iff fun v hv => ?_
  have h := digs_one n
  exact (Array.all_eq_true_iff_forall_mem.1 h) v (by simpa using hv)
theorem over_all {c v : Array Value} (hs : c.size = v.size) : (over? c.toList 0 v.toList).toArray = v := by
  have : over? c.toList 0 v.toList = v.toList := by
    unfold over?
    rw [List.drop_eq_nil_of_le (by simp; omega)]
    simp
  rw [this]
theorem tyDigC (n : Nat) : AggOf Tryd.prog 53 (digs n).size := by rw [digs_size]; exact tyDigits
/-- the digits of a number, the number's flag -/
theorem reads_D (b : Bool) (n : Nat) : Reads Tryd.prog 53 (bigs b n) 1 (.agg (digs n)) := by
  have := reads_sub (off := 1) tyDigits (cs := bigs b n) (digs n).toList (by simp [digs_size]) (fun j v hv => by
    have hj : j < 16 := by
      have := (List.getElem?_eq_some_iff.1 hv).1
      simpa [digs_size] using this
    rw [Nat.add_comm, bigs_get _ _ hj]
    rw [Array.getElem?_toList, digs_get _ hj] at hv
    exact hv)
  simpa using this
end Go.Proofs.YtmamedobphlpkaaDoor

namespace Go.Proofs.YtmamedobphlpkaaDoor
open Go.RowKit

theorem lt_four {n : Nat} (hn : n < BP 16) (h : ∀ j, 4 ≤ j → j < 16 → dg n j = 0) : n < BP 4 := by
  have key : ∀ k, k ≤ 12 → n % BP (4 + k) = n % BP 4 := by
    intro k
    induction k with
    | zero => intro _; rfl
    | succ k ih =>
      intro hk
      rw [← Nat.add_assoc, mod_succ, h (4 + k) (by omega) (by omega), ih (by omega)]
      omega
  have h1 := key 12 (Nat.le_refl _)
  rw [Nat.mod_eq_of_lt hn] at h1
  rw [h1]
  exact Nat.mod_lt _ (BP_pos 4)

theorem not_word (n : Nat) (h : n < 18446744073709551616) : bits .xor .u64 (if IntKind.u64.signed = true then -1 else IntKind.u64.max) (n : Int) = ((18446744073709551615 - n : Nat) : Int) := by
  show IntKind.u64.wrap ((BitVec.ofInt 64 (if IntKind.u64.signed = true then -1 else IntKind.u64.max) ^^^ BitVec.ofInt 64 (n : Int)).toNat : Int) = _
  rw [show BitVec.ofInt 64 (if IntKind.u64.signed = true then -1 else IntKind.u64.max) = BitVec.allOnes 64 by decide, BitVec.allOnes_xor, BitVec.ofInt_natCast, BitVec.toNat_not, BitVec.toNat_ofNat, Nat.mod_eq_of_lt (by omega), IntKind.wrap_u64]
  omega

theorem rof_any (w : World) (x : Int) (hx : Fits x) : Calls Tryd.prog 41 #[WV x] w fun e w' => e = .returned (BigZ x) ∧ Below w.heap.size w w' := by
  obtain ⟨hi, lo, e1, hxw, h1, h2⟩ := WV_of hx
  rw [e1]
  obtain ⟨y, rfl⟩ := Int.eq_ofNat_of_zero_le h2.1
  unfold BigZ
  by_cases hn : hi < 0
  · obtain ⟨X, hX⟩ : ∃ X : Nat, hi + 18446744073709551616 = (X : Int) := ⟨(hi + 18446744073709551616).toNat, by omega⟩
    rw [show decide (x < 0) = true by rw [decide_eq_true_iff]; omega]
    have hd : decide (hi < 0) = true := by rw [decide_eq_true_iff]; exact hn
    have wx : IntKind.u64.wrap hi = (X : Int) := by rw [IntKind.wrap_u64]; omega
    have nX := not_word X (by omega)
    have nY := not_word y (by omega)
    by_cases hy : y = 0
    · have h := of_negB w hi X y (18446744073709551615 - y) (18446744073709551615 - X) (18446744073709551616 - X) 0 hd wx nX (by rw [IntKind.wrap_u64]; omega) nY (by rw [IntKind.wrap_u64]; omega) (by simp) (by omega) (by omega)
      rw [show x.natAbs = (18446744073709551616 - X) * 18446744073709551616 + 0 by omega]
      exact h
    · have h := of_negA w hi X y (18446744073709551615 - y) (18446744073709551615 - X) (18446744073709551616 - y) hd wx nX nY (by rw [IntKind.wrap_u64]; omega) (by simp; omega) (by omega) (by omega)
      rw [show x.natAbs = (18446744073709551615 - X) * 18446744073709551616 + (18446744073709551616 - y) by omega]
      exact h
  · obtain ⟨h, rfl⟩ := Int.eq_ofNat_of_zero_le (show 0 ≤ hi by omega)
    rw [show decide (x < 0) = false by rw [decide_eq_false_iff_not]; omega, show x.natAbs = h * 18446744073709551616 + y by omega]
    exact of_pos w h y (by omega) (by omega)

set_option maxRecDepth 100000 in
set_option maxHeartbeats 2000000 in
theorem wide_big (w : World) (b : Bool) (n : Nat) (hn : n < BP 16) (h4 : BP 4 ≤ n) : Calls Tryd.prog 36 #[BigV b n] w fun e w' => e = .returned (.tuple #[.agg #[.int .i64 0, .int .u64 0], .bool false]) ∧ Below w.heap.size w w' := by
  have hA := (Row.new w 55 (bigs b n)).alloc (.cells #[.int .i64 0, .int .u64 0] 24)
  have hU := ((Up.refl w).alloc (.cells (bigs b n) 55)).alloc (.cells #[.int .i64 0, .int .u64 0] 24)
  have HN := hid hn
  have H4 := hid h4
  clear hn h4
  unfold BigV
  go_enter Tryd.func36, Tryd.ntmps36
  go_wp2_with fail
  go_loop [4] (fun i => ∃ k : Nat, 4 ≤ k ∧ k ≤ 16 ∧ i = .int .i64 (k : Int) ∧ ∀ j, 4 ≤ j → j < k → dg n j = 0) (fun i => 16 - (intOf i).toNat)
  case atStart => exact ⟨4, by omega, by omega, rfl, fun j h1 h2 => by omega⟩
  case round =>
    obtain ⟨k, hk4, hk, rfl, hz⟩ := hrel
    by_cases hlt : k < 16
    · have ca := hA.cell (1 + k)
      rw [Nat.add_comm 1 k, bigs_get _ _ hlt] at ca
      have ca' := ca
      rw [Nat.add_comm k 1] at ca'
      obtain ⟨x, hx⟩ : ∃ x, x = dg n k := ⟨_, rfl⟩
      rw [← hx] at ca ca'
      have HX := hid hx
      have HZ := hid hz
      clear hx hz
      by_cases h0 : x = 0
      · have b1 : ((x : Int) != 0) = false := by simp [h0]
        have H0 := hid h0
        clear h0
        go_wp2
        go_round
        case rel => exact ⟨k + 1, by omega, by omega, by go_num, fun j h1 h2 => by
          by_cases hj : j = k
          · rw [hj, ← HX.out, H0.out]
          · exact HZ.out j h1 (by omega)⟩
        case measure => simp [intOf]; omega
      · have b1 : ((x : Int) != 0) = true := by simp; omega
        clear h0
        go_wp2
        simp [bodyPost, results, Tryd.results36, go_sem]
        exact hU.below
    · exfalso
      have : n < BP 4 := lt_four HN.out (fun j h1 h2 => hz j h1 (by omega))
      have := H4.out
      omega

set_option maxRecDepth 100000 in
set_option maxHeartbeats 2000000 in
theorem wide_P1 (w : World) (n h l : Nat) (hn : n < BP 4) (hh : (dg n 2 : Int) + (dg n 3 : Int) * 4294967296 = (h : Int)) (hl : (dg n 0 : Int) + (dg n 1 : Int) * 4294967296 = (l : Int)) (wh : IntKind.i64.wrap (h : Int) = (h : Int)) (HT : Hid (h < 9223372036854775808)) : Calls Tryd.prog 36 #[BigV false n] w fun e w' => e = .returned (.tuple #[.agg #[.int .i64 (h : Int), .int .u64 (l : Int)], .bool true]) ∧ Below w.heap.size w w' := by
  have hA := (Row.new w 55 (bigs false n)).alloc (.cells #[.int .i64 0, .int .u64 0] 24)
  have hU := ((Up.refl w).alloc (.cells (bigs false n) 55)).alloc (.cells #[.int .i64 0, .int .u64 0] 24)
  have hz : ∀ j, 4 ≤ j → dg n j = 0 := fun j hj => dg_high' hn hj
  have cb : ((w.alloc (.cells (bigs false n) 55)).alloc (.cells #[.int .i64 0, .int .u64 0] 24)).cell? ⟨w.heap.size, 0, none⟩ = some (.bool false) := by rw [hA.cell, bigs_get0]
  have c0 := hA.cell (0 + 1)
  have c1 := hA.cell (1 + 1)
  have c2 := hA.cell (2 + 1)
  have c3 := hA.cell (3 + 1)
  rw [bigs_get _ _ (by decide)] at c0 c1 c2 c3
  obtain ⟨d0, e0⟩ : ∃ d, d = dg n 0 := ⟨_, rfl⟩
  obtain ⟨d1, e1⟩ : ∃ d, d = dg n 1 := ⟨_, rfl⟩
  obtain ⟨d2, e2⟩ : ∃ d, d = dg n 2 := ⟨_, rfl⟩
  obtain ⟨d3, e3⟩ : ∃ d, d = dg n 3 := ⟨_, rfl⟩
  have l0 := dg_lt n 0
  have l1 := dg_lt n 1
  have l2 := dg_lt n 2
  have l3 := dg_lt n 3
  rw [← e0] at c0 l0 hl
  rw [← e1] at c1 l1 hl
  rw [← e2] at c2 l2 hh
  rw [← e3] at c3 l3 hh
  have HZ := hid hz
  clear hz e0 e1 e2 e3 hn
  unfold BigV
  go_enter Tryd.func36, Tryd.ntmps36
  go_wp2_with fail
  go_loop [4] (fun i => ∃ k : Nat, 4 ≤ k ∧ k ≤ 16 ∧ i = .int .i64 (k : Int)) (fun i => 16 - (intOf i).toNat)
  case atStart => exact ⟨4, by omega, by omega, rfl⟩
  case round =>
    obtain ⟨k, hk4, hk, rfl⟩ := hrel
    by_cases hlt : k < 16
    · have ca := hA.cell (1 + k)
      rw [Nat.add_comm 1 k, bigs_get _ _ hlt, HZ.out k hk4] at ca
      have ca' := ca
      rw [Nat.add_comm k 1] at ca'
      clear c0 c1 c2 c3 cb
      go_wp2
      go_round
      case rel => exact ⟨k + 1, by omega, by omega, by go_num⟩
      case measure => simp [intOf]; omega
    · obtain rfl : k = 16 := by omega
      go_wp2
      all_goals first
        | (exfalso; have := HT.out; simp at *; omega)
        | (simp [bodyPost, results, Tryd.results36, go_sem]; exact ⟨by have := HT.out; omega, (((Up.refl w).alloc _).alloc _).below⟩)

set_option maxRecDepth 100000 in
set_option maxHeartbeats 2000000 in
theorem wide_P2 (w : World) (n h l : Nat) (hn : n < BP 4) (hh : (dg n 2 : Int) + (dg n 3 : Int) * 4294967296 = (h : Int)) (hl : (dg n 0 : Int) + (dg n 1 : Int) * 4294967296 = (l : Int)) (p : Int) (wh : IntKind.i64.wrap (h : Int) = p) (HT : Hid (¬ h < 9223372036854775808)) : Calls Tryd.prog 36 #[BigV false n] w fun e w' => e = .returned (.tuple #[.agg #[.int .i64 p, .int .u64 (l : Int)], .bool false]) ∧ Below w.heap.size w w' := by
  have hA := (Row.new w 55 (bigs false n)).alloc (.cells #[.int .i64 0, .int .u64 0] 24)
  have hU := ((Up.refl w).alloc (.cells (bigs false n) 55)).alloc (.cells #[.int .i64 0, .int .u64 0] 24)
  have hz : ∀ j, 4 ≤ j → dg n j = 0 := fun j hj => dg_high' hn hj
  have cb : ((w.alloc (.cells (bigs false n) 55)).alloc (.cells #[.int .i64 0, .int .u64 0] 24)).cell? ⟨w.heap.size, 0, none⟩ = some (.bool false) := by rw [hA.cell, bigs_get0]
  have c0 := hA.cell (0 + 1)
  have c1 := hA.cell (1 + 1)
  have c2 := hA.cell (2 + 1)
  have c3 := hA.cell (3 + 1)
  rw [bigs_get _ _ (by decide)] at c0 c1 c2 c3
  obtain ⟨d0, e0⟩ : ∃ d, d = dg n 0 := ⟨_, rfl⟩
  obtain ⟨d1, e1⟩ : ∃ d, d = dg n 1 := ⟨_, rfl⟩
  obtain ⟨d2, e2⟩ : ∃ d, d = dg n 2 := ⟨_, rfl⟩
  obtain ⟨d3, e3⟩ : ∃ d, d = dg n 3 := ⟨_, rfl⟩
  have l0 := dg_lt n 0
  have l1 := dg_lt n 1
  have l2 := dg_lt n 2
  have l3 := dg_lt n 3
  rw [← e0] at c0 l0 hl
  rw [← e1] at c1 l1 hl
  rw [← e2] at c2 l2 hh
  rw [← e3] at c3 l3 hh
  have HZ := hid hz
  clear hz e0 e1 e2 e3 hn
  unfold BigV
  go_enter Tryd.func36, Tryd.ntmps36
  go_wp2_with fail
  go_loop [4] (fun i => ∃ k : Nat, 4 ≤ k ∧ k ≤ 16 ∧ i = .int .i64 (k : Int)) (fun i => 16 - (intOf i).toNat)
  case atStart => exact ⟨4, by omega, by omega, rfl⟩
  case round =>
    obtain ⟨k, hk4, hk, rfl⟩ := hrel
    by_cases hlt : k < 16
    · have ca := hA.cell (1 + k)
      rw [Nat.add_comm 1 k, bigs_get _ _ hlt, HZ.out k hk4] at ca
      have ca' := ca
      rw [Nat.add_comm k 1] at ca'
      clear c0 c1 c2 c3 cb
      go_wp2
      go_round
      case rel => exact ⟨k + 1, by omega, by omega, by go_num⟩
      case measure => simp [intOf]; omega
    · obtain rfl : k = 16 := by omega
      go_wp2
      all_goals first
        | (exfalso; have := HT.out; simp at *; omega)
        | (simp [bodyPost, results, Tryd.results36, go_sem]; exact ⟨by have := HT.out; omega, (((Up.refl w).alloc _).alloc _).below⟩)

set_option maxRecDepth 100000 in
set_option maxHeartbeats 2000000 in
theorem wide_N0 (w : World) (n h l : Nat) (hn : n < BP 4) (hh : (dg n 2 : Int) + (dg n 3 : Int) * 4294967296 = (h : Int)) (hl : (dg n 0 : Int) + (dg n 1 : Int) * 4294967296 = (l : Int)) (HT : Hid (9223372036854775808 < h)) : Calls Tryd.prog 36 #[BigV true n] w fun e w' => e = .returned (.tuple #[.agg #[.int .i64 0, .int .u64 0], .bool false]) ∧ Below w.heap.size w w' := by
  have hA := (Row.new w 55 (bigs true n)).alloc (.cells #[.int .i64 0, .int .u64 0] 24)
  have hU := ((Up.refl w).alloc (.cells (bigs true n) 55)).alloc (.cells #[.int .i64 0, .int .u64 0] 24)
  have hz : ∀ j, 4 ≤ j → dg n j = 0 := fun j hj => dg_high' hn hj
  have cb : ((w.alloc (.cells (bigs true n) 55)).alloc (.cells #[.int .i64 0, .int .u64 0] 24)).cell? ⟨w.heap.size, 0, none⟩ = some (.bool true) := by rw [hA.cell, bigs_get0]
  have c0 := hA.cell (0 + 1)
  have c1 := hA.cell (1 + 1)
  have c2 := hA.cell (2 + 1)
  have c3 := hA.cell (3 + 1)
  rw [bigs_get _ _ (by decide)] at c0 c1 c2 c3
  obtain ⟨d0, e0⟩ : ∃ d, d = dg n 0 := ⟨_, rfl⟩
  obtain ⟨d1, e1⟩ : ∃ d, d = dg n 1 := ⟨_, rfl⟩
  obtain ⟨d2, e2⟩ : ∃ d, d = dg n 2 := ⟨_, rfl⟩
  obtain ⟨d3, e3⟩ : ∃ d, d = dg n 3 := ⟨_, rfl⟩
  have l0 := dg_lt n 0
  have l1 := dg_lt n 1
  have l2 := dg_lt n 2
  have l3 := dg_lt n 3
  rw [← e0] at c0 l0 hl
  rw [← e1] at c1 l1 hl
  rw [← e2] at c2 l2 hh
  rw [← e3] at c3 l3 hh
  have HZ := hid hz
  clear hz e0 e1 e2 e3 hn
  unfold BigV
  go_enter Tryd.func36, Tryd.ntmps36
  go_wp2_with fail
  go_loop [4] (fun i => ∃ k : Nat, 4 ≤ k ∧ k ≤ 16 ∧ i = .int .i64 (k : Int)) (fun i => 16 - (intOf i).toNat)
  case atStart => exact ⟨4, by omega, by omega, rfl⟩
  case round =>
    obtain ⟨k, hk4, hk, rfl⟩ := hrel
    by_cases hlt : k < 16
    · have ca := hA.cell (1 + k)
      rw [Nat.add_comm 1 k, bigs_get _ _ hlt, HZ.out k hk4] at ca
      have ca' := ca
      rw [Nat.add_comm k 1] at ca'
      clear c0 c1 c2 c3 cb
      go_wp2
      go_round
      case rel => exact ⟨k + 1, by omega, by omega, by go_num⟩
      case measure => simp [intOf]; omega
    · obtain rfl : k = 16 := by omega
      go_wp2
      all_goals first
        | (exfalso; have := HT.out; simp at *; omega)
        | (simp [bodyPost, results, Tryd.results36, go_sem]; exact (((Up.refl w).alloc _).alloc _).below)

set_option maxRecDepth 100000 in
set_option maxHeartbeats 2000000 in
theorem wide_N3 (w : World) (n h l : Nat) (hn : n < BP 4) (hh : (dg n 2 : Int) + (dg n 3 : Int) * 4294967296 = (h : Int)) (hl : (dg n 0 : Int) + (dg n 1 : Int) * 4294967296 = (l : Int)) (HT : Hid (h ≤ 9223372036854775808)) (HQ : Hid (h = 9223372036854775808)) (HR : Hid (0 < l)) : Calls Tryd.prog 36 #[BigV true n] w fun e w' => e = .returned (.tuple #[.agg #[.int .i64 0, .int .u64 0], .bool false]) ∧ Below w.heap.size w w' := by
  have hA := (Row.new w 55 (bigs true n)).alloc (.cells #[.int .i64 0, .int .u64 0] 24)
  have hU := ((Up.refl w).alloc (.cells (bigs true n) 55)).alloc (.cells #[.int .i64 0, .int .u64 0] 24)
  have hz : ∀ j, 4 ≤ j → dg n j = 0 := fun j hj => dg_high' hn hj
  have cb : ((w.alloc (.cells (bigs true n) 55)).alloc (.cells #[.int .i64 0, .int .u64 0] 24)).cell? ⟨w.heap.size, 0, none⟩ = some (.bool true) := by rw [hA.cell, bigs_get0]
  have c0 := hA.cell (0 + 1)
  have c1 := hA.cell (1 + 1)
  have c2 := hA.cell (2 + 1)
  have c3 := hA.cell (3 + 1)
  rw [bigs_get _ _ (by decide)] at c0 c1 c2 c3
  obtain ⟨d0, e0⟩ : ∃ d, d = dg n 0 := ⟨_, rfl⟩
  obtain ⟨d1, e1⟩ : ∃ d, d = dg n 1 := ⟨_, rfl⟩
  obtain ⟨d2, e2⟩ : ∃ d, d = dg n 2 := ⟨_, rfl⟩
  obtain ⟨d3, e3⟩ : ∃ d, d = dg n 3 := ⟨_, rfl⟩
  have l0 := dg_lt n 0
  have l1 := dg_lt n 1
  have l2 := dg_lt n 2
  have l3 := dg_lt n 3
  rw [← e0] at c0 l0 hl
  rw [← e1] at c1 l1 hl
  rw [← e2] at c2 l2 hh
  rw [← e3] at c3 l3 hh
  have HZ := hid hz
  clear hz e0 e1 e2 e3 hn
  unfold BigV
  go_enter Tryd.func36, Tryd.ntmps36
  go_wp2_with fail
  go_loop [4] (fun i => ∃ k : Nat, 4 ≤ k ∧ k ≤ 16 ∧ i = .int .i64 (k : Int)) (fun i => 16 - (intOf i).toNat)
  case atStart => exact ⟨4, by omega, by omega, rfl⟩
  case round =>
    obtain ⟨k, hk4, hk, rfl⟩ := hrel
    by_cases hlt : k < 16
    · have ca := hA.cell (1 + k)
      rw [Nat.add_comm 1 k, bigs_get _ _ hlt, HZ.out k hk4] at ca
      have ca' := ca
      rw [Nat.add_comm k 1] at ca'
      clear c0 c1 c2 c3 cb
      go_wp2
      go_round
      case rel => exact ⟨k + 1, by omega, by omega, by go_num⟩
      case measure => simp [intOf]; omega
    · obtain rfl : k = 16 := by omega
      go_wp2
      all_goals first
        | (exfalso; have := HT.out; have := HQ.out; have := HR.out; simp at *; omega)
        | (simp [bodyPost, results, Tryd.results36, go_sem]; exact (((Up.refl w).alloc _).alloc _).below)

set_option maxRecDepth 100000 in
set_option maxHeartbeats 2000000 in
theorem wide_N4a (w : World) (n h l : Nat) (hn : n < BP 4) (hh : (dg n 2 : Int) + (dg n 3 : Int) * 4294967296 = (h : Int)) (hl : (dg n 0 : Int) + (dg n 1 : Int) * 4294967296 = (l : Int)) (HT : Hid (h ≤ 9223372036854775808)) (HQ : Hid (h ≠ 9223372036854775808)) (H L p q : Int) (nh : bits .xor .u64 (if IntKind.u64.signed = true then -1 else IntKind.u64.max) (h : Int) = H) (nl : bits .xor .u64 (if IntKind.u64.signed = true then -1 else IntKind.u64.max) (l : Int) = L) (wl : IntKind.u64.wrap (L + 1) = q) (hz : (q == 0) = false) (wp : IntKind.i64.wrap H = p) : Calls Tryd.prog 36 #[BigV true n] w fun e w' => e = .returned (.tuple #[.agg #[.int .i64 p, .int .u64 q], .bool true]) ∧ Below w.heap.size w w' := by
  have hA := (Row.new w 55 (bigs true n)).alloc (.cells #[.int .i64 0, .int .u64 0] 24)
  have hU := ((Up.refl w).alloc (.cells (bigs true n) 55)).alloc (.cells #[.int .i64 0, .int .u64 0] 24)
  have hz : ∀ j, 4 ≤ j → dg n j = 0 := fun j hj => dg_high' hn hj
  have cb : ((w.alloc (.cells (bigs true n) 55)).alloc (.cells #[.int .i64 0, .int .u64 0] 24)).cell? ⟨w.heap.size, 0, none⟩ = some (.bool true) := by rw [hA.cell, bigs_get0]
  have c0 := hA.cell (0 + 1)
  have c1 := hA.cell (1 + 1)
  have c2 := hA.cell (2 + 1)
  have c3 := hA.cell (3 + 1)
  rw [bigs_get _ _ (by decide)] at c0 c1 c2 c3
  obtain ⟨d0, e0⟩ : ∃ d, d = dg n 0 := ⟨_, rfl⟩
  obtain ⟨d1, e1⟩ : ∃ d, d = dg n 1 := ⟨_, rfl⟩
  obtain ⟨d2, e2⟩ : ∃ d, d = dg n 2 := ⟨_, rfl⟩
  obtain ⟨d3, e3⟩ : ∃ d, d = dg n 3 := ⟨_, rfl⟩
  have l0 := dg_lt n 0
  have l1 := dg_lt n 1
  have l2 := dg_lt n 2
  have l3 := dg_lt n 3
  rw [← e0] at c0 l0 hl
  rw [← e1] at c1 l1 hl
  rw [← e2] at c2 l2 hh
  rw [← e3] at c3 l3 hh
  have HZ := hid hz
  clear hz e0 e1 e2 e3 hn
  unfold BigV
  go_enter Tryd.func36, Tryd.ntmps36
  go_wp2_with fail
  go_loop [4] (fun i => ∃ k : Nat, 4 ≤ k ∧ k ≤ 16 ∧ i = .int .i64 (k : Int)) (fun i => 16 - (intOf i).toNat)
  case atStart => exact ⟨4, by omega, by omega, rfl⟩
  case round =>
    obtain ⟨k, hk4, hk, rfl⟩ := hrel
    by_cases hlt : k < 16
    · have ca := hA.cell (1 + k)
      rw [Nat.add_comm 1 k, bigs_get _ _ hlt, HZ.out k hk4] at ca
      have ca' := ca
      rw [Nat.add_comm k 1] at ca'
      clear c0 c1 c2 c3 cb
      go_wp2
      go_round
      case rel => exact ⟨k + 1, by omega, by omega, by go_num⟩
      case measure => simp [intOf]; omega
    · obtain rfl : k = 16 := by omega
      go_wp2
      all_goals first
        | (exfalso; have := HT.out; have := HQ.out; simp at *; omega)
        | (simp [bodyPost, results, Tryd.results36, go_sem]; exact (((Up.refl w).alloc _).alloc _).below)

set_option maxRecDepth 100000 in
set_option maxHeartbeats 2000000 in
theorem wide_N4b (w : World) (n h l : Nat) (hn : n < BP 4) (hh : (dg n 2 : Int) + (dg n 3 : Int) * 4294967296 = (h : Int)) (hl : (dg n 0 : Int) + (dg n 1 : Int) * 4294967296 = (l : Int)) (HT : Hid (h ≤ 9223372036854775808)) (HQ : Hid (h ≠ 9223372036854775808)) (H L p q : Int) (nh : bits .xor .u64 (if IntKind.u64.signed = true then -1 else IntKind.u64.max) (h : Int) = H) (nl : bits .xor .u64 (if IntKind.u64.signed = true then -1 else IntKind.u64.max) (l : Int) = L) (wl : IntKind.u64.wrap (L + 1) = q) (hz : (q == 0) = true) (H2 : Int) (wH : IntKind.u64.wrap (H + 1) = H2) (wp : IntKind.i64.wrap H2 = p) : Calls Tryd.prog 36 #[BigV true n] w fun e w' => e = .returned (.tuple #[.agg #[.int .i64 p, .int .u64 q], .bool true]) ∧ Below w.heap.size w w' := by
  have hA := (Row.new w 55 (bigs true n)).alloc (.cells #[.int .i64 0, .int .u64 0] 24)
  have hU := ((Up.refl w).alloc (.cells (bigs true n) 55)).alloc (.cells #[.int .i64 0, .int .u64 0] 24)
  have hz : ∀ j, 4 ≤ j → dg n j = 0 := fun j hj => dg_high' hn hj
  have cb : ((w.alloc (.cells (bigs true n) 55)).alloc (.cells #[.int .i64 0, .int .u64 0] 24)).cell? ⟨w.heap.size, 0, none⟩ = some (.bool true) := by rw [hA.cell, bigs_get0]
  have c0 := hA.cell (0 + 1)
  have c1 := hA.cell (1 + 1)
  have c2 := hA.cell (2 + 1)
  have c3 := hA.cell (3 + 1)
  rw [bigs_get _ _ (by decide)] at c0 c1 c2 c3
  obtain ⟨d0, e0⟩ : ∃ d, d = dg n 0 := ⟨_, rfl⟩
  obtain ⟨d1, e1⟩ : ∃ d, d = dg n 1 := ⟨_, rfl⟩
  obtain ⟨d2, e2⟩ : ∃ d, d = dg n 2 := ⟨_, rfl⟩
  obtain ⟨d3, e3⟩ : ∃ d, d = dg n 3 := ⟨_, rfl⟩
  have l0 := dg_lt n 0
  have l1 := dg_lt n 1
  have l2 := dg_lt n 2
  have l3 := dg_lt n 3
  rw [← e0] at c0 l0 hl
  rw [← e1] at c1 l1 hl
  rw [← e2] at c2 l2 hh
  rw [← e3] at c3 l3 hh
  have HZ := hid hz
  clear hz e0 e1 e2 e3 hn
  unfold BigV
  go_enter Tryd.func36, Tryd.ntmps36
  go_wp2_with fail
  go_loop [4] (fun i => ∃ k : Nat, 4 ≤ k ∧ k ≤ 16 ∧ i = .int .i64 (k : Int)) (fun i => 16 - (intOf i).toNat)
  case atStart => exact ⟨4, by omega, by omega, rfl⟩
  case round =>
    obtain ⟨k, hk4, hk, rfl⟩ := hrel
    by_cases hlt : k < 16
    · have ca := hA.cell (1 + k)
      rw [Nat.add_comm 1 k, bigs_get _ _ hlt, HZ.out k hk4] at ca
      have ca' := ca
      rw [Nat.add_comm k 1] at ca'
      clear c0 c1 c2 c3 cb
      go_wp2
      go_round
      case rel => exact ⟨k + 1, by omega, by omega, by go_num⟩
      case measure => simp [intOf]; omega
    · obtain rfl : k = 16 := by omega
      go_wp2
      all_goals first
        | (exfalso; have := HT.out; have := HQ.out; simp at *; omega)
        | (simp [bodyPost, results, Tryd.results36, go_sem]; exact (((Up.refl w).alloc _).alloc _).below)

set_option maxRecDepth 100000 in
set_option maxHeartbeats 2000000 in
theorem wide_N5b (w : World) (n h l : Nat) (hn : n < BP 4) (hh : (dg n 2 : Int) + (dg n 3 : Int) * 4294967296 = (h : Int)) (hl : (dg n 0 : Int) + (dg n 1 : Int) * 4294967296 = (l : Int)) (HT : Hid (h ≤ 9223372036854775808)) (HQ : Hid (h = 9223372036854775808)) (HR : Hid (l = 0)) (H L p q : Int) (nh : bits .xor .u64 (if IntKind.u64.signed = true then -1 else IntKind.u64.max) (h : Int) = H) (nl : bits .xor .u64 (if IntKind.u64.signed = true then -1 else IntKind.u64.max) (l : Int) = L) (wl : IntKind.u64.wrap (L + 1) = q) (hz : (q == 0) = true) (H2 : Int) (wH : IntKind.u64.wrap (H + 1) = H2) (wp : IntKind.i64.wrap H2 = p) (HP : Hid (wrap64 (IntKind.u64.wrap (bits .xor .u64 IntKind.u64.max 9223372036854775808 + 1)) = p)) : Calls Tryd.prog 36 #[BigV true n] w fun e w' => e = .returned (.tuple #[.agg #[.int .i64 p, .int .u64 q], .bool true]) ∧ Below w.heap.size w w' := by
  have hA := (Row.new w 55 (bigs true n)).alloc (.cells #[.int .i64 0, .int .u64 0] 24)
  have hU := ((Up.refl w).alloc (.cells (bigs true n) 55)).alloc (.cells #[.int .i64 0, .int .u64 0] 24)
  have hz : ∀ j, 4 ≤ j → dg n j = 0 := fun j hj => dg_high' hn hj
  have cb : ((w.alloc (.cells (bigs true n) 55)).alloc (.cells #[.int .i64 0, .int .u64 0] 24)).cell? ⟨w.heap.size, 0, none⟩ = some (.bool true) := by rw [hA.cell, bigs_get0]
  have c0 := hA.cell (0 + 1)
  have c1 := hA.cell (1 + 1)
  have c2 := hA.cell (2 + 1)
  have c3 := hA.cell (3 + 1)
  rw [bigs_get _ _ (by decide)] at c0 c1 c2 c3
  obtain ⟨d0, e0⟩ : ∃ d, d = dg n 0 := ⟨_, rfl⟩
  obtain ⟨d1, e1⟩ : ∃ d, d = dg n 1 := ⟨_, rfl⟩
  obtain ⟨d2, e2⟩ : ∃ d, d = dg n 2 := ⟨_, rfl⟩
  obtain ⟨d3, e3⟩ : ∃ d, d = dg n 3 := ⟨_, rfl⟩
  have l0 := dg_lt n 0
  have l1 := dg_lt n 1
  have l2 := dg_lt n 2
  have l3 := dg_lt n 3
  rw [← e0] at c0 l0 hl
  rw [← e1] at c1 l1 hl
  rw [← e2] at c2 l2 hh
  rw [← e3] at c3 l3 hh
  have HZ := hid hz
  clear hz e0 e1 e2 e3 hn
  unfold BigV
  go_enter Tryd.func36, Tryd.ntmps36
  go_wp2_with fail
  go_loop [4] (fun i => ∃ k : Nat, 4 ≤ k ∧ k ≤ 16 ∧ i = .int .i64 (k : Int)) (fun i => 16 - (intOf i).toNat)
  case atStart => exact ⟨4, by omega, by omega, rfl⟩
  case round =>
    obtain ⟨k, hk4, hk, rfl⟩ := hrel
    by_cases hlt : k < 16
    · have ca := hA.cell (1 + k)
      rw [Nat.add_comm 1 k, bigs_get _ _ hlt, HZ.out k hk4] at ca
      have ca' := ca
      rw [Nat.add_comm k 1] at ca'
      clear c0 c1 c2 c3 cb
      go_wp2
      go_round
      case rel => exact ⟨k + 1, by omega, by omega, by go_num⟩
      case measure => simp [intOf]; omega
    · obtain rfl : k = 16 := by omega
      go_wp2
      all_goals first
        | (exfalso; have := HT.out; have := HQ.out; have := HR.out; simp at *; omega)
        | (simp [bodyPost, results, Tryd.results36, go_sem]; exact ⟨HP.out, (((Up.refl w).alloc _).alloc _).below⟩)
end Go.Proofs.YtmamedobphlpkaaDoor

namespace Go.Proofs.YtmamedobphlpkaaDoor
open Go.RowKit

/-- what Wide answers -/
theorem rWide_any (w : World) (z : Int) (hz : z.natAbs < BP 16) : Calls Tryd.prog 36 #[BigZ z] w fun e w' =>
    (∃ p q : Int, e = .returned (.tuple #[.agg #[.int .i64 p, .int .u64 q], .bool (decide (Fits z))]) ∧ (Fits z → WV z = .agg #[.int .i64 p, .int .u64 q])) ∧ Below w.heap.size w w' := by
  have b4 : BP 4 = 340282366920938463463374607431768211456 := by decide
  have fin : ∀ (b : Bool) (p q : Int), decide (Fits z) = b → (Fits z → WV z = .agg #[.int .i64 p, .int .u64 q]) →
      (Calls Tryd.prog 36 #[BigZ z] w fun e w' => e = .returned (.tuple #[.agg #[.int .i64 p, .int .u64 q], .bool b]) ∧ Below w.heap.size w w') →
      Calls Tryd.prog 36 #[BigZ z] w fun e w' => (∃ p q : Int, e = .returned (.tuple #[.agg #[.int .i64 p, .int .u64 q], .bool (decide (Fits z))]) ∧ (Fits z → WV z = .agg #[.int .i64 p, .int .u64 q])) ∧ Below w.heap.size w w' := by
    intro b p q hb hw h
    rw [hb]
    exact h.mono fun e w' ⟨h1, h2⟩ => ⟨⟨p, q, h1, hw⟩, h2⟩
  obtain ⟨n, hn⟩ : ∃ n, n = z.natAbs := ⟨_, rfl⟩
  rw [← hn] at hz
  by_cases h4 : BP 4 ≤ n
  · have hf : ¬ Fits z := by unfold Fits; rw [b4] at h4; omega
    refine fin false 0 0 (decide_eq_false hf) (fun h => absurd h hf) ?_
    unfold BigZ
    rw [← hn]
    exact wide_big w _ n hz h4
  · have hn4 : n < BP 4 := by omega
    have hfour := dg_four (n / 18446744073709551616) (n % 18446744073709551616) (by rw [b4] at hn4; omega) (Nat.mod_lt _ (by decide))
    rw [show n / 18446744073709551616 * 18446744073709551616 + n % 18446744073709551616 = n by omega] at hfour
    obtain ⟨h, hh⟩ : ∃ h, h = n / 18446744073709551616 := ⟨_, rfl⟩
    obtain ⟨l, hl⟩ : ∃ l, l = n % 18446744073709551616 := ⟨_, rfl⟩
    rw [← hh, ← hl] at hfour
    have e1 : (dg n 2 : Int) + (dg n 3 : Int) * 4294967296 = (h : Int) := by rw [hfour.2.2.1, hfour.2.2.2]; omega
    have e2 : (dg n 0 : Int) + (dg n 1 : Int) * 4294967296 = (l : Int) := by rw [hfour.1, hfour.2.1]; omega
    have hhb : h < 18446744073709551616 := by rw [b4] at hn4; omega
    have hlb : l < 18446744073709551616 := by omega
    have wv : ∀ p q : Int, z / 18446744073709551616 = p → z % 18446744073709551616 = q → WV z = .agg #[.int .i64 p, .int .u64 q] := fun p q h1 h2 => by unfold WV; rw [h1, h2]
    by_cases hs : z < 0
    · have hB : BigZ z = BigV true n := by unfold BigZ; rw [decide_eq_true hs, ← hn]
      by_cases c1 : 9223372036854775808 < h
      · have hf : ¬ Fits z := by unfold Fits; omega
        refine fin false 0 0 (decide_eq_false hf) (fun h => absurd h hf) ?_
        rw [hB]
        exact wide_N0 w n h l hn4 e1 e2 (hid c1)
      · have nh := not_word h hhb
        have nl := not_word l hlb
        by_cases c2 : h = 9223372036854775808
        · by_cases c3 : 0 < l
          · have hf : ¬ Fits z := by unfold Fits; omega
            refine fin false 0 0 (decide_eq_false hf) (fun h => absurd h hf) ?_
            rw [hB]
            exact wide_N3 w n h l hn4 e1 e2 (hid (by omega)) (hid c2) (hid c3)
          · have hf : Fits z := by unfold Fits; omega
            refine fin true (-9223372036854775808) 0 (decide_eq_true hf) (fun _ => wv _ _ (by omega) (by omega)) ?_
            rw [hB]
            exact wide_N5b w n h l hn4 e1 e2 (hid (by omega)) (hid c2) (hid (by omega)) _ _ _ _ nh nl (by rw [IntKind.wrap_u64]; omega) (by simp) 9223372036854775808 (by rw [IntKind.wrap_u64]; omega) (by kernel_rfl) (hid (by kernel_rfl))
        · have hf : Fits z := by unfold Fits; omega
          by_cases c3 : l = 0
          · refine fin true (-(h : Int)) 0 (decide_eq_true hf) (fun _ => wv _ _ (by omega) (by omega)) ?_
            rw [hB]
            exact wide_N4b w n h l hn4 e1 e2 (hid (by omega)) (hid c2) _ _ _ _ nh nl (by rw [IntKind.wrap_u64]; omega) (by simp) ((18446744073709551616 - (h : Int)) % 18446744073709551616) (by rw [IntKind.wrap_u64]; omega) (by rw [IntKind.wrap_i64]; omega)
          · refine fin true (-(h : Int) - 1) (18446744073709551616 - (l : Int)) (decide_eq_true hf) (fun _ => wv _ _ (by omega) (by omega)) ?_
            rw [hB]
            exact wide_N4a w n h l hn4 e1 e2 (hid (by omega)) (hid c2) _ _ _ _ nh nl (by rw [IntKind.wrap_u64]; omega) (by simp; omega) (by rw [IntKind.wrap_i64]; omega)
    · have hB : BigZ z = BigV false n := by unfold BigZ; rw [decide_eq_false hs, ← hn]
      by_cases c1 : h < 9223372036854775808
      · have hf : Fits z := by unfold Fits; omega
        refine fin true h l (decide_eq_true hf) (fun _ => wv _ _ (by omega) (by omega)) ?_
        rw [hB]
        exact wide_P1 w n h l hn4 e1 e2 (by rw [IntKind.wrap_i64]; omega) (hid c1)
      · have hf : ¬ Fits z := by unfold Fits; omega
        refine fin false ((h : Int) - 18446744073709551616) l (decide_eq_false hf) (fun h => absurd h hf) ?_
        rw [hB]
        exact wide_P2 w n h l hn4 e1 e2 ((h : Int) - 18446744073709551616) (by rw [IntKind.wrap_i64]; omega) (hid c1)

theorem rWide_fit (w : World) (z : Int) (hf : Fits z) : Calls Tryd.prog 36 #[BigZ z] w fun e w' => e = .returned (.tuple #[WV z, .bool true]) ∧ Below w.heap.size w w' := by
  have hz : z.natAbs < BP 16 := by
    have b : BP 4 ≤ BP 16 := BP_le (by decide)
    have b4 : BP 4 = 340282366920938463463374607431768211456 := by decide
    rw [b4] at b
    unfold Fits at hf
    omega
  refine (rWide_any w z hz).mono ?_
  rintro e w' ⟨⟨p, q, h1, h2⟩, h3⟩
  exact ⟨by rw [h1, h2 hf, decide_eq_true hf], h3⟩
theorem rWide_no (w : World) (z : Int) (hz : z.natAbs < BP 16) (hf : ¬ Fits z) : Calls Tryd.prog 36 #[BigZ z] w fun e w' => (∃ p q : Int, e = .returned (.tuple #[.agg #[.int .i64 p, .int .u64 q], .bool false])) ∧ Below w.heap.size w w' := by
  refine (rWide_any w z hz).mono ?_
  rintro e w' ⟨⟨p, q, h1, h2⟩, h3⟩
  exact ⟨⟨p, q, by rw [h1, decide_eq_false hf]⟩, h3⟩

end Go.Proofs.YtmamedobphlpkaaDoor

namespace Go.Proofs.YtmamedobphlpkaaDoor
open Go.RowKit

theorem digs_letters (n : Nat) : digs n = #[.int .u64 (dg n 0 : Int), .int .u64 (dg n 1 : Int), .int .u64 (dg n 2 : Int), .int .u64 (dg n 3 : Int), .int .u64 (dg n 4 : Int), .int .u64 (dg n 5 : Int), .int .u64 (dg n 6 : Int), .int .u64 (dg n 7 : Int), .int .u64 (dg n 8 : Int), .int .u64 (dg n 9 : Int), .int .u64 (dg n 10 : Int), .int .u64 (dg n 11 : Int), .int .u64 (dg n 12 : Int), .int .u64 (dg n 13 : Int), .int .u64 (dg n 14 : Int), .int .u64 (dg n 15 : Int)] := by
  unfold digs
  simp [List.range_succ]
theorem build_letters (b : Bool) (c0 c1 c2 c3 c4 c5 c6 c7 c8 c9 c10 c11 c12 c13 c14 c15 : Int) (W : World) :
    (Instr.build 55 #[(0, .bool b), (1, .agg #[.int .u64 c0, .int .u64 c1, .int .u64 c2, .int .u64 c3, .int .u64 c4, .int .u64 c5, .int .u64 c6, .int .u64 c7, .int .u64 c8, .int .u64 c9, .int .u64 c10, .int .u64 c11, .int .u64 c12, .int .u64 c13, .int .u64 c14, .int .u64 c15])]).run Tryd.prog W =
      .ok (.agg #[.bool b, .int .u64 c0, .int .u64 c1, .int .u64 c2, .int .u64 c3, .int .u64 c4, .int .u64 c5, .int .u64 c6, .int .u64 c7, .int .u64 c8, .int .u64 c9, .int .u64 c10, .int .u64 c11, .int .u64 c12, .int .u64 c13, .int .u64 c14, .int .u64 c15]) W := by kernel_rfl
theorem run_build_big (b : Bool) (n : Nat) (W : World) : (Instr.build 55 #[(0, .bool b), (1, .agg (digs n))]).run Tryd.prog W = .ok (.agg (bigs b n)) W := by
  unfold bigs
  rw [digs_letters]
  exact build_letters ..
theorem exec_build_big {o : Oper} {a : Act} (x y : Operand) (ho : o.op = .build 55 #[(0, x), (1, y)]) (b : Bool) (n : Nat) (hx : a.eval x = .bool b) (hy : a.eval y = .agg (digs n)) (W : World) :
    (execOp a.eval o).run Tryd.prog W = .ok (.value (.agg (bigs b n))) W := by
  unfold execOp
  simp only [ho, Sem.run_bind, Sem.run_pure, List.map_toArray, List.map_cons, List.map_nil, hx, hy, run_build_big, Result.andThen_ok]
end Go.Proofs.YtmamedobphlpkaaDoor

namespace Go.Proofs.YtmamedobphlpkaaDoor
open Go.RowKit
section loops
variable {P : Program} {Q : Exit → Act → World → Prop} {n B : Nat} {w0 : World} {rs rs' : List RowT} {env env' : List (Nat × Value)} {c : Code} {α : Type}
theorem RowsOf.drop {w : World} : ∀ {rs : List RowT} (k : Nat), RowsOf w rs → RowsOf w (rs.drop k)
  | _, 0, h => h
  | [], k + 1, _ => trivial
  | (g, t, cs) :: r, k + 1, h => RowsOf.drop (rs := r) k h.2
theorem Apart.drop : ∀ {rs : List RowT} (k : Nat), Apart B rs → Apart B (rs.drop k)
  | _, 0, h => h
  | [], k + 1, _ => trivial
  | x :: r, k + 1, h => Apart.drop (rs := r) k h.2.2
theorem Hp.drop {w : World} (h : Hp B w0 w rs) (k : Nat) : Hp B w0 w (rs.drop k) := h.sub (fun h => h.drop k) (fun h => h.drop k)
theorem WC2.less (k : Nat) (h : WC2 P Q n env B w0 (rs.drop k) c) : WC2 P Q n env B w0 rs c := fun a w hF hH => h a w hF (hH.drop k)
theorem WC2.at_ (hs : Sub env env') (hr : rs = rs') (h : WC2 P Q n env' B w0 rs' c) : WC2 P Q n env B w0 rs c := fun a w hF hH => h a w (hF.keep hs) (hr ▸ hH)
end loops

/-! ## An array's place -/
section index
variable {P : Program} {n : Nat} {w : World} {env : List (Nat × Value)} {o : Oper}
def IdxAt (P : Program) (T : TypeId) (i : Int) (k : Nat) : Prop := ∀ g off w, (Instr.indexAt T (.pointer (some ⟨g, off, none⟩)) (.int .i64 i)).run P w = .ok (.pointer (some ⟨g, off + k, none⟩)) w
theorem exec_idx {a : Act} {T : TypeId} {x y : Operand} {i : Int} {k g off : Nat} (hf : IdxAt P T i k) (ho : o.op = .indexAddr T x y) (hx : evs env x = some (.pointer (some ⟨g, off, none⟩))) (hy : evs env y = some (.int .i64 i)) (hF : Fr n a env) : (execOp a.eval o).run P w = .ok (.value (.pointer (some ⟨g, off + k, none⟩))) w := by
  unfold execOp
  simp only [ho, hF.evs hx, hF.evs hy, Sem.run_bind, hf g off w, Result.andThen_ok, Sem.run_pure]
end index
end Go.Proofs.YtmamedobphlpkaaDoor

namespace Go.Proofs.YtmamedobphlpkaaDoor
open Go.RowKit
theorem bigs_oneL (b : Bool) (n : Nat) : oneL (bigs b n).toList = true := by
  refine oneL_iff fun v hv => ?_
  exact (Array.all_eq_true_iff_forall_mem.1 (bigs_one b n)) v (by simpa using hv)
theorem tyBigsC (b : Bool) (n : Nat) : AggOf Tryd.prog 55 (bigs b n).size := by rw [bigs_size]; exact tyBig
theorem bigZ_neg {z : Int} (h : z < 0) : (bigZ z)[0]? = some (.bool true) := by unfold bigZ; rw [decide_eq_true h]; exact bigs_get0 _ _
theorem bigZ_pos {z : Int} (h : ¬ z < 0) : (bigZ z)[0]? = some (.bool false) := by unfold bigZ; rw [decide_eq_false h]; exact bigs_get0 _ _
theorem ble_size {c : Array Value} {k : Nat} (h : c.size = k) : Nat.ble (0 + k) c.size = true := by simp [h]
theorem ble_size1 {c : Array Value} {k off : Nat} (h : c.size = k) (ho : off + 1 ≤ k) : Nat.ble (off + 1) c.size = true := by simpa [h] using ho
theorem built_letters (b : Bool) (c0 c1 c2 c3 c4 c5 c6 c7 c8 c9 c10 c11 c12 c13 c14 c15 : Int) :
    Tryd.prog.built 55 [(0, .bool b), (1, .agg #[.int .u64 c0, .int .u64 c1, .int .u64 c2, .int .u64 c3, .int .u64 c4, .int .u64 c5, .int .u64 c6, .int .u64 c7, .int .u64 c8, .int .u64 c9, .int .u64 c10, .int .u64 c11, .int .u64 c12, .int .u64 c13, .int .u64 c14, .int .u64 c15])] =
      some #[.bool b, .int .u64 c0, .int .u64 c1, .int .u64 c2, .int .u64 c3, .int .u64 c4, .int .u64 c5, .int .u64 c6, .int .u64 c7, .int .u64 c8, .int .u64 c9, .int .u64 c10, .int .u64 c11, .int .u64 c12, .int .u64 c13, .int .u64 c14, .int .u64 c15] := by kernel_rfl
theorem built_big (b : Bool) (n : Nat) : Tryd.prog.built 55 [(0, .bool b), (1, .agg (digs n))] = some (bigs b n) := by
  unfold bigs
  rw [digs_letters]
  exact built_letters ..
theorem eqB (b c : Bool) : EqAt Tryd.prog 4 (.bool b) (.bool c) (b == c) := fun x y w => by
  cases b <;> cases c <;> go_simp
theorem neB (b c : Bool) : NeAt Tryd.prog 4 (.bool b) (.bool c) (b != c) := fun x y w => by
  cases b <;> cases c <;> go_simp
theorem zeDig : Zero Tryd.prog 53 (digs 0) := zero_of (z := .agg (digs 0)) (by kernel_rfl) rfl
theorem over_01 : (over? (digs 0).toList 0 [Value.int .u64 1]).toArray = digs 1 := by kernel_rfl
theorem ixDigits (i : Nat) (h : i < 16) : IdxAt Tryd.prog 53 (i : Int) i := fun g off w => by
  have hs : (sizeOf 22).run Tryd.prog w = .ok 1 w := (tyUint64).2 w
  have hi : (0 : Int) ≤ (i : Int) ∧ (i : Int) < ((16 : Nat) : Int) := by omega
  have hc : (i : Int) < 16 := by omega
  simp only [Instr.indexAt, asIntOf, Sem.run_bind, Sem.run_pure, Result.andThen_ok, run_underlying Tryd.underlying53 w, Instr.sureAddr, hs]
  simp [hi, hs, Addr.add, hc]
theorem exec_remN {n : Nat} {env : List (Nat × Value)} {a : Act} {w : World} {o : Oper} {T T' : TypeId} {x y : Operand} {k : IntKind} {p q r : Int} (ho : o.op = .binOp .rem T x y T') (hx : evs env x = some (.int k p)) (hy : evs env y = some (.int k q)) (hq : q ≠ 0) (hr : p.tmod q = r) (hF : Fr n a env) : (execOp a.eval o).run Tryd.prog w = .ok (.value (.int k r)) w := by
  unfold execOp
  simp only [ho, hF.evs hx, hF.evs hy]
  simp [eqGuard, binOp, Op.intArith, Op.intDiv, hq, hr]
theorem rem2 {m : Nat} {c : Int} (h : ((m % 2 : Nat) : Int) = c) : (m : Int).tmod 2 = c := by
  rw [Int.tmod_eq_emod_of_nonneg (by omega)]; omega
end Go.Proofs.YtmamedobphlpkaaDoor
