/-
  The reference's numbers with signs: from and to numbers of two words, sums, products.
-/
import Derived.Test.YtfalllekhcocgaaDoorRefC
import Derived.Test.YtfalllekhcocgaaDoorWide5
import Derived.Deep.Cut
namespace Go.Proofs.YtfalllekhcocgaaDoor
open Go.RowKit

theorem size_B : (Tryd.prog.info? 76).map (·.size) = some 17 := by kernel_rfl
theorem size_Bn {C : Array Value} (h : C.size = 17) : (Tryd.prog.info? 76).map (·.size) = some C.size := by rw [h]; exact size_B
theorem bigs_one (b : Bool) (n : Nat) : (bigs b n).all (·.oneCell') = true := by
  unfold bigs
  rw [Array.all_append, digs_one]
  simp [Value.oneCell']
theorem bigs_0 (b : Bool) : bigs b 0 = #[.bool b, .int .u64 0, .int .u64 0, .int .u64 0, .int .u64 0, .int .u64 0, .int .u64 0, .int .u64 0, .int .u64 0, .int .u64 0, .int .u64 0, .int .u64 0, .int .u64 0, .int .u64 0, .int .u64 0, .int .u64 0, .int .u64 0] := by
  unfold bigs
  rw [digs_0]
  rfl
/-- four digits written into a number of none -/
theorem row_four {W : World} {g : Nat} {t : TypeId} {b : Bool} (hR : Row W g t #[.bool b, .int .u64 0, .int .u64 0, .int .u64 0, .int .u64 0, .int .u64 0, .int .u64 0, .int .u64 0, .int .u64 0, .int .u64 0, .int .u64 0, .int .u64 0, .int .u64 0, .int .u64 0, .int .u64 0, .int .u64 0, .int .u64 0]) (h l : Nat) (hh : h < 18446744073709551616) (hl : l < 18446744073709551616) :
    Row ((((W.setCell ⟨g, 1, none⟩ (.int .u64 ((l : Int) % 4294967296))).setCell ⟨g, 2, none⟩ (.int .u64 ((l : Int) / 4294967296))).setCell ⟨g, 3, none⟩ (.int .u64 ((h : Int) % 4294967296))).setCell ⟨g, 4, none⟩ (.int .u64 ((h : Int) / 4294967296))) g t (bigs b (h * 18446744073709551616 + l)) := by
  rw [← bigs_0] at hR
  have e1 : ((l : Int) % 4294967296) = ((l % 4294967296 : Nat) : Int) := by omega
  have e2 : ((l : Int) / 4294967296) = ((l / 4294967296 : Nat) : Int) := by omega
  have e3 : ((h : Int) % 4294967296) = ((h % 4294967296 : Nat) : Int) := by omega
  have e4 : ((h : Int) / 4294967296) = ((h / 4294967296 : Nat) : Int) := by omega
  rw [e1, e2, e3, e4]
  have r1 := hR.set 1 (.int .u64 ((l % 4294967296 : Nat) : Int))
  rw [bigs_set b _ (j := 0) (v := l % 4294967296) (by omega)] at r1
  have r2 := r1.set 2 (.int .u64 ((l / 4294967296 : Nat) : Int))
  rw [bigs_set b _ (j := 1) (v := l / 4294967296) (by omega)] at r2
  have r3 := r2.set 3 (.int .u64 ((h % 4294967296 : Nat) : Int))
  rw [bigs_set b _ (j := 2) (v := h % 4294967296) (by omega)] at r3
  have r4 := r3.set 4 (.int .u64 ((h / 4294967296 : Nat) : Int))
  rw [bigs_set b _ (j := 3) (v := h / 4294967296) (by omega), put_four h l hh hl] at r4
  exact r4

set_option maxRecDepth 100000 in
set_option maxHeartbeats 2000000 in
theorem of_pos (w : World) (h l : Nat) (h1 : h < 9223372036854775808) (hl : l < 18446744073709551616) : Calls Tryd.prog 56 #[.agg #[.int .i64 h, .int .u64 l]] w fun e w' => e = .returned (BigV false (h * 18446744073709551616 + l)) ∧ Below w.heap.size w w' := by
  have hd : decide ((h : Int) < 0) = false := by simp
  obtain ⟨V, hV⟩ : ∃ V, V = (((w.alloc (.cells #[.int .i64 h, .int .u64 l] 24)).alloc (.cells #[.bool false, .int .u64 0, .int .u64 0, .int .u64 0, .int .u64 0, .int .u64 0, .int .u64 0, .int .u64 0, .int .u64 0, .int .u64 0, .int .u64 0, .int .u64 0, .int .u64 0, .int .u64 0, .int .u64 0, .int .u64 0, .int .u64 0] 76)).alloc (.cells #[.bool false, .int .u64 0, .int .u64 0, .int .u64 0, .int .u64 0, .int .u64 0, .int .u64 0, .int .u64 0, .int .u64 0, .int .u64 0, .int .u64 0, .int .u64 0, .int .u64 0, .int .u64 0, .int .u64 0, .int .u64 0, .int .u64 0] 76)) := ⟨_, rfl⟩
  have hT1 : Row V (w.heap.size + 1 + 1) 76 #[.bool false, .int .u64 0, .int .u64 0, .int .u64 0, .int .u64 0, .int .u64 0, .int .u64 0, .int .u64 0, .int .u64 0, .int .u64 0, .int .u64 0, .int .u64 0, .int .u64 0, .int .u64 0, .int .u64 0, .int .u64 0, .int .u64 0] := by
    have h := Row.new ((w.alloc (.cells #[.int .i64 h, .int .u64 l] 24)).alloc (.cells #[.bool false, .int .u64 0, .int .u64 0, .int .u64 0, .int .u64 0, .int .u64 0, .int .u64 0, .int .u64 0, .int .u64 0, .int .u64 0, .int .u64 0, .int .u64 0, .int .u64 0, .int .u64 0, .int .u64 0, .int .u64 0, .int .u64 0] 76)) 76 #[.bool false, .int .u64 0, .int .u64 0, .int .u64 0, .int .u64 0, .int .u64 0, .int .u64 0, .int .u64 0, .int .u64 0, .int .u64 0, .int .u64 0, .int .u64 0, .int .u64 0, .int .u64 0, .int .u64 0, .int .u64 0, .int .u64 0]
    rw [← hV] at h
    simpa only [alloc_sz] using h
  have hS1 : Row V (w.heap.size + 1) 76 #[.bool false, .int .u64 0, .int .u64 0, .int .u64 0, .int .u64 0, .int .u64 0, .int .u64 0, .int .u64 0, .int .u64 0, .int .u64 0, .int .u64 0, .int .u64 0, .int .u64 0, .int .u64 0, .int .u64 0, .int .u64 0, .int .u64 0] := by
    have h := (Row.new (w.alloc (.cells #[.int .i64 h, .int .u64 l] 24)) 76 #[.bool false, .int .u64 0, .int .u64 0, .int .u64 0, .int .u64 0, .int .u64 0, .int .u64 0, .int .u64 0, .int .u64 0, .int .u64 0, .int .u64 0, .int .u64 0, .int .u64 0, .int .u64 0, .int .u64 0, .int .u64 0, .int .u64 0]).alloc (.cells #[.bool false, .int .u64 0, .int .u64 0, .int .u64 0, .int .u64 0, .int .u64 0, .int .u64 0, .int .u64 0, .int .u64 0, .int .u64 0, .int .u64 0, .int .u64 0, .int .u64 0, .int .u64 0, .int .u64 0, .int .u64 0, .int .u64 0] 76)
    rw [← hV] at h
    simpa only [alloc_sz] using h
  have hU1 := ((Up.refl w).alloc (.cells #[.int .i64 h, .int .u64 l] 24)).alloc (.cells #[.bool false, .int .u64 0, .int .u64 0, .int .u64 0, .int .u64 0, .int .u64 0, .int .u64 0, .int .u64 0, .int .u64 0, .int .u64 0, .int .u64 0, .int .u64 0, .int .u64 0, .int .u64 0, .int .u64 0, .int .u64 0, .int .u64 0] 76) |>.alloc (.cells #[.bool false, .int .u64 0, .int .u64 0, .int .u64 0, .int .u64 0, .int .u64 0, .int .u64 0, .int .u64 0, .int .u64 0, .int .u64 0, .int .u64 0, .int .u64 0, .int .u64 0, .int .u64 0, .int .u64 0, .int .u64 0, .int .u64 0] 76)
  rw [← hV] at hU1
  have hF := hT1.frozen
  have hT5 := row_four hT1 h l (by omega) hl
  have hS5 := (((hS1.far (p := ⟨w.heap.size + 1 + 1, 1, none⟩) (by simp) (.int .u64 ((l : Int) % 4294967296))).far (p := ⟨w.heap.size + 1 + 1, 2, none⟩) (by simp) (.int .u64 ((l : Int) / 4294967296))).far (p := ⟨w.heap.size + 1 + 1, 3, none⟩) (by simp) (.int .u64 ((h : Int) % 4294967296))).far (p := ⟨w.heap.size + 1 + 1, 4, none⟩) (by simp) (.int .u64 ((h : Int) / 4294967296))
  have hU5 := (((hU1.setCell (p := w.heap.size + 1 + 1) (i := 1) (by omega) (.int .u64 ((l : Int) % 4294967296))).setCell (p := w.heap.size + 1 + 1) (i := 2) (by omega) (.int .u64 ((l : Int) / 4294967296))).setCell (p := w.heap.size + 1 + 1) (i := 3) (by omega) (.int .u64 ((h : Int) % 4294967296))).setCell (p := w.heap.size + 1 + 1) (i := 4) (by omega) (.int .u64 ((h : Int) / 4294967296))
  have hc1 := hT1.cell 1
  have hc2 := hT1.cell 2
  have hc3 := hT1.cell 3
  have hc4 := hT1.cell 4
  simp at hc1 hc2 hc3 hc4
  clear hT1 hS1 hU1
  unfold BigV
  obtain ⟨C, hC⟩ : ∃ C, C = bigs false (h * 18446744073709551616 + l) := ⟨_, rfl⟩
  have hC1 : C.all (·.oneCell') = true := by rw [hC]; exact bigs_one _ _
  have hC2 : C.size = 17 := by rw [hC]; exact bigs_size _ _
  rw [← hC] at hT5 ⊢
  clear hC
  have HC2 := hid hC2
  have HV := hid hV
  clear hC2 hV
  go_enter Tryd.func56, Tryd.ntmps56
  go_upto_region 11 with fail
  rw [← HV.out]
  go_upto_region 15 with fail
  obtain ⟨V2, hV2⟩ : ∃ V2, V2 = (((V.setCell ⟨w.heap.size + 1 + 1, 1, none⟩ (.int .u64 ((l : Int) % 4294967296))).setCell ⟨w.heap.size + 1 + 1, 2, none⟩ (.int .u64 ((l : Int) / 4294967296))).setCell ⟨w.heap.size + 1 + 1, 3, none⟩ (.int .u64 ((h : Int) % 4294967296))).setCell ⟨w.heap.size + 1 + 1, 4, none⟩ (.int .u64 ((h : Int) / 4294967296)) := ⟨_, rfl⟩
  rw [← hV2] at hT5 hS5 hU5 ⊢
  clear hV2
  go_wp2_with (first | (refine wpList_load_row rfl 76 (.tmp 6) rfl (w.heap.size + 1 + 1) rfl 76 C (0, 0) _ hT5 Tryd.underlying76 rfl (size_Bn HC2.out) ?_) | (refine wpList_store_row rfl 76 (.tmp 2) (.tmp 44) rfl (w.heap.size + 1) C rfl rfl 76 #[.bool false, .int .u64 0, .int .u64 0, .int .u64 0, .int .u64 0, .int .u64 0, .int .u64 0, .int .u64 0, .int .u64 0, .int .u64 0, .int .u64 0, .int .u64 0, .int .u64 0, .int .u64 0, .int .u64 0, .int .u64 0, .int .u64 0] hS5 (size_Bn HC2.out) HC2.out.symm hC1 ?_))
  exact bodyPost_ret (v := .agg C) (results_cell_row Tryd.results56 _ _ (w.heap.size + 1) 76 C (0, 0) _ rfl (hS5.putRow _) Tryd.underlying76 rfl (size_Bn HC2.out)) rfl ⟨rfl, (hU5.setRow (by omega) _).below⟩

set_option maxRecDepth 100000 in
set_option maxHeartbeats 2000000 in
theorem of_negA (w : World) (x : Int) (X y L h l : Nat) (hd : decide (x < 0) = true) (wx : IntKind.u64.wrap x = (X : Int)) (nX : bits .xor .u64 (if IntKind.u64.signed = true then -1 else IntKind.u64.max) (X : Int) = (h : Int)) (nY : bits .xor .u64 (if IntKind.u64.signed = true then -1 else IntKind.u64.max) (y : Int) = (L : Int)) (wl : IntKind.u64.wrap ((L : Int) + 1) = (l : Int)) (hz : ((l : Int) == 0) = false) (hh : h < 18446744073709551616) (hl : l < 18446744073709551616) : Calls Tryd.prog 56 #[.agg #[.int .i64 x, .int .u64 y]] w fun e w' => e = .returned (BigV true (h * 18446744073709551616 + l)) ∧ Below w.heap.size w w' := by
  obtain ⟨V, hV⟩ : ∃ V, V = (((w.alloc (.cells #[.int .i64 x, .int .u64 y] 24)).alloc (.cells #[.bool false, .int .u64 0, .int .u64 0, .int .u64 0, .int .u64 0, .int .u64 0, .int .u64 0, .int .u64 0, .int .u64 0, .int .u64 0, .int .u64 0, .int .u64 0, .int .u64 0, .int .u64 0, .int .u64 0, .int .u64 0, .int .u64 0] 76)).alloc (.cells #[.bool true, .int .u64 0, .int .u64 0, .int .u64 0, .int .u64 0, .int .u64 0, .int .u64 0, .int .u64 0, .int .u64 0, .int .u64 0, .int .u64 0, .int .u64 0, .int .u64 0, .int .u64 0, .int .u64 0, .int .u64 0, .int .u64 0] 76)) := ⟨_, rfl⟩
  have hT1 : Row V (w.heap.size + 1 + 1) 76 #[.bool true, .int .u64 0, .int .u64 0, .int .u64 0, .int .u64 0, .int .u64 0, .int .u64 0, .int .u64 0, .int .u64 0, .int .u64 0, .int .u64 0, .int .u64 0, .int .u64 0, .int .u64 0, .int .u64 0, .int .u64 0, .int .u64 0] := by
    have h := Row.new ((w.alloc (.cells #[.int .i64 x, .int .u64 y] 24)).alloc (.cells #[.bool false, .int .u64 0, .int .u64 0, .int .u64 0, .int .u64 0, .int .u64 0, .int .u64 0, .int .u64 0, .int .u64 0, .int .u64 0, .int .u64 0, .int .u64 0, .int .u64 0, .int .u64 0, .int .u64 0, .int .u64 0, .int .u64 0] 76)) 76 #[.bool true, .int .u64 0, .int .u64 0, .int .u64 0, .int .u64 0, .int .u64 0, .int .u64 0, .int .u64 0, .int .u64 0, .int .u64 0, .int .u64 0, .int .u64 0, .int .u64 0, .int .u64 0, .int .u64 0, .int .u64 0, .int .u64 0]
    rw [← hV] at h
    simpa only [alloc_sz] using h
  have hS1 : Row V (w.heap.size + 1) 76 #[.bool false, .int .u64 0, .int .u64 0, .int .u64 0, .int .u64 0, .int .u64 0, .int .u64 0, .int .u64 0, .int .u64 0, .int .u64 0, .int .u64 0, .int .u64 0, .int .u64 0, .int .u64 0, .int .u64 0, .int .u64 0, .int .u64 0] := by
    have h := (Row.new (w.alloc (.cells #[.int .i64 x, .int .u64 y] 24)) 76 #[.bool false, .int .u64 0, .int .u64 0, .int .u64 0, .int .u64 0, .int .u64 0, .int .u64 0, .int .u64 0, .int .u64 0, .int .u64 0, .int .u64 0, .int .u64 0, .int .u64 0, .int .u64 0, .int .u64 0, .int .u64 0, .int .u64 0]).alloc (.cells #[.bool true, .int .u64 0, .int .u64 0, .int .u64 0, .int .u64 0, .int .u64 0, .int .u64 0, .int .u64 0, .int .u64 0, .int .u64 0, .int .u64 0, .int .u64 0, .int .u64 0, .int .u64 0, .int .u64 0, .int .u64 0, .int .u64 0] 76)
    rw [← hV] at h
    simpa only [alloc_sz] using h
  have hU1 := ((Up.refl w).alloc (.cells #[.int .i64 x, .int .u64 y] 24)).alloc (.cells #[.bool false, .int .u64 0, .int .u64 0, .int .u64 0, .int .u64 0, .int .u64 0, .int .u64 0, .int .u64 0, .int .u64 0, .int .u64 0, .int .u64 0, .int .u64 0, .int .u64 0, .int .u64 0, .int .u64 0, .int .u64 0, .int .u64 0] 76) |>.alloc (.cells #[.bool true, .int .u64 0, .int .u64 0, .int .u64 0, .int .u64 0, .int .u64 0, .int .u64 0, .int .u64 0, .int .u64 0, .int .u64 0, .int .u64 0, .int .u64 0, .int .u64 0, .int .u64 0, .int .u64 0, .int .u64 0, .int .u64 0] 76)
  rw [← hV] at hU1
  have hF := hT1.frozen
  have hT5 := row_four hT1 h l hh hl
  have hS5 := (((hS1.far (p := ⟨w.heap.size + 1 + 1, 1, none⟩) (by simp) (.int .u64 ((l : Int) % 4294967296))).far (p := ⟨w.heap.size + 1 + 1, 2, none⟩) (by simp) (.int .u64 ((l : Int) / 4294967296))).far (p := ⟨w.heap.size + 1 + 1, 3, none⟩) (by simp) (.int .u64 ((h : Int) % 4294967296))).far (p := ⟨w.heap.size + 1 + 1, 4, none⟩) (by simp) (.int .u64 ((h : Int) / 4294967296))
  have hU5 := (((hU1.setCell (p := w.heap.size + 1 + 1) (i := 1) (by omega) (.int .u64 ((l : Int) % 4294967296))).setCell (p := w.heap.size + 1 + 1) (i := 2) (by omega) (.int .u64 ((l : Int) / 4294967296))).setCell (p := w.heap.size + 1 + 1) (i := 3) (by omega) (.int .u64 ((h : Int) % 4294967296))).setCell (p := w.heap.size + 1 + 1) (i := 4) (by omega) (.int .u64 ((h : Int) / 4294967296))
  have hc1 := hT1.cell 1
  have hc2 := hT1.cell 2
  have hc3 := hT1.cell 3
  have hc4 := hT1.cell 4
  simp at hc1 hc2 hc3 hc4
  clear hT1 hS1 hU1
  unfold BigV
  obtain ⟨C, hC⟩ : ∃ C, C = bigs true (h * 18446744073709551616 + l) := ⟨_, rfl⟩
  have hC1 : C.all (·.oneCell') = true := by rw [hC]; exact bigs_one _ _
  have hC2 : C.size = 17 := by rw [hC]; exact bigs_size _ _
  rw [← hC] at hT5 ⊢
  clear hC
  have HC2 := hid hC2
  have HV := hid hV
  clear hC2 hV
  go_enter Tryd.func56, Tryd.ntmps56
  go_upto_region 11 with fail
  rw [← HV.out]
  go_upto_region 15 with fail
  obtain ⟨V2, hV2⟩ : ∃ V2, V2 = (((V.setCell ⟨w.heap.size + 1 + 1, 1, none⟩ (.int .u64 ((l : Int) % 4294967296))).setCell ⟨w.heap.size + 1 + 1, 2, none⟩ (.int .u64 ((l : Int) / 4294967296))).setCell ⟨w.heap.size + 1 + 1, 3, none⟩ (.int .u64 ((h : Int) % 4294967296))).setCell ⟨w.heap.size + 1 + 1, 4, none⟩ (.int .u64 ((h : Int) / 4294967296)) := ⟨_, rfl⟩
  rw [← hV2] at hT5 hS5 hU5 ⊢
  clear hV2
  go_wp2_with (first | (refine wpList_load_row rfl 76 (.tmp 6) rfl (w.heap.size + 1 + 1) rfl 76 C (0, 0) _ hT5 Tryd.underlying76 rfl (size_Bn HC2.out) ?_) | (refine wpList_store_row rfl 76 (.tmp 2) (.tmp 44) rfl (w.heap.size + 1) C rfl rfl 76 #[.bool false, .int .u64 0, .int .u64 0, .int .u64 0, .int .u64 0, .int .u64 0, .int .u64 0, .int .u64 0, .int .u64 0, .int .u64 0, .int .u64 0, .int .u64 0, .int .u64 0, .int .u64 0, .int .u64 0, .int .u64 0, .int .u64 0] hS5 (size_Bn HC2.out) HC2.out.symm hC1 ?_))
  exact bodyPost_ret (v := .agg C) (results_cell_row Tryd.results56 _ _ (w.heap.size + 1) 76 C (0, 0) _ rfl (hS5.putRow _) Tryd.underlying76 rfl (size_Bn HC2.out)) rfl ⟨rfl, (hU5.setRow (by omega) _).below⟩

set_option maxRecDepth 100000 in
set_option maxHeartbeats 2000000 in
theorem of_negB (w : World) (x : Int) (X y L H h l : Nat) (hd : decide (x < 0) = true) (wx : IntKind.u64.wrap x = (X : Int)) (nX : bits .xor .u64 (if IntKind.u64.signed = true then -1 else IntKind.u64.max) (X : Int) = (H : Int)) (wh : IntKind.u64.wrap ((H : Int) + 1) = (h : Int)) (nY : bits .xor .u64 (if IntKind.u64.signed = true then -1 else IntKind.u64.max) (y : Int) = (L : Int)) (wl : IntKind.u64.wrap ((L : Int) + 1) = (l : Int)) (hz : ((l : Int) == 0) = true) (hh : h < 18446744073709551616) (hl : l < 18446744073709551616) : Calls Tryd.prog 56 #[.agg #[.int .i64 x, .int .u64 y]] w fun e w' => e = .returned (BigV true (h * 18446744073709551616 + l)) ∧ Below w.heap.size w w' := by
  obtain ⟨V, hV⟩ : ∃ V, V = (((w.alloc (.cells #[.int .i64 x, .int .u64 y] 24)).alloc (.cells #[.bool false, .int .u64 0, .int .u64 0, .int .u64 0, .int .u64 0, .int .u64 0, .int .u64 0, .int .u64 0, .int .u64 0, .int .u64 0, .int .u64 0, .int .u64 0, .int .u64 0, .int .u64 0, .int .u64 0, .int .u64 0, .int .u64 0] 76)).alloc (.cells #[.bool true, .int .u64 0, .int .u64 0, .int .u64 0, .int .u64 0, .int .u64 0, .int .u64 0, .int .u64 0, .int .u64 0, .int .u64 0, .int .u64 0, .int .u64 0, .int .u64 0, .int .u64 0, .int .u64 0, .int .u64 0, .int .u64 0] 76)) := ⟨_, rfl⟩
  have hT1 : Row V (w.heap.size + 1 + 1) 76 #[.bool true, .int .u64 0, .int .u64 0, .int .u64 0, .int .u64 0, .int .u64 0, .int .u64 0, .int .u64 0, .int .u64 0, .int .u64 0, .int .u64 0, .int .u64 0, .int .u64 0, .int .u64 0, .int .u64 0, .int .u64 0, .int .u64 0] := by
    have h := Row.new ((w.alloc (.cells #[.int .i64 x, .int .u64 y] 24)).alloc (.cells #[.bool false, .int .u64 0, .int .u64 0, .int .u64 0, .int .u64 0, .int .u64 0, .int .u64 0, .int .u64 0, .int .u64 0, .int .u64 0, .int .u64 0, .int .u64 0, .int .u64 0, .int .u64 0, .int .u64 0, .int .u64 0, .int .u64 0] 76)) 76 #[.bool true, .int .u64 0, .int .u64 0, .int .u64 0, .int .u64 0, .int .u64 0, .int .u64 0, .int .u64 0, .int .u64 0, .int .u64 0, .int .u64 0, .int .u64 0, .int .u64 0, .int .u64 0, .int .u64 0, .int .u64 0, .int .u64 0]
    rw [← hV] at h
    simpa only [alloc_sz] using h
  have hS1 : Row V (w.heap.size + 1) 76 #[.bool false, .int .u64 0, .int .u64 0, .int .u64 0, .int .u64 0, .int .u64 0, .int .u64 0, .int .u64 0, .int .u64 0, .int .u64 0, .int .u64 0, .int .u64 0, .int .u64 0, .int .u64 0, .int .u64 0, .int .u64 0, .int .u64 0] := by
    have h := (Row.new (w.alloc (.cells #[.int .i64 x, .int .u64 y] 24)) 76 #[.bool false, .int .u64 0, .int .u64 0, .int .u64 0, .int .u64 0, .int .u64 0, .int .u64 0, .int .u64 0, .int .u64 0, .int .u64 0, .int .u64 0, .int .u64 0, .int .u64 0, .int .u64 0, .int .u64 0, .int .u64 0, .int .u64 0]).alloc (.cells #[.bool true, .int .u64 0, .int .u64 0, .int .u64 0, .int .u64 0, .int .u64 0, .int .u64 0, .int .u64 0, .int .u64 0, .int .u64 0, .int .u64 0, .int .u64 0, .int .u64 0, .int .u64 0, .int .u64 0, .int .u64 0, .int .u64 0] 76)
    rw [← hV] at h
    simpa only [alloc_sz] using h
  have hU1 := ((Up.refl w).alloc (.cells #[.int .i64 x, .int .u64 y] 24)).alloc (.cells #[.bool false, .int .u64 0, .int .u64 0, .int .u64 0, .int .u64 0, .int .u64 0, .int .u64 0, .int .u64 0, .int .u64 0, .int .u64 0, .int .u64 0, .int .u64 0, .int .u64 0, .int .u64 0, .int .u64 0, .int .u64 0, .int .u64 0] 76) |>.alloc (.cells #[.bool true, .int .u64 0, .int .u64 0, .int .u64 0, .int .u64 0, .int .u64 0, .int .u64 0, .int .u64 0, .int .u64 0, .int .u64 0, .int .u64 0, .int .u64 0, .int .u64 0, .int .u64 0, .int .u64 0, .int .u64 0, .int .u64 0] 76)
  rw [← hV] at hU1
  have hF := hT1.frozen
  have hT5 := row_four hT1 h l hh hl
  have hS5 := (((hS1.far (p := ⟨w.heap.size + 1 + 1, 1, none⟩) (by simp) (.int .u64 ((l : Int) % 4294967296))).far (p := ⟨w.heap.size + 1 + 1, 2, none⟩) (by simp) (.int .u64 ((l : Int) / 4294967296))).far (p := ⟨w.heap.size + 1 + 1, 3, none⟩) (by simp) (.int .u64 ((h : Int) % 4294967296))).far (p := ⟨w.heap.size + 1 + 1, 4, none⟩) (by simp) (.int .u64 ((h : Int) / 4294967296))
  have hU5 := (((hU1.setCell (p := w.heap.size + 1 + 1) (i := 1) (by omega) (.int .u64 ((l : Int) % 4294967296))).setCell (p := w.heap.size + 1 + 1) (i := 2) (by omega) (.int .u64 ((l : Int) / 4294967296))).setCell (p := w.heap.size + 1 + 1) (i := 3) (by omega) (.int .u64 ((h : Int) % 4294967296))).setCell (p := w.heap.size + 1 + 1) (i := 4) (by omega) (.int .u64 ((h : Int) / 4294967296))
  have hc1 := hT1.cell 1
  have hc2 := hT1.cell 2
  have hc3 := hT1.cell 3
  have hc4 := hT1.cell 4
  simp at hc1 hc2 hc3 hc4
  clear hT1 hS1 hU1
  unfold BigV
  obtain ⟨C, hC⟩ : ∃ C, C = bigs true (h * 18446744073709551616 + l) := ⟨_, rfl⟩
  have hC1 : C.all (·.oneCell') = true := by rw [hC]; exact bigs_one _ _
  have hC2 : C.size = 17 := by rw [hC]; exact bigs_size _ _
  rw [← hC] at hT5 ⊢
  clear hC
  have HC2 := hid hC2
  have HV := hid hV
  clear hC2 hV
  go_enter Tryd.func56, Tryd.ntmps56
  go_upto_region 11 with fail
  rw [← HV.out]
  go_upto_region 15 with fail
  obtain ⟨V2, hV2⟩ : ∃ V2, V2 = (((V.setCell ⟨w.heap.size + 1 + 1, 1, none⟩ (.int .u64 ((l : Int) % 4294967296))).setCell ⟨w.heap.size + 1 + 1, 2, none⟩ (.int .u64 ((l : Int) / 4294967296))).setCell ⟨w.heap.size + 1 + 1, 3, none⟩ (.int .u64 ((h : Int) % 4294967296))).setCell ⟨w.heap.size + 1 + 1, 4, none⟩ (.int .u64 ((h : Int) / 4294967296)) := ⟨_, rfl⟩
  rw [← hV2] at hT5 hS5 hU5 ⊢
  clear hV2
  go_wp2_with (first | (refine wpList_load_row rfl 76 (.tmp 6) rfl (w.heap.size + 1 + 1) rfl 76 C (0, 0) _ hT5 Tryd.underlying76 rfl (size_Bn HC2.out) ?_) | (refine wpList_store_row rfl 76 (.tmp 2) (.tmp 44) rfl (w.heap.size + 1) C rfl rfl 76 #[.bool false, .int .u64 0, .int .u64 0, .int .u64 0, .int .u64 0, .int .u64 0, .int .u64 0, .int .u64 0, .int .u64 0, .int .u64 0, .int .u64 0, .int .u64 0, .int .u64 0, .int .u64 0, .int .u64 0, .int .u64 0, .int .u64 0] hS5 (size_Bn HC2.out) HC2.out.symm hC1 ?_))
  exact bodyPost_ret (v := .agg C) (results_cell_row Tryd.results56 _ _ (w.heap.size + 1) 76 C (0, 0) _ rfl (hS5.putRow _) Tryd.underlying76 rfl (size_Bn HC2.out)) rfl ⟨rfl, (hU5.setRow (by omega) _).below⟩
end Go.Proofs.YtfalllekhcocgaaDoor
