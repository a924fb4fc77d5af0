/-
  Steps of the regions in which the reference's numbers with signs are taken apart and put together.
-/
import Derived.Test.YtfalllekhcocgaaDoorRefF
namespace Go.Proofs.YtfalllekhcocgaaDoor
open Go.RowKit

theorem digs_letters (n : Nat) : digs n = #[.int .u64 (dg n 0 : Int), .int .u64 (dg n 1 : Int), .int .u64 (dg n 2 : Int), .int .u64 (dg n 3 : Int), .int .u64 (dg n 4 : Int), .int .u64 (dg n 5 : Int), .int .u64 (dg n 6 : Int), .int .u64 (dg n 7 : Int), .int .u64 (dg n 8 : Int), .int .u64 (dg n 9 : Int), .int .u64 (dg n 10 : Int), .int .u64 (dg n 11 : Int), .int .u64 (dg n 12 : Int), .int .u64 (dg n 13 : Int), .int .u64 (dg n 14 : Int), .int .u64 (dg n 15 : Int)] := by
  unfold digs
  simp [List.range_succ]
theorem build_letters (b : Bool) (c0 c1 c2 c3 c4 c5 c6 c7 c8 c9 c10 c11 c12 c13 c14 c15 : Int) (W : World) :
    (Instr.build 76 #[(0, .bool b), (1, .agg #[.int .u64 c0, .int .u64 c1, .int .u64 c2, .int .u64 c3, .int .u64 c4, .int .u64 c5, .int .u64 c6, .int .u64 c7, .int .u64 c8, .int .u64 c9, .int .u64 c10, .int .u64 c11, .int .u64 c12, .int .u64 c13, .int .u64 c14, .int .u64 c15])]).run Tryd.prog W =
      .ok (.agg #[.bool b, .int .u64 c0, .int .u64 c1, .int .u64 c2, .int .u64 c3, .int .u64 c4, .int .u64 c5, .int .u64 c6, .int .u64 c7, .int .u64 c8, .int .u64 c9, .int .u64 c10, .int .u64 c11, .int .u64 c12, .int .u64 c13, .int .u64 c14, .int .u64 c15]) W := by kernel_rfl
theorem run_build_big (b : Bool) (n : Nat) (W : World) : (Instr.build 76 #[(0, .bool b), (1, .agg (digs n))]).run Tryd.prog W = .ok (.agg (bigs b n)) W := by
  unfold bigs
  rw [digs_letters]
  exact build_letters ..
theorem run_loadVar_digs (W : World) (g : Nat) (t : TypeId) (b : Bool) (n : Nat) (h : Row W g t (bigs b n)) : (loadVar 74 ⟨g, 1, none⟩).run Tryd.prog W = .ok (.agg (digs n)) W := by
  have hl : (loadCells ⟨g, 1, none⟩ (digs n).toList.length).run Tryd.prog W = .ok (digs n).toList.toArray W :=
    run_loadCells_list (P := Tryd.prog) W ⟨g, 1, none⟩ (digs n).toList (fun j v hv => by
      have hadd : (⟨g, 1, none⟩ : Addr).add j = ⟨g, 1 + j, none⟩ := by simp [Addr.add]
      have hj : j < 16 := by
        have := (List.getElem?_eq_some_iff.1 hv).1
        simpa [digs_size] using this
      rw [hadd, h.cell, Nat.add_comm, bigs_get _ _ hj]
      rw [Array.getElem?_toList, digs_get _ hj] at hv
      exact hv)
  have hs : (Tryd.prog.info? 74).map (·.size) = some 16 := size_D
  cases hq : Tryd.prog.info? 74 with
  | none => simp [hq] at hs
  | some i =>
    have hs' : i.size = 16 := by simpa [hq] using hs
    have hagg : (isAgg 74).run Tryd.prog W = .ok true W := by
      unfold isAgg
      rw [Sem.run_bind, run_underlying Tryd.underlying74 W]
      rfl
    simp only [Array.length_toList, Array.toArray_toList, digs_size] at hl
    simp [loadVar, Sem.run_bind, hagg, sizeOf, typeInfo, hq, hs', hl]
theorem exec_load_digs {o : Oper} {a : Act} (x : Operand) (ho : o.op = .load 74 x) (g : Nat) (hx : a.eval x = .pointer (some ⟨g, 1, none⟩)) (t : TypeId) (b : Bool) (n : Nat) (W : World) (hg : Row W g t (bigs b n)) :
    (execOp a.eval o).run Tryd.prog W = .ok (.value (.agg (digs n))) W := by
  unfold execOp
  simp only [ho, hx, Instr.loadAt, Instr.sureAddr, Sem.run_bind, Sem.run_pure, Result.andThen_ok, run_loadVar_digs W g t b n hg]
theorem exec_build_big {o : Oper} {a : Act} (x y : Operand) (ho : o.op = .build 76 #[(0, x), (1, y)]) (b : Bool) (n : Nat) (hx : a.eval x = .bool b) (hy : a.eval y = .agg (digs n)) (W : World) :
    (execOp a.eval o).run Tryd.prog W = .ok (.value (.agg (bigs b n))) W := by
  unfold execOp
  simp only [ho, Sem.run_bind, Sem.run_pure, List.map_toArray, List.map_cons, List.map_nil, hx, hy, run_build_big, Result.andThen_ok]
end Go.Proofs.YtfalllekhcocgaaDoor
