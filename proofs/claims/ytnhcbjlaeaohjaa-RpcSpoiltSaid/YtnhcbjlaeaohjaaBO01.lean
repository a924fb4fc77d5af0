/-
  RpcZ
-/
import Derived.Test.YtnhcbjlaeaohjaaBB02
import Derived.Test.YtnhcbjlaeaohjaaBC01
set_option linter.unusedSimpArgs false
set_option linter.unusedVariables false

namespace Go.Proofs.Ytnhcbjlaeaohjaa.Sep
open Go.RowKit
open Go.Proofs.Ytnhcbjlaeaohjaa.Mem (Dist Blk Chg below0)
open Go.ChangeShapes Go.WideShapes Go.ChangeAt
section
variable {H : Type} {enc : TypeId × Value → H} {W : World} {base b0 : Nat} {r : Reach} {spare : Nat → Bool} {held : Bool} {v : Value} {d : DataW H} {p : List MemPlace}
theorem k_entry : Try.prog.cellsOf 36 = 5 := by kernel_rfl
theorem b_entry : Try.prog.bytesOf 36 = 56 := by kernel_rfl
set_option maxRecDepth 100000 in
theorem open_msgA (hval : Value.okWide Try.prog W r b0 28 v) (h : DataW.Trod enc Try.prog W base spare held 28 v d p) (hs : SizedD Try.prog 28 d) : ∃ y : MsgV, v = .agg #[.int .i64 y.m.k, .int .i64 y.m.a, .int .i64 y.m.b, .int .u64 y.m.t, .int .u64 y.m.i, .int .u64 y.m.lt, y.ev, .int .u64 y.m.co, .bool y.m.rf, .int .u64 y.m.bi, .int .u64 y.m.bt, .int .i64 y.m.bc, .int .i64 y.m.o, y.dv, .bool y.m.la] ∧ MsgOk W y := by
  obtain ⟨cs, rfl, hsz⟩ := okWide_struct Try.underlying28 hval
  have hcl : cs.toList.length = 15 := by rw [Array.length_toList]; exact hsz.trans (by kernel_rfl)
  obtain ⟨fuel, hf⟩ := h
  have hM : MsgT 28 25 23 _ _ _ _ _ _ _ _ _ _ _ _ _ := ⟨Try.underlying28, ⟨rfl, rfl⟩, ⟨rfl, rfl⟩, ⟨rfl, rfl⟩, ⟨rfl, rfl⟩, ⟨rfl, rfl⟩, ⟨rfl, rfl⟩, ⟨rfl, rfl⟩, ⟨rfl, rfl⟩, ⟨rfl, rfl⟩, ⟨rfl, rfl⟩, ⟨rfl, rfl⟩, ⟨rfl, rfl⟩, ⟨rfl, rfl⟩, by kernel_rfl, by kernel_rfl⟩
  have hE : EntT 36 _ _ _ _ _ := ⟨Try.underlying36, ⟨rfl, rfl⟩, ⟨rfl, rfl⟩, ⟨rfl, rfl⟩, ⟨rfl, rfl⟩, ⟨rfl, rfl⟩⟩
  have hB : BaseT 25 _ _ _ := ⟨Try.underlying25, ⟨rfl, rfl⟩, ⟨rfl, rfl⟩, ⟨rfl, rfl⟩⟩
  obtain ⟨y, hy, ho⟩ := open_msg (x := (d, p)) hM hE Try.underlying23 k_entry b_entry hB hcl hf hs
  refine ⟨y, ?_, ho⟩
  obtain ⟨l⟩ := cs
  have hy : l = y.cells := hy
  rw [hy]
  rfl
end
end Go.Proofs.Ytnhcbjlaeaohjaa.Sep
