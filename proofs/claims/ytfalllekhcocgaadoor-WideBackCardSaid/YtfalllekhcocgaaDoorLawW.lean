/-
  How a law of chapter 2 is closed: its arguments opened, the table that its condition gives, a world for the witness.
-/
import Derived.Test.YtfalllekhcocgaaDoorKnown2
import Derived.Test.YtfalllekhcocgaaDoorCards
import Derived.Test.YtfalllekhcocgaaDoorTie
import Derived.ProofKit
import Derived.OpenShut
import Derived.Deep.DeepHandedRow
import Derived.Deep.DeepWitnessRowRef
import Derived.Lib.LaidTab
import Derived.Lib.SmallJoins
import Derived.LaidMore
import Derived.Stop.LaidErr
namespace Go.Proofs.YtfalllekhcocgaaDoor
open Go.ChangeShapes Go.WideShapes Go.ChangeAt Go.RowKit

section
variable {H : Type} {enc : TypeId × Value → H}
set_option maxRecDepth 100000 in
theorem open_wide {W : World} {base b0 : Nat} {r : Reach} {spare : Nat → Bool} {held : Bool} {v : Value} {d : DataW H} {p : List MemPlace} (hval : Value.okWide Tryd.prog W r b0 24 v) (h : DataW.Trod enc Tryd.prog W base spare held 24 v d p) :
    ∃ x, v = WV x ∧ Fits x := by
  obtain ⟨v0, v1, y0, y1, n, rfl, _, _, h0, h1⟩ := Joins.open_agg2 Tryd.underlying24 (by kernel_rfl) (by kernel_rfl) hval h
  obtain ⟨z0, e0, _, w0⟩ := DataW.trod_int Tryd.underlying2 h0
  obtain ⟨z1, e1, _, w1⟩ := DataW.trod_int Tryd.underlying22 h1
  cases e0; cases e1
  have b0 := wf_i64 w0
  have b1 := wf_u64 w1
  exact ⟨z0 * 18446744073709551616 + z1, (WV_words (by omega) (by omega)).symm, by unfold Fits; omega⟩
end

theorem gPow : Tryd.prog.globalNamed "internal/strconv.uint64pow10" = some 2 := by kernel_rfl
theorem gPowType : (Tryd.prog.globals[2]?).map (·.type) = some 139 := by kernel_rfl
abbrev laid3 : List (String × DataW Unit) := [("math/bits.deBruijn32tab", Rows.laid_math_bits_deBruijn32tab), ("math/bits.deBruijn64tab", Rows.laid_math_bits_deBruijn64tab), ("internal/strconv.uint64pow10", Rows.laid_internal_strconv_uint64pow10)]

/-- what the row's list gives -/
theorem table_of {W : World} (h : laidMetH Tryd.prog laid3 W) : Lib.TabIs Tryd.prog W "internal/strconv.uint64pow10" .u64 Lib.pow10Tab ∧ 2 < W.heap.size := by
  have h' : laidMet Tryd.prog laid3 W := h
  have h2 := h'.tail.tail
  have ht : Lib.TabIs Tryd.prog W "internal/strconv.uint64pow10" .u64 Lib.pow10Tab := Lib.tabIs_of_head (rest := []) gPow gPowType Tryd.underlying139 Tryd.underlying22 (by kernel_rfl) (by kernel_rfl) h2
  refine ⟨ht, ?_⟩
  have := ht.cell gPow 0 (by decide)
  exact World.block_lt_of_cell? _ _ this

/-- a world for the witness: as the program's initialisers leave it -/
noncomputable def laidWorld (os : Os) : World := World.doorLaid Tryd.prog 62 os
end Go.Proofs.YtfalllekhcocgaaDoor
