/-
  RlgR
-/
import Derived.Test.YtnebloeideodmaaPA10
import Derived.Test.YtnebloeideodmaaChecked
set_option linter.unusedSimpArgs false
set_option linter.unusedVariables false
namespace Go.Proofs.Ytnebloeideodmaa.Run
open Go.RowKit
theorem Oh : Try.prog.follows .mixedOrders = true := by kernel_rfl
theorem Wd : LF Try.prog := by unfold LF; kernel_rfl
set_option maxRecDepth 1000000 in
theorem LJ : M3 Try.prog (W2 Try.prog) 10000 60 11 [] 64 = true := by kernel_rfl
theorem known_calls (w : World) : Calls Try.prog 11 #[] w fun e w' => e = .returned (.bool true) ∧ Below w.heap.size w w' :=
 M4 Oh Wd LJ w (fun e he => by cases he)
end Go.Proofs.Ytnebloeideodmaa.Run
