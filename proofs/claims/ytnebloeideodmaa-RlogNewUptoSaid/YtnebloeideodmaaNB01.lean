/-
  RlgR
-/
import Derived.Test.YtnebloeideodmaaNA10
import Derived.Test.YtnebloeideodmaaChecked
set_option linter.unusedSimpArgs false
set_option linter.unusedVariables false

namespace Go.Proofs.Ytnebloeideodmaa.Run
open Go.RowKit
theorem mixed : Try.prog.follows .mixedOrders = true := by kernel_rfl
theorem noOwn : NoOwn Try.prog := by unfold NoOwn; kernel_rfl
set_option maxRecDepth 1000000 in
theorem known_holds : holdsT Try.prog (stdX Try.prog) 10000 60 11 [] 64 = true := by kernel_rfl
theorem known_calls (w : World) : Calls Try.prog 11 #[] w fun e w' => e = .returned (.bool true) ∧ Below w.heap.size w w' :=
  holdsT_run mixed noOwn known_holds w (fun e he => by cases he)
end Go.Proofs.Ytnebloeideodmaa.Run
