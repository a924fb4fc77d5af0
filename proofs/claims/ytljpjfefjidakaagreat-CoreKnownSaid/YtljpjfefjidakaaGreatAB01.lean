/-
  CoR
-/
import Derived.Test.YtljpjfefjidakaaGreatAA09
import Derived.Test.YtljpjfefjidakaaGreatChecked
set_option linter.unusedSimpArgs false
set_option linter.unusedVariables false

namespace Go.Proofs.YtljpjfefjidakaaGreat.Run
open Go.RowKit
theorem mixed : Tryz.prog.follows .mixedOrders = true := by kernel_rfl
theorem noOwn : NoOwn Tryz.prog := by unfold NoOwn; kernel_rfl
set_option maxRecDepth 1000000 in
theorem co_holds : holdsT Tryz.prog (stdX Tryz.prog) 10000 60 3 [] 64 = true := by kernel_rfl
theorem co_calls (w : World) : Calls Tryz.prog 3 #[] w fun e w' => e = .returned (.bool true) ∧ Below w.heap.size w w' :=
  holdsT_run mixed noOwn co_holds w (fun e he => by cases he)
end Go.Proofs.YtljpjfefjidakaaGreat.Run
