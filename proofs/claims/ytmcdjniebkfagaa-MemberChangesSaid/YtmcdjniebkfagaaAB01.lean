/-
  MbrR
-/
import Derived.Test.YtmcdjniebkfagaaAA11
import Derived.Test.YtmcdjniebkfagaaChecked
set_option linter.unusedSimpArgs false
set_option linter.unusedVariables false

namespace Go.Proofs.Ytmcdjniebkfagaa.Run
open Go.RowKit
theorem mixed : Try.prog.follows .mixedOrders = true := by kernel_rfl
theorem noOwn : NoOwn Try.prog := by unfold NoOwn; kernel_rfl
set_option maxRecDepth 1000000 in
theorem known_holds : holdsT Try.prog (stdX Try.prog) 10000 60 14 [] 64 = true := by kernel_rfl
theorem known_calls (w : World) : Calls Try.prog 14 #[] w fun e w' => e = .returned (.bool true) ∧ Below w.heap.size w w' :=
  holdsT_run mixed noOwn known_holds w (fun e he => by cases he)
set_option maxRecDepth 1000000 in
theorem mbr_holds : holdsT Try.prog (stdX Try.prog) 10000 60 3 [] 64 = true := by kernel_rfl
theorem mbr_calls (w : World) : Calls Try.prog 3 #[] w fun e w' => e = .returned (.bool true) ∧ Below w.heap.size w w' :=
  holdsT_run mixed noOwn mbr_holds w (fun e he => by cases he)
end Go.Proofs.Ytmcdjniebkfagaa.Run
