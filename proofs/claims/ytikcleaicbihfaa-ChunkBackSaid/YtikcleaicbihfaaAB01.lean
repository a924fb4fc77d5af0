/-
  ChkR
-/
import Derived.Test.YtikcleaicbihfaaAA10
import Derived.Test.YtikcleaicbihfaaChecked
set_option linter.unusedSimpArgs false
set_option linter.unusedVariables false

namespace Go.Proofs.Ytikcleaicbihfaa.Run
open Go.RowKit
theorem mixed : Try.prog.follows .mixedOrders = true := by kernel_rfl
theorem noOwn : NoOwn Try.prog := by unfold NoOwn; kernel_rfl
set_option maxRecDepth 1000000 in
theorem known_holds : holdsT Try.prog (stdX Try.prog) 10000 60 13 [] 64 = true := by kernel_rfl
theorem known_calls (w : World) : Calls Try.prog 13 #[] w fun e w' => e = .returned (.bool true) ∧ Below w.heap.size w w' :=
  holdsT_run mixed noOwn known_holds w (fun e he => by cases he)
set_option maxRecDepth 1000000 in
theorem chk_holds : holdsT Try.prog (stdX Try.prog) 10000 60 3 [] 64 = true := by kernel_rfl
theorem chk_calls (w : World) : Calls Try.prog 3 #[] w fun e w' => e = .returned (.bool true) ∧ Below w.heap.size w w' :=
  holdsT_run mixed noOwn chk_holds w (fun e he => by cases he)
end Go.Proofs.Ytikcleaicbihfaa.Run
