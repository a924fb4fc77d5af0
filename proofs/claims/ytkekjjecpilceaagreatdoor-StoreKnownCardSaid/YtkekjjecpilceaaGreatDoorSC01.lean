/-
  StkB
-/
import Derived.Test.YtkekjjecpilceaaGreatDoorSB01
set_option linter.unusedSimpArgs false
set_option linter.unusedVariables false

namespace Go.Proofs.YtkekjjecpilceaaGreatDoor.Run
open Go.RowKit
set_option maxRecDepth 1000000 in
theorem store_holds : ∀ o1 o5 : Obj, holdsT Tryz.prog (memX known_ent known_calls) 10000 60 5 [(1, errC, o1), (5, tabC, o5)] 64 = true := fun o1 o5 => by kernel_rfl
theorem store_calls (w : World) (hw : TabsIn tabs2 w) : Calls Tryz.prog 5 #[] w fun e w' => e = .returned (.bool true) ∧ Below w.heap.size w w' :=
  tabs_calls (tabs := tabs2) (fun obs hl w h => by
    match obs, hl with
    | [o1, o5], _ => exact holdsT_run mixed noOwn (store_holds o1 o5) w h) w hw
end Go.Proofs.YtkekjjecpilceaaGreatDoor.Run
