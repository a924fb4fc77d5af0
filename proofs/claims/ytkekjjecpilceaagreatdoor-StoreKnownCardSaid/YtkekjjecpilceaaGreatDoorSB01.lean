/-
  StkA
-/
import Derived.Test.YtkekjjecpilceaaGreatDoorSA09
import Derived.Test.YtkekjjecpilceaaGreatDoorTie
set_option linter.unusedSimpArgs false
set_option linter.unusedVariables false

namespace Go.Proofs.YtkekjjecpilceaaGreatDoor.Run
open Go.RowKit
/-- what a sentinel's variable holds -/
def errC : List Value := [.iface 316 (.pointer (some ⟨0, 0, some 2⟩))]
def tabI : List Int := [0, 1, 56, 2, 57, 49, 28, 3, 61, 58, 42, 50, 38, 29, 17, 4, 62, 47, 59, 36, 45, 43, 51, 22, 53, 39, 33, 30, 24, 18, 12, 5, 63, 55, 48, 27, 60, 41, 37, 16, 46, 35, 44, 21, 52, 32, 23, 11, 54, 26, 40, 15, 34, 20, 31, 10, 25, 14, 19, 9, 13, 8, 7, 6]
def tabC : List Value := tabI.map fun n => .int .u8 n
def tabs2 : List (Nat × List Value) := [(1, errC), (5, tabC)]
theorem mixed : Tryz.prog.follows .mixedOrders = true := by kernel_rfl
theorem noOwn : NoOwn Tryz.prog := by unfold NoOwn; kernel_rfl
set_option maxRecDepth 1000000 in
theorem known_holds : ∀ o1 o5 : Obj, holdsT Tryz.prog (stdX Tryz.prog) 10000 60 24 [(1, errC, o1), (5, tabC, o5)] 64 = true := fun o1 o5 => by kernel_rfl
theorem known_calls (w : World) (hw : TabsIn tabs2 w) : Calls Tryz.prog 24 #[] w fun e w' => e = .returned (.bool true) ∧ Below w.heap.size w w' :=
  tabs_calls (tabs := tabs2) (fun obs hl w h => by
    match obs, hl with
    | [o1, o5], _ => exact holdsT_run mixed noOwn (known_holds o1 o5) w h) w hw
theorem known_ent : Ent Tryz.prog 24 := ent_of Tryz.func24 (by kernel_rfl) rfl
end Go.Proofs.YtkekjjecpilceaaGreatDoor.Run
