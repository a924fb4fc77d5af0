/-
  RlAi
-/
import Derived.Test.YtnebloeideodmaaNU01
set_option linter.unusedSimpArgs false
set_option linter.unusedVariables false

namespace Go.Proofs.Ytnebloeideodmaa.Sep
open Go.RowKit
open Go.Proofs.Ytnebloeideodmaa.Mem (Dist Blk Chg below0)

/-- what has been told so far -/
def OwI (g3 g11 g12 : Nat) (mm : Int) (lf : List EntD) (i : Nat) : Ass := fun rs => ∃ gv : Value, Parts [cell g12 4 #[.bool true], cell g11 34 #[gv], EnT gv (lf.take i), cell g3 3 #[.int .i64 mm]] rs
theorem OwI.open_ {g3 g11 g12 : Nat} {mm : Int} {lf : List EntD} {i : Nat} : ∀ rs, OwI g3 g11 g12 mm lf i rs → ∃ gv : Value, Parts [cell g12 4 #[.bool true], cell g11 34 #[gv], EnT gv (lf.take i), cell g3 3 #[.int .i64 mm]] rs := fun _ h => h
end Go.Proofs.Ytnebloeideodmaa.Sep
