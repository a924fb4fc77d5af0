/-
  RlAj
-/
import Derived.Test.YtnebloeideodmaaPV01
set_option linter.unusedSimpArgs false
set_option linter.unusedVariables false
namespace Go.Proofs.Ytnebloeideodmaa.Sep
open Go.RowKit
open Go.Proofs.Ytnebloeideodmaa.Mem (AM BA Chg Aq)
end Go.Proofs.Ytnebloeideodmaa.Sep
