/-
  RlAlike
-/
import Derived.Test.YtnebloeideodmaaNB01
import Derived.Test.YtnebloeideodmaaNS01
import Derived.Test.YtnebloeideodmaaNT01
set_option linter.unusedSimpArgs false
set_option linter.unusedVariables false

namespace Go.Proofs.Ytnebloeideodmaa.Sep
open Go.RowKit
open Go.Proofs.Ytnebloeideodmaa.Mem (Dist Blk Chg below0)

end Go.Proofs.Ytnebloeideodmaa.Sep
