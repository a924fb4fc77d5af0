/-
  PhS
-/
import Derived.Test.YtjcfimmcogkopaaGreatYB03
import Derived.Test.YtjcfimmcogkopaaGreatYL01
set_option linter.unusedSimpArgs false
set_option linter.unusedVariables false
namespace Go.Proofs.YtjcfimmcogkopaaGreat.Sep
open Go.RowKit
open Go.Proofs.YtjcfimmcogkopaaGreat.Mem (AZ Ci Chg Au)
end Go.Proofs.YtjcfimmcogkopaaGreat.Sep
