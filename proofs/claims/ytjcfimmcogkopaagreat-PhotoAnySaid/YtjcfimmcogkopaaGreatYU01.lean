/-
  HdV
-/
import Derived.Test.YtjcfimmcogkopaaGreatYN01
import Derived.Test.YtjcfimmcogkopaaGreatYS01
set_option linter.unusedSimpArgs false
set_option linter.unusedVariables false
namespace Go.Proofs.YtjcfimmcogkopaaGreat.Sep
open Go.RowKit
open Go.Proofs.YtjcfimmcogkopaaGreat.Mem (AZ Ci Chg Au)
theorem Qh {X : Ass} {v : Value} {y r : List UInt8} (hX : Cu X v y) (hl : y.length ≤ 140737488351232) (hr : BD y = r) : AW Tryz.prog 20 #[v] [X] (fun v : Value => v) (fun v => [X, Ap 5 1 encB v r]) := fun w rs h1 h2 h3 => by
 have hXr := Ak.one' h1
 obtain ⟨A0, c0, rfl, _⟩ := hX rs w hXr h2
 exact Wv hX hl hr w rs h1 h2 h3
end Go.Proofs.YtjcfimmcogkopaaGreat.Sep
