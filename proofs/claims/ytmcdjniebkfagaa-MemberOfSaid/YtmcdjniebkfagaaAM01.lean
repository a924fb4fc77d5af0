/-
  Beh
-/
import Derived.Test.YtmcdjniebkfagaaAL01
import Derived.OrdersIn
set_option linter.unusedSimpArgs false
set_option linter.unusedVariables false

namespace Go.Proofs.Ytmcdjniebkfagaa.Sep
open Go.RowKit
open Go.Proofs.Ytmcdjniebkfagaa.Mem (Dist Blk Chg below0)
section
variable {P : Program} {ops : Array Oper} {Q : Exit → Act → World → Prop} {n d D : Nat} {env : List (Nat × Value)} {B : Nat → Prop} {w0 w : World} {os : List Ass} {o : Oper} {a : Act} {rest : List Oper}
/-! ## In order -/
theorem t_to {y : Code} (h : WCT D P Q n env B w0 os y) (a : Act) (w : World) (hD : w.heap[D]? = some (.deferred (some []))) (h0 : w0.heap.size ≤ D) (hd : a.defers = [markD D]) (hF : Fr n { a with defers := [] } env) (hH : Hp B w0 w os) : Exit.then (fun a w => y.wp P Q a w) Q .normal a w := h a w hD h0 hd hF hH
/-! ## In each order -/
variable {f i : Nat} {listed : Array Bool}
end
end Go.Proofs.Ytmcdjniebkfagaa.Sep
