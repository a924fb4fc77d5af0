/-
  RlZ · RlAa · RlAb
-/
import Derived.Test.YtnebloeideodmaaLL01
import Derived.Test.YtnebloeideodmaaLM01
set_option linter.unusedSimpArgs false
set_option linter.unusedVariables false

namespace Go.Proofs.Ytnebloeideodmaa.Sep
open Go.RowKit
open Go.Proofs.Ytnebloeideodmaa.Mem (Dist Blk Chg below0)

theorem sub_mid5 {A : Option Addr} {c q m : Nat} {l : List EntV} (h : q + m ≤ l.length) : subv 5 (.slice A l.length c) q (q + m) = .slice (lowA A c q) ((l.drop q).take m).length (c - q) := by
  rw [List.length_take, List.length_drop, Nat.min_eq_left (by omega)]
  show Value.slice (if c = q then A else A.map (·.add (q * 5))) (q + m - q) (c - q) = .slice (if c = q then A else A.map (·.add (q * 5))) m (c - q)
  rw [show q + m - q = m by omega]
theorem ents_mid {w : World} {A : Option Addr} {c q m : Nat} {l : List EntV} (h : EntsRd w (.slice A l.length c) l) (hq : q + m ≤ l.length) (hc : l.length ≤ c) : EntsRd w (.slice (lowA A c q) ((l.drop q).take m).length (c - q)) ((l.drop q).take m) :=
  ents_hi (ents_lo h (by omega) hc) (by rw [List.length_drop]; omega)

end Go.Proofs.Ytnebloeideodmaa.Sep

namespace Go.Proofs.Ytnebloeideodmaa.Sep
open Go.RowKit
open Go.Proofs.Ytnebloeideodmaa.Mem (Dist Blk Chg below0)

end Go.Proofs.Ytnebloeideodmaa.Sep

namespace Go.Proofs.Ytnebloeideodmaa.Sep
open Go.RowKit
open Go.Proofs.Ytnebloeideodmaa.Mem (Dist Blk Chg below0)

end Go.Proofs.Ytnebloeideodmaa.Sep
