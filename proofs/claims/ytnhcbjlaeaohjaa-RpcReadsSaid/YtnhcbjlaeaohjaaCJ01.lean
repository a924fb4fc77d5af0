/-
  RpcL · RpcT
-/
import Derived.Test.YtnhcbjlaeaohjaaCG01
set_option linter.unusedSimpArgs false
set_option linter.unusedVariables false

namespace Go.Proofs.Ytnhcbjlaeaohjaa.Sep
open Go.RowKit
open Go.Proofs.Ytnhcbjlaeaohjaa.Mem (Dist Blk Chg below0)

/-- what reading entries comes to, and where they lie -/
structure REX where
  EA : Option Addr
  ec : Nat
  es : List EntV
  en : Nat
  l : List UInt8
  f : Nat
def REX.v (x : REX) : Value := .slice x.EA x.es.length x.ec
theorem decE_nil : decE [] = (.zero, 10) := by
  have h3 : readE [] = (⟨0, 0, 0, [], 0⟩, [], 10) := readE_of (n0 := 0) (n1 := 0) (n2 := 0) (c := 0) rfl (rnum_stays (by decide)) (rnum_stays (by decide)) (rtail_else _ _ (by decide) (by decide))
  exact decE_bad (by decide) h3 (by decide)
theorem Ents.is {te : TypeId} {v : Value} {l : List EntV} : ∀ rs, Ents te v l rs → ∃ A c, v = .slice A l.length c := fun _ h => by
  obtain ⟨a, b, e, h1, _⟩ := h
  exact h1.is

end Go.Proofs.Ytnhcbjlaeaohjaa.Sep

namespace Go.Proofs.Ytnhcbjlaeaohjaa.Sep
open Go.RowKit
open Go.Proofs.Ytnhcbjlaeaohjaa.Mem (Dist Blk Chg below0)

end Go.Proofs.Ytnhcbjlaeaohjaa.Sep
