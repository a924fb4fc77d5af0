/-
  Opn · MbP
-/
import Derived.Test.YtmcdjniebkfagaaAD01
import Derived.Test.YtmcdjniebkfagaaAE04
set_option linter.unusedSimpArgs false
set_option linter.unusedVariables false

namespace Go.Proofs.Ytmcdjniebkfagaa.Sep
open Go.ChangeShapes Go.WideShapes Go.ChangeAt Go.RowKit
/-- one step of a play -/
structure StepD where
  what : Int
  k : Int
  v : Int
  near : Bool
instance : Inhabited StepD := ⟨⟨0, 0, 0, false⟩⟩
def StepD.ok (x : StepD) : Prop := (-9223372036854775808 ≤ x.what ∧ x.what ≤ 9223372036854775807) ∧ (0 ≤ x.k ∧ x.k ≤ 18446744073709551615) ∧ (-9223372036854775808 ≤ x.v ∧ x.v ≤ 9223372036854775807)
section
variable {H : Type} {enc : TypeId × Value → H} {W : World} {base b0 : Nat} {r : Reach} {spare : Nat → Bool} {held : Bool} {v : Value} {d : DataW H} {p : List MemPlace}
set_option maxRecDepth 100000 in
theorem open_u64s (hval : Value.okWide Try.prog W r b0 41 v) (h : DataW.Trod enc Try.prog W base spare held 41 v d p) : ∃ A c, ∃ l : List Int, v = .slice A l.length c ∧ l.length ≤ maxLen ∧ SlRd W 1 v l.length (flat encU l) ∧ ∀ y ∈ l, 0 ≤ y ∧ y ≤ 18446744073709551615 :=
  open_slice okU (by decide) Try.underlying41 (by kernel_rfl) (fun n cs x _ h => by
    obtain ⟨z, e, _, hw⟩ := DataW.trod_int Try.underlying42 h
    exact ⟨z, e, wf_u64 hw⟩) hval h
set_option maxRecDepth 100000 in
theorem open_i64s (hval : Value.okWide Try.prog W r b0 34 v) (h : DataW.Trod enc Try.prog W base spare held 34 v d p) : ∃ A c, ∃ l : List Int, v = .slice A l.length c ∧ l.length ≤ maxLen ∧ SlRd W 1 v l.length (flat encI l) ∧ ∀ y ∈ l, -9223372036854775808 ≤ y ∧ y ≤ 9223372036854775807 :=
  open_slice okI (by decide) Try.underlying34 (by kernel_rfl) (fun n cs x _ h => by
    obtain ⟨z, e, _, hw⟩ := DataW.trod_int Try.underlying3 h
    exact ⟨z, e, wf_i64 hw⟩) hval h
end
end Go.Proofs.Ytmcdjniebkfagaa.Sep

namespace Go.Proofs.Ytmcdjniebkfagaa.Sep
open Go.ChangeShapes Go.WideShapes Go.ChangeAt Go.RowKit
open Go.Proofs.Ytmcdjniebkfagaa.Mem (Dist Blk Chg below0)
section
variable {H : Type} {enc : TypeId × Value → H} {P : Program} {W : World} {α : Type} {k : Nat} {enc' : α → List Value} {l : List α} {A : Option Addr} {c n : Nat} {w : World}
/-- a slice that came in has room for what it holds -/
theorem open_cap {base : Nat} {spare : Nat → Bool} {held : Bool} {t e : TypeId} {d : DataW H} {p : List MemPlace} (hu : P.underlying t = some (.slice e)) (h : DataW.Trod enc P W base spare held t (.slice A n c) d p) : n ≤ c := by
  obtain ⟨fuel, hf⟩ := h
  rcases DataW.trod_slice hu hf with ⟨hcs, hx⟩ | ⟨a, len', cap', elems, rest, n', _, hcs, hx, _, hl, hm, hlen, hels, _, _⟩
  · simp [Value.cells] at hcs
    obtain ⟨rfl, rfl, rfl⟩ := hcs
    exact Nat.le_refl _
  · simp [Value.cells] at hcs
    obtain ⟨rfl, rfl, rfl⟩ := hcs
    omega
theorem subv_head {j : Nat} : subv k (.slice A n c) 0 j = .slice A j c := by
  cases A with
  | none => simp [subv]
  | some a => simp [subv, Addr.add]
theorem SlRd.head (he : EncOf k enc') {j : Nat} (hj : j ≤ l.length) (h : SlRd w k (.slice A l.length c) l.length (flat enc' l)) : SlRd w k (.slice A j c) (l.take j).length (flat enc' (l.take j)) := by
  have hl : (l.take j).length = j := by rw [List.length_take]; omega
  obtain ⟨_, A', c', e, h3⟩ := h
  simp only [Value.slice.injEq] at e
  obtain ⟨rfl, _, rfl⟩ := e
  refine ⟨flat_len he _, A, c, by rw [hl], ?_⟩
  rcases h3 with ⟨h4, h5⟩ | ⟨a, h4, h5⟩
  · exact .inl ⟨h4, by omega⟩
  · refine .inr ⟨a, h4, fun q x hx => h5 q x ?_⟩
    rw [← flat_take he, List.getElem?_take] at hx
    split at hx
    · exact hx
    · cases hx
end
end Go.Proofs.Ytmcdjniebkfagaa.Sep
