/-
  Opn · BagO · BagM
-/
import Derived.Test.YthgnfacifogjiaaBC01
import Derived.Test.YthgnfacifogjiaaBD04
import Derived.Test.YthgnfacifogjiaaBE01
import Derived.Test.YthgnfacifogjiaaBF02
set_option linter.unusedSimpArgs false
set_option linter.unusedVariables false

namespace Go.Proofs.Ythgnfacifogjiaa.Sep
open Go.ChangeShapes Go.WideShapes Go.ChangeAt Go.RowKit
/-- one step of a play -/
structure StepD where
  what : Int
  k : Int
  v : Int
  near : Bool
instance : Inhabited StepD := ⟨⟨0, 0, 0, false⟩⟩
def StepD.ok (x : StepD) : Prop := (-9223372036854775808 ≤ x.what ∧ x.what ≤ 9223372036854775807) ∧ (0 ≤ x.k ∧ x.k ≤ 18446744073709551615) ∧ (-9223372036854775808 ≤ x.v ∧ x.v ≤ 9223372036854775807)
section
variable {H : Type} {enc : TypeId × Value → H} {W : World} {base b0 : Nat} {r : Reach} {spare : Nat → Bool} {held : Bool} {v : Value} {d : DataW H} {p : List MemPlace}
set_option maxRecDepth 100000 in
theorem open_i64s (hval : Value.okWide Try.prog W r b0 37 v) (h : DataW.Trod enc Try.prog W base spare held 37 v d p) : ∃ A c, ∃ l : List Int, v = .slice A l.length c ∧ l.length ≤ maxLen ∧ SlRd W 1 v l.length (flat encI l) ∧ ∀ y ∈ l, -9223372036854775808 ≤ y ∧ y ≤ 9223372036854775807 :=
  open_slice okI (by decide) Try.underlying37 (by kernel_rfl) (fun n cs x _ h => by
    obtain ⟨z, e, _, hw⟩ := DataW.trod_int Try.underlying3 h
    exact ⟨z, e, wf_i64 hw⟩) hval h
theorem fld1 {P : Program} {n j : Nat} {f : Field} {cs : List Value} {ys : List (DataW H × List MemPlace)} {a : Value} {y : DataW H × List MemPlace} (hc : P.cellsOf f.type = 1) (ho : f.offset = j) (h : DataW.trod enc P W base spare held n f.type ((cs.drop f.offset).take (P.cellsOf f.type)) = ys[j]?) (ha : cs[j]? = some a) (hy : ys[j]? = some y) : DataW.trod enc P W base spare held n f.type [a] = some y := by
  rw [ho, hc, hy] at h
  obtain ⟨hj, ha⟩ := List.getElem?_eq_some_iff.1 ha
  rw [List.drop_eq_getElem_cons hj, ha] at h
  exact h
end
end Go.Proofs.Ythgnfacifogjiaa.Sep

namespace Go.Proofs.Ythgnfacifogjiaa.Sep
open Go.ChangeShapes Go.WideShapes Go.ChangeAt Go.RowKit
/-- one step of a play -/
structure StepB where
  what : Int
  k : Int
  near : Bool
instance : Inhabited StepB := ⟨⟨0, 0, false⟩⟩
def encG (x : StepB) : List Value := [.int .i64 x.what, .int .i64 x.k, .bool x.near]
theorem okG : EncOf 3 encG := ⟨fun _ => rfl, fun x v h => by unfold encG at h; simp at h; rcases h with rfl | rfl | rfl <;> rfl⟩
def StepB.ok (x : StepB) : Prop := (-9223372036854775808 ≤ x.what ∧ x.what ≤ 9223372036854775807) ∧ (-9223372036854775808 ≤ x.k ∧ x.k ≤ 9223372036854775807)
section
variable {H : Type} {enc : TypeId × Value → H} {W : World} {base b0 : Nat} {r : Reach} {spare : Nat → Bool} {held : Bool} {v : Value} {d : DataW H} {p : List MemPlace}
set_option maxRecDepth 100000 in
theorem open_stepsB (hval : Value.okWide Try.prog W r b0 35 v) (h : DataW.Trod enc Try.prog W base spare held 35 v d p) : ∃ A c, ∃ l : List StepB, v = .slice A l.length c ∧ l.length ≤ maxLen ∧ SlRd W 3 v l.length (flat encG l) ∧ ∀ y ∈ l, y.ok :=
  open_slice okG (by decide) Try.underlying35 (by kernel_rfl) (fun n cs x hcl h => by
    obtain ⟨ys, n', _, hx, _, hyl, hf⟩ := DataW.trod_struct Try.underlying41 h
    have hyl : ys.length = 3 := hyl
    match cs, hcl with
    | [a0, a1, a2], _ =>
      obtain ⟨y0, g0⟩ : ∃ y, ys[0]? = some y := ⟨_, List.getElem?_eq_getElem (by omega)⟩
      obtain ⟨y1, g1⟩ : ∃ y, ys[1]? = some y := ⟨_, List.getElem?_eq_getElem (by omega)⟩
      obtain ⟨y2, g2⟩ : ∃ y, ys[2]? = some y := ⟨_, List.getElem?_eq_getElem (by omega)⟩
      have h0 := fld1 (by kernel_rfl) rfl (hf 0 _ rfl) rfl g0
      have h1 := fld1 (by kernel_rfl) rfl (hf 1 _ rfl) rfl g1
      have h2 := fld1 (by kernel_rfl) rfl (hf 2 _ rfl) rfl g2
      obtain ⟨z0, e0, _, w0⟩ := DataW.trod_int Try.underlying3 h0
      obtain ⟨z1, e1, _, w1⟩ := DataW.trod_int Try.underlying3 h1
      obtain ⟨z2, e2, _⟩ := DataW.trod_bool Try.underlying4 h2
      simp at e0 e1 e2
      subst e0; subst e1; subst e2
      exact ⟨⟨z0, z1, z2⟩, rfl, wf_i64 w0, wf_i64 w1⟩) hval h
end
end Go.Proofs.Ythgnfacifogjiaa.Sep

namespace Go.Proofs.Ythgnfacifogjiaa.Sep
open Go.ChangeShapes Go.WideShapes Go.ChangeAt Go.RowKit
section
variable {H : Type} {enc : TypeId × Value → H} {P : Program} {W : World} {α : Type} {k : Nat} {enc' : α → List Value} {l : List α} {A : Option Addr} {c n : Nat} {w : World}
/-- a slice that came in has room for what it holds -/
theorem open_cap {base : Nat} {spare : Nat → Bool} {held : Bool} {t e : TypeId} {d : DataW H} {p : List MemPlace} (hu : P.underlying t = some (.slice e)) (h : DataW.Trod enc P W base spare held t (.slice A n c) d p) : n ≤ c := by
  obtain ⟨fuel, hf⟩ := h
  rcases DataW.trod_slice hu hf with ⟨hcs, hx⟩ | ⟨a, len', cap', elems, rest, n', _, hcs, hx, _, hl, hm, hlen, hels, _, _⟩
  · simp [Value.cells] at hcs
    obtain ⟨rfl, rfl, rfl⟩ := hcs
    exact Nat.le_refl _
  · simp [Value.cells] at hcs
    obtain ⟨rfl, rfl, rfl⟩ := hcs
    omega
theorem subv_head {j : Nat} : subv k (.slice A n c) 0 j = .slice A j c := by
  cases A with
  | none => simp [subv]
  | some a => simp [subv, Addr.add]
theorem SlRd.head (he : EncOf k enc') {j : Nat} (hj : j ≤ l.length) (h : SlRd w k (.slice A l.length c) l.length (flat enc' l)) : SlRd w k (.slice A j c) (l.take j).length (flat enc' (l.take j)) := by
  have hl : (l.take j).length = j := by rw [List.length_take]; omega
  obtain ⟨_, A', c', e, h3⟩ := h
  simp only [Value.slice.injEq] at e
  obtain ⟨rfl, _, rfl⟩ := e
  refine ⟨flat_len he _, A, c, by rw [hl], ?_⟩
  rcases h3 with ⟨h4, h5⟩ | ⟨a, h4, h5⟩
  · exact .inl ⟨h4, by omega⟩
  · refine .inr ⟨a, h4, fun q x hx => h5 q x ?_⟩
    rw [← flat_take he, List.getElem?_take] at hx
    split at hx
    · exact hx
    · cases hx
theorem SlRd.tail (he : EncOf k enc') {i : Nat} (hi : i ≤ l.length) (hc : l.length ≤ c) (h : SlRd w k (.slice A l.length c) l.length (flat enc' l)) : SlRd w k (subv k (.slice A l.length c) i l.length) (l.drop i).length (flat enc' (l.drop i)) := by
  have hl : (l.drop i).length = l.length - i := List.length_drop ..
  obtain ⟨_, A', c', e, h3⟩ := h
  simp only [Value.slice.injEq] at e
  obtain ⟨rfl, _, rfl⟩ := e
  refine ⟨flat_len he _, _, c - i, by simp only [subv]; rw [hl], ?_⟩
  rcases h3 with ⟨h4, h5⟩ | ⟨a, h4, h5⟩
  · subst h4
    exact .inl ⟨by split <;> rfl, by omega⟩
  · subst h4
    by_cases hci : c = i
    · refine .inr ⟨a, by rw [if_pos hci], fun q x hx => ?_⟩
      rw [List.drop_of_length_le (by omega)] at hx
      simp [flat] at hx
    · refine .inr ⟨a.add (i * k), by rw [if_neg hci]; rfl, fun q x hx => ?_⟩
      rw [← flat_drop he, List.getElem?_drop] at hx
      have h6 := h5 _ x hx
      have hlt := (List.getElem?_eq_some_iff.1 hx).1
      obtain ⟨z, hz⟩ : ∃ z, (flat enc' l)[0]? = some z := ⟨_, List.getElem?_eq_getElem (by omega)⟩
      have h0 := h5 0 z hz
      rw [show a.add 0 = a by simp [Addr.add]] at h0
      have ha := spot0 h0
      rw [ha, Addr.add_lit] at h6
      rw [ha, Addr.add_lit, Addr.add_lit, Nat.add_assoc]
      exact h6
end
end Go.Proofs.Ythgnfacifogjiaa.Sep
