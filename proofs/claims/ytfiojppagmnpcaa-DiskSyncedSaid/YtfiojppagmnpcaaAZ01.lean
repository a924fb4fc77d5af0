/-
  DskZ
-/
import Derived.Test.YtfiojppagmnpcaaAB02
set_option linter.unusedSimpArgs false
set_option linter.unusedVariables false

namespace Go.Proofs.Ytfiojppagmnpcaa.Sep
open Go.RowKit
open Go.Proofs.Ytfiojppagmnpcaa.Mem (Dist Blk Chg below0)
open Go.ChangeShapes Go.WideShapes Go.ChangeAt
section
variable {H : Type} {enc : TypeId × Value → H} {W : World} {base b0 : Nat} {r : Reach} {spare : Nat → Bool} {held : Bool} {v : Value} {d : DataW H} {p : List MemPlace}
theorem k_u8s7 : Try.prog.cellsOf 28 = 1 := by kernel_rfl
theorem b_u8s7 : Try.prog.bytesOf 28 = 24 := by kernel_rfl
theorem open_pt {n : Nat} {cs : List Value} {x : DataW H × List MemPlace} (hcl : cs.length = 1) (h : DataW.trod enc Try.prog W base spare held n 28 cs = some x) (hs : SizedD Try.prog 28 x.1) : ∃ y : PtV, cs = encPt y ∧ Sl8 W y.v y.d ∧ y.d.length ≤ 140737488351232 := by
  match cs, hcl with
  | [a], _ =>
    obtain ⟨A, c, l, rfl, hl, hl2⟩ := open_8s h hs
    exact ⟨⟨A, c, l⟩, rfl, hl, hl2⟩
instance : Inhabited PtV := ⟨⟨none, 0, []⟩⟩
theorem open_ptsA (hval : Value.okWide Try.prog W r b0 38 v) (h : DataW.Trod enc Try.prog W base spare held 38 v d p) (hs : SizedD Try.prog 38 d) : ∃ l : List PtV, PtsRd W v l ∧ l.length ≤ 9223372036854775807 ∧ ∀ x, x ∈ l → x.d.length ≤ 140737488351232 := by
  obtain ⟨a0, len0, cap0, rfl⟩ := okWide_slice Try.underlying38 hval
  obtain ⟨fuel, hf⟩ := h
  obtain ⟨A, c, l, hv, hl, hr, ho⟩ := open_slice_s okPt (by decide) Try.underlying38 k_u8s7 (ok := fun y : PtV => Sl8 W y.v y.d ∧ y.d.length ≤ 140737488351232) (fun n cs x hcl h hs => open_pt hcl h hs) (x0 := (d, p)) hf hs
  rw [b_u8s7] at hl
  have h2 : reachBytes = 140737488351232 := rfl
  exact ⟨l, ⟨hr, fun x hx => (ho x hx).1⟩, by omega, fun x hx => (ho x hx).2⟩
end
end Go.Proofs.Ytfiojppagmnpcaa.Sep
