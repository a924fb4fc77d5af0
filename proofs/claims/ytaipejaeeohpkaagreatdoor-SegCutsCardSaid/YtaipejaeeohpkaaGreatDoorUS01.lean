/-
  RpcZ · SgO9
-/
import Derived.Test.YtaipejaeeohpkaaGreatDoorUB03
import Derived.Test.YtaipejaeeohpkaaGreatDoorUR01
import Derived.Test.YtaipejaeeohpkaaGreatDoorUR02
set_option linter.unusedSimpArgs false
set_option linter.unusedVariables false
namespace Go.Proofs.YtaipejaeeohpkaaGreatDoor.Sep
open Go.RowKit
open Go.Proofs.YtaipejaeeohpkaaGreatDoor.Mem (Dist Blk Chg below0)
open Go.ChangeShapes Go.WideShapes Go.ChangeAt
section
variable {H : Type} {enc : TypeId × Value → H} {W : World} {base b0 : Nat} {r : Reach} {spare : Nat → Bool} {held : Bool} {v : Value} {d : DataW H} {p : List MemPlace}
theorem k_entry : Tryz.prog.cellsOf 34 = 5 := by kernel_rfl
theorem b_entry : Tryz.prog.bytesOf 34 = 56 := by kernel_rfl
end
end Go.Proofs.YtaipejaeeohpkaaGreatDoor.Sep
namespace Go.Proofs.YtaipejaeeohpkaaGreatDoor.Sep
open Go.RowKit
open Go.Proofs.YtaipejaeeohpkaaGreatDoor.Mem (Dist Blk Chg below0)
open Go.ChangeShapes Go.WideShapes Go.ChangeAt
section
variable {H : Type} {enc : TypeId × Value → H} {W : World} {base b0 : Nat} {r : Reach} {spare : Nat → Bool} {held : Bool} {v : Value} {d : DataW H} {p : List MemPlace}
set_option maxRecDepth 100000 in
theorem open_entsA (hval : Value.okWide Tryz.prog W r b0 52 v) (h : DataW.Trod enc Tryz.prog W base spare held 52 v d p) (hs : SizedD Tryz.prog 52 d) : ∃ l : List EntV, EntsRd W v l ∧ (∀ x, x ∈ l → x.e.ok) := by
 obtain ⟨a0, len0, cap0, rfl⟩ := okWide_slice Tryz.underlying52 hval
 obtain ⟨fuel, hf⟩ := h
 have hE : EntT 34 _ _ _ _ _ := ⟨Tryz.underlying34, ⟨rfl, rfl⟩, ⟨rfl, rfl⟩, ⟨rfl, rfl⟩, ⟨rfl, rfl⟩, ⟨rfl, rfl⟩⟩
 obtain ⟨A, c, l, hv, hl, hr, ho⟩ := open_ents (x := (d, p)) hE Tryz.underlying52 k_entry b_entry hf hs
 exact ⟨l, hr, fun x hx => (ho x hx).1⟩
end
end Go.Proofs.YtaipejaeeohpkaaGreatDoor.Sep
