/-
  PhX
-/
import Derived.Test.YtjcfimmcogkopaaGreatPA06
import Derived.Test.YtjcfimmcogkopaaGreatPB02
import Derived.Test.YtjcfimmcogkopaaGreatPV01
import Derived.Test.YtjcfimmcogkopaaGreatPW01
set_option linter.unusedSimpArgs false
set_option linter.unusedVariables false
namespace Go.Proofs.YtjcfimmcogkopaaGreat.Sep
open Go.ChangeShapes Go.WideShapes Go.ChangeAt Go.RowKit
section
variable {H : Type} {enc : TypeId × Value → H} {W : World} {base b0 : Nat} {r : Reach} {spare : Nat → Bool} {held : Bool} {v : Value} {d : DataW H} {p : List MemPlace}
set_option maxRecDepth 100000 in
theorem open_stepsP (hval : Value.okWide Tryz.prog W r b0 22 v) (h : DataW.Trod enc Tryz.prog W base spare held 22 v d p) (hs : DI Tryz.prog 22 d) : ∃ A c, ∃ l : List StP, v = .slice A l.length c ∧ l.length ≤ 9223372036854775807 ∧ Dy W 9 v l.length (flat encStP l) ∧ ∀ y ∈ l, y.ok ∧ Vd W y.e := by
  obtain ⟨a0, len0, cap0, rfl⟩ := okWide_slice Tryz.underlying22 hval
  obtain ⟨fuel, hf⟩ := h
  have hC : Tryz.prog.cellsOf 38 = 9 := by kernel_rfl
  have hBy : Tryz.prog.bytesOf 38 = 88 := by kernel_rfl
  have hS : SnapT 34 31 _ _ := ⟨Tryz.underlying34, ⟨rfl, rfl⟩, ⟨rfl, rfl⟩, by kernel_rfl⟩
  have hB : BaseT 31 _ _ _ := ⟨Tryz.underlying31, ⟨rfl, rfl⟩, ⟨rfl, rfl⟩, ⟨rfl, rfl⟩⟩
  have hk4 : Tryz.prog.cellsOf 34 = 4 := by kernel_rfl
  have hk3 : Tryz.prog.cellsOf 36 = 3 := by kernel_rfl
  obtain ⟨A, c, l, hv, hl, hr, ho⟩ := M9 (x0 := (d, p)) FO (by decide) Tryz.underlying22 hC (ok := fun y => y.ok ∧ Vd W y.e) (fun n cs x hcl h hs => by
    obtain ⟨ys, n', _, hx, _, hyl, hf⟩ := DataW.trod_struct Tryz.underlying38 h
    have hyl : ys.length = 4 := hyl
    match cs, hcl with
    | [c0, c1, c2, c3, c4, c5, c6, c7, c8], _ =>
      obtain ⟨y0, g0⟩ : ∃ y, ys[0]? = some y := ⟨_, List.getElem?_eq_getElem (by omega)⟩
      obtain ⟨y1, g1⟩ : ∃ y, ys[1]? = some y := ⟨_, List.getElem?_eq_getElem (by omega)⟩
      obtain ⟨y2, g2⟩ : ∃ y, ys[2]? = some y := ⟨_, List.getElem?_eq_getElem (by omega)⟩
      obtain ⟨y3, g3⟩ : ∃ y, ys[3]? = some y := ⟨_, List.getElem?_eq_getElem (by omega)⟩
      have h0 := Nz (t := 3) (off := 0) ⟨rfl, rfl⟩ Wv (hf 0 _ rfl) (zs := [c0]) rfl g0
      have h1 := Nz (t := 34) (off := 1) ⟨rfl, rfl⟩ hk4 (hf 1 _ rfl) (zs := [c1, c2, c3, c4]) rfl g1
      have h2 := Nz (t := 4) (off := 5) ⟨rfl, rfl⟩ XE (hf 2 _ rfl) (zs := [c5]) rfl g2
      have h3 := Nz (t := 36) (off := 6) ⟨rfl, rfl⟩ hk3 (hf 3 _ rfl) (zs := [c6, c7, c8]) rfl g3
      have s1 := Vc (t' := 34) (off := 1) hs hx Tryz.underlying38 (j := 1) rfl ⟨rfl, rfl⟩ g1
      obtain ⟨z0, e0, _, w0⟩ := DataW.trod_int Tryz.underlying3 h0
      obtain ⟨e, he, ho⟩ := Tc hS hB rfl h1 s1
      obtain ⟨z2, e2, _⟩ := DataW.trod_bool Tryz.underlying4 h2
      obtain ⟨b, rfl, rfl, rfl, wb⟩ := Td h3
      cases e0; cases e2
      unfold Wt at he
      simp only [List.cons.injEq, and_true] at he
      obtain ⟨rfl, rfl, rfl, rfl⟩ := he
      exact ⟨⟨z0, e, z2, b⟩, rfl, ⟨Lc w0, ho.1, wb⟩, ho⟩) hf hs
  rw [hBy] at hl
  have h2 : reachBytes = 140737488351232 := rfl
  exact ⟨A, c, l, hv, by omega, hr, ho⟩
end
end Go.Proofs.YtjcfimmcogkopaaGreat.Sep
