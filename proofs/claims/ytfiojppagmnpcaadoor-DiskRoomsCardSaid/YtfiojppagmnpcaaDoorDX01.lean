/-
  DskX
-/
import Derived.Test.YtfiojppagmnpcaaDoorDB02
import Derived.Test.YtfiojppagmnpcaaDoorDH01
import Derived.Test.YtfiojppagmnpcaaDoorCards
import Derived.Test.YtfiojppagmnpcaaDoorTie
import Derived.Deep.DeepHandedRow
import Derived.Deep.DeepWitnessRowRef
import Derived.Lib.LaidTab
import Derived.Lay
set_option linter.unusedSimpArgs false
set_option linter.unusedVariables false

namespace Go.Proofs.YtfiojppagmnpcaaDoor.Sep
open Go.ChangeShapes Go.WideShapes Go.ChangeAt Go.RowKit
theorem cells_of_strs {H : Type} {enc : TypeId × Value → H} {P : Program} {w : World} {base : Nat} {sp : Nat → Bool} {held : Bool} {fuel : Nat} {t e : TypeId} {n : Nat} {cs : List Value} {zs : List (List UInt8)} {p : List MemPlace}
    (ht : P.underlying t = some (.array n e)) (he : P.underlying e = some .string) (hce : P.cellsOf e = 1) (hct : P.cellsOf t = n)
    (h : DataW.trod enc P w base sp held fuel t cs = some (.agg (zs.map fun z => (DataW.lit (.string z) : DataW H)), p)) : cs = zs.map fun z => Value.string (bs z) := by
  cases fuel with
  | zero => simp [DataW.trod] at h
  | succ fuel =>
    simp only [DataW.trod, ht, hce, hct, Nat.mul_one] at h
    split at h
    · rename_i hl
      obtain ⟨xs, hm, hx⟩ := Option.map_eq_some_iff.1 h
      have hxs : xs.map (·.1) = zs.map fun z => (DataW.lit (.string z) : DataW H) := by
        have := congrArg Prod.fst hx
        simpa using this
      have hxl : xs.length = n := by simpa using Lib.mapM_length hm
      have hzl : zs.length = n := by
        have := congrArg List.length hxs
        simp at this
        omega
      apply List.ext_getElem?
      intro i
      by_cases hi : i < n
      · obtain ⟨b, hb, hf⟩ := Lib.mapM_at hm i i (by simp [hi])
        obtain ⟨z, hc, hbz, _⟩ := DataW.trod_string he hf
        have h1 : cs[i]? = some (.string z) := by
          have := congrArg (·[0]?) hc
          simpa [List.getElem?_take, List.getElem?_drop] using this
        have h2 : (xs.map (·.1))[i]? = some (DataW.lit (.string z.data.toList) : DataW H) := by
          rw [List.getElem?_map, hb]
          simp [hbz]
        rw [hxs] at h2
        simp only [List.getElem?_map, Option.map_eq_some_iff, DataW.lit.injEq, Lit.string.injEq] at h2
        obtain ⟨z', hz', e'⟩ := h2
        rw [h1, List.getElem?_map, hz']
        simp only [Option.map_some, Option.some.injEq, Value.string.injEq]
        rw [e']
        exact bs_arr z
      · rw [List.getElem?_eq_none (by omega), List.getElem?_eq_none (by simp; omega)]
    · cases h
theorem gNames : Tryd.prog.globalNamed "bursar/bursarlaw7.names" = some 0 := by kernel_rfl
theorem gNamesType : (Tryd.prog.globals[0]?).map (·.type) = some 31 := by kernel_rfl
abbrev laid7 : List (String × DataW Unit) := [("bursar/bursarlaw7.names", Rows.laid_bursar_bursarlaw7_names)]
theorem names_of {W : World} (h : laidMetH Tryd.prog laid7 W) : Names W := by
  obtain ⟨ps, ⟨g', t', cs, fuel, p, q, hg', ht', hvar, hd, _, _⟩, _⟩ := (h : laidMet Tryd.prog laid7 W)
  obtain rfl := Option.some.inj (gNames.symm.trans hg')
  obtain rfl := Option.some.inj (gNamesType.symm.trans ht')
  have hc := cells_of_strs (zs := nm4) Tryd.underlying31 Tryd.underlying9 (by kernel_rfl) (by kernel_rfl) hd
  have hc2 : cs = (nm4.map fun z => Value.string (bs z)).toArray := by rw [← hc]
  subst hc2
  intro i hi
  have := World.var?_cell gNames hvar i
  rw [this]
  match i, hi with
  | 0, _ => rfl
  | 1, _ => rfl
  | 2, _ => rfl
  | 3, _ => rfl
noncomputable def laidWorld7 (os : Os) : World := World.laidAll Tryd.prog os laid7
/-! ## The argument -/
section
variable {H : Type} {enc : TypeId × Value → H} {W : World} {base b0 : Nat} {r : Reach} {spare : Nat → Bool} {held : Bool} {v : Value} {d : DataW H} {p : List MemPlace}
theorem k_step : Tryd.prog.cellsOf 34 = 7 := by kernel_rfl
theorem b_step : Tryd.prog.bytesOf 34 = 88 := by kernel_rfl
instance : Inhabited StV := ⟨⟨0, 0, 0, [], [], none, 0, [], false⟩⟩
set_option maxRecDepth 100000 in
theorem open_step {n : Nat} {cs : List Value} {x : DataW H × List MemPlace} (hcl : cs.length = 7) (h : DataW.trod enc Tryd.prog W base spare held n 34 cs = some x) (hs : SizedD Tryd.prog 34 x.1) : ∃ y : StV, cs = encSt y ∧ y.ok W := by
  obtain ⟨ys, n', _, hx, _, hyl, hf⟩ := DataW.trod_struct Tryd.underlying34 h
  have hyl : ys.length = 7 := hyl
  rw [hx] at hs
  match cs, hcl with
  | [c0, c1, c2, c3, c4, c5, c6], _ =>
    obtain ⟨y0, g0⟩ : ∃ y, ys[0]? = some y := ⟨_, List.getElem?_eq_getElem (by omega)⟩
    obtain ⟨y1, g1⟩ : ∃ y, ys[1]? = some y := ⟨_, List.getElem?_eq_getElem (by omega)⟩
    obtain ⟨y2, g2⟩ : ∃ y, ys[2]? = some y := ⟨_, List.getElem?_eq_getElem (by omega)⟩
    obtain ⟨y3, g3⟩ : ∃ y, ys[3]? = some y := ⟨_, List.getElem?_eq_getElem (by omega)⟩
    obtain ⟨y4, g4⟩ : ∃ y, ys[4]? = some y := ⟨_, List.getElem?_eq_getElem (by omega)⟩
    obtain ⟨y5, g5⟩ : ∃ y, ys[5]? = some y := ⟨_, List.getElem?_eq_getElem (by omega)⟩
    obtain ⟨y6, g6⟩ : ∃ y, ys[6]? = some y := ⟨_, List.getElem?_eq_getElem (by omega)⟩
    have h0 := fldk (k := 1) (off := 0) (zs := [c0]) (by kernel_rfl) rfl (hf 0 _ rfl) rfl g0
    have h1 := fldk (k := 1) (off := 1) (zs := [c1]) (by kernel_rfl) rfl (hf 1 _ rfl) rfl g1
    have h2 := fldk (k := 1) (off := 2) (zs := [c2]) (by kernel_rfl) rfl (hf 2 _ rfl) rfl g2
    have h3 := fldk (k := 1) (off := 3) (zs := [c3]) (by kernel_rfl) rfl (hf 3 _ rfl) rfl g3
    have h4 := fldk (k := 1) (off := 4) (zs := [c4]) (by kernel_rfl) rfl (hf 4 _ rfl) rfl g4
    have h5 := fldk (k := 1) (off := 5) (zs := [c5]) (by kernel_rfl) rfl (hf 5 _ rfl) rfl g5
    have h6 := fldk (k := 1) (off := 6) (zs := [c6]) (by kernel_rfl) rfl (hf 6 _ rfl) rfl g6
    have s5 : SizedD Tryd.prog 32 y5.1 := SizedD.field (j := 5) (d := y5.1) hs Tryd.underlying34 rfl (by rw [List.getElem?_map, g5]; rfl)
    obtain ⟨z0, e0, _, w0⟩ := DataW.trod_int Tryd.underlying3 h0
    obtain ⟨z1, e1, _, w1⟩ := DataW.trod_int Tryd.underlying3 h1
    obtain ⟨z2, e2, _, w2⟩ := DataW.trod_int Tryd.underlying3 h2
    obtain ⟨z3, e3, _, w3⟩ := DataW.trod_string Tryd.underlying9 h3
    obtain ⟨z4, e4, _, w4⟩ := DataW.trod_string Tryd.underlying9 h4
    obtain ⟨A, c, l, e5, hl, hl2⟩ := open_8s h5 s5
    obtain ⟨z6, e6, _⟩ := DataW.trod_bool Tryd.underlying4 h6
    cases e0; cases e1; cases e2; cases e3; cases e4; cases e5; cases e6
    refine ⟨⟨z0, z1, z2, z3.data.toList, z4.data.toList, A, c, l, z6⟩, ?_, wf_i64 w1, wf_i64 w2, hl, hl2⟩
    simp only [encSt, StV.v]
    rw [← bs_arr z3, ← bs_arr z4]
theorem open_stepsA (hval : Value.okWide Tryd.prog W r b0 22 v) (h : DataW.Trod enc Tryd.prog W base spare held 22 v d p) (hs : SizedD Tryd.prog 22 d) : ∃ l : List StV, StsRd W v l ∧ l.length ≤ 9223372036854775807 := by
  obtain ⟨a0, len0, cap0, rfl⟩ := okWide_slice Tryd.underlying22 hval
  obtain ⟨fuel, hf⟩ := h
  obtain ⟨A, c, l, hv, hl, hr, ho⟩ := open_slice_s okSt (by decide) Tryd.underlying22 k_step (ok := fun y : StV => y.ok W) (fun n cs x hcl h hs => open_step hcl h hs) (x0 := (d, p)) hf hs
  rw [b_step] at hl
  have h2 : reachBytes = 140737488351232 := rfl
  exact ⟨l, ⟨hr, ho⟩, by omega⟩
end
end Go.Proofs.YtfiojppagmnpcaaDoor.Sep
