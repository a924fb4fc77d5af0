/-
  CmdV
-/
import Derived.Test.YtlkknncndgamdaaDoorO01
import Derived.Test.YtlkknncndgamdaaDoorU01
import Derived.Test.YtlkknncndgamdaaDoorCards
import Derived.Test.YtlkknncndgamdaaDoorTie
import Derived.Deep.DeepHandedRow
import Derived.Deep.DeepWitnessRowRef
import Derived.Lib.LaidTab
import Derived.Lay
set_option linter.unusedSimpArgs false
set_option linter.unusedVariables false

namespace Go.Proofs.YtlkknncndgamdaaDoor.Sep
open Go.ChangeShapes Go.WideShapes Go.ChangeAt Go.RowKit
theorem cells_of_strs {H : Type} {enc : TypeId × Value → H} {P : Program} {w : World} {base : Nat} {sp : Nat → Bool} {held : Bool} {fuel : Nat} {t e : TypeId} {n : Nat} {cs : List Value} {zs : List (List UInt8)} {p : List MemPlace}
    (ht : P.underlying t = some (.array n e)) (he : P.underlying e = some .string) (hce : P.cellsOf e = 1) (hct : P.cellsOf t = n)
    (h : DataW.trod enc P w base sp held fuel t cs = some (.agg (zs.map fun z => (DataW.lit (.string z) : DataW H)), p)) : cs = zs.map fun z => Value.string (bs z) := by
  cases fuel with
  | zero => simp [DataW.trod] at h
  | succ fuel =>
    simp only [DataW.trod, ht, hce, hct, Nat.mul_one] at h
    split at h
    · rename_i hl
      obtain ⟨xs, hm, hx⟩ := Option.map_eq_some_iff.1 h
      have hxs : xs.map (·.1) = zs.map fun z => (DataW.lit (.string z) : DataW H) := by
        have := congrArg Prod.fst hx
        simpa using this
      have hxl : xs.length = n := by simpa using Lib.mapM_length hm
      have hzl : zs.length = n := by
        have := congrArg List.length hxs
        simp at this
        omega
      apply List.ext_getElem?
      intro i
      by_cases hi : i < n
      · obtain ⟨b, hb, hf⟩ := Lib.mapM_at hm i i (by simp [hi])
        obtain ⟨z, hc, hbz, _⟩ := DataW.trod_string he hf
        have h1 : cs[i]? = some (.string z) := by
          have := congrArg (·[0]?) hc
          simpa [List.getElem?_take, List.getElem?_drop] using this
        have h2 : (xs.map (·.1))[i]? = some (DataW.lit (.string z.data.toList) : DataW H) := by
          rw [List.getElem?_map, hb]
          simp [hbz]
        rw [hxs] at h2
        simp only [List.getElem?_map, Option.map_eq_some_iff, DataW.lit.injEq, Lit.string.injEq] at h2
        obtain ⟨z', hz', e'⟩ := h2
        rw [h1, List.getElem?_map, hz']
        simp only [Option.map_some, Option.some.injEq, Value.string.injEq]
        rw [e']
        exact bs_arr z
      · rw [List.getElem?_eq_none (by omega), List.getElem?_eq_none (by simp; omega)]
    · cases h
theorem gCoins : Tryd.prog.globalNamed "bursar/bursarhand.coins" = some 0 := by kernel_rfl
theorem gCoinsType : (Tryd.prog.globals[0]?).map (·.type) = some 69 := by kernel_rfl
abbrev laid1 : List (String × DataW Unit) := [("bursar/bursarhand.coins", Rows.laid_bursar_bursarhand_coins)]
theorem coins_of {W : World} (h : laidMetH Tryd.prog laid1 W) : Coins W := by
  obtain ⟨ps, ⟨g', t', cs, fuel, p, q, hg', ht', hvar, hd, _, _⟩, _⟩ := (h : laidMet Tryd.prog laid1 W)
  obtain rfl := Option.some.inj (gCoins.symm.trans hg')
  obtain rfl := Option.some.inj (gCoinsType.symm.trans ht')
  have hc := cells_of_strs (zs := [[69, 85, 82], [74, 80, 89], [85, 83, 68]]) Tryd.underlying69 Tryd.underlying9 (by kernel_rfl) (by kernel_rfl) hd
  have hc2 : cs = ([[69, 85, 82], [74, 80, 89], [85, 83, 68]].map fun z => Value.string (bs z)).toArray := by rw [← hc]
  subst hc2
  intro i hi
  have := World.var?_cell gCoins hvar i
  rw [this]
  match i, hi with
  | 0, _ => rfl
  | 1, _ => rfl
  | 2, _ => rfl
noncomputable def laidWorld1 (os : Os) : World := World.laidAll Tryd.prog os laid1
end Go.Proofs.YtlkknncndgamdaaDoor.Sep
