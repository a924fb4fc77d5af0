/-
  FrmO
-/
import Derived.Test.YthamiglbifgepaaAB01
set_option linter.unusedSimpArgs false
set_option linter.unusedVariables false

namespace Go.Proofs.Ythamiglbifgepaa.Sep
open Go.RowKit
open Go.Proofs.Ythamiglbifgepaa.Mem (Dist Blk Chg below0)
section
variable {P : Program} {te : TypeId} {v u : Value} {L : List PtT} {w w0 : World} {B : Nat → Prop} {os : List Ass} {n : Nat} {env : List (Nat × Value)} {o : Oper} {act : Act}
theorem e_wload (i : Nat) (hO : OneOf P te) {a : List Value} (hi : os[i]? = some (Vec te 1 encW v a)) (j : Nat) (hj : a[j]? = some u) (h1 : u.oneCell' = true) {x : Operand} (ho : o.op = .load te x) (hx : evs env x = some (elp v (j * 1))) (hH : Hp B w0 w os) (hF : Fr n act env) : (execOp act.eval o).run P w = .ok (.value u) w := by
  obtain ⟨rs, h2, h3⟩ := hH.thing i hi
  exact vec_loadW hO h2 h3 hj h1 ho hx hF
theorem one_of_vec {e : TypeId} {k : Nat} {α : Type} {enc : α → List Value} {l : List α} : ∀ rs, Vec e k enc v l rs → v.oneCell' = true := fun _ h => h.c1.2
theorem prts_open_at {j : Nat} {p : PtT} (hj : L[j]? = some p) : ∀ rs, PartsT te v L rs → ∃ _ : Unit, Parts [Vec te 1 encW v (L.map (·.1)), Each (fun x : PtT => Vec 5 1 encB x.1 x.2) (L.take j), Vec 5 1 encB p.1 p.2, Each (fun x : PtT => Vec 5 1 encB x.1 x.2) (L.drop (j + 1))] rs := fun rs h => by
  obtain ⟨a, b, rfl, h1, h2⟩ := h
  obtain ⟨_, h3⟩ := each_open (f := fun x : PtT => Vec 5 1 encB x.1 x.2) hj _ (Parts.one' h2)
  exact ⟨(), a, b, rfl, h1, h3⟩
theorem prts_back {j : Nat} {p : PtT} (hj : L[j]? = some p) {d : List UInt8} : ∀ rs, Parts [Vec te 1 encW v (L.map (·.1)), Each (fun x : PtT => Vec 5 1 encB x.1 x.2) (L.take j), Vec 5 1 encB p.1 d, Each (fun x : PtT => Vec 5 1 encB x.1 x.2) (L.drop (j + 1))] rs → PartsT te v (L.set j (p.1, d)) rs := fun rs h => by
  obtain ⟨a, b, rfl, h1, h2⟩ := h
  have hlt := (List.getElem?_eq_some_iff.1 hj).1
  have hx := (List.getElem?_eq_some_iff.1 hj).2
  have h3 := each_back (f := fun x : PtT => Vec 5 1 encB x.1 x.2) (y := ((p.1, d) : PtT)) _ h2
  rw [each_set (y := ((p.1, d) : PtT)) hlt] at h3
  have h4 : (L.set j (p.1, d)).map (·.1) = L.map (·.1) := by
    rw [List.map_set]
    refine List.ext_getElem? fun q => ?_
    rw [List.getElem?_set, List.getElem?_map]
    split
    · rename_i e
      subst e
      rw [if_pos (by rw [List.length_map]; exact hlt), hj]; rfl
    · rfl
  refine ⟨a, b, rfl, ?_, Parts.one h3⟩
  rw [h4]; exact h1
end
theorem wrap_any (z : Int) : ∃ c : UInt8, IntKind.u8.wrap z = (c.toNat : Int) := ⟨UInt8.ofNat (z % 256).toNat, by
  rw [UInt8.toNat_ofNat']
  have h : IntKind.u8.wrap z = z % 256 := by simp [IntKind.wrap, IntKind.signed, IntKind.bits]
  rw [h]; omega⟩
end Go.Proofs.Ythamiglbifgepaa.Sep
