/-
  RlAi
-/
import Derived.Test.YtnebloeideodmaaPU01
set_option linter.unusedSimpArgs false
set_option linter.unusedVariables false
namespace Go.Proofs.Ytnebloeideodmaa.Sep
open Go.RowKit
open Go.Proofs.Ytnebloeideodmaa.Mem (AM BA Chg Aq)
def Fl (x : EntV) (t : Int) : EntV := ⟨{ x.e with t := t }, x.A, x.c⟩
def Qc (n : Nat) (P : List (EntV × List UInt8)) : Prop := P.length = n ∧ ∀ y ∈ P, y.2.length ≤ 140737488351232
theorem Su {n : Nat} {L : List EntV} (h : L.length = n) (hd : ∀ x, x ∈ L → x.e.d.length ≤ 140737488351232) : Qc n (L.map fun x => (x, x.e.d)) := ⟨by rw [List.length_map]; exact h, fun y hy => by obtain ⟨x, hx, rfl⟩ := List.mem_map.1 hy; exact hd x hx⟩
theorem Tz {l : List EntV} : ∀ rs, Am [An dat l] rs → An (fun x : EntV × List UInt8 => As 5 1 encB x.1.v x.2) (l.map fun x => (x, x.e.d)) rs := fun rs h => by
 refine Ma ?_ rs h.one'
 rw [List.map_map]
 rfl
theorem Vs {l : List EntV} {te : TypeId} {v : Value} : ∀ rs, Am [As te 5 encV v l] rs → As te 5 encV v ((l.map fun x => (x, x.e.d)).map (·.1)) rs := fun rs h => by
  rw [List.map_map]
  have : ((fun x : EntV × List UInt8 => x.1) ∘ fun x : EntV => (x, x.e.d)) = id := rfl
  rw [this, List.map_id]
  exact h.one'
theorem WH {n i : Nat} {P : List (EntV × List UInt8)} (h : Qc n P) (hi : i < n) : ∃ x d, P[i]? = some (x, d) ∧ (P.map (·.1))[i]? = some x ∧ d.length ≤ 140737488351232 := by
  obtain ⟨p, hp⟩ : ∃ p, P[i]? = some p := ⟨_, List.getElem?_eq_getElem (by rw [h.1]; exact hi)⟩
  exact ⟨p.1, p.2, hp, by rw [List.getElem?_map, hp]; rfl, h.2 p (List.mem_of_getElem? hp)⟩
theorem Vt {n i : Nat} {P : List (EntV × List UInt8)} {x y : EntV} {d ds : List UInt8} (h : Qc n P) (hp : P[i]? = some (x, d)) (hds : ds.length = d.length) : Qc n (P.take i ++ (y, ds) :: P.drop (i + 1)) := by
  have hi := (List.getElem?_eq_some_iff.1 hp).1
  refine ⟨by rw [List.length_append, List.length_cons, List.length_take, List.length_drop]; have := h.1; omega, fun z hz => ?_⟩
  rcases List.mem_append.1 hz with h1 | h1
  · exact h.2 z (List.mem_of_mem_take h1)
  · rcases List.mem_cons.1 h1 with h1 | h1
    · rw [h1]; show ds.length ≤ _; rw [hds]; exact h.2 (x, d) (List.mem_of_getElem? hp)
    · exact h.2 z (List.mem_of_mem_drop h1)
theorem Vu {i : Nat} {P : List (EntV × List UInt8)} {x y : EntV} {d ds : List UInt8} (hp : P[i]? = some (x, d)) : (P.map (·.1)).set i y = (P.take i ++ (y, ds) :: P.drop (i + 1)).map (·.1) := by
  have hi := (List.getElem?_eq_some_iff.1 hp).1
  rw [List.map_append, List.map_cons, List.map_take, List.map_drop, List.set_eq_take_append_cons_drop, if_pos (by rw [List.length_map]; exact hi)]
theorem Sv {i : Nat} {P Q : List (EntV × List UInt8)} {x y : EntV} {d ds : List UInt8} {te : TypeId} {v : Value} (hp : P[i]? = some (x, d)) (hQ : P.take i ++ (y, ds) :: P.drop (i + 1) = Q) : ∀ rs, Am [As te 5 encV v ((P.map (·.1)).set i y)] rs → As te 5 encV v (Q.map (·.1)) rs := fun rs h => by
  rw [← hQ, ← Vu hp]; exact h.one'
theorem TA {i : Nat} {P Q : List (EntV × List UInt8)} {y : EntV} {ds : List UInt8} (hQ : P.take i ++ (y, ds) :: P.drop (i + 1) = Q) : ∀ rs, Am [An (fun x : EntV × List UInt8 => As 5 1 encB x.1.v x.2) (P.take i), As 5 1 encB y.v ds, An (fun x : EntV × List UInt8 => As 5 1 encB x.1.v x.2) (P.drop (i + 1))] rs → An (fun x : EntV × List UInt8 => As 5 1 encB x.1.v x.2) Q rs := fun rs h => by
 rw [← hQ]; exact JX (f := (fun x : EntV × List UInt8 => As 5 1 encB x.1.v x.2)) (y := (y, ds)) rs h
theorem TB {i : Nat} {P : List (EntV × List UInt8)} {x : EntV} {d : List UInt8} {t : Int} (hp : P[i]? = some (x, d)) : ∀ rs, An (fun x : EntV × List UInt8 => As 5 1 encB x.1.v x.2) P rs → ∃ _ : Unit, Am [An (fun x : EntV × List UInt8 => As 5 1 encB x.1.v x.2) (P.take i), As 5 1 encB (Fl x t).v d, An (fun x : EntV × List UInt8 => As 5 1 encB x.1.v x.2) (P.drop (i + 1))] rs := JW hp
theorem Vv {n i : Nat} {P : List (EntV × List UInt8)} {x y : EntV} {d : List UInt8} (hp : P[i]? = some (x, d)) : ((P.map (·.1)).set i y)[i]? = some y := by
  rw [List.getElem?_set_self]
  rw [List.length_map]
  exact (List.getElem?_eq_some_iff.1 hp).1
def Xa (g3 g11 g12 : Nat) (mm : Int) (lf : List EntD) (i : Nat) : Ass := fun rs => ∃ gv : Value, Am [cell g12 4 #[.bool true], cell g11 34 #[gv], BQ gv (lf.take i), cell g3 3 #[.int .i64 mm]] rs
theorem Xa.open_ {g3 g11 g12 : Nat} {mm : Int} {lf : List EntD} {i : Nat} : ∀ rs, Xa g3 g11 g12 mm lf i rs → ∃ gv : Value, Am [cell g12 4 #[.bool true], cell g11 34 #[gv], BQ gv (lf.take i), cell g3 3 #[.int .i64 mm]] rs := fun _ h => h
end Go.Proofs.Ytnebloeideodmaa.Sep
