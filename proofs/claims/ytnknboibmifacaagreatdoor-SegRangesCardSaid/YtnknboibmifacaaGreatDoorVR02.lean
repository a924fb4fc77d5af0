/-
  SgZu · SgL9 · RpcZ · SgO9
-/
import Derived.Test.YtnknboibmifacaaGreatDoorVB03
import Derived.Test.YtnknboibmifacaaGreatDoorVQ01
import Derived.Test.YtnknboibmifacaaGreatDoorVR01
set_option linter.unusedSimpArgs false
set_option linter.unusedVariables false
namespace Go.Proofs.YtnknboibmifacaaGreatDoor.Sep
open Go.RowKit
open Go.Proofs.YtnknboibmifacaaGreatDoor.Mem (AR B3 Chg Av)
def WQ (tb : Tb) : List RowT := [(5, none, GO tb.C tb.e tb.f)]
theorem Xp {P : Program} {fn : Func} {R : Ending → World → Prop} {f : FuncId} {c : Code} {args : List Value} {w : World} {tb : Tb} (n : Nat) (hW : w.heap[5]? = some (.cells tb.C tb.e tb.f)) (hf : P.funcs[f]? = some fn) (hb : fn.body = some c) (hn : fn.ntmps = n) (hs : Nat.ble args.length n = true) (h : AN P (bodyPost P fn R) n (Fm 0 args) (B3 (WQ tb)) w [Ao tb] c) : Calls P f args.toArray w R :=
 FV n hf hb hn (Nat.le_of_ble_eq_true hs) fun a hF => h a w hF (Hp.given (Al.one rfl) ⟨GP.2 hW, trivial⟩ ⟨(fun _ h => by cases h), trivial⟩)
theorem LC {tb : Tb} {w0 w : World} {os : List Ass} (i : Nat) (hi : os[i]? = some (Ao tb)) (hW : w0.heap[5]? = some (.cells tb.C tb.e tb.f)) (hH : Hp (B3 (WQ tb)) w0 w os) : Below w0.heap.size w0 w := by
  obtain ⟨rs, hv, hr⟩ := hH.thing i hi
  unfold Ao at hv
  subst hv
  have h2 : w.heap[5]? = some (.cells tb.C tb.e tb.f) := GP.1 hr.1
  have hu := hH.up
  exact ⟨hu.os, hu.tape, hu.output, hu.size, fun k hk => by
    by_cases hkG : k = 5
    · rw [hkG, h2, hW]
    · exact hu.block k hk (fun ⟨r, hr, e⟩ => hkG (by unfold WQ at hr; rw [List.mem_singleton.1 hr] at e; exact e.symm))⟩
end Go.Proofs.YtnknboibmifacaaGreatDoor.Sep
namespace Go.Proofs.YtnknboibmifacaaGreatDoor.Sep
open Go.RowKit
open Go.Proofs.YtnknboibmifacaaGreatDoor.Mem (AR B3 Chg Av)
theorem f20 (l : List EntV) : ((l.take 20).map (·.e)).length ≤ 20 := by rw [List.length_map, List.length_take]; omega
section
variable {B : Nat → Prop} {w0 w : World} {os : List Ass}
theorem Sf {A : Option Addr} {c k : Nat} {l : List EntV} (i j : Nat) (hk : k ≤ l.length) (hi : os[i]? = some (Ak 34 5 encV (.slice A l.length c) l)) (hj : os[j]? = some (Bb (fun x : EntV => Ak 5 1 encB x.v x.e.d) l)) (hH : Hp B w0 w os) : CR w (.slice A (l.take k).length c) (l.take k) := by
 have htl : (l.take k).length = k := by rw [List.length_take]; omega
 have h1 := hH.vecp i hi Er (Nat.zero_le k) hk
 rw [I8, List.drop_zero, Nat.sub_zero] at h1
 refine ⟨by rw [htl]; exact h1, fun x hx => ?_⟩
 obtain ⟨q, hq⟩ := List.getElem?_of_mem (List.mem_of_mem_take hx)
 exact hH.rd8 j hj (He hq)
end
end Go.Proofs.YtnknboibmifacaaGreatDoor.Sep
namespace Go.Proofs.YtnknboibmifacaaGreatDoor.Sep
open Go.RowKit
open Go.Proofs.YtnknboibmifacaaGreatDoor.Mem (AR B3 Chg Av)
open Go.ChangeShapes Go.WideShapes Go.ChangeAt
section
variable {H : Type} {enc : TypeId × Value → H} {W : World} {base b0 : Nat} {r : Reach} {spare : Nat → Bool} {held : Bool} {v : Value} {d : DataW H} {p : List MemPlace}
theorem Vu : Tryz.prog.cellsOf 34 = 5 := by kernel_rfl
theorem Vv : Tryz.prog.bytesOf 34 = 56 := by kernel_rfl
end
end Go.Proofs.YtnknboibmifacaaGreatDoor.Sep
namespace Go.Proofs.YtnknboibmifacaaGreatDoor.Sep
open Go.RowKit
open Go.Proofs.YtnknboibmifacaaGreatDoor.Mem (AR B3 Chg Av)
open Go.ChangeShapes Go.WideShapes Go.ChangeAt
section
variable {H : Type} {enc : TypeId × Value → H} {W : World} {base b0 : Nat} {r : Reach} {spare : Nat → Bool} {held : Bool} {v : Value} {d : DataW H} {p : List MemPlace}
set_option maxRecDepth 100000 in
theorem open_entsA (hval : Value.okWide Tryz.prog W r b0 52 v) (h : DataW.Trod enc Tryz.prog W base spare held 52 v d p) (hs : Dq Tryz.prog 52 d) : ∃ l : List EntV, CR W v l ∧ (∀ x, x ∈ l → x.e.ok) := by
 obtain ⟨a0, len0, cap0, rfl⟩ := okWide_slice Tryz.underlying52 hval
 obtain ⟨fuel, hf⟩ := h
 have hE : EntT 34 _ _ _ _ _ := ⟨Tryz.underlying34, ⟨rfl, rfl⟩, ⟨rfl, rfl⟩, ⟨rfl, rfl⟩, ⟨rfl, rfl⟩, ⟨rfl, rfl⟩⟩
 obtain ⟨A, c, l, hv, hl, hr, ho⟩ := Sd (x := (d, p)) hE Tryz.underlying52 Vu Vv hf hs
 exact ⟨l, hr, fun x hx => (ho x hx).1⟩
end
end Go.Proofs.YtnknboibmifacaaGreatDoor.Sep
