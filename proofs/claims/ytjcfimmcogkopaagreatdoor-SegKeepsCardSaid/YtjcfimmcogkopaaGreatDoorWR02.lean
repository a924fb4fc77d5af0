/-
  SgZu · SgL9 · RpcZ · SgO9
-/
import Derived.Test.YtjcfimmcogkopaaGreatDoorWB03
import Derived.Test.YtjcfimmcogkopaaGreatDoorWQ01
import Derived.Test.YtjcfimmcogkopaaGreatDoorWR01
set_option linter.unusedSimpArgs false
set_option linter.unusedVariables false
namespace Go.Proofs.YtjcfimmcogkopaaGreatDoor.Sep
open Go.RowKit
open Go.Proofs.YtjcfimmcogkopaaGreatDoor.Mem (Bb Ci Chg Aw)
def XA (tb : Tb) : List RowT := [(5, none, Hh tb.C tb.e tb.f)]
theorem X6 {P : Program} {fn : Func} {R : Ending → World → Prop} {f : FuncId} {c : Code} {args : List Value} {w : World} {tb : Tb} (n : Nat) (hW : w.heap[5]? = some (.cells tb.C tb.e tb.f)) (hf : P.funcs[f]? = some fn) (hb : fn.body = some c) (hn : fn.ntmps = n) (hs : Nat.ble args.length n = true) (h : AL P (bodyPost P fn R) n (FJ 0 args) (Ci (XA tb)) w [Ao tb] c) : Calls P f args.toArray w R :=
 Gp n hf hb hn (Nat.le_of_ble_eq_true hs) fun a hF => h a w hF (Hp.given (Am.one rfl) ⟨Hi.2 hW, trivial⟩ ⟨(fun _ h => by cases h), trivial⟩)
theorem H9 {tb : Tb} {w0 w : World} {os : List Ass} (i : Nat) (hi : os[i]? = some (Ao tb)) (hW : w0.heap[5]? = some (.cells tb.C tb.e tb.f)) (hH : Hp (Ci (XA tb)) w0 w os) : Below w0.heap.size w0 w := by
  obtain ⟨rs, hv, hr⟩ := hH.thing i hi
  unfold Ao at hv
  subst hv
  have h2 : w.heap[5]? = some (.cells tb.C tb.e tb.f) := Hi.1 hr.1
  have hu := hH.up
  exact ⟨hu.os, hu.tape, hu.output, hu.size, fun k hk => by
    by_cases hkG : k = 5
    · rw [hkG, h2, hW]
    · exact hu.block k hk (fun ⟨r, hr, e⟩ => hkG (by unfold XA at hr; rw [List.mem_singleton.1 hr] at e; exact e.symm))⟩
end Go.Proofs.YtjcfimmcogkopaaGreatDoor.Sep
namespace Go.Proofs.YtjcfimmcogkopaaGreatDoor.Sep
open Go.RowKit
open Go.Proofs.YtjcfimmcogkopaaGreatDoor.Mem (Bb Ci Chg Aw)
theorem f20 (l : List EntV) : ((l.take 20).map (·.e)).length ≤ 20 := by rw [List.length_map, List.length_take]; omega
theorem R0 : ∀ (l : List EntD) (ix tm : Int) (k : Nat) (y : EntD), 0 ≤ tm → (DA ix tm l)[k]? = some y → 1 ≤ y.t ∧ y.t ≤ max 1 (tm + (l.length : Int))
  | [], _, _, k, y, _, h => by simp [DA] at h
  | e :: r, ix, tm, 0, y, h0, h => by
    have hk0 := Int.emod_nonneg e.k (show (8 : Int) ≠ 0 by decide)
    have hk8 := Int.emod_lt_of_pos e.k (show (0 : Int) < 8 by decide)
    simp only [DA, List.getElem?_cons_zero, Option.some.injEq] at h
    rw [← h, List.length_cons]
    show 1 ≤ max 1 (tm + e.k % 8 / 6) ∧ max 1 (tm + e.k % 8 / 6) ≤ _
    push_cast
    omega
  | e :: r, ix, tm, k + 1, y, h0, h => by
    have hk0 := Int.emod_nonneg e.k (show (8 : Int) ≠ 0 by decide)
    have hk8 := Int.emod_lt_of_pos e.k (show (0 : Int) < 8 by decide)
    simp only [DA, List.getElem?_cons_succ] at h
    have := R0 r (ix + 1) (tm + e.k % 8 / 6) k y (by omega) h
    rw [List.length_cons]
    push_cast
    omega
section
variable {B : Nat → Prop} {w0 w : World} {os : List Ass}
theorem Vb {v : Value} {l m : List EntV} (i j k : Nat) (hi : os[i]? = some (Aj 53 5 encV v (l ++ m))) (hj : os[j]? = some (AY (fun x : EntV => Aj 5 1 encB x.v x.e.d) l)) (hk : os[k]? = some (AY (fun x : EntV => Aj 5 1 encB x.v x.e.d) m)) (hH : Hp B w0 w os) : Da w v (l ++ m) := by
  refine ⟨hH.vec i hi Ea, fun x hx => ?_⟩
  rcases List.mem_append.1 hx with hx | hx
  · obtain ⟨q, hq⟩ := List.getElem?_of_mem hx
    exact hH.rd8 j hj (GA hq)
  · obtain ⟨q, hq⟩ := List.getElem?_of_mem hx
    exact hH.rd8 k hk (GA hq)
end
end Go.Proofs.YtjcfimmcogkopaaGreatDoor.Sep
namespace Go.Proofs.YtjcfimmcogkopaaGreatDoor.Sep
open Go.RowKit
open Go.Proofs.YtjcfimmcogkopaaGreatDoor.Mem (Bb Ci Chg Aw)
open Go.ChangeShapes Go.WideShapes Go.ChangeAt
section
variable {H : Type} {enc : TypeId × Value → H} {W : World} {base b0 : Nat} {r : Reach} {spare : Nat → Bool} {held : Bool} {v : Value} {d : DataW H} {p : List MemPlace}
theorem Wn : Tryz.prog.cellsOf 53 = 5 := by kernel_rfl
theorem Wo : Tryz.prog.bytesOf 53 = 56 := by kernel_rfl
theorem trodAll_five {P : Program} {t0 t1 t2 t3 t4 : TypeId} {args : Array Value} {ds : List (DataW H)} {ps : List MemPlace} (h : DataW.TrodAll enc P W base spare held [t0, t1, t2, t3, t4] args.toList ds ps) :
  ∃ v0 v1 v2 v3 v4 d0 d1 d2 d3 d4 p0 p1 p2 p3 p4, args = #[v0, v1, v2, v3, v4] ∧ ds = [d0, d1, d2, d3, d4] ∧ ps = p0 ++ p1 ++ p2 ++ p3 ++ p4 ∧ DataW.Trod enc P W base spare held t0 v0 d0 p0 ∧ DataW.Trod enc P W base spare held t1 v1 d1 p1 ∧ DataW.Trod enc P W base spare held t2 v2 d2 p2 ∧ DataW.Trod enc P W base spare held t3 v3 d3 p3 ∧ DataW.Trod enc P W base spare held t4 v4 d4 p4 := by
 obtain ⟨v0, vs0, d0, ds0, p0, q0, hargs, rfl, rfl, h0, r0⟩ := trodAll_cons h
 obtain ⟨v1, vs1, d1, ds1, p1, q1, rfl, rfl, rfl, h1, r1⟩ := trodAll_cons r0
 obtain ⟨v2, vs2, d2, ds2, p2, q2, rfl, rfl, rfl, h2, r2⟩ := trodAll_cons r1
 obtain ⟨v3, vs3, d3, ds3, p3, q3, rfl, rfl, rfl, h3, r3⟩ := trodAll_cons r2
 obtain ⟨v4, vs4, d4, ds4, p4, q4, rfl, rfl, rfl, h4, r4⟩ := trodAll_cons r3
 obtain ⟨rfl, rfl, rfl⟩ := trodAll_nil r4
 exact ⟨v0, v1, v2, v3, v4, d0, d1, d2, d3, d4, p0, p1, p2, p3, p4, by cases args; simp_all, rfl, by simp, h0, h1, h2, h3, h4⟩
end
end Go.Proofs.YtjcfimmcogkopaaGreatDoor.Sep
namespace Go.Proofs.YtjcfimmcogkopaaGreatDoor.Sep
open Go.RowKit
open Go.Proofs.YtjcfimmcogkopaaGreatDoor.Mem (Bb Ci Chg Aw)
open Go.ChangeShapes Go.WideShapes Go.ChangeAt
section
variable {H : Type} {enc : TypeId × Value → H} {W : World} {base b0 : Nat} {r : Reach} {spare : Nat → Bool} {held : Bool} {v : Value} {d : DataW H} {p : List MemPlace}
set_option maxRecDepth 100000 in
theorem open_entsA (hval : Value.okWide Tryz.prog W r b0 39 v) (h : DataW.Trod enc Tryz.prog W base spare held 39 v d p) (hs : DL Tryz.prog 39 d) : ∃ l : List EntV, Da W v l ∧ (∀ x, x ∈ l → x.e.ok) := by
 obtain ⟨a0, len0, cap0, rfl⟩ := okWide_slice Tryz.underlying39 hval
 obtain ⟨fuel, hf⟩ := h
 have hE : EntT 53 _ _ _ _ _ := ⟨Tryz.underlying53, ⟨rfl, rfl⟩, ⟨rfl, rfl⟩, ⟨rfl, rfl⟩, ⟨rfl, rfl⟩, ⟨rfl, rfl⟩⟩
 obtain ⟨A, c, l, hv, hl, hr, ho⟩ := Ta (x := (d, p)) hE Tryz.underlying39 Wn Wo hf hs
 exact ⟨l, hr, fun x hx => (ho x hx).1⟩
end
end Go.Proofs.YtjcfimmcogkopaaGreatDoor.Sep
