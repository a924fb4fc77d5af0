/-
  RpcO · RpcZ · PhO
-/
import Derived.Test.YtjcfimmcogkopaaAB01
import Derived.Test.YtjcfimmcogkopaaAB02
import Derived.Test.YtjcfimmcogkopaaAB03
import Derived.Test.YtjcfimmcogkopaaAL01
set_option linter.unusedSimpArgs false
set_option linter.unusedVariables false

namespace Go.Proofs.Ytjcfimmcogkopaa.Sep
open Go.ChangeShapes Go.WideShapes Go.ChangeAt Go.RowKit
/-- a struct's field of one cell -/
structure F1 (f : Field) (t : TypeId) (o : Nat) : Prop where
  t : f.type = t
  o : f.offset = o
section
variable {H : Type} {enc : TypeId × Value → H} {W : World} {base b0 : Nat} {r : Reach} {spare : Nat → Bool} {held : Bool} {v : Value} {d : DataW H} {p : List MemPlace}
theorem fldF {P : Program} {n j k off : Nat} {f : Field} {t : TypeId} {cs zs : List Value} {ys : List (DataW H × List MemPlace)} {y : DataW H × List MemPlace} (hF : F1 f t off) (hc : P.cellsOf t = k) (h : DataW.trod enc P W base spare held n f.type ((cs.drop f.offset).take (P.cellsOf f.type)) = ys[j]?) (ha : (cs.drop off).take k = zs) (hy : ys[j]? = some y) : DataW.trod enc P W base spare held n t zs = some y := by
  rw [hF.t, hF.o, hc, ha, hy] at h
  exact h
theorem sizedF {P : Program} {t t' : TypeId} {fs : Array Field} {ys : List (DataW H × List MemPlace)} {x : DataW H × List MemPlace} {j off : Nat} {f : Field} {y : DataW H × List MemPlace} {zs : List MemPlace} (hs : SizedD P t x.1) (hx : x = (.agg (ys.map (·.1)), zs)) (hu : P.underlying t = some (.struct fs)) (hf : fs[j]? = some f) (hF : F1 f t' off) (hy : ys[j]? = some y) : SizedD P t' y.1 := by
  subst hx
  have := SizedD.field hs hu hf (d := y.1) (by rw [List.getElem?_map, hy]; rfl)
  rwa [hF.t] at this
theorem b_sized {n : Nat} (h : n ≤ reachBytes) : n ≤ 140737488351232 := h

/-! ## An entry -/
def EntOk (W : World) (x : EntV) : Prop := x.e.ok ∧ Sl8 W x.v x.e.d ∧ x.e.d.length ≤ 140737488351232
theorem k_int : Try.prog.cellsOf 3 = 1 := by kernel_rfl
theorem k_u64 : Try.prog.cellsOf 26 = 1 := by kernel_rfl
theorem k_u8s : Try.prog.cellsOf 29 = 1 := by kernel_rfl
instance : Inhabited EntV := ⟨⟨.zero, none, 0⟩⟩
/-! ## A message -/
structure BaseT (tb : TypeId) (f0 f1 f2 : Field) : Prop where
  hu : Try.prog.underlying tb = some (.struct #[f0, f1, f2])
  h0 : F1 f0 26 0
  h1 : F1 f1 26 1
  h2 : F1 f2 3 2
theorem open_base {tb : TypeId} {f0 f1 f2 : Field} (hE : BaseT tb f0 f1 f2) {n : Nat} {a0 a1 a2 : Value} {x : DataW H × List MemPlace} (h : DataW.trod enc Try.prog W base spare held n tb [a0, a1, a2] = some x) : ∃ z0 z1 z2, a0 = .int .u64 z0 ∧ a1 = .int .u64 z1 ∧ a2 = .int .i64 z2 ∧ U64 z0 ∧ U64 z1 ∧ I64 z2 := by
  obtain ⟨ys, n', _, hx, _, hyl, hf⟩ := DataW.trod_struct hE.hu h
  have hyl : ys.length = 3 := hyl
  obtain ⟨y0, g0⟩ : ∃ y, ys[0]? = some y := ⟨_, List.getElem?_eq_getElem (by omega)⟩
  obtain ⟨y1, g1⟩ : ∃ y, ys[1]? = some y := ⟨_, List.getElem?_eq_getElem (by omega)⟩
  obtain ⟨y2, g2⟩ : ∃ y, ys[2]? = some y := ⟨_, List.getElem?_eq_getElem (by omega)⟩
  have h0 := fldF hE.h0 k_u64 (hf 0 _ rfl) (zs := [a0]) rfl g0
  have h1 := fldF hE.h1 k_u64 (hf 1 _ rfl) (zs := [a1]) rfl g1
  have h2 := fldF hE.h2 k_int (hf 2 _ rfl) (zs := [a2]) rfl g2
  obtain ⟨z0, e0, _, w0⟩ := DataW.trod_int Try.underlying26 h0
  obtain ⟨z1, e1, _, w1⟩ := DataW.trod_int Try.underlying26 h1
  obtain ⟨z2, e2, _, w2⟩ := DataW.trod_int Try.underlying3 h2
  simp at e0 e1 e2
  subst e0; subst e1; subst e2
  exact ⟨z0, z1, z2, rfl, rfl, rfl, wf_u64 w0, wf_u64 w1, wf_i64 w2⟩
/-- a message, and where its entries and its bytes lie -/
structure MsgV where
  m : MsgD
  es : List EntV
  EA : Option Addr
  ec : Nat
  A : Option Addr
  c : Nat
def MsgV.ev (x : MsgV) : Value := .slice x.EA x.es.length x.ec
def MsgV.dv (x : MsgV) : Value := .slice x.A x.m.d.length x.c
def MsgV.cells (x : MsgV) : List Value := cellsM x.m.k x.m.a x.m.b x.m.t x.m.i x.m.lt x.ev x.m.co x.m.rf x.m.bi x.m.bt x.m.bc x.m.o x.dv x.m.la
structure MsgOk (W : World) (x : MsgV) : Prop where
  ok : x.m.ok
  es : x.m.es = x.es.map (·.e)
  rd : EntsRd W x.ev x.es
  le : x.es.length * 56 ≤ 140737488351232
  each : ∀ y ∈ x.es, EntOk W y
  d : Sl8 W x.dv x.m.d
  dl : x.m.d.length ≤ 140737488351232
theorem EntOk.below {u w : World} {x : EntV} (h : EntOk u x) (hb : Below u.heap.size u w) : EntOk w x := ⟨h.1, h.2.1.below hb, h.2.2⟩
theorem MsgOk.below {u w : World} {x : MsgV} (h : MsgOk u x) (hb : Below u.heap.size u w) : MsgOk w x := ⟨h.ok, h.es, h.rd.below hb, h.le, fun y hy => (h.each y hy).below hb, h.d.below hb, h.dl⟩
end
end Go.Proofs.Ytjcfimmcogkopaa.Sep

namespace Go.Proofs.Ytjcfimmcogkopaa.Sep
open Go.RowKit
open Go.Proofs.Ytjcfimmcogkopaa.Mem (Dist Blk Chg below0)
open Go.ChangeShapes Go.WideShapes Go.ChangeAt
section
variable {H : Type} {enc : TypeId × Value → H} {W : World} {base b0 : Nat} {r : Reach} {spare : Nat → Bool} {held : Bool} {v : Value} {d : DataW H} {p : List MemPlace}
end
end Go.Proofs.Ytjcfimmcogkopaa.Sep

namespace Go.Proofs.Ytjcfimmcogkopaa.Sep
open Go.ChangeShapes Go.WideShapes Go.ChangeAt Go.RowKit
structure SnapT (ts tb : TypeId) (f0 f1 : Field) : Prop where
  hu : Try.prog.underlying ts = some (.struct #[f0, f1])
  h0 : F1 f0 tb 0
  h1 : F1 f1 29 3
  kb : Try.prog.cellsOf tb = 3
def SnEOk (W : World) (y : SnE) : Prop := SnR y.s ∧ Sl8 W (.slice y.A y.s.d.length y.cp) y.s.d ∧ y.s.d.length ≤ 140737488351232
section
variable {H : Type} {enc : TypeId × Value → H} {W : World} {base b0 : Nat} {r : Reach} {spare : Nat → Bool} {held : Bool} {v : Value} {d : DataW H} {p : List MemPlace}
set_option maxRecDepth 100000 in
theorem open_snap {ts tb : TypeId} {f0 f1 c0 c1 c2 : Field} (hS : SnapT ts tb f0 f1) (hB : BaseT tb c0 c1 c2) {n : Nat} {cs : List Value} {x : DataW H × List MemPlace} (hcl : cs.length = 4) (h : DataW.trod enc Try.prog W base spare held n ts cs = some x) (hs : SizedD Try.prog ts x.1) : ∃ y : SnE, cs = encSn y ∧ SnEOk W y := by
  obtain ⟨ys, n', _, hx, _, hyl, hf⟩ := DataW.trod_struct hS.hu h
  have hyl : ys.length = 2 := hyl
  match cs, hcl with
  | [a0, a1, a2, a3], _ =>
    obtain ⟨y0, g0⟩ : ∃ y, ys[0]? = some y := ⟨_, List.getElem?_eq_getElem (by omega)⟩
    obtain ⟨y1, g1⟩ : ∃ y, ys[1]? = some y := ⟨_, List.getElem?_eq_getElem (by omega)⟩
    have h0 := fldF hS.h0 hS.kb (hf 0 _ rfl) (zs := [a0, a1, a2]) rfl g0
    have h1 := fldF hS.h1 k_u8s (hf 1 _ rfl) (zs := [a3]) rfl g1
    have s1 := sizedF hs hx hS.hu (j := 1) rfl hS.h1 g1
    obtain ⟨z0, z1, z2, rfl, rfl, rfl, w0, w1, w2⟩ := open_base hB h0
    obtain ⟨A, c, l, rfl, hl, hl2⟩ := open_8s h1 s1
    have q0 := w0.1
    have q1 := w0.2
    have q2 := w1.1
    have q3 := w1.2
    exact ⟨⟨⟨z0, z1, z2, l⟩, A, c⟩, rfl, ⟨⟨q0, by show z0 ≤ _; omega⟩, ⟨q2, by show z1 ≤ _; omega⟩, ⟨w2.1, by have := w2.2; show z2 ≤ _; omega⟩⟩, hl, b_sized hl2⟩
set_option maxRecDepth 100000 in
theorem open_snaps (hval : Value.okWide Try.prog W r b0 38 v) (h : DataW.Trod enc Try.prog W base spare held 38 v d p) (hs : SizedD Try.prog 38 d) : ∃ A c, ∃ l : List SnE, v = .slice A l.length c ∧ l.length ≤ 9223372036854775807 ∧ SlRd W 4 v l.length (flat encSn l) ∧ ∀ y ∈ l, SnEOk W y := by
  obtain ⟨a0, len0, cap0, rfl⟩ := okWide_slice Try.underlying38 hval
  obtain ⟨fuel, hf⟩ := h
  have hC : Try.prog.cellsOf 31 = 4 := by kernel_rfl
  have hBy : Try.prog.bytesOf 31 = 48 := by kernel_rfl
  have hS : SnapT 31 28 _ _ := ⟨Try.underlying31, ⟨rfl, rfl⟩, ⟨rfl, rfl⟩, by kernel_rfl⟩
  have hB : BaseT 28 _ _ _ := ⟨Try.underlying28, ⟨rfl, rfl⟩, ⟨rfl, rfl⟩, ⟨rfl, rfl⟩⟩
  obtain ⟨A, c, l, hv, hl, hr, ho⟩ := open_slice_s (x0 := (d, p)) okSn (by decide) Try.underlying38 hC (ok := SnEOk W) (fun n cs x hcl h hs => open_snap hS hB hcl h hs) hf hs
  rw [hBy] at hl
  have h2 : reachBytes = 140737488351232 := rfl
  exact ⟨A, c, l, hv, by omega, hr, ho⟩
end
end Go.Proofs.Ytjcfimmcogkopaa.Sep
