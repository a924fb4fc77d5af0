/-
  RpcO · RpcZ · PhO · HdX
-/
import Derived.Test.YtjcfimmcogkopaaGreatPA06
import Derived.Test.YtjcfimmcogkopaaGreatPB01
import Derived.Test.YtjcfimmcogkopaaGreatPB02
import Derived.Test.YtjcfimmcogkopaaGreatPB03
import Derived.Test.YtjcfimmcogkopaaGreatPL01
import Derived.Test.YtjcfimmcogkopaaGreatPT01
set_option linter.unusedSimpArgs false
set_option linter.unusedVariables false
set_option maxRecDepth 100000
namespace Go.Proofs.YtjcfimmcogkopaaGreat.Sep
open Go.ChangeShapes Go.WideShapes Go.ChangeAt Go.RowKit
structure F1 (f : Field) (t : TypeId) (o : Nat) : Prop where
  t : f.type = t
  o : f.offset = o
section
variable {H : Type} {enc : TypeId × Value → H} {W : World} {base b0 : Nat} {r : Reach} {spare : Nat → Bool} {held : Bool} {v : Value} {d : DataW H} {p : List MemPlace}
theorem Nz {P : Program} {n j k off : Nat} {f : Field} {t : TypeId} {cs zs : List Value} {ys : List (DataW H × List MemPlace)} {y : DataW H × List MemPlace} (hF : F1 f t off) (hc : P.cellsOf t = k) (h : DataW.trod enc P W base spare held n f.type ((cs.drop f.offset).take (P.cellsOf f.type)) = ys[j]?) (ha : (cs.drop off).take k = zs) (hy : ys[j]? = some y) : DataW.trod enc P W base spare held n t zs = some y := by
 rw [hF.t, hF.o, hc, ha, hy] at h
 exact h
theorem Vc {P : Program} {t t' : TypeId} {fs : Array Field} {ys : List (DataW H × List MemPlace)} {x : DataW H × List MemPlace} {j off : Nat} {f : Field} {y : DataW H × List MemPlace} {zs : List MemPlace} (hs : DI P t x.1) (hx : x = (.agg (ys.map (·.1)), zs)) (hu : P.underlying t = some (.struct fs)) (hf : fs[j]? = some f) (hF : F1 f t' off) (hy : ys[j]? = some y) : DI P t' y.1 := by
  subst hx
  have := DI.field hs hu hf (d := y.1) (by rw [List.getElem?_map, hy]; rfl)
  rwa [hF.t] at this
theorem Wi {n : Nat} (h : n ≤ reachBytes) : n ≤ 140737488351232 := h
def RJ (W : World) (x : EntV) : Prop := x.e.ok ∧ D6 W x.v x.e.d ∧ x.e.d.length ≤ 140737488351232
theorem Wv : Tryz.prog.cellsOf 3 = 1 := by kernel_rfl
theorem Ww : Tryz.prog.cellsOf 29 = 1 := by kernel_rfl
theorem Yb : Tryz.prog.cellsOf 32 = 1 := by kernel_rfl
theorem XE : Tryz.prog.cellsOf 4 = 1 := by kernel_rfl
instance : Inhabited EntV := ⟨⟨.zero, none, 0⟩⟩
structure BaseT (tb : TypeId) (f0 f1 f2 : Field) : Prop where
  hu : Tryz.prog.underlying tb = some (.struct #[f0, f1, f2])
  h0 : F1 f0 29 0
  h1 : F1 f1 29 1
  h2 : F1 f2 3 2
theorem Tb {tb : TypeId} {f0 f1 f2 : Field} (hE : BaseT tb f0 f1 f2) {n : Nat} {a0 a1 a2 : Value} {x : DataW H × List MemPlace} (h : DataW.trod enc Tryz.prog W base spare held n tb [a0, a1, a2] = some x) : ∃ z0 z1 z2, a0 = .int .u64 z0 ∧ a1 = .int .u64 z1 ∧ a2 = .int .i64 z2 ∧ LX z0 ∧ LX z1 ∧ Pv z2 := by
 obtain ⟨ys, n', _, hx, _, hyl, hf⟩ := DataW.trod_struct hE.hu h
 have hyl : ys.length = 3 := hyl
 obtain ⟨y0, g0⟩ : ∃ y, ys[0]? = some y := ⟨_, List.getElem?_eq_getElem (by omega)⟩
 obtain ⟨y1, g1⟩ : ∃ y, ys[1]? = some y := ⟨_, List.getElem?_eq_getElem (by omega)⟩
 obtain ⟨y2, g2⟩ : ∃ y, ys[2]? = some y := ⟨_, List.getElem?_eq_getElem (by omega)⟩
 have h0 := Nz hE.h0 Ww (hf 0 _ rfl) (zs := [a0]) rfl g0
 have h1 := Nz hE.h1 Ww (hf 1 _ rfl) (zs := [a1]) rfl g1
 have h2 := Nz hE.h2 Wv (hf 2 _ rfl) (zs := [a2]) rfl g2
 obtain ⟨z0, e0, _, w0⟩ := DataW.trod_int Tryz.underlying29 h0
 obtain ⟨z1, e1, _, w1⟩ := DataW.trod_int Tryz.underlying29 h1
 obtain ⟨z2, e2, _, w2⟩ := DataW.trod_int Tryz.underlying3 h2
 simp at e0 e1 e2
 subst e0; subst e1; subst e2
 exact ⟨z0, z1, z2, rfl, rfl, rfl, TE w0, TE w1, Lc w2⟩
structure MsgV where
  m : MsgD
  es : List EntV
  EA : Option Addr
  ec : Nat
  A : Option Addr
  c : Nat
def MsgV.ev (x : MsgV) : Value := .slice x.EA x.es.length x.ec
def MsgV.dv (x : MsgV) : Value := .slice x.A x.m.d.length x.c
def MsgV.cells (x : MsgV) : List Value := WS x.m.k x.m.a x.m.b x.m.t x.m.i x.m.lt x.ev x.m.co x.m.rf x.m.bi x.m.bt x.m.bc x.m.o x.dv x.m.la
structure MsgOk (W : World) (x : MsgV) : Prop where
  ok : x.m.ok
  es : x.m.es = x.es.map (·.e)
  rd : Lb W x.ev x.es
  le : x.es.length * 56 ≤ 140737488351232
  each : ∀ y ∈ x.es, RJ W y
  d : D6 W x.dv x.m.d
  dl : x.m.d.length ≤ 140737488351232
theorem RJ.below {u w : World} {x : EntV} (h : RJ u x) (hb : Below u.heap.size u w) : RJ w x := ⟨h.1, h.2.1.below hb, h.2.2⟩
theorem MsgOk.below {u w : World} {x : MsgV} (h : MsgOk u x) (hb : Below u.heap.size u w) : MsgOk w x := ⟨h.ok, h.es, h.rd.below hb, h.le, fun y hy => (h.each y hy).below hb, h.d.below hb, h.dl⟩
end
end Go.Proofs.YtjcfimmcogkopaaGreat.Sep
namespace Go.Proofs.YtjcfimmcogkopaaGreat.Sep
open Go.RowKit
open Go.Proofs.YtjcfimmcogkopaaGreat.Mem (Bh Cs Chg AA)
open Go.ChangeShapes Go.WideShapes Go.ChangeAt
section
variable {H : Type} {enc : TypeId × Value → H} {W : World} {base b0 : Nat} {r : Reach} {spare : Nat → Bool} {held : Bool} {v : Value} {d : DataW H} {p : List MemPlace}
end
end Go.Proofs.YtjcfimmcogkopaaGreat.Sep
namespace Go.Proofs.YtjcfimmcogkopaaGreat.Sep
open Go.ChangeShapes Go.WideShapes Go.ChangeAt Go.RowKit
structure SnapT (ts tb : TypeId) (f0 f1 : Field) : Prop where
  hu : Tryz.prog.underlying ts = some (.struct #[f0, f1])
  h0 : F1 f0 tb 0
  h1 : F1 f1 32 3
  kb : Tryz.prog.cellsOf tb = 3
def Vd (W : World) (y : SnE) : Prop := SnR y.s ∧ D6 W (.slice y.A y.s.d.length y.cp) y.s.d ∧ y.s.d.length ≤ 140737488351232
section
variable {H : Type} {enc : TypeId × Value → H} {W : World} {base b0 : Nat} {r : Reach} {spare : Nat → Bool} {held : Bool} {v : Value} {d : DataW H} {p : List MemPlace}
theorem Tc {ts tb : TypeId} {f0 f1 c0 c1 c2 : Field} (hS : SnapT ts tb f0 f1) (hB : BaseT tb c0 c1 c2) {n : Nat} {cs : List Value} {x : DataW H × List MemPlace} (hcl : cs.length = 4) (h : DataW.trod enc Tryz.prog W base spare held n ts cs = some x) (hs : DI Tryz.prog ts x.1) : ∃ y : SnE, cs = Wt y ∧ Vd W y := by
  obtain ⟨ys, n', _, hx, _, hyl, hf⟩ := DataW.trod_struct hS.hu h
  have hyl : ys.length = 2 := hyl
  match cs, hcl with
  | [a0, a1, a2, a3], _ =>
    obtain ⟨y0, g0⟩ : ∃ y, ys[0]? = some y := ⟨_, List.getElem?_eq_getElem (by omega)⟩
    obtain ⟨y1, g1⟩ : ∃ y, ys[1]? = some y := ⟨_, List.getElem?_eq_getElem (by omega)⟩
    have h0 := Nz hS.h0 hS.kb (hf 0 _ rfl) (zs := [a0, a1, a2]) rfl g0
    have h1 := Nz hS.h1 Yb (hf 1 _ rfl) (zs := [a3]) rfl g1
    have s1 := Vc hs hx hS.hu (j := 1) rfl hS.h1 g1
    obtain ⟨z0, z1, z2, rfl, rfl, rfl, w0, w1, w2⟩ := Tb hB h0
    obtain ⟨A, c, l, rfl, hl, hl2⟩ := Vx h1 s1
    have q0 := w0.1
    have q1 := w0.2
    have q2 := w1.1
    have q3 := w1.2
    exact ⟨⟨⟨z0, z1, z2, l⟩, A, c⟩, rfl, ⟨⟨q0, by show z0 ≤ _; omega⟩, ⟨q2, by show z1 ≤ _; omega⟩, ⟨w2.1, by have := w2.2; show z2 ≤ _; omega⟩⟩, hl, Wi hl2⟩
end
end Go.Proofs.YtjcfimmcogkopaaGreat.Sep
namespace Go.Proofs.YtjcfimmcogkopaaGreat.Sep
open Go.RowKit
open Go.Proofs.YtjcfimmcogkopaaGreat.Mem (Bh Cs Chg AA)
open Go.ChangeShapes Go.WideShapes Go.ChangeAt
section
variable {H : Type} {enc : TypeId × Value → H} {W : World} {base b0 : Nat} {r : Reach} {spare : Nat → Bool} {held : Bool} {v : Value} {d : DataW H} {p : List MemPlace}
theorem Ve {P : Program} {n j k off : Nat} {f : Field} {cs zs : List Value} {ys : List (DataW H × List MemPlace)} {y : DataW H × List MemPlace} (hc : P.cellsOf f.type = k) (ho : f.offset = off) (h : DataW.trod enc P W base spare held n f.type ((cs.drop f.offset).take (P.cellsOf f.type)) = ys[j]?) (ha : (cs.drop off).take k = zs) (hy : ys[j]? = some y) : DataW.trod enc P W base spare held n f.type zs = some y := by
 rw [ho, hc, ha, hy] at h
 exact h
theorem Td {n : Nat} {c0 c1 c2 : Value} {x : DataW H × List MemPlace} (h : DataW.trod enc Tryz.prog W base spare held n 36 [c0, c1, c2] = some x) : ∃ y : HarmD, c0 = .int .i64 y.w ∧ c1 = .int .i64 y.a ∧ c2 = .int .i64 y.b ∧ y.ok := by
 obtain ⟨ys, n', _, hx, _, hyl, hf⟩ := DataW.trod_struct Tryz.underlying36 h
 have hyl : ys.length = 3 := hyl
 obtain ⟨y0, g0⟩ : ∃ y, ys[0]? = some y := ⟨_, List.getElem?_eq_getElem (by omega)⟩
 obtain ⟨y1, g1⟩ : ∃ y, ys[1]? = some y := ⟨_, List.getElem?_eq_getElem (by omega)⟩
 obtain ⟨y2, g2⟩ : ∃ y, ys[2]? = some y := ⟨_, List.getElem?_eq_getElem (by omega)⟩
 have h0 := Ve (k := 1) (off := 0) (zs := [c0]) (by kernel_rfl) rfl (hf 0 _ rfl) rfl g0
 have h1 := Ve (k := 1) (off := 1) (zs := [c1]) (by kernel_rfl) rfl (hf 1 _ rfl) rfl g1
 have h2 := Ve (k := 1) (off := 2) (zs := [c2]) (by kernel_rfl) rfl (hf 2 _ rfl) rfl g2
 obtain ⟨z0, e0, _, w0⟩ := DataW.trod_int Tryz.underlying3 h0
 obtain ⟨z1, e1, _, w1⟩ := DataW.trod_int Tryz.underlying3 h1
 obtain ⟨z2, e2, _, w2⟩ := DataW.trod_int Tryz.underlying3 h2
 cases e0; cases e1; cases e2
 exact ⟨⟨z0, z1, z2⟩, rfl, rfl, rfl, ⟨Lc w0, Lc w1, Lc w2⟩⟩
end
end Go.Proofs.YtjcfimmcogkopaaGreat.Sep
