/-
  May · RpcO · RpcE0 · RpcE · RpcF1 · RpcG · RpcH · RpcI · RpcJ · CmdS · RpcK · RpcL · RpcT · RpcU · RpcH1 · HandA · HandC
-/
import Derived.Test.YtjcfimmcogkopaaGreatDoorWA06
import Derived.Test.YtjcfimmcogkopaaGreatDoorWB01
import Derived.Test.YtjcfimmcogkopaaGreatDoorWB02
import Derived.Test.YtjcfimmcogkopaaGreatDoorWB03
import Derived.Test.YtjcfimmcogkopaaGreatDoorWB05
import Derived.Test.YtjcfimmcogkopaaGreatDoorWO02
import Derived.Test.YtjcfimmcogkopaaGreatDoorWQ01
import Derived.Lib.AppendStr
set_option linter.unusedSimpArgs false
set_option linter.unusedVariables false
set_option maxRecDepth 100000
namespace Go.Proofs.YtjcfimmcogkopaaGreatDoor.Sep
open Go.RowKit
open Go.Proofs.YtjcfimmcogkopaaGreatDoor.Mem (Bb Ci Chg)
section
variable {P : Program} {ops : Array Oper} {Q : Exit → Act → World → Prop} {n : Nat} {jobs : List Job} {env env0 : List (Nat × Value)} {B : Nat → Prop} {w0 w : World} {rs os : List Ass} {o : Oper} {deps : List Nat} {kk d : Nat} {v : Value} {rest : List Oper}
end
end Go.Proofs.YtjcfimmcogkopaaGreatDoor.Sep
namespace Go.Proofs.YtjcfimmcogkopaaGreatDoor.Sep
open Go.ChangeShapes Go.WideShapes Go.ChangeAt Go.RowKit
structure F1 (f : Field) (t : TypeId) (o : Nat) : Prop where
  t : f.type = t
  o : f.offset = o
section
variable {H : Type} {enc : TypeId × Value → H} {W : World} {base b0 : Nat} {r : Reach} {spare : Nat → Bool} {held : Bool} {v : Value} {d : DataW H} {p : List MemPlace}
theorem U5 {P : Program} {n j k off : Nat} {f : Field} {t : TypeId} {cs zs : List Value} {ys : List (DataW H × List MemPlace)} {y : DataW H × List MemPlace} (hF : F1 f t off) (hc : P.cellsOf t = k) (h : DataW.trod enc P W base spare held n f.type ((cs.drop f.offset).take (P.cellsOf f.type)) = ys[j]?) (ha : (cs.drop off).take k = zs) (hy : ys[j]? = some y) : DataW.trod enc P W base spare held n t zs = some y := by
 rw [hF.t, hF.o, hc, ha, hy] at h
 exact h
theorem Xz {P : Program} {t t' : TypeId} {fs : Array Field} {ys : List (DataW H × List MemPlace)} {x : DataW H × List MemPlace} {j off : Nat} {f : Field} {y : DataW H × List MemPlace} {zs : List MemPlace} (hs : DL P t x.1) (hx : x = (.agg (ys.map (·.1)), zs)) (hu : P.underlying t = some (.struct fs)) (hf : fs[j]? = some f) (hF : F1 f t' off) (hy : ys[j]? = some y) : DL P t' y.1 := by
  subst hx
  have := DL.field hs hu hf (d := y.1) (by rw [List.getElem?_map, hy]; rfl)
  rwa [hF.t] at this
theorem RX {n : Nat} (h : n ≤ reachBytes) : n ≤ 140737488351232 := h
structure EntT (te : TypeId) (f0 f1 f2 f3 f4 : Field) : Prop where
  hu : Tryz.prog.underlying te = some (.struct #[f0, f1, f2, f3, f4])
  h0 : F1 f0 3 0
  h1 : F1 f1 38 1
  h2 : F1 f2 38 2
  h3 : F1 f3 49 3
  h4 : F1 f4 3 4
def Mz (W : World) (x : EntV) : Prop := x.e.ok ∧ Ew W x.v x.e.d ∧ x.e.d.length ≤ 140737488351232
theorem WK : Tryz.prog.cellsOf 3 = 1 := by kernel_rfl
theorem WM : Tryz.prog.cellsOf 38 = 1 := by kernel_rfl
theorem X5 : Tryz.prog.cellsOf 49 = 1 := by kernel_rfl
theorem U6 {te : TypeId} {f0 f1 f2 f3 f4 : Field} (hE : EntT te f0 f1 f2 f3 f4) {n : Nat} {cs : List Value} {x : DataW H × List MemPlace} (hcl : cs.length = 5) (h : DataW.trod enc Tryz.prog W base spare held n te cs = some x) (hs : DL Tryz.prog te x.1) : ∃ y : EntV, cs = encV y ∧ Mz W y := by
  obtain ⟨ys, n', _, hx, _, hyl, hf⟩ := DataW.trod_struct hE.hu h
  have hyl : ys.length = 5 := hyl
  match cs, hcl with
  | [a0, a1, a2, a3, a4], _ =>
    obtain ⟨y0, g0⟩ : ∃ y, ys[0]? = some y := ⟨_, List.getElem?_eq_getElem (by omega)⟩
    obtain ⟨y1, g1⟩ : ∃ y, ys[1]? = some y := ⟨_, List.getElem?_eq_getElem (by omega)⟩
    obtain ⟨y2, g2⟩ : ∃ y, ys[2]? = some y := ⟨_, List.getElem?_eq_getElem (by omega)⟩
    obtain ⟨y3, g3⟩ : ∃ y, ys[3]? = some y := ⟨_, List.getElem?_eq_getElem (by omega)⟩
    obtain ⟨y4, g4⟩ : ∃ y, ys[4]? = some y := ⟨_, List.getElem?_eq_getElem (by omega)⟩
    have h0 := U5 hE.h0 WK (hf 0 _ rfl) (zs := [a0]) rfl g0
    have h1 := U5 hE.h1 WM (hf 1 _ rfl) (zs := [a1]) rfl g1
    have h2 := U5 hE.h2 WM (hf 2 _ rfl) (zs := [a2]) rfl g2
    have h3 := U5 hE.h3 X5 (hf 3 _ rfl) (zs := [a3]) rfl g3
    have h4 := U5 hE.h4 WK (hf 4 _ rfl) (zs := [a4]) rfl g4
    have s3 := Xz hs hx hE.hu (j := 3) rfl hE.h3 g3
    obtain ⟨z0, e0, _, w0⟩ := DataW.trod_int Tryz.underlying3 h0
    obtain ⟨z1, e1, _, w1⟩ := DataW.trod_int Tryz.underlying38 h1
    obtain ⟨z2, e2, _, w2⟩ := DataW.trod_int Tryz.underlying38 h2
    obtain ⟨A, c, l, rfl, hl, hl2⟩ := Vy h3 s3
    obtain ⟨z4, e4, _, w4⟩ := DataW.trod_int Tryz.underlying3 h4
    simp at e0 e1 e2 e4
    subst e0; subst e1; subst e2; subst e4
    have hl3 := RX hl2
    exact ⟨⟨⟨z0, z1, z2, l, z4⟩, A, c⟩, rfl, ⟨Lf w0, TQ w1, TQ w2, by show l.length ≤ _; omega, Lf w4⟩, hl, hl3⟩
instance : Inhabited EntV := ⟨⟨.zero, none, 0⟩⟩
theorem Ta {te ts : TypeId} {f0 f1 f2 f3 f4 : Field} (hE : EntT te f0 f1 f2 f3 f4) (hT : Tryz.prog.underlying ts = some (.slice te)) (hC : Tryz.prog.cellsOf te = 5) (hB : Tryz.prog.bytesOf te = 56) {n : Nat} {x : DataW H × List MemPlace} (h : DataW.trod enc Tryz.prog W base spare held n ts [v] = some x) (hs : DL Tryz.prog ts x.1) :
  ∃ A c, ∃ l : List EntV, v = .slice A l.length c ∧ l.length * 56 ≤ 140737488351232 ∧ Da W v l ∧ ∀ y ∈ l, Mz W y := by
 obtain ⟨A, c, l, hv, hl, hr, ho⟩ := NC Ea (by decide) hT hC (ok := Mz W) (fun n cs x hcl h hs => U6 hE hcl h hs) h hs
 rw [hB] at hl
 exact ⟨A, c, l, hv, RX hl, ⟨hr, fun x hx => (ho x hx).2.1⟩, ho⟩
structure MsgV where
  m : MsgD
  es : List EntV
  EA : Option Addr
  ec : Nat
  A : Option Addr
  c : Nat
def MsgV.ev (x : MsgV) : Value := .slice x.EA x.es.length x.ec
def MsgV.dv (x : MsgV) : Value := .slice x.A x.m.d.length x.c
def MsgV.cells (x : MsgV) : List Value := W7 x.m.k x.m.a x.m.b x.m.t x.m.i x.m.lt x.ev x.m.co x.m.rf x.m.bi x.m.bt x.m.bc x.m.o x.dv x.m.la
structure MsgOk (W : World) (x : MsgV) : Prop where
  ok : x.m.ok
  es : x.m.es = x.es.map (·.e)
  rd : Da W x.ev x.es
  le : x.es.length * 56 ≤ 140737488351232
  each : ∀ y ∈ x.es, Mz W y
  d : Ew W x.dv x.m.d
  dl : x.m.d.length ≤ 140737488351232
theorem Mz.below {u w : World} {x : EntV} (h : Mz u x) (hb : Below u.heap.size u w) : Mz w x := ⟨h.1, h.2.1.below hb, h.2.2⟩
theorem MsgOk.below {u w : World} {x : MsgV} (h : MsgOk u x) (hb : Below u.heap.size u w) : MsgOk w x := ⟨h.ok, h.es, h.rd.below hb, h.le, fun y hy => (h.each y hy).below hb, h.d.below hb, h.dl⟩
end
end Go.Proofs.YtjcfimmcogkopaaGreatDoor.Sep
namespace Go.Proofs.YtjcfimmcogkopaaGreatDoor.Sep
open Go.RowKit
open Go.Proofs.YtjcfimmcogkopaaGreatDoor.Mem (Bb Ci Chg Aw)
end Go.Proofs.YtjcfimmcogkopaaGreatDoor.Sep
namespace Go.Proofs.YtjcfimmcogkopaaGreatDoor.Sep
open Go.RowKit
open Go.Proofs.YtjcfimmcogkopaaGreatDoor.Mem (Bb Ci Chg Aw)
end Go.Proofs.YtjcfimmcogkopaaGreatDoor.Sep
namespace Go.Proofs.YtjcfimmcogkopaaGreatDoor.Sep
open Go.RowKit
open Go.Proofs.YtjcfimmcogkopaaGreatDoor.Mem (Bb Ci Chg Aw)
end Go.Proofs.YtjcfimmcogkopaaGreatDoor.Sep
namespace Go.Proofs.YtjcfimmcogkopaaGreatDoor.Sep
open Go.RowKit
open Go.Proofs.YtjcfimmcogkopaaGreatDoor.Mem (Bb Ci Chg Aw)
end Go.Proofs.YtjcfimmcogkopaaGreatDoor.Sep
namespace Go.Proofs.YtjcfimmcogkopaaGreatDoor.Sep
open Go.RowKit
open Go.Proofs.YtjcfimmcogkopaaGreatDoor.Mem (Bb Ci Chg Aw)
end Go.Proofs.YtjcfimmcogkopaaGreatDoor.Sep
namespace Go.Proofs.YtjcfimmcogkopaaGreatDoor.Sep
open Go.RowKit
open Go.Proofs.YtjcfimmcogkopaaGreatDoor.Mem (Bb Ci Chg Aw)
end Go.Proofs.YtjcfimmcogkopaaGreatDoor.Sep
namespace Go.Proofs.YtjcfimmcogkopaaGreatDoor.Sep
open Go.RowKit
open Go.Proofs.YtjcfimmcogkopaaGreatDoor.Mem (Bb Ci Chg Aw)
end Go.Proofs.YtjcfimmcogkopaaGreatDoor.Sep
namespace Go.Proofs.YtjcfimmcogkopaaGreatDoor.Sep
open Go.RowKit
open Go.Proofs.YtjcfimmcogkopaaGreatDoor.Mem (Bb Ci Chg Aw)
section
variable {Q : Exit → Act → World → Prop} {n : Nat} {B : Nat → Prop} {w0 : World} {os : List Ass} {env : List (Nat × Value)} {o : Oper} {v : Value} {l m : List UInt8}
end
section
variable {P : Program} {n : Nat} {w : World} {env : List (Nat × Value)} {o : Oper} {a : Act}
end
section
variable {P : Program} {Q : Exit → Act → World → Prop} {n : Nat} {B : Nat → Prop} {w0 : World} {rs : List Ass} {env : List (Nat × Value)}
end
end Go.Proofs.YtjcfimmcogkopaaGreatDoor.Sep
namespace Go.Proofs.YtjcfimmcogkopaaGreatDoor.Sep
open Go.RowKit
open Go.Proofs.YtjcfimmcogkopaaGreatDoor.Mem (Bb Ci Chg Aw)
end Go.Proofs.YtjcfimmcogkopaaGreatDoor.Sep
namespace Go.Proofs.YtjcfimmcogkopaaGreatDoor.Sep
open Go.RowKit
open Go.Proofs.YtjcfimmcogkopaaGreatDoor.Mem (Bb Ci Chg Aw)
structure REX where
  EA : Option Addr
  ec : Nat
  es : List EntV
  en : Nat
  l : List UInt8
  f : Nat
def REX.v (x : REX) : Value := .slice x.EA x.es.length x.ec
theorem Cm.is {te : TypeId} {v : Value} {l : List EntV} : ∀ rs, Cm te v l rs → ∃ A c, v = .slice A l.length c := fun _ h => by
 obtain ⟨a, b, e, h1, _⟩ := h
 exact h1.is
end Go.Proofs.YtjcfimmcogkopaaGreatDoor.Sep
namespace Go.Proofs.YtjcfimmcogkopaaGreatDoor.Sep
open Go.RowKit
open Go.Proofs.YtjcfimmcogkopaaGreatDoor.Mem (Bb Ci Chg Aw)
theorem IR {w0 w : World} {os : List Ass} {v : Value} {l : List EntV} (h : Da w0 v l) (hH : Hp Nil w0 w os) : Da w v l := h.below (hH.up.below (Nat.le_refl _) (fun _ h => h.elim))
theorem K0 (w : World) (v v2 : Value) (l l2 : List EntV) (hv : Da w v l) (hv2 : Da w v2 l2) (h : l.map (·.e) = l2.map (·.e)) (hle : l.length ≤ 9223372036854775807) : Calls Tryz.prog 25 #[v, v2] w fun e w' => e = .returned (.bool true) ∧ Below w.heap.size w w' := by
  have hln : l.length = l2.length := by have := congrArg List.length h; simpa using this
  refine Gi (args := [v, v2]) 27 Tryz.func25 rfl rfl rfl (Ad (Af Ak rfl (Ab (Ar (Ad (Af Ak rfl (Aa rfl (.int .i64 (l.length : Int)) (fun b w hb hH => Be ((IR hv hH).1) Tryz.underlying39 rfl rfl hb) (Af Ak rfl (Aa rfl (.int .i64 (l2.length : Int)) (fun b w hb hH => Be ((IR hv2 hH).1) Tryz.underlying39 rfl rfl hb) (Aa rfl (.bool false) (fun b w hb hH => A5 rfl rfl rfl (Bn (by omega)) hb) (Ab (Au rfl (Av (AC (Ar (Ad ?_))))))))))))))))
  refine Af Ak rfl (Ab (AK (CC (α := Nat) (fun j => [(0, v), (1, v2), (4, .bool false), (5, .int .i64 ((j : Nat) : Int))]) (fun j => []) (fun j => j ≤ l.length) (fun j => l.length - j) 0 (Nat.zero_le _) ⟨rfl, rfl, rfl, rfl, trivial⟩ rfl ?_)))
  rintro j hI
  refine AL.at_ (env' := [(0, v), (1, v2), (4, .bool false), (5, .int .i64 ((j : Nat) : Int))]) (rs' := []) ⟨rfl, rfl, rfl, rfl, trivial⟩ rfl (Ar ?_)
  rcases Nat.lt_or_ge j l.length with hj | hj
  obtain ⟨x, hx⟩ : ∃ x, l[j]? = some x := ⟨_, List.getElem?_eq_getElem hj⟩
  obtain ⟨y, hy⟩ : ∃ y, l2[j]? = some y := ⟨_, List.getElem?_eq_getElem (by omega)⟩
  have hmx := List.mem_of_getElem? hx
  have hmy := List.mem_of_getElem? hy
  have hxy : x.e = y.e := by
      have h1 := congrArg (fun z => z[j]?) h
      simp only [List.getElem?_map, hx, hy, Option.map_some] at h1
      exact Option.some.inj h1
  refine Ad (Af Ak rfl (Aa rfl (.int .i64 (l.length : Int)) (fun b w hb hH => Be ((IR hv hH).1) Tryz.underlying39 rfl rfl hb) (Aa rfl (.bool true) (fun b w hb hH => A5 rfl rfl rfl (BY (by omega)) hb) (Ab (AE rfl (Av (AC (Ar (AK (Ar ?_))))))))))
  refine BV 10 1 [⟨.quiet, [none], fun _ => v, []⟩, ⟨.quiet, [none], fun _ => .int .i64 ((j : Nat) : Int), []⟩, ⟨.quiet, [none], fun _ => AN v (j * 5), [0, 1]⟩, ⟨.quiet, [none], fun _ => .agg (encV x).toArray, [2]⟩, ⟨.quiet, [none], fun _ => v2, []⟩, ⟨.quiet, [none], fun _ => .int .i64 ((j : Nat) : Int), []⟩, ⟨.quiet, [none], fun _ => AN v2 (j * 5), [4, 5]⟩, ⟨.quiet, [none], fun _ => .agg (encV y).toArray, [6]⟩, ⟨.actv 0, [some false], fun _ => .bool true, [3, 7]⟩, ⟨.quiet, [some true], fun _ => .bool false, [8]⟩] [(0, v), (1, v2), (4, .bool false), (5, .int .i64 ((j : Nat) : Int)), (11, .int .i64 ((j : Nat) : Int)), (12, v), (13, .int .i64 (l.length : Int)), (14, .bool true)] (fun ρ => match ρ with | [r0] => [] | _ => []) (by kernel_rfl) (by kernel_rfl) ⟨rfl, rfl, rfl, rfl, rfl, rfl, rfl, rfl, trivial⟩ rfl ?_ ?_
  refine Ac (by intro r0_; exact ⟨rfl, fun b w hH hb => Ah Ak rfl hb⟩) (Ac (by intro r0_; exact ⟨rfl, fun b w hH hb => Ah Ak rfl hb⟩) (Ac (by intro r0_; exact ⟨rfl, fun b w hH hb => DW Ea ((IR hv hH).1) AP (j := j) hx rfl rfl rfl hb⟩) (Ac (by intro r0_; exact ⟨rfl, fun b w hH hb => Dp Ea (by decide) ((IR hv hH).1) (j := j) hx B0 rfl rfl hb⟩) (Ac (by intro r0_; exact ⟨rfl, fun b w hH hb => Ah Ak rfl hb⟩) (Ac (by intro r0_; exact ⟨rfl, fun b w hH hb => Ah Ak rfl hb⟩) (Ac (by intro r0_; exact ⟨rfl, fun b w hH hb => DW Ea ((IR hv2 hH).1) AP (j := j) hy rfl rfl rfl hb⟩) (Ac (by intro r0_; exact ⟨rfl, fun b w hH hb => Dp Ea (by decide) ((IR hv2 hH).1) (j := j) hy B0 rfl rfl hb⟩) (Ac (by exact ⟨rfl, Bt.su (Bk (Ai Tryz.func73 (by kernel_rfl) rfl) (fun w hH => Qe w x y ((IR hv hH).2 x hmx) ((IR hv2 hH).2 y hmy) hxy) rfl rfl rfl) rfl⟩) (Ac (by intro v0_; exact ⟨rfl, fun b w hH hb => Ah Ak rfl hb⟩) ?_)))))))))
  exact B9
  intro v0_
  refine BU.keep (env' := [(0, v), (1, v2), (4, .bool false), (5, .int .i64 ((j : Nat) : Int)), (11, .int .i64 ((j : Nat) : Int)), (12, v), (13, .int .i64 (l.length : Int)), (14, .bool true), (17, v), (18, .int .i64 ((j : Nat) : Int)), (19, AN v (j * 5)), (20, .agg (encV x).toArray), (21, v2), (22, .int .i64 ((j : Nat) : Int)), (23, AN v2 (j * 5)), (24, .agg (encV y).toArray), (25, .bool true), (26, .bool false)]) ⟨rfl, rfl, rfl, rfl, rfl, rfl, rfl, rfl, rfl, rfl, rfl, rfl, rfl, rfl, rfl, rfl, rfl, rfl, trivial⟩ (AG (AC (Au rfl (Av (A6 (AC (BB (Af Ak rfl (Aa rfl (.int .i64 ((j + 1 : Nat) : Int)) (fun b w hb hH => AJ rfl rfl rfl rfl (by rw [IntWalk.i64_in _ (by omega)]; omega) hb) (Af Ak rfl (AG ?_)))))))))))
  exact B6 (j + 1) 0 hj (show l.length - (j + 1) < l.length - j by omega) ⟨rfl, rfl, rfl, rfl, trivial⟩ rfl
  refine Ad (Af Ak rfl (Aa rfl (.int .i64 (l.length : Int)) (fun b w hb hH => Be ((IR hv hH).1) Tryz.underlying39 rfl rfl hb) (Aa rfl (.bool false) (fun b w hb hH => A5 rfl rfl rfl (BI (by omega)) hb) (Ab (Au rfl (CJ (Fq (Fq (Bg (AC (Ad (Af Ak rfl (Ab (AB ?_))))))))))))))
  exact AA (.tmp rfl) (fun w h => ⟨rfl, Aw h.up⟩) rfl
end Go.Proofs.YtjcfimmcogkopaaGreatDoor.Sep
namespace Go.Proofs.YtjcfimmcogkopaaGreatDoor.Sep
open Go.RowKit
open Go.Proofs.YtjcfimmcogkopaaGreatDoor.Mem (Bb Ci Chg Aw)
theorem U7 {A : Option Addr} {n c j : Nat} : Cu 1 (.slice A n c) 0 j = .slice A j c := by
  rw [JG]
  cases A with
  | none => simp
  | some a =>
    have : a.add 0 = a := by obtain ⟨b, o, q⟩ := a; cases q <;> simp [Addr.add]
    simp [this]
end Go.Proofs.YtjcfimmcogkopaaGreatDoor.Sep
namespace Go.Proofs.YtjcfimmcogkopaaGreatDoor.Sep
open Go.RowKit
open Go.Proofs.YtjcfimmcogkopaaGreatDoor.Mem (Bb Ci Chg Aw)
def Ej (ix tm : Int) (e : EntD) : EntD := ⟨e.c % 3, max 1 (tm + e.k % 8 / 6), ix + 1, if e.c % 3 = 1 then 1 :: e.d.take 30 else [], if e.c % 3 = 2 then 2 * (1 + e.t % 200 % 31) else 0⟩
theorem Px {ix tm : Int} {e : EntD} (h1 : 0 ≤ ix ∧ ix < 1000) (h2 : 0 ≤ tm ∧ tm < 1000) : BN (Ej ix tm e) = true := by
  have hc := Int.emod_nonneg e.c (show (3 : Int) ≠ 0 by decide)
  have hc2 := Int.emod_lt_of_pos e.c (show (0 : Int) < 3 by decide)
  have hk := Int.emod_nonneg e.k (show (8 : Int) ≠ 0 by decide)
  have hk2 := Int.emod_lt_of_pos e.k (show (0 : Int) < 8 by decide)
  have ht : (1 : Int) ≤ max 1 (tm + e.k % 8 / 6) ∧ max 1 (tm + e.k % 8 / 6) ≤ 72057594037927935 := by omega
  have ht2 := Int.emod_nonneg (e.t % 200) (show (31 : Int) ≠ 0 by decide)
  have ht3 := Int.emod_lt_of_pos (e.t % 200) (show (0 : Int) < 31 by decide)
  obtain ⟨c, hcc⟩ : ∃ c, e.c % 3 = c := ⟨_, rfl⟩
  rw [hcc] at hc hc2
  have hn : G9 (Ej ix tm e).t = true := by
    show G9 (max 1 (tm + e.k % 8 / 6)) = true
    unfold G9
    simp only [Bool.and_eq_true, decide_eq_true_eq]
    omega
  have hi : G9 (Ej ix tm e).i = true := by
    show G9 (ix + 1) = true
    unfold G9
    simp only [Bool.and_eq_true, decide_eq_true_eq]
    omega
  have hK : FV (Ej ix tm e) = true := by
    rcases (show c = 0 ∨ c = 1 ∨ c = 2 by omega) with rfl | rfl | rfl
    · have hh : Ej ix tm e = ⟨0, max 1 (tm + e.k % 8 / 6), ix + 1, [], 0⟩ := by simp [Ej, hcc]
      rw [hh]; rfl
    · have hh : Ej ix tm e = ⟨1, max 1 (tm + e.k % 8 / 6), ix + 1, 1 :: e.d.take 30, 0⟩ := by simp [Ej, hcc]
      have h9 : (e.d.take 30).length ≤ 30 := by rw [List.length_take]; omega
      rw [hh]
      show (decide (1 ≤ (1 :: e.d.take 30).length) && decide ((1 :: e.d.take 30).length ≤ 128) && ((0 : Int) == 0)) = true
      rw [List.length_cons, Bool.and_eq_true, Bool.and_eq_true, decide_eq_true_eq, decide_eq_true_eq]
      exact ⟨⟨by omega, by omega⟩, rfl⟩
    · have hh : Ej ix tm e = ⟨2, max 1 (tm + e.k % 8 / 6), ix + 1, [], 2 * (1 + e.t % 200 % 31)⟩ := by simp [Ej, hcc]
      have hs : K2 (2 * (1 + e.t % 200 % 31)) = true := by
        unfold K2
        simp only [Bool.and_eq_true, decide_eq_true_eq]
        omega
      rw [hh]
      show (true && K2 (2 * (1 + e.t % 200 % 31)) && (2 * (1 + e.t % 200 % 31) != 0)) = true
      rw [hs, Bool.true_and, Bool.true_and, bne_iff_ne]
      omega
  unfold BN
  rw [hn, hi, hK]; rfl
theorem U9 {l : List UInt8} (n : Nat) : ((l.take n).length : Int) = min (l.length : Int) (n : Int) := by
 rw [List.length_take]; omega
theorem Ew.takesA {w : World} {A : Option Addr} {c : Nat} {l : List UInt8} (k : Nat) (h : Ew w (.slice A l.length c) l) : Ew w (.slice A (l.take k).length c) (l.take k) := by
  rcases Nat.lt_or_ge l.length k with hk | hk
  · rw [List.take_of_length_le (by omega)]; exact h
  · exact h.takes hk
end Go.Proofs.YtjcfimmcogkopaaGreatDoor.Sep
namespace Go.Proofs.YtjcfimmcogkopaaGreatDoor.Sep
open Go.RowKit
open Go.Proofs.YtjcfimmcogkopaaGreatDoor.Mem (Bb Ci Chg Aw)
def Vj (tm : Int) (l : List EntD) : Int := tm + (l.map fun e => e.k % 8 / 6).sum
def DA : Int → Int → List EntD → List EntD
  | _, _, [] => []
  | ix, tm, e :: r => Ej ix tm e :: DA (ix + 1) (tm + e.k % 8 / 6) r
theorem Va (tm : Int) (l : List EntD) (e : EntD) : Vj tm (l ++ [e]) = Vj tm l + e.k % 8 / 6 := by
 unfold Vj
 rw [List.map_append, List.sum_append]
 simp only [List.map_cons, List.map_nil, List.sum_cons, List.sum_nil]
 omega
theorem MA : ∀ (l : List EntD) (ix tm : Int) (e : EntD), DA ix tm (l ++ [e]) = DA ix tm l ++ [Ej (ix + (l.length : Int)) (Vj tm l) e]
  | [], ix, tm, e => by simp [DA, Vj]
  | x :: r, ix, tm, e => by
    show Ej ix tm x :: DA (ix + 1) (tm + x.k % 8 / 6) (r ++ [e]) = Ej ix tm x :: (DA (ix + 1) (tm + x.k % 8 / 6) r ++ _)
    rw [MA r]
    congr 3
    have h1 : ix + 1 + (r.length : Int) = ix + ((x :: r).length : Int) := by rw [List.length_cons]; push_cast; omega
    have h2 : Vj (tm + x.k % 8 / 6) r = Vj tm (x :: r) := by
      unfold Vj
      simp only [List.map_cons, List.sum_cons]
      omega
    rw [h1, h2]
theorem GD : ∀ (l : List EntD) (ix tm : Int), (DA ix tm l).length = l.length
  | [], _, _ => rfl
  | x :: r, ix, tm => by simp [DA, GD r]
structure HandI (ix tm : Int) (l : List EntV) (m j : Nat) (a b : Int) (o : EsV) : Prop where
  jl : j ≤ l.length
  jm : j ≤ m
  ea : a = ix + (j : Int)
  eb : b = Vj tm ((l.take j).map (·.e))
  b2 : 0 ≤ b ∧ b ≤ 1000 + (j : Int)
  eo : o.l.map (·.e) = DA ix tm ((l.take j).map (·.e))
theorem HandI.len {ix tm : Int} {l : List EntV} {m j : Nat} {a b : Int} {o : EsV} (h : HandI ix tm l m j a b o) : o.l.length = j := by
 have h1 := congrArg List.length h.eo
 rw [GD, List.length_map, List.length_map, List.length_take] at h1
 have := h.jl
 omega
theorem Tc {ix tm : Int} {l : List EntV} {m j : Nat} {a b : Int} {o : EsV} {x : EntV} (h : HandI ix tm l m j a b o) (hx : l[j]? = some x) (hjl : j < l.length) (hjm : j < m) {ev2 : Value} {y : EntV} (hy : y.e = Ej a b x.e) : HandI ix tm l m (j + 1) (a + 1) (b + x.e.k % 8 / 6) (⟨ev2, o.l ++ [y]⟩ : EsV) := by
  have hk0 := Int.emod_nonneg x.e.k (show (8 : Int) ≠ 0 by decide)
  have hk8 := Int.emod_lt_of_pos x.e.k (show (0 : Int) < 8 by decide)
  have h2 := h.b2
  have h3 := h.ea
  have ht : (l.take (j + 1)).map (·.e) = (l.take j).map (·.e) ++ [x.e] := by rw [List.take_add_one, hx, List.map_append]; rfl
  refine ⟨hjl, hjm, by push_cast; omega, by rw [ht, Va, ← h.eb], by push_cast; omega, ?_⟩
  show (o.l ++ [y]).map (·.e) = _
  rw [List.map_append, h.eo, ht, MA, ← h.eb, List.length_map, List.length_take, Nat.min_eq_left (Nat.le_of_lt hjl), ← h.ea]
  show _ ++ [y.e] = _
  rw [hy]
theorem Py {ix tm : Int} {l : List EntV} {m j : Nat} {a b : Int} {o : EsV} (h : HandI ix tm l m j a b o) (hj : l.length ≤ j ∨ m ≤ j) : o.l.map (·.e) = DA ix tm ((l.take m).map (·.e)) := by
  have h1 := h.jl
  have h2 := h.jm
  rw [h.eo]
  rcases hj with hj | hj
  · rw [List.take_of_length_le hj, List.take_of_length_le (by omega)]
  · rw [show j = m by omega]
theorem MB (u : World) (l : List EntV) (v : Value) (hv : Da u v l) (hok : ∀ x, x ∈ l → x.e.ok) (ix tm : Int) (m : Nat) (h1 : 0 ≤ ix ∧ ix < 1000) (h2 : 0 ≤ tm ∧ tm < 1000) (hm : m ≤ 1000) : ER u Tryz.prog 16 #[.int .u64 ix, .int .u64 tm, v, .int .i64 (m : Int)] [] (fun (y : EsV) => y.v) (fun (y : EsV) => [Cm 53 y.v y.l, fact (y.l.map (·.e) = DA ix tm ((l.take m).map (·.e)))]) := by
  refine J4 (args := [.int .u64 ix, .int .u64 tm, v, .int .i64 (m : Int)]) 83 Tryz.func16 rfl rfl rfl ?_; intro w rs hU hS
  refine Ad (Af Ae rfl (Ab (Ad (Af Ae rfl (Ab (Ar (Ad (Af Ae rfl (Ab (AK (BK 53 5 encV (H2 (t := AY (fun x : EntV => Aj 5 1 encB x.v x.e.d) ([])) (DE) (Bj [1, 0] rfl P2 rfl ?_)))))))))))))
  refine AL.keep (env' := [(0, .int .u64 ix), (1, .int .u64 tm), (2, v), (3, .int .i64 (m : Int)), (8, .slice none 0 0), (9, .slice none 0 0), (10, .int .i64 0)]) ⟨rfl, rfl, rfl, rfl, rfl, rfl, rfl, trivial⟩ (AL.mid [Cm 53 (.slice none 0 0) ([])] (.refl _) (CC (α := Nat × Int × Int × EsV) (fun ⟨j, aq, bq, o⟩ => [(0, .int .u64 aq), (1, .int .u64 bq), (2, v), (3, .int .i64 (m : Int)), (8, .slice none 0 0), (9, o.v), (10, .int .i64 (j : Int))]) (fun ⟨j, aq, bq, o⟩ => [Cm 53 o.v o.l]) (fun ⟨j, aq, bq, o⟩ => HandI ix tm l m j aq bq o) (fun ⟨j, aq, bq, o⟩ => l.length - j) (0, ix, tm, (⟨.slice none 0 0, []⟩ : EsV)) ⟨Nat.zero_le _, Nat.zero_le _, by simp, by simp [Vj], ⟨h2.1, by omega⟩, rfl⟩ ⟨rfl, rfl, rfl, rfl, rfl, rfl, rfl, trivial⟩ rfl ?_))
  rintro ⟨j, aq, bq, o⟩ hI
  refine AL.at_ (env' := [(0, .int .u64 aq), (1, .int .u64 bq), (2, v), (3, .int .i64 (m : Int)), (8, .slice none 0 0), (9, o.v), (10, .int .i64 (j : Int))]) (rs' := [Cm 53 o.v o.l]) ⟨rfl, rfl, rfl, rfl, rfl, rfl, rfl, trivial⟩ rfl (Ar ?_)
  rcases (show (j < l.length ∧ j < m) ∨ l.length ≤ j ∨ (j < l.length ∧ m ≤ j) by omega) with ⟨hjl, hjm⟩ | hjl | ⟨hjl, hjm⟩
  have hol : o.l.length = j := hI.len
  obtain ⟨hI1, hI2, hI3, hI4, hI5, hI6⟩ := id hI
  obtain ⟨x, hx0⟩ : ∃ x, l[j]? = some x := ⟨_, List.getElem?_eq_getElem hjl⟩
  have hxm := List.mem_of_getElem? hx0
  have hx := hv.2 x hxm
  have ho := hok x hxm
  have hk0 := Int.emod_nonneg x.e.k (show (8 : Int) ≠ 0 by decide)
  have hk8 := Int.emod_lt_of_pos x.e.k (show (0 : Int) < 8 by decide)
  have ht0 := ho.t
  have ht31 := Int.emod_nonneg (x.e.t % 200) (show (31 : Int) ≠ 0 by decide)
  have ht32 := Int.emod_lt_of_pos (x.e.t % 200) (show (0 : Int) < 31 by decide)
  have ht20 := Int.emod_nonneg x.e.t (show (200 : Int) ≠ 0 by decide)
  have ht21 := Int.emod_lt_of_pos x.e.t (show (0 : Int) < 200 by decide)
  have hc0 := Int.emod_nonneg x.e.c (show (3 : Int) ≠ 0 by decide)
  have hc3 := Int.emod_lt_of_pos x.e.c (show (0 : Int) < 3 by decide)
  obtain ⟨kd, hkd⟩ : ∃ kd, x.e.c % 3 = kd := ⟨_, rfl⟩
  rw [hkd] at hc0 hc3
  have hnext := fun {ev2 : Value} {y : EntV} (hy : y.e = Ej aq bq x.e) => Tc hI hx0 hjl hjm (ev2 := ev2) hy
  refine Ad (Af Ae rfl (Aa rfl (.int .i64 (l.length : Int)) (fun b w hb hH => Be ((DF hv hU hS hH).1) Tryz.underlying39 rfl rfl hb) (Aa rfl (.bool true) (fun b w hb hH => A5 rfl rfl rfl (BY (by omega)) hb) (Af Ae rfl (Aa rfl (.bool true) (fun b w hb hH => A5 rfl rfl rfl (BY (by omega)) hb) (Af Ae rfl (Ab (AE rfl (Av (AC (Ar (AK (Ad (Af Ae rfl (Aa rfl (.int .u64 (aq + 1)) (fun b w hb hH => AJ rfl rfl rfl rfl (IntWalk.u64_in _ (by omega)) hb) ?_)))))))))))))))
  refine Af Ae rfl (Ab (Ad (Af Ae rfl (Aa rfl (AN v (j * 5)) (fun b w hb hH => DW Ea ((DF hv hU hS hH).1) AP (j := j) hx0 rfl rfl rfl hb) (Aa rfl (AN v (j * 5 + 0)) (fun b w hb hH => FR Ea (by decide) ((DF hv hU hS hH).1) (j := j) hx0 Hw rfl rfl hb) (Aa rfl (.int .i64 x.e.k) (fun b w hb hH => Bq Ea (by decide) ((DF hv hU hS hH).1) (j := j) hx0 Br (off := 0) rfl rfl rfl hb) (Al (post := fun _ => [Cm 53 o.v o.l]) rfl (Bk (Ai Tryz.func6 (by kernel_rfl) rfl) (fun w hH => pick w x.e.k 8 ho.k (by decide) rfl) rfl rfl rfl) ?_))))))); rintro ⟨⟩
  refine Aa rfl (.int .i64 (x.e.k % 8 / 6)) (fun b w hb hH => QW (by decide) (by rw [Int.tdiv_eq_ediv_of_nonneg hk0, IntWalk.i64_in _ (by omega)]) rfl rfl rfl hb) (Aa rfl (.int .u64 (x.e.k % 8 / 6)) (fun b w hb hH => Bi Tryz.underlying3 Tryz.underlying38 (IntWalk.u64_in _ (by omega)) rfl rfl hb) (Aa rfl (.int .u64 (bq + x.e.k % 8 / 6)) (fun b w hb hH => AJ rfl rfl rfl rfl (IntWalk.u64_in _ (by omega)) hb) (Af Ae rfl (Ab (Ad (Af Ae rfl (Aa rfl (AN v (j * 5)) (fun b w hb hH => DW Ea ((DF hv hU hS hH).1) AP (j := j) hx0 rfl rfl rfl hb) (Aa rfl (AN v (j * 5 + 4)) (fun b w hb hH => FR Ea (by decide) ((DF hv hU hS hH).1) (j := j) hx0 Hx rfl rfl hb) (Aa rfl (.int .i64 x.e.c) (fun b w hb hH => Bq Ea (by decide) ((DF hv hU hS hH).1) (j := j) hx0 Br (off := 4) rfl rfl rfl hb) (Al (post := fun _ => [Cm 53 o.v o.l]) rfl (Bk (Ai Tryz.func6 (by kernel_rfl) rfl) (fun w hH => pick w x.e.c 3 ho.c (by decide) hkd) rfl rfl rfl) ?_)))))))))); rintro ⟨⟩
  refine Af Ae rfl (Aa rfl (.int .u64 (max 1 (bq + x.e.k % 8 / 6))) (fun b w hb hH => CH rfl rfl (fun cs => (fun w cs => Oe (by first | rfl | decide | (split <;> omega)) _ _ w cs) w cs) hb) (Af Ae rfl (Aa rfl (.agg #[.int .i64 kd, .int .u64 (max 1 (bq + x.e.k % 8 / 6)), .int .u64 (aq + 1), .slice none 0 0, .int .i64 0]) (fun b w hb hH => BA rfl rfl (by kernel_rfl) hb) (Al (post := fun g11 => [cell g11 53 #[.int .i64 0, .int .u64 0, .int .u64 0, .slice none 0 0, .int .i64 0], Cm 53 o.v o.l]) rfl (Cl BQ rfl) ?_)))); rintro g11
  refine AR (post := fun _ => [cell g11 53 #[.int .i64 kd, .int .u64 (max 1 (bq + x.e.k % 8 / 6)), .int .u64 (aq + 1), .slice none 0 0, .int .i64 0], Cm 53 o.v o.l]) rfl rfl (AZ 0 (v := .agg #[.int .i64 kd, .int .u64 (max 1 (bq + x.e.k % 8 / 6)), .int .u64 (aq + 1), .slice none 0 0, .int .i64 0]) #[.int .i64 kd, .int .u64 (max 1 (bq + x.e.k % 8 / 6)), .int .u64 (aq + 1), .slice none 0 0, .int .i64 0] B0.2 rfl rfl rfl rfl rfl rfl rfl rfl rfl) ?_; rintro ⟨⟩
  refine Ab (Ar ?_)
  have hk : kd = 0 ∨ kd = 1 ∨ kd = 2 := by omega
  rcases hk with rfl | rfl | rfl
  refine Ad (Af Ae rfl (Aa rfl (.int .i64 0) (fun b w hb hH => Ba rfl rfl (Bl Br rfl) (hH.row 0 rfl) hb) (Ab (AK (Ad (Af Ae rfl (Aa rfl (.bool false) (fun b w hb hH => A5 rfl rfl rfl (EM (by decide)) hb) (Af Ae rfl (Ab (Au rfl (Ad (Af Ae rfl (Aa rfl (.bool false) (fun b w hb hH => A5 rfl rfl rfl (EM (by decide)) hb) ?_)))))))))))))
  refine Af Ae rfl (Ab (Au rfl (Av (A6 (AC (BK 5 1 encB (AX 2 rfl C5 (fun _ => rfl) ?_))))))); rintro ⟨⟩
  refine BB (Af Ae rfl (Aa rfl (.agg #[.int .i64 0, .int .u64 (max 1 (bq + x.e.k % 8 / 6)), .int .u64 (aq + 1), .slice none 0 0, .int .i64 0]) (fun b w hb hH => Ba rfl rfl (Ft (cs := [.int .i64 0, .int .u64 (max 1 (bq + x.e.k % 8 / 6)), .int .u64 (aq + 1), .slice none 0 0, .int .i64 0]) B0 rfl) (hH.row 3 rfl) hb) ?_))
  refine Al (X := Value) (val := fun v : Value => v) (post := fun b80 => [Aj 53 5 encV b80 ([(⟨⟨0, max 1 (bq + x.e.k % 8 / 6), aq + 1, [], 0⟩, none, 0⟩ : EntV)]), Aj 53 5 encV o.v o.l, AY (fun x : EntV => Aj 5 1 encB x.v x.e.d) o.l, Aj 5 1 encB (.slice none 0 0) ([]), cell g11 53 #[.int .i64 0, .int .u64 (max 1 (bq + x.e.k % 8 / 6)), .int .u64 (aq + 1), .slice none 0 0, .int .i64 0]]) rfl (by refine Dm (e := 53) (t := 39) (k := 5) (enc := encV) (x := .tmp 79) (c := .agg #[.int .i64 0, .int .u64 (max 1 (bq + x.e.k % 8 / 6)), .int .u64 (aq + 1), .slice none 0 0, .int .i64 0]) ?_ ?_ ?_ (⟨⟨0, max 1 (bq + x.e.k % 8 / 6), aq + 1, [], 0⟩, none, 0⟩ : EntV) ?_ ?_ ?_; exact AP; exact (by decide); exact Ea; exact rfl; exact rfl; exact rfl) ?_; rintro b80
  refine Al (post := fun ev2 => [Aj 53 5 encV b80 ([(⟨⟨0, max 1 (bq + x.e.k % 8 / 6), aq + 1, [], 0⟩, none, 0⟩ : EntV)]), Aj 53 5 encV ev2 (o.l ++ [(⟨⟨0, max 1 (bq + x.e.k % 8 / 6), aq + 1, [], 0⟩, none, 0⟩ : EntV)]), AY (fun x : EntV => Aj 5 1 encB x.v x.e.d) o.l, Aj 5 1 encB (.slice none 0 0) ([]), cell g11 53 #[.int .i64 0, .int .u64 (max 1 (bq + x.e.k % 8 / 6)), .int .u64 (aq + 1), .slice none 0 0, .int .i64 0]]) rfl (Df (nb := 56) 1 AP Ea (by kernel_rfl) (by decide) rfl ([(⟨⟨0, max 1 (bq + x.e.k % 8 / 6), aq + 1, [], 0⟩, none, 0⟩ : EntV)]) (fun w hH => hH.vec 0 rfl Ea) (by simp only [List.length_cons, List.length_nil]; omega) rfl rfl rfl rfl) ?_; rintro ev2
  refine Af Ae rfl (AG (A6 (AC (AL.leave [0, 4] rfl rfl (Bj [0, 1, 2] rfl (Gt (l := o.l) (x := (⟨⟨0, max 1 (bq + x.e.k % 8 / 6), aq + 1, [], 0⟩, none, 0⟩ : EntV))) rfl (AL.keep (env' := [(2, v), (3, .int .i64 (m : Int)), (8, .slice none 0 0), (10, .int .i64 (j : Int)), (12, .int .i64 (j : Int)), (13, v), (14, .int .i64 (l.length : Int)), (15, .bool true), (16, .bool true), (17, .int .i64 (j : Int)), (18, .int .i64 (m : Int)), (19, .bool true), (20, .bool true), (23, .int .u64 aq), (24, .int .u64 (aq + 1)), (0, .int .u64 (aq + 1)), (25, .int .u64 bq), (26, v), (27, .int .i64 (j : Int)), (28, AN v (j * 5)), (29, AN v (j * 5 + 0)), (30, .int .i64 x.e.k), (31, .int .i64 (x.e.k % 8)), (32, .int .i64 (x.e.k % 8 / 6)), (33, .int .u64 (x.e.k % 8 / 6)), (34, .int .u64 (bq + x.e.k % 8 / 6)), (1, .int .u64 (bq + x.e.k % 8 / 6)), (35, v), (36, .int .i64 (j : Int)), (37, AN v (j * 5)), (38, AN v (j * 5 + 4)), (39, .int .i64 x.e.c), (40, .int .i64 0), (41, .int .u64 (bq + x.e.k % 8 / 6)), (42, .int .u64 (max 1 (bq + x.e.k % 8 / 6))), (43, .int .u64 (aq + 1)), (44, .agg #[.int .i64 0, .int .u64 (max 1 (bq + x.e.k % 8 / 6)), .int .u64 (aq + 1), .slice none 0 0, .int .i64 0]), (11, .pointer (some ⟨g11, 0, none⟩)), (45, .pointer (some ⟨g11, 0, none⟩)), (46, .int .i64 0), (48, .bool false), (47, .bool false), (66, .bool false), (65, .bool false), (78, o.v), (79, .agg #[.int .i64 0, .int .u64 (max 1 (bq + x.e.k % 8 / 6)), .int .u64 (aq + 1), .slice none 0 0, .int .i64 0]), (80, b80), (81, ev2), (9, ev2)]) ⟨rfl, rfl, rfl, rfl, rfl, rfl, rfl, rfl, rfl, rfl, rfl, rfl, rfl, rfl, rfl, rfl, rfl, rfl, rfl, rfl, rfl, rfl, rfl, rfl, rfl, rfl, rfl, rfl, rfl, rfl, rfl, rfl, rfl, rfl, rfl, rfl, rfl, rfl, rfl, rfl, rfl, rfl, rfl, rfl, rfl, rfl, rfl, rfl, rfl, trivial⟩ (AL.mid [Cm 53 ev2 (o.l ++ [(⟨⟨0, max 1 (bq + x.e.k % 8 / 6), aq + 1, [], 0⟩, none, 0⟩ : EntV)])] (.refl _) (BB (Af Ae rfl (Aa rfl (.int .i64 ((j + 1 : Nat) : Int)) (fun b w hb hH => AJ rfl rfl rfl rfl (by rw [IntWalk.i64_in _ (by omega)]; omega) hb) (Af Ae rfl ?_)))))))))))
  refine AG ?_
  exact B6 (j + 1, aq + 1, bq + x.e.k % 8 / 6, (⟨ev2, o.l ++ [(⟨⟨0, max 1 (bq + x.e.k % 8 / 6), aq + 1, [], 0⟩, none, 0⟩ : EntV)]⟩ : EsV)) 0 (hnext (ev2 := ev2) (y := (⟨⟨0, max 1 (bq + x.e.k % 8 / 6), aq + 1, [], 0⟩, none, 0⟩ : EntV)) (by simp [Ej, hkd])) (show l.length - (j + 1) < l.length - j by omega) ⟨rfl, rfl, rfl, rfl, rfl, rfl, rfl, trivial⟩ rfl
  refine Ad (Af Ae rfl (Aa rfl (.int .i64 1) (fun b w hb hH => Ba rfl rfl (Bl Br rfl) (hH.row 0 rfl) hb) (Ab (AK (Ad (Af Ae rfl (Aa rfl (.bool true) (fun b w hb hH => A5 rfl rfl rfl (Fw (by decide)) hb) (Af Ae rfl (Ab (AE rfl (EY 1 rfl ?_)))))))))))
  refine BV 16 2 [⟨.act 0, [some false, some false], fun _ => undef, []⟩, ⟨.quiet, [none, none], fun _ => v, []⟩, ⟨.quiet, [none, none], fun _ => .int .i64 (j : Int), []⟩, ⟨.quiet, [none, none], fun _ => AN v (j * 5), [1, 2]⟩, ⟨.quiet, [none, none], fun _ => AN v (j * 5 + 3), [3]⟩, ⟨.quiet, [none, none], fun _ => x.v, [4]⟩, ⟨.quiet, [none, none], fun _ => v, []⟩, ⟨.quiet, [none, none], fun _ => .int .i64 (j : Int), []⟩, ⟨.quiet, [none, none], fun _ => AN v (j * 5), [6, 7]⟩, ⟨.quiet, [none, none], fun _ => AN v (j * 5 + 3), [8]⟩, ⟨.quiet, [none, none], fun _ => x.v, [9]⟩, ⟨.quiet, [none, none], fun _ => .int .i64 (x.e.d.length : Int), [10]⟩, ⟨.quiet, [none, none], fun _ => .int .i64 ((x.e.d.take 30).length : Int), [11]⟩, ⟨.quiet, [none, none], fun _ => .slice x.A (x.e.d.take 30).length x.c, [5, 12]⟩, ⟨.act 1, [some true, some false], fun _ => undef, [0, 13]⟩, ⟨.quiet, [some true, some true], fun _ => .pointer (some ⟨g11, 3, none⟩), []⟩] [(2, v), (3, .int .i64 (m : Int)), (8, .slice none 0 0), (9, o.v), (10, .int .i64 (j : Int)), (12, .int .i64 (j : Int)), (13, v), (14, .int .i64 (l.length : Int)), (15, .bool true), (16, .bool true), (17, .int .i64 (j : Int)), (18, .int .i64 (m : Int)), (19, .bool true), (20, .bool true), (23, .int .u64 aq), (24, .int .u64 (aq + 1)), (0, .int .u64 (aq + 1)), (25, .int .u64 bq), (26, v), (27, .int .i64 (j : Int)), (28, AN v (j * 5)), (29, AN v (j * 5 + 0)), (30, .int .i64 x.e.k), (31, .int .i64 (x.e.k % 8)), (32, .int .i64 (x.e.k % 8 / 6)), (33, .int .u64 (x.e.k % 8 / 6)), (34, .int .u64 (bq + x.e.k % 8 / 6)), (1, .int .u64 (bq + x.e.k % 8 / 6)), (35, v), (36, .int .i64 (j : Int)), (37, AN v (j * 5)), (38, AN v (j * 5 + 4)), (39, .int .i64 x.e.c), (40, .int .i64 1), (41, .int .u64 (bq + x.e.k % 8 / 6)), (42, .int .u64 (max 1 (bq + x.e.k % 8 / 6))), (43, .int .u64 (aq + 1)), (44, .agg #[.int .i64 1, .int .u64 (max 1 (bq + x.e.k % 8 / 6)), .int .u64 (aq + 1), .slice none 0 0, .int .i64 0]), (11, .pointer (some ⟨g11, 0, none⟩)), (45, .pointer (some ⟨g11, 0, none⟩)), (46, .int .i64 1), (48, .bool true), (47, .bool true)] (fun ρ => match ρ with | [r0, r1] => [DT r1 (fun d1 => Aj 5 1 encB d1 (1 :: x.e.d.take 30)) (DT r0 (fun d0 => Aj 5 1 encB d0 ([(1 : UInt8)])) (Gj)), cell g11 53 #[.int .i64 1, .int .u64 (max 1 (bq + x.e.k % 8 / 6)), .int .u64 (aq + 1), .slice none 0 0, .int .i64 0], Cm 53 o.v o.l] | _ => []) (by kernel_rfl) (by kernel_rfl) ⟨rfl, rfl, rfl, rfl, rfl, rfl, rfl, rfl, rfl, rfl, rfl, rfl, rfl, rfl, rfl, rfl, rfl, rfl, rfl, rfl, rfl, rfl, rfl, rfl, rfl, rfl, rfl, rfl, rfl, rfl, rfl, rfl, rfl, rfl, rfl, rfl, rfl, rfl, rfl, rfl, rfl, rfl, rfl, trivial⟩ rfl ?_ ?_
  refine Ac (by exact ⟨rfl, Bt.s (Bt.place (val := fun d0 : Value => d0) (t := fun d0 => Aj 5 1 encB d0 ([(1 : UInt8)])) (os' := fun d0 => [Aj 5 1 encB d0 ([(1 : UInt8)]), cell g11 53 #[.int .i64 1, .int .u64 (max 1 (bq + x.e.k % 8 / 6)), .int .u64 (aq + 1), .slice none 0 0, .int .i64 0], Cm 53 o.v o.l]) 0 rfl (by refine Tx (e := 5) (t := 49) (enc := encB) (x := .const (Value.int IntKind.u8 1)) (c := .int .u8 (((1 : UInt8)).toNat : Int)) ?_ ?_ (1 : UInt8) ?_ ?_ ?_; exact Bh; exact PD; exact rfl; exact rfl; exact rfl) (fun _ => rfl)) (fun _ => rfl)⟩) ?_
  refine Ac (by intro r0_ r1_; exact ⟨rfl, fun b w hH hb => Ah Ae rfl hb⟩) (Ac (by intro r0_ r1_; exact ⟨rfl, fun b w hH hb => Ah Ae rfl hb⟩) (Ac (by intro r0_ r1_; exact ⟨rfl, fun b w hH hb => DW Ea ((DF hv hU hS hH).1) AP (j := j) hx0 rfl rfl rfl hb⟩) (Ac (by intro r0_ r1_; exact ⟨rfl, fun b w hH hb => FR Ea (by decide) ((DF hv hU hS hH).1) (j := j) hx0 EG rfl rfl hb⟩) (Ac (by intro r0_ r1_; exact ⟨rfl, fun b w hH hb => Bq Ea (by decide) ((DF hv hU hS hH).1) (j := j) hx0 CI (off := 3) rfl rfl rfl hb⟩) (Ac (by intro r0_ r1_; exact ⟨rfl, fun b w hH hb => Ah Ae rfl hb⟩) (Ac (by intro r0_ r1_; exact ⟨rfl, fun b w hH hb => Ah Ae rfl hb⟩) (Ac (by intro r0_ r1_; exact ⟨rfl, fun b w hH hb => DW Ea ((DF hv hU hS hH).1) AP (j := j) hx0 rfl rfl rfl hb⟩) (Ac (by intro r0_ r1_; exact ⟨rfl, fun b w hH hb => FR Ea (by decide) ((DF hv hU hS hH).1) (j := j) hx0 EG rfl rfl hb⟩) (Ac (by intro r0_ r1_; exact ⟨rfl, fun b w hH hb => Bq Ea (by decide) ((DF hv hU hS hH).1) (j := j) hx0 CI (off := 3) rfl rfl rfl hb⟩) ?_)))))))))
  refine Ac (by intro r0_ r1_; exact ⟨rfl, fun b w hH hb => Be ((EC hx hU hS hH).rd) Tryz.underlying49 rfl rfl hb⟩) (Ac (by intro r0_ r1_; exact ⟨rfl, fun b w hH hb => CH rfl rfl (fun cs => (fun w cs => Tm (by rw [U9]; split <;> omega) _ _ w cs) w cs) hb⟩) (Ac (by intro r0_ r1_; exact ⟨rfl, fun b w hH hb => FQ (A := x.A) (sn := x.e.d.length) (c := x.c) (j := (x.e.d.take 30).length) Bh U7 (by have := Lb hx; rw [List.length_take]; omega) rfl rfl rfl hH hb⟩) (Ac (by intro d0; exact ⟨rfl, Bt.s (FE 0 Bh (by kernel_rfl) rfl (x.e.d.take 30) (fun w hH => (Ew.takesA 30 (EC hx hU hS hH)).rd) (by simp only [List.length_cons, List.length_nil, List.length_take]; omega) rfl rfl rfl rfl) (fun _ => rfl)⟩) (Ac (by intro d0 d1; exact ⟨rfl, fun b w hH hb => Ah Ae rfl hb⟩) ?_))))
  exact B9
  intro d0 d1
  refine BU.keep (env' := [(2, v), (3, .int .i64 (m : Int)), (8, .slice none 0 0), (9, o.v), (10, .int .i64 (j : Int)), (12, .int .i64 (j : Int)), (13, v), (14, .int .i64 (l.length : Int)), (15, .bool true), (16, .bool true), (17, .int .i64 (j : Int)), (18, .int .i64 (m : Int)), (19, .bool true), (20, .bool true), (23, .int .u64 aq), (24, .int .u64 (aq + 1)), (0, .int .u64 (aq + 1)), (25, .int .u64 bq), (26, v), (27, .int .i64 (j : Int)), (28, AN v (j * 5)), (29, AN v (j * 5 + 0)), (30, .int .i64 x.e.k), (31, .int .i64 (x.e.k % 8)), (32, .int .i64 (x.e.k % 8 / 6)), (33, .int .u64 (x.e.k % 8 / 6)), (34, .int .u64 (bq + x.e.k % 8 / 6)), (1, .int .u64 (bq + x.e.k % 8 / 6)), (35, v), (36, .int .i64 (j : Int)), (37, AN v (j * 5)), (38, AN v (j * 5 + 4)), (39, .int .i64 x.e.c), (40, .int .i64 1), (41, .int .u64 (bq + x.e.k % 8 / 6)), (42, .int .u64 (max 1 (bq + x.e.k % 8 / 6))), (43, .int .u64 (aq + 1)), (44, .agg #[.int .i64 1, .int .u64 (max 1 (bq + x.e.k % 8 / 6)), .int .u64 (aq + 1), .slice none 0 0, .int .i64 0]), (11, .pointer (some ⟨g11, 0, none⟩)), (45, .pointer (some ⟨g11, 0, none⟩)), (46, .int .i64 1), (48, .bool true), (47, .bool true), (49, d0), (50, v), (51, .int .i64 (j : Int)), (52, AN v (j * 5)), (53, AN v (j * 5 + 3)), (54, x.v), (55, v), (56, .int .i64 (j : Int)), (57, AN v (j * 5)), (58, AN v (j * 5 + 3)), (59, x.v), (60, .int .i64 (x.e.d.length : Int)), (61, .int .i64 ((x.e.d.take 30).length : Int)), (62, .slice x.A (x.e.d.take 30).length x.c), (63, d1), (64, .pointer (some ⟨g11, 3, none⟩))]) ⟨rfl, rfl, rfl, rfl, rfl, rfl, rfl, rfl, rfl, rfl, rfl, rfl, rfl, rfl, rfl, rfl, rfl, rfl, rfl, rfl, rfl, rfl, rfl, rfl, rfl, rfl, rfl, rfl, rfl, rfl, rfl, rfl, rfl, rfl, rfl, rfl, rfl, rfl, rfl, rfl, rfl, rfl, rfl, rfl, rfl, rfl, rfl, rfl, rfl, rfl, rfl, rfl, rfl, rfl, rfl, rfl, rfl, rfl, rfl, trivial⟩ (Af Ae rfl (AR (post := fun _ => [Aj 5 1 encB d1 (1 :: x.e.d.take 30), cell g11 53 #[.int .i64 1, .int .u64 (max 1 (bq + x.e.k % 8 / 6)), .int .u64 (aq + 1), d1, .int .i64 0], Cm 53 o.v o.l]) rfl rfl (Ez 1 0 (v := d1) #[.int .i64 1, .int .u64 (max 1 (bq + x.e.k % 8 / 6)), .int .u64 (aq + 1), d1, .int .i64 0] CI.2 rfl (fun _ h => Aj.c1 h) rfl rfl rfl rfl rfl rfl rfl) ?_)); rintro ⟨⟩
  refine AG (A6 (AC (AL.fact 0 rfl (fun _ h => Aj.is h) ?_))); rintro ⟨A3, c3, rfl⟩
  refine AL.keep (env' := [(2, v), (3, .int .i64 (m : Int)), (8, .slice none 0 0), (9, o.v), (10, .int .i64 (j : Int)), (12, .int .i64 (j : Int)), (13, v), (14, .int .i64 (l.length : Int)), (15, .bool true), (16, .bool true), (17, .int .i64 (j : Int)), (18, .int .i64 (m : Int)), (19, .bool true), (20, .bool true), (23, .int .u64 aq), (24, .int .u64 (aq + 1)), (0, .int .u64 (aq + 1)), (25, .int .u64 bq), (26, v), (27, .int .i64 (j : Int)), (28, AN v (j * 5)), (29, AN v (j * 5 + 0)), (30, .int .i64 x.e.k), (31, .int .i64 (x.e.k % 8)), (32, .int .i64 (x.e.k % 8 / 6)), (33, .int .u64 (x.e.k % 8 / 6)), (34, .int .u64 (bq + x.e.k % 8 / 6)), (1, .int .u64 (bq + x.e.k % 8 / 6)), (35, v), (36, .int .i64 (j : Int)), (37, AN v (j * 5)), (38, AN v (j * 5 + 4)), (39, .int .i64 x.e.c), (40, .int .i64 1), (41, .int .u64 (bq + x.e.k % 8 / 6)), (42, .int .u64 (max 1 (bq + x.e.k % 8 / 6))), (43, .int .u64 (aq + 1)), (44, .agg #[.int .i64 1, .int .u64 (max 1 (bq + x.e.k % 8 / 6)), .int .u64 (aq + 1), .slice none 0 0, .int .i64 0]), (11, .pointer (some ⟨g11, 0, none⟩)), (45, .pointer (some ⟨g11, 0, none⟩)), (46, .int .i64 1), (48, .bool true), (47, .bool true), (49, d0), (50, v), (51, .int .i64 (j : Int)), (52, AN v (j * 5)), (53, AN v (j * 5 + 3)), (54, x.v), (55, v), (56, .int .i64 (j : Int)), (57, AN v (j * 5)), (58, AN v (j * 5 + 3)), (59, x.v), (60, .int .i64 (x.e.d.length : Int)), (61, .int .i64 ((x.e.d.take 30).length : Int)), (62, .slice x.A (x.e.d.take 30).length x.c), (63, .slice A3 (1 :: x.e.d.take 30).length c3), (64, .pointer (some ⟨g11, 3, none⟩))]) ⟨rfl, rfl, rfl, rfl, rfl, rfl, rfl, rfl, rfl, rfl, rfl, rfl, rfl, rfl, rfl, rfl, rfl, rfl, rfl, rfl, rfl, rfl, rfl, rfl, rfl, rfl, rfl, rfl, rfl, rfl, rfl, rfl, rfl, rfl, rfl, rfl, rfl, rfl, rfl, rfl, rfl, rfl, rfl, rfl, rfl, rfl, rfl, rfl, rfl, rfl, rfl, rfl, rfl, rfl, rfl, rfl, rfl, rfl, rfl, trivial⟩ (AL.mid [Aj 5 1 encB (.slice A3 (1 :: x.e.d.take 30).length c3) (1 :: x.e.d.take 30), cell g11 53 #[.int .i64 1, .int .u64 (max 1 (bq + x.e.k % 8 / 6)), .int .u64 (aq + 1), .slice A3 (1 :: x.e.d.take 30).length c3, .int .i64 0], Cm 53 o.v o.l] (.refl _) (AX 2 rfl C5 (fun _ => rfl) ?_)); rintro ⟨⟩
  refine BB (Af Ae rfl (Aa rfl (.agg #[.int .i64 1, .int .u64 (max 1 (bq + x.e.k % 8 / 6)), .int .u64 (aq + 1), .slice A3 (1 :: x.e.d.take 30).length c3, .int .i64 0]) (fun b w hb hH => Ba rfl rfl (Ft (cs := [.int .i64 1, .int .u64 (max 1 (bq + x.e.k % 8 / 6)), .int .u64 (aq + 1), .slice A3 (1 :: x.e.d.take 30).length c3, .int .i64 0]) B0 rfl) (hH.row 3 rfl) hb) ?_))
  refine Al (X := Value) (val := fun v : Value => v) (post := fun b80 => [Aj 53 5 encV b80 ([(⟨⟨1, max 1 (bq + x.e.k % 8 / 6), aq + 1, 1 :: x.e.d.take 30, 0⟩, A3, c3⟩ : EntV)]), Aj 53 5 encV o.v o.l, AY (fun x : EntV => Aj 5 1 encB x.v x.e.d) o.l, Aj 5 1 encB (.slice A3 (1 :: x.e.d.take 30).length c3) (1 :: x.e.d.take 30), cell g11 53 #[.int .i64 1, .int .u64 (max 1 (bq + x.e.k % 8 / 6)), .int .u64 (aq + 1), .slice A3 (1 :: x.e.d.take 30).length c3, .int .i64 0]]) rfl (by refine Dm (e := 53) (t := 39) (k := 5) (enc := encV) (x := .tmp 79) (c := .agg #[.int .i64 1, .int .u64 (max 1 (bq + x.e.k % 8 / 6)), .int .u64 (aq + 1), .slice A3 (1 :: x.e.d.take 30).length c3, .int .i64 0]) ?_ ?_ ?_ (⟨⟨1, max 1 (bq + x.e.k % 8 / 6), aq + 1, 1 :: x.e.d.take 30, 0⟩, A3, c3⟩ : EntV) ?_ ?_ ?_; exact AP; exact (by decide); exact Ea; exact rfl; exact rfl; exact rfl) ?_; rintro b80
  refine Al (post := fun ev2 => [Aj 53 5 encV b80 ([(⟨⟨1, max 1 (bq + x.e.k % 8 / 6), aq + 1, 1 :: x.e.d.take 30, 0⟩, A3, c3⟩ : EntV)]), Aj 53 5 encV ev2 (o.l ++ [(⟨⟨1, max 1 (bq + x.e.k % 8 / 6), aq + 1, 1 :: x.e.d.take 30, 0⟩, A3, c3⟩ : EntV)]), AY (fun x : EntV => Aj 5 1 encB x.v x.e.d) o.l, Aj 5 1 encB (.slice A3 (1 :: x.e.d.take 30).length c3) (1 :: x.e.d.take 30), cell g11 53 #[.int .i64 1, .int .u64 (max 1 (bq + x.e.k % 8 / 6)), .int .u64 (aq + 1), .slice A3 (1 :: x.e.d.take 30).length c3, .int .i64 0]]) rfl (Df (nb := 56) 1 AP Ea (by kernel_rfl) (by decide) rfl ([(⟨⟨1, max 1 (bq + x.e.k % 8 / 6), aq + 1, 1 :: x.e.d.take 30, 0⟩, A3, c3⟩ : EntV)]) (fun w hH => hH.vec 0 rfl Ea) (by simp only [List.length_cons, List.length_nil]; omega) rfl rfl rfl rfl) ?_; rintro ev2
  refine Af Ae rfl (AG (A6 (AC (AL.leave [0, 4] rfl rfl (Bj [0, 1, 2] rfl (Gt (l := o.l) (x := (⟨⟨1, max 1 (bq + x.e.k % 8 / 6), aq + 1, 1 :: x.e.d.take 30, 0⟩, A3, c3⟩ : EntV))) rfl (AL.keep (env' := [(2, v), (3, .int .i64 (m : Int)), (8, .slice none 0 0), (10, .int .i64 (j : Int)), (12, .int .i64 (j : Int)), (13, v), (14, .int .i64 (l.length : Int)), (15, .bool true), (16, .bool true), (17, .int .i64 (j : Int)), (18, .int .i64 (m : Int)), (19, .bool true), (20, .bool true), (23, .int .u64 aq), (24, .int .u64 (aq + 1)), (0, .int .u64 (aq + 1)), (25, .int .u64 bq), (26, v), (27, .int .i64 (j : Int)), (28, AN v (j * 5)), (29, AN v (j * 5 + 0)), (30, .int .i64 x.e.k), (31, .int .i64 (x.e.k % 8)), (32, .int .i64 (x.e.k % 8 / 6)), (33, .int .u64 (x.e.k % 8 / 6)), (34, .int .u64 (bq + x.e.k % 8 / 6)), (1, .int .u64 (bq + x.e.k % 8 / 6)), (35, v), (36, .int .i64 (j : Int)), (37, AN v (j * 5)), (38, AN v (j * 5 + 4)), (39, .int .i64 x.e.c), (40, .int .i64 1), (41, .int .u64 (bq + x.e.k % 8 / 6)), (42, .int .u64 (max 1 (bq + x.e.k % 8 / 6))), (43, .int .u64 (aq + 1)), (44, .agg #[.int .i64 1, .int .u64 (max 1 (bq + x.e.k % 8 / 6)), .int .u64 (aq + 1), .slice none 0 0, .int .i64 0]), (11, .pointer (some ⟨g11, 0, none⟩)), (45, .pointer (some ⟨g11, 0, none⟩)), (46, .int .i64 1), (48, .bool true), (47, .bool true), (49, d0), (50, v), (51, .int .i64 (j : Int)), (52, AN v (j * 5)), (53, AN v (j * 5 + 3)), (54, x.v), (55, v), (56, .int .i64 (j : Int)), (57, AN v (j * 5)), (58, AN v (j * 5 + 3)), (59, x.v), (60, .int .i64 (x.e.d.length : Int)), (61, .int .i64 ((x.e.d.take 30).length : Int)), (62, .slice x.A (x.e.d.take 30).length x.c), (63, .slice A3 (1 :: x.e.d.take 30).length c3), (64, .pointer (some ⟨g11, 3, none⟩)), (78, o.v), (79, .agg #[.int .i64 1, .int .u64 (max 1 (bq + x.e.k % 8 / 6)), .int .u64 (aq + 1), .slice A3 (1 :: x.e.d.take 30).length c3, .int .i64 0]), (80, b80), (81, ev2), (9, ev2)]) ⟨rfl, rfl, rfl, rfl, rfl, rfl, rfl, rfl, rfl, rfl, rfl, rfl, rfl, rfl, rfl, rfl, rfl, rfl, rfl, rfl, rfl, rfl, rfl, rfl, rfl, rfl, rfl, rfl, rfl, rfl, rfl, rfl, rfl, rfl, rfl, rfl, rfl, rfl, rfl, rfl, rfl, rfl, rfl, rfl, rfl, rfl, rfl, rfl, rfl, rfl, rfl, rfl, rfl, rfl, rfl, rfl, rfl, rfl, rfl, rfl, rfl, rfl, rfl, trivial⟩ (AL.mid [Cm 53 ev2 (o.l ++ [(⟨⟨1, max 1 (bq + x.e.k % 8 / 6), aq + 1, 1 :: x.e.d.take 30, 0⟩, A3, c3⟩ : EntV)])] (.refl _) (BB (Af Ae rfl (Aa rfl (.int .i64 ((j + 1 : Nat) : Int)) (fun b w hb hH => AJ rfl rfl rfl rfl (by rw [IntWalk.i64_in _ (by omega)]; omega) hb) (Af Ae rfl ?_)))))))))))
  refine AG ?_
  exact B6 (j + 1, aq + 1, bq + x.e.k % 8 / 6, (⟨ev2, o.l ++ [(⟨⟨1, max 1 (bq + x.e.k % 8 / 6), aq + 1, 1 :: x.e.d.take 30, 0⟩, A3, c3⟩ : EntV)]⟩ : EsV)) 0 (hnext (ev2 := ev2) (y := (⟨⟨1, max 1 (bq + x.e.k % 8 / 6), aq + 1, 1 :: x.e.d.take 30, 0⟩, A3, c3⟩ : EntV)) (by simp [Ej, hkd])) (show l.length - (j + 1) < l.length - j by omega) ⟨rfl, rfl, rfl, rfl, rfl, rfl, rfl, trivial⟩ rfl
  refine Ad (Af Ae rfl (Aa rfl (.int .i64 2) (fun b w hb hH => Ba rfl rfl (Bl Br rfl) (hH.row 0 rfl) hb) (Ab (AK (Ad (Af Ae rfl (Aa rfl (.bool false) (fun b w hb hH => A5 rfl rfl rfl (EM (by decide)) hb) (Af Ae rfl (Ab (Au rfl (Ad (Af Ae rfl (Aa rfl (.bool true) (fun b w hb hH => A5 rfl rfl rfl (Fw (by decide)) hb) ?_)))))))))))))
  refine Af Ae rfl (Ab (AE rfl (BB (Af Ae rfl (Aa rfl (AN v (j * 5)) (fun b w hb hH => DW Ea ((DF hv hU hS hH).1) AP (j := j) hx0 rfl rfl rfl hb) (Aa rfl (AN v (j * 5 + 1)) (fun b w hb hH => FR Ea (by decide) ((DF hv hU hS hH).1) (j := j) hx0 F2 rfl rfl hb) (Aa rfl (.int .u64 x.e.t) (fun b w hb hH => Bq Ea (by decide) ((DF hv hU hS hH).1) (j := j) hx0 AQ (off := 1) rfl rfl rfl hb) (Aa rfl (.int .u64 (x.e.t % 200)) (fun b w hb hH => Gu rfl rfl rfl (by decide) (Int.tmod_eq_emod_of_nonneg ho.t.1) hb) (Aa rfl (.int .i64 (x.e.t % 200)) (fun b w hb hH => Bi Tryz.underlying38 Tryz.underlying3 (IntWalk.i64_in _ (by omega)) rfl rfl hb) (Al (post := fun _ => [cell g11 53 #[.int .i64 2, .int .u64 (max 1 (bq + x.e.k % 8 / 6)), .int .u64 (aq + 1), .slice none 0 0, .int .i64 0], Cm 53 o.v o.l]) rfl (Bk (Ai Tryz.func6 (by kernel_rfl) rfl) (fun w hH => pick w (x.e.t % 200) 31 ⟨by omega, by omega⟩ (by decide) rfl) rfl rfl rfl) ?_)))))))))); rintro ⟨⟩
  refine Aa rfl (.int .i64 (1 + x.e.t % 200 % 31)) (fun b w hb hH => AJ rfl rfl rfl rfl (IntWalk.i64_in _ (by omega)) hb) (Aa rfl (.int .i64 (2 * (1 + x.e.t % 200 % 31))) (fun b w hb hH => AJ rfl rfl rfl rfl (IntWalk.i64_in _ (by omega)) hb) (Af Ae rfl (AR (post := fun _ => [cell g11 53 #[.int .i64 2, .int .u64 (max 1 (bq + x.e.k % 8 / 6)), .int .u64 (aq + 1), .slice none 0 0, .int .i64 (2 * (1 + x.e.t % 200 % 31))], Cm 53 o.v o.l]) rfl rfl (AZ 0 (v := .int .i64 (2 * (1 + x.e.t % 200 % 31))) #[.int .i64 2, .int .u64 (max 1 (bq + x.e.k % 8 / 6)), .int .u64 (aq + 1), .slice none 0 0, .int .i64 (2 * (1 + x.e.t % 200 % 31))] Br.2 rfl rfl rfl rfl rfl rfl rfl rfl rfl) ?_))); rintro ⟨⟩
  refine AG (A6 (AC (BK 5 1 encB (AX 2 rfl C5 (fun _ => rfl) ?_)))); rintro ⟨⟩
  refine BB (Af Ae rfl (Aa rfl (.agg #[.int .i64 2, .int .u64 (max 1 (bq + x.e.k % 8 / 6)), .int .u64 (aq + 1), .slice none 0 0, .int .i64 (2 * (1 + x.e.t % 200 % 31))]) (fun b w hb hH => Ba rfl rfl (Ft (cs := [.int .i64 2, .int .u64 (max 1 (bq + x.e.k % 8 / 6)), .int .u64 (aq + 1), .slice none 0 0, .int .i64 (2 * (1 + x.e.t % 200 % 31))]) B0 rfl) (hH.row 3 rfl) hb) ?_))
  refine Al (X := Value) (val := fun v : Value => v) (post := fun b80 => [Aj 53 5 encV b80 ([(⟨⟨2, max 1 (bq + x.e.k % 8 / 6), aq + 1, [], 2 * (1 + x.e.t % 200 % 31)⟩, none, 0⟩ : EntV)]), Aj 53 5 encV o.v o.l, AY (fun x : EntV => Aj 5 1 encB x.v x.e.d) o.l, Aj 5 1 encB (.slice none 0 0) ([]), cell g11 53 #[.int .i64 2, .int .u64 (max 1 (bq + x.e.k % 8 / 6)), .int .u64 (aq + 1), .slice none 0 0, .int .i64 (2 * (1 + x.e.t % 200 % 31))]]) rfl (by refine Dm (e := 53) (t := 39) (k := 5) (enc := encV) (x := .tmp 79) (c := .agg #[.int .i64 2, .int .u64 (max 1 (bq + x.e.k % 8 / 6)), .int .u64 (aq + 1), .slice none 0 0, .int .i64 (2 * (1 + x.e.t % 200 % 31))]) ?_ ?_ ?_ (⟨⟨2, max 1 (bq + x.e.k % 8 / 6), aq + 1, [], 2 * (1 + x.e.t % 200 % 31)⟩, none, 0⟩ : EntV) ?_ ?_ ?_; exact AP; exact (by decide); exact Ea; exact rfl; exact rfl; exact rfl) ?_; rintro b80
  refine Al (post := fun ev2 => [Aj 53 5 encV b80 ([(⟨⟨2, max 1 (bq + x.e.k % 8 / 6), aq + 1, [], 2 * (1 + x.e.t % 200 % 31)⟩, none, 0⟩ : EntV)]), Aj 53 5 encV ev2 (o.l ++ [(⟨⟨2, max 1 (bq + x.e.k % 8 / 6), aq + 1, [], 2 * (1 + x.e.t % 200 % 31)⟩, none, 0⟩ : EntV)]), AY (fun x : EntV => Aj 5 1 encB x.v x.e.d) o.l, Aj 5 1 encB (.slice none 0 0) ([]), cell g11 53 #[.int .i64 2, .int .u64 (max 1 (bq + x.e.k % 8 / 6)), .int .u64 (aq + 1), .slice none 0 0, .int .i64 (2 * (1 + x.e.t % 200 % 31))]]) rfl (Df (nb := 56) 1 AP Ea (by kernel_rfl) (by decide) rfl ([(⟨⟨2, max 1 (bq + x.e.k % 8 / 6), aq + 1, [], 2 * (1 + x.e.t % 200 % 31)⟩, none, 0⟩ : EntV)]) (fun w hH => hH.vec 0 rfl Ea) (by simp only [List.length_cons, List.length_nil]; omega) rfl rfl rfl rfl) ?_; rintro ev2
  refine Af Ae rfl (AG (A6 (AC (AL.leave [0, 4] rfl rfl (Bj [0, 1, 2] rfl (Gt (l := o.l) (x := (⟨⟨2, max 1 (bq + x.e.k % 8 / 6), aq + 1, [], 2 * (1 + x.e.t % 200 % 31)⟩, none, 0⟩ : EntV))) rfl (AL.keep (env' := [(2, v), (3, .int .i64 (m : Int)), (8, .slice none 0 0), (10, .int .i64 (j : Int)), (12, .int .i64 (j : Int)), (13, v), (14, .int .i64 (l.length : Int)), (15, .bool true), (16, .bool true), (17, .int .i64 (j : Int)), (18, .int .i64 (m : Int)), (19, .bool true), (20, .bool true), (23, .int .u64 aq), (24, .int .u64 (aq + 1)), (0, .int .u64 (aq + 1)), (25, .int .u64 bq), (26, v), (27, .int .i64 (j : Int)), (28, AN v (j * 5)), (29, AN v (j * 5 + 0)), (30, .int .i64 x.e.k), (31, .int .i64 (x.e.k % 8)), (32, .int .i64 (x.e.k % 8 / 6)), (33, .int .u64 (x.e.k % 8 / 6)), (34, .int .u64 (bq + x.e.k % 8 / 6)), (1, .int .u64 (bq + x.e.k % 8 / 6)), (35, v), (36, .int .i64 (j : Int)), (37, AN v (j * 5)), (38, AN v (j * 5 + 4)), (39, .int .i64 x.e.c), (40, .int .i64 2), (41, .int .u64 (bq + x.e.k % 8 / 6)), (42, .int .u64 (max 1 (bq + x.e.k % 8 / 6))), (43, .int .u64 (aq + 1)), (44, .agg #[.int .i64 2, .int .u64 (max 1 (bq + x.e.k % 8 / 6)), .int .u64 (aq + 1), .slice none 0 0, .int .i64 0]), (11, .pointer (some ⟨g11, 0, none⟩)), (45, .pointer (some ⟨g11, 0, none⟩)), (46, .int .i64 2), (48, .bool false), (47, .bool false), (66, .bool true), (65, .bool true), (67, v), (68, .int .i64 (j : Int)), (69, AN v (j * 5)), (70, AN v (j * 5 + 1)), (71, .int .u64 x.e.t), (72, .int .u64 (x.e.t % 200)), (73, .int .i64 (x.e.t % 200)), (74, .int .i64 (x.e.t % 200 % 31)), (75, .int .i64 (1 + x.e.t % 200 % 31)), (76, .int .i64 (2 * (1 + x.e.t % 200 % 31))), (77, .pointer (some ⟨g11, 4, none⟩)), (78, o.v), (79, .agg #[.int .i64 2, .int .u64 (max 1 (bq + x.e.k % 8 / 6)), .int .u64 (aq + 1), .slice none 0 0, .int .i64 (2 * (1 + x.e.t % 200 % 31))]), (80, b80), (81, ev2), (9, ev2)]) ⟨rfl, rfl, rfl, rfl, rfl, rfl, rfl, rfl, rfl, rfl, rfl, rfl, rfl, rfl, rfl, rfl, rfl, rfl, rfl, rfl, rfl, rfl, rfl, rfl, rfl, rfl, rfl, rfl, rfl, rfl, rfl, rfl, rfl, rfl, rfl, rfl, rfl, rfl, rfl, rfl, rfl, rfl, rfl, rfl, rfl, rfl, rfl, rfl, rfl, rfl, rfl, rfl, rfl, rfl, rfl, rfl, rfl, rfl, rfl, rfl, trivial⟩ (AL.mid [Cm 53 ev2 (o.l ++ [(⟨⟨2, max 1 (bq + x.e.k % 8 / 6), aq + 1, [], 2 * (1 + x.e.t % 200 % 31)⟩, none, 0⟩ : EntV)])] (.refl _) (BB (Af Ae rfl (Aa rfl (.int .i64 ((j + 1 : Nat) : Int)) (fun b w hb hH => AJ rfl rfl rfl rfl (by rw [IntWalk.i64_in _ (by omega)]; omega) hb) (Af Ae rfl ?_)))))))))))
  refine AG ?_
  exact B6 (j + 1, aq + 1, bq + x.e.k % 8 / 6, (⟨ev2, o.l ++ [(⟨⟨2, max 1 (bq + x.e.k % 8 / 6), aq + 1, [], 2 * (1 + x.e.t % 200 % 31)⟩, none, 0⟩ : EntV)]⟩ : EsV)) 0 (hnext (ev2 := ev2) (y := (⟨⟨2, max 1 (bq + x.e.k % 8 / 6), aq + 1, [], 2 * (1 + x.e.t % 200 % 31)⟩, none, 0⟩ : EntV)) (by simp [Ej, hkd])) (show l.length - (j + 1) < l.length - j by omega) ⟨rfl, rfl, rfl, rfl, rfl, rfl, rfl, trivial⟩ rfl
  have hjN : l.length ≤ j ∨ m ≤ j := .inl hjl
  refine Ad (Af Ae rfl (Aa rfl (.int .i64 (l.length : Int)) (fun b w hb hH => Be ((DF hv hU hS hH).1) Tryz.underlying39 rfl rfl hb) (Aa rfl (.bool false) (fun b w hb hH => A5 rfl rfl rfl (BI (by omega)) hb) (Af Ae rfl (Ab (Au rfl (CJ (Fq (Fq (Bg (AC (Ad (Af Ae rfl (Ab (AB ?_)))))))))))))))
  exact AA (.tmp rfl) (fun w h => AH o rfl [0] rfl h (fun z hz => ⟨z, .refl _, D1 (xs := [_]) (Py hI hjN) hz⟩)) rfl
  have hjN : l.length ≤ j ∨ m ≤ j := .inr hjm
  refine Ad (Af Ae rfl (Aa rfl (.int .i64 (l.length : Int)) (fun b w hb hH => Be ((DF hv hU hS hH).1) Tryz.underlying39 rfl rfl hb) (Aa rfl (.bool true) (fun b w hb hH => A5 rfl rfl rfl (BY (by omega)) hb) (Af Ae rfl (Aa rfl (.bool false) (fun b w hb hH => A5 rfl rfl rfl (BI (by omega)) hb) (Af Ae rfl (Ab (Au rfl (CJ (Fq (Fq (Bg (AC (Ad (Af Ae rfl (Ab (AB ?_)))))))))))))))))
  exact AA (.tmp rfl) (fun w h => AH o rfl [0] rfl h (fun z hz => ⟨z, .refl _, D1 (xs := [_]) (Py hI hjN) hz⟩)) rfl
end Go.Proofs.YtjcfimmcogkopaaGreatDoor.Sep
namespace Go.Proofs.YtjcfimmcogkopaaGreatDoor.Sep
open Go.RowKit
theorem RY : ∀ (l : List EntD) (A : List EntD) (ix tm : Int), LogC A → 0 ≤ ix → ix + (l.length : Int) < 1000 → 0 ≤ tm → tm + (l.length : Int) < 1000 → (A = [] ∨ ((AD A).2 = ix ∧ (AD A).1 ≤ max 1 tm)) → LogC (A ++ DA ix tm l)
  | [], A, ix, tm, h, _, _, _, _, _ => by
    show LogC (A ++ [])
    rw [List.append_nil]; exact h
  | e :: r, A, ix, tm, h, h1, h2, h3, h4, h5 => by
    have hk0 := Int.emod_nonneg e.k (show (8 : Int) ≠ 0 by decide)
    have hk8 := Int.emod_lt_of_pos e.k (show (0 : Int) < 8 by decide)
    have hl : ((e :: r).length : Int) = (r.length : Int) + 1 := by rw [List.length_cons]; push_cast; rfl
    rw [hl] at h2 h4
    have hr := Px (ix := ix) (tm := tm) (e := e) ⟨h1, by omega⟩ ⟨h3, by omega⟩
    have hf : Fh (AD A) (Ej ix tm e) := by
      rcases h5 with rfl | ⟨h5, h6⟩
      · exact N2 _
      · refine ⟨?_, by omega, by omega⟩
        by_cases h0 : (AD A).2 = 0
        · exact .inl h0
        · exact .inr ⟨h0, by show ix + 1 = _; omega, by show _ ≤ max 1 (tm + e.k % 8 / 6); omega⟩
    have h6 := RY r (A ++ [Ej ix tm e]) (ix + 1) (tm + e.k % 8 / 6) (h.push hr hf) (by omega) (by omega) (by omega) (by omega) (.inr (by
      rw [D3]
      exact ⟨rfl, Int.le_refl _⟩))
    rw [List.append_assoc] at h6
    exact h6
theorem RZ : ∀ (l : List EntD) (ix tm : Int) (k : Nat) (y : EntD), (DA ix tm l)[k]? = some y → y.i = ix + (k : Int) + 1
  | [], _, _, k, y, h => by simp [DA] at h
  | e :: r, ix, tm, 0, y, h => by
    simp only [DA, List.getElem?_cons_zero, Option.some.injEq] at h
    rw [← h]
    show ix + 1 = ix + ((0 : Nat) : Int) + 1
    omega
  | e :: r, ix, tm, k + 1, y, h => by
    simp only [DA, List.getElem?_cons_succ] at h
    have := RZ r (ix + 1) (tm + e.k % 8 / 6) k y h
    push_cast
    omega
end Go.Proofs.YtjcfimmcogkopaaGreatDoor.Sep
