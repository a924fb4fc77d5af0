/-
  Opn · Opz · EntM · Each · CmdA · CmdB · CmdR · CmdL · CmdO · Crc · Sum · Seal · RpcM · RpcO · Opw
-/
import Derived.Test.YtikcleaicbihfaaAC01
import Derived.Test.YtikcleaicbihfaaAD04
import Derived.Test.YtikcleaicbihfaaAD05
import Derived.Test.YtikcleaicbihfaaAE01
import Derived.SizedLaws
import Derived.Lib.SmallJoins
import Derived.ChangeMaps5
import Derived.Deep.QuietTactic
import Derived.BigQuiet
set_option linter.unusedSimpArgs false
set_option linter.unusedVariables false

namespace Go.Proofs.Ytikcleaicbihfaa.Sep
open Go.ChangeShapes Go.WideShapes Go.ChangeAt Go.RowKit
/-- one step of a play -/
structure StepD where
  what : Int
  k : Int
  v : Int
  near : Bool
instance : Inhabited StepD := ⟨⟨0, 0, 0, false⟩⟩
def StepD.ok (x : StepD) : Prop := (-9223372036854775808 ≤ x.what ∧ x.what ≤ 9223372036854775807) ∧ (0 ≤ x.k ∧ x.k ≤ 18446744073709551615) ∧ (-9223372036854775808 ≤ x.v ∧ x.v ≤ 9223372036854775807)
section
variable {H : Type} {enc : TypeId × Value → H} {W : World} {base b0 : Nat} {r : Reach} {spare : Nat → Bool} {held : Bool} {v : Value} {d : DataW H} {p : List MemPlace}
end
end Go.Proofs.Ytikcleaicbihfaa.Sep

namespace Go.Proofs.Ytikcleaicbihfaa.Sep
open Go.ChangeShapes Go.WideShapes Go.ChangeAt Go.RowKit
section
variable {H : Type} {enc : TypeId × Value → H} {P : Program}
/-- no slice or string in it is greater than memory may be -/
def SizedD (P : Program) (t : TypeId) (d : DataW H) : Prop := ∀ n ∈ d.weights P t, n ≤ reachBytes
theorem sized_arg {ts : List TypeId} {ds : List (DataW H)} (h : (DataW.weightsEach P ts ds).all (· ≤ reachBytes) = true) {j : Nat} {t : TypeId} {d : DataW H} (ht : ts[j]? = some t) (hd : ds[j]? = some d) : SizedD P t d := fun n hn => by
  have := List.all_eq_true.1 h n (DataW.weights_mem_each ht hd n hn)
  simpa using this
theorem SizedD.field {t : TypeId} {fs : Array Field} {parts : List (DataW H)} {j : Nat} {f : Field} {d : DataW H} (h : SizedD P t (.agg parts)) (hu : P.underlying t = some (.struct fs)) (hf : fs[j]? = some f) (hd : parts[j]? = some d) : SizedD P f.type d := fun n hn => by
  refine h n ?_
  have hm := DataW.weights_mem_each (P := P) (ts := fs.toList.map (·.type)) (ds := parts) (j := j) (t := f.type) (d := d) (by simp [hf]) hd n hn
  simpa [DataW.weights, hu] using hm
theorem SizedD.len {t e : TypeId} {es sp : List (DataW H)} (h : SizedD P t (.slice es sp)) (hu : P.underlying t = some (.slice e)) : es.length * P.bytesOf e ≤ reachBytes := by
  have := h ((es.length + sp.length) * P.bytesOf e) (by simp [DataW.weights, hu])
  exact Nat.le_trans (Nat.mul_le_mul_right _ (Nat.le_add_right _ _)) this
theorem weights_all {e : TypeId} : ∀ {es : List (DataW H)} {j : Nat} {d : DataW H}, es[j]? = some d → ∀ n ∈ d.weights P e, n ∈ DataW.weightsAll P e es
  | [], _, _, h, _, _ => by simp at h
  | d0 :: r, 0, d, h, n, hn => by
    simp only [List.getElem?_cons_zero, Option.some.injEq] at h
    subst h
    simp only [DataW.weightsAll, List.mem_append]
    exact .inl hn
  | d0 :: r, j + 1, d, h, n, hn => by
    simp only [List.getElem?_cons_succ] at h
    simp only [DataW.weightsAll, List.mem_append]
    exact .inr (weights_all h n hn)
theorem SizedD.elem {t e : TypeId} {es sp : List (DataW H)} (h : SizedD P t (.slice es sp)) (hu : P.underlying t = some (.slice e)) {j : Nat} {d : DataW H} (hd : es[j]? = some d) : SizedD P e d := fun n hn => by
  refine h n ?_
  have := weights_all (P := P) hd n hn
  simp [DataW.weights, hu, this]
theorem open_slice_s {α : Type} [Inhabited α] {k : Nat} {enc' : α → List Value} {ok : α → Prop} {t e : TypeId} (he : EncOf k enc') (hk : 0 < k) (hu : P.underlying t = some (.slice e)) (hC : P.cellsOf e = k) {W : World} {base : Nat} {spare : Nat → Bool} {held : Bool} {v : Value} {n0 : Nat} {x0 : DataW H × List MemPlace}
    (hel : ∀ (n : Nat) (cs : List Value) (x : DataW H × List MemPlace), cs.length = k → DataW.trod enc P W base spare held n e cs = some x → SizedD P e x.1 → ∃ y : α, cs = enc' y ∧ ok y)
    (hf : DataW.trod enc P W base spare held n0 t [v] = some x0) (hs : SizedD P t x0.1) : ∃ A c, ∃ l : List α, v = .slice A l.length c ∧ l.length * P.bytesOf e ≤ reachBytes ∧ SlRd W k v l.length (flat enc' l) ∧ ∀ y ∈ l, ok y := by
  rcases DataW.trod_slice hu hf with ⟨hcs, hx⟩ | ⟨a, len, cap, elems, rest, n, _, hcs, hx, _, hl, hm, hlen, hels, _, _⟩
  · simp at hcs
    subst hcs
    exact ⟨none, 0, [], rfl, by simp, ⟨by simp [flat], none, 0, rfl, .inl ⟨rfl, rfl⟩⟩, fun y hy => by cases hy⟩
  · simp at hcs
    subst hcs
    rw [hC] at hels
    rw [(Prod.mk.inj hx).1] at hs
    have hsl := hs.len hu
    rw [List.length_map] at hsl
    have each : ∀ i, i < len → ∃ y : α, ok y ∧ ∀ j x, (enc' y)[j]? = some x → W.cell? ((a.add (i * k)).add j) = some x := by
      intro i hi
      have h1 := hels i hi
      rw [List.getElem?_eq_getElem (show i < elems.length by omega), Option.bind_eq_some_iff] at h1
      obtain ⟨cs', hcs, ht⟩ := h1
      obtain ⟨_, hcl, hat⟩ := World.cells?_some hcs
      obtain ⟨y, rfl, hy⟩ := hel _ _ _ hcl ht (hs.elem hu (j := i) (by rw [List.getElem?_map, List.getElem?_eq_getElem (show i < elems.length by omega)]; rfl))
      exact ⟨y, hy, fun j x hj => (hat j (by rw [← hcl]; exact (List.getElem?_eq_some_iff.1 hj).1)).trans hj⟩
    obtain ⟨f, hf⟩ := Go.Deep.choose_lt each
    have hll : ((List.range len).map f).length = len := by simp
    have hat : ∀ {i : Nat} {y : α}, ((List.range len).map f)[i]? = some y → i < len ∧ y = f i := by
      intro i y hi
      have hil : i < len := by have := (List.getElem?_eq_some_iff.1 hi).1; simpa using this
      rw [List.getElem?_map, List.getElem?_range hil] at hi
      simp only [Option.map_some, Option.some.injEq] at hi
      exact ⟨hil, hi.symm⟩
    refine ⟨some a, cap, (List.range len).map f, by rw [hll], by rw [hll]; rw [show elems.length = len by omega] at hsl; exact hsl, ?_, ?_⟩
    · rw [hll]
      refine ⟨by rw [flat_len he, hll], some a, cap, rfl, .inr ⟨a, rfl, fun q x hq => ?_⟩⟩
      obtain ⟨y, hy, hyx⟩ := flat_pick he hk hq
      obtain ⟨hil, rfl⟩ := hat hy
      have hc := (hf (q / k) hil).2 (q % k) x hyx
      have ha : a = ⟨a.block, a.off, none⟩ := by
        obtain ⟨z, hz⟩ : ∃ z, (enc' (f 0))[0]? = some z := ⟨_, List.getElem?_eq_getElem (by have := he.len (f 0); omega)⟩
        have h0 := (hf 0 (Nat.lt_of_le_of_lt (Nat.zero_le _) hil)).2 0 _ hz
        rw [Nat.zero_mul, show (a.add 0).add 0 = a by simp [Addr.add]] at h0
        exact spot0 h0
      rw [ha, Addr.add_lit, Addr.add_lit] at hc
      rw [ha, Addr.add_lit]
      have e1 : a.off + q / k * k + q % k = a.off + q := by rw [Nat.add_assoc, Nat.mul_comm]; congr 1; exact Nat.div_add_mod q k
      rw [e1] at hc
      exact hc
    · intro y hy
      obtain ⟨i, hi⟩ := List.getElem?_of_mem hy
      obtain ⟨hil, rfl⟩ := hat hi
      exact (hf i hil).1
/-- a []byte, met anywhere -/
theorem open_8s {W : World} {base : Nat} {spare : Nat → Bool} {held : Bool} {v : Value} {n0 : Nat} {x0 : DataW H × List MemPlace} (hf : DataW.trod enc Try.prog W base spare held n0 22 [v] = some x0) (hs : SizedD Try.prog 22 x0.1) :
    ∃ A c l, v = .slice A l.length c ∧ Sl8 W (.slice A l.length c) l ∧ l.length ≤ reachBytes := by
  obtain ⟨A, c, l, hcs, hb, hd⟩ := trod_u8s tyU8 cells_u8 hf
  simp at hcs
  refine ⟨A, c, l, hcs, ⟨A, c, rfl, hb.weaken fun _ _ _ => trivial⟩, ?_⟩
  rcases hd with ⟨_, rfl⟩ | ⟨es, sp, e, he⟩
  · simp
  · rw [e] at hs
    have := hs.len Try.underlying22
    rw [bytes_u8] at this
    omega
end
end Go.Proofs.Ytikcleaicbihfaa.Sep

namespace Go.Proofs.Ytikcleaicbihfaa

/-! ## Readers -/
/-- read, where the kind has it -/
def rI {α : Type} (b : Bool) (z : α) (r : α × List UInt8 × Nat) (l : List UInt8) (f : Nat) : α × List UInt8 × Nat := match b with | true => r | false => (z, l, f)
/-! ## An entry -/
structure EntD where
  k : Int
  t : Int
  i : Int
  d : List UInt8
  c : Int
deriving DecidableEq
def EntD.zero : EntD := ⟨0, 0, 0, [], 0⟩
structure EntD.ok (e : EntD) : Prop where
  k : I64 e.k
  t : U64 e.t
  i : U64 e.i
  d : e.d.length ≤ 9223372036854775807
  c : I64 e.c
/-- a right set of nodes -/
def setB (c : Int) : Bool := decide (c ≥ 0) && decide (c ≤ 254) && decide (c % 2 = 0)
def kindE (e : EntD) : Bool :=
  if e.k = 0 then e.d == [] && e.c == 0
  else if e.k = 1 then decide (1 ≤ e.d.length) && decide (e.d.length ≤ 128) && e.c == 0
  else if e.k = 2 then e.d == [] && setB e.c && e.c != 0
  else false
def rightE (e : EntD) : Bool := numB e.t && (numB e.i && kindE e)
/-- what is read behind the numbers -/
def rtail (n : Nat) (l : List UInt8) (f : Nat) : (List UInt8 × Nat) × List UInt8 × Nat :=
  if n = 1 then (((rtext 128 l f).1, 0), (rtext 128 l f).2) else if n = 2 then (([], (rbyte 254 l f).1), (rbyte 254 l f).2) else (([], 0), l, f)
def readE (l : List UInt8) : EntD × List UInt8 × Nat :=
  match rbyte 2 l 0 with
  | (n0, l0, f0) => match rnum 72057594037927935 l0 f0 with
    | (n1, l1, f1) => match rnum 72057594037927935 l1 f1 with
      | (n2, l2, f2) => match rtail n0 l2 f2 with
        | ((x, c), l3, f3) => (⟨(n0 : Int), (n1 : Int), (n2 : Int), x, (c : Int)⟩, l3, f3)
/-- what ReadEntry answers -/
def decE (l : List UInt8) : EntD × Nat :=
  if 160 < l.length then (.zero, 12)
  else match readE l with
    | (e, l', f') => if rend l' f' ≠ 0 then (.zero, rend l' f') else if rightE e then (e, 0) else (.zero, 11)
end Go.Proofs.Ytikcleaicbihfaa

namespace Go.Proofs.Ytikcleaicbihfaa.Sep
open Go.RowKit
open Go.Proofs.Ytikcleaicbihfaa.Mem (Dist Blk Chg)

/-- a thing for each element -/
def Each {α : Type} (f : α → Ass) (l : List α) : Ass := fun rs => Parts (l.map f) rs
section
variable {α : Type} {f : α → Ass} {l : List α} {B : Nat → Prop} {w0 w w' : World} {os : List Ass}
theorem Each.push {x : α} {a b : List RowT} (h : Each f l a) (h' : f x b) : Each f (l ++ [x]) (a ++ b) := by
  unfold Each
  rw [List.map_append]
  exact Parts.app h (Parts.one h')
theorem Each.at_ {j : Nat} {x : α} {rs : List RowT} (h : Each f l rs) (hr : RowsOf w rs) (hj : l[j]? = some x) : ∃ ys, f x ys ∧ RowsOf w ys := by
  obtain ⟨a, y, b, e, h1, _⟩ := Parts.at_ (i := j) (o := f x) h (by simp [hj])
  exact ⟨y, h1, rows_iff.2 fun z hz => rows_iff.1 hr z (by rw [e]; simp [hz])⟩
theorem Hp.each (h : Hp B w0 w os) (i : Nat) (hi : os[i]? = some (Each f l)) {j : Nat} {x : α} (hj : l[j]? = some x) : ∃ ys, f x ys ∧ RowsOf w ys := by
  obtain ⟨rs, h1, h2⟩ := h.thing i hi
  exact h1.at_ h2 hj
end
section
variable {P : Program} {ops : Array Oper} {Q : Exit → Act → World → Prop} {n : Nat} {env : List (Nat × Value)} {B : Nat → Prop} {w0 : World} {os : List Ass} {α : Type}
end

/-! ## A store into an element of several cells -/
section
variable {P : Program} {Q : Exit → Act → World → Prop} {n : Nat} {env : List (Nat × Value)} {B : Nat → Prop} {w0 : World} {os : List Ass} {o : Oper} {e : TypeId} {k : Nat} {α : Type} {enc : α → List Value} {v : Value} {l : List α}
end

/-! ## Entries -/
/-- an entry and where its bytes lie -/
structure EntV where
  e : EntD
  A : Option Addr
  c : Nat
def EntV.v (x : EntV) : Value := .slice x.A x.e.d.length x.c
def encV (x : EntV) : List Value := [.int .i64 x.e.k, .int .u64 x.e.t, .int .u64 x.e.i, x.v, .int .i64 x.e.c]
theorem okV : EncOf 5 encV := ⟨fun _ => rfl, fun x v h => by unfold encV EntV.v at h; simp at h; rcases h with rfl | rfl | rfl | rfl | rfl <;> rfl⟩
/-- v is a slice that reads as these entries -/
def EntsRd (w : World) (v : Value) (l : List EntV) : Prop := SlRd w 5 v l.length (flat encV l) ∧ ∀ x, x ∈ l → Sl8 w x.v x.e.d
section
variable {u w w0 : World} {v : Value} {l : List EntV} {X : Ass} {B : Nat → Prop} {os : List Ass} {rs : List RowT} {te : TypeId}
theorem SlRd.below {k m : Nat} {a : Value} {ys : List Value} (h : SlRd u k a m ys) (hb : Below u.heap.size u w) : SlRd w k a m ys := by
  obtain ⟨h1, A, c, e, hA⟩ := h
  refine ⟨h1, A, c, e, hA.imp id fun ⟨a, ha, hc⟩ => ⟨a, ha, fun j x hx => ?_⟩⟩
  have h0 := hc j x hx
  rw [hb.cell (World.block_lt_of_cell? _ _ h0)]
  exact h0
theorem EntsRd.below (h : EntsRd u v l) (hb : Below u.heap.size u w) : EntsRd w v l := ⟨h.1.below hb, fun x hx => (h.2 x hx).below hb⟩
/-- entries in rows of their own, each one's bytes too -/
def Ents (te : TypeId) (v : Value) (l : List EntV) : Ass := star [Vec te 5 encV v l, Each (fun x : EntV => Vec 5 1 encB x.v x.e.d) l]
theorem Ents.rd (h : Ents te v l rs) (hr : RowsOf w rs) : EntsRd w v l := by
  obtain ⟨a, b, e, h1, h2⟩ := h
  subst e
  have ha : RowsOf w a := rows_iff.2 fun z hz => rows_iff.1 hr z (by simp [hz])
  have hb : RowsOf w b := rows_iff.2 fun z hz => rows_iff.1 hr z (by simp [hz])
  refine ⟨h1.all okV ha, fun x hx => ?_⟩
  obtain ⟨j, hj⟩ := List.getElem?_of_mem hx
  obtain ⟨ys, h3, h4⟩ := (Parts.one' h2).at_ hb hj
  exact vec_sl8 h3 h4
end

/-! ## A message -/
def cellsM (k a b t i lt : Int) (ev : Value) (co : Int) (rf : Bool) (bi bt bc o : Int) (dv : Value) (la : Bool) : List Value :=
  [.int .i64 k, .int .i64 a, .int .i64 b, .int .u64 t, .int .u64 i, .int .u64 lt, ev, .int .u64 co, .bool rf, .int .u64 bi, .int .u64 bt, .int .i64 bc, .int .i64 o, dv, .bool la]
end Go.Proofs.Ytikcleaicbihfaa.Sep

namespace Go.Proofs.Ytikcleaicbihfaa.Sep
open Go.RowKit
open Go.Proofs.Ytikcleaicbihfaa.Mem (Dist Blk Chg below0)

end Go.Proofs.Ytikcleaicbihfaa.Sep

namespace Go.Proofs.Ytikcleaicbihfaa.Sep
open Go.RowKit
open Go.Proofs.Ytikcleaicbihfaa.Mem (Dist Blk Chg below0)

end Go.Proofs.Ytikcleaicbihfaa.Sep

namespace Go.Proofs.Ytikcleaicbihfaa.Sep
open Go.RowKit
open Go.Proofs.Ytikcleaicbihfaa.Mem (Dist Blk Chg below0)

section
variable {P : Program} {n : Nat} {B : Nat → Prop} {w0 w : World} {os : List Ass} {env : List (Nat × Value)} {o : Oper} {a : Act}
end

end Go.Proofs.Ytikcleaicbihfaa.Sep

namespace Go.Proofs.Ytikcleaicbihfaa.Sep
open Go.RowKit
open Go.Proofs.Ytikcleaicbihfaa.Mem (Dist Blk Chg below0)

end Go.Proofs.Ytikcleaicbihfaa.Sep

namespace Go.Proofs.Ytikcleaicbihfaa.Sep
open Go.ChangeShapes Go.WideShapes Go.ChangeAt Go.RowKit
section
variable {H : Type} {enc : TypeId × Value → H} {W : World} {base b0 : Nat} {r : Reach} {spare : Nat → Bool} {held : Bool} {v : Value} {d : DataW H} {p : List MemPlace}
theorem open_8 {A : Option Addr} {c : Nat} {l : List UInt8} (hb : Bs (fun k => k < W.heap.size) W A c l) : Sl8 W (.slice A l.length c) l := ⟨A, c, rfl, hb.weaken fun _ _ _ => trivial⟩
end
end Go.Proofs.Ytikcleaicbihfaa.Sep

namespace Go.Proofs.Ytikcleaicbihfaa
open Go.RowKit

/-! ## the model's words -/
end Go.Proofs.Ytikcleaicbihfaa

namespace Go.Proofs.Ytikcleaicbihfaa
open Go.RowKit

end Go.Proofs.Ytikcleaicbihfaa

namespace Go.Proofs.Ytikcleaicbihfaa
open Go.RowKit

end Go.Proofs.Ytikcleaicbihfaa

namespace Go.Proofs.Ytikcleaicbihfaa

/-- a message -/
structure MsgD where
  k : Int
  a : Int
  b : Int
  t : Int
  i : Int
  lt : Int
  es : List EntD
  co : Int
  rf : Bool
  bi : Int
  bt : Int
  bc : Int
  o : Int
  d : List UInt8
  la : Bool
deriving DecidableEq
def MsgD.zero : MsgD := ⟨0, 0, 0, 0, 0, 0, [], 0, false, 0, 0, 0, 0, [], false⟩
structure MsgD.ok (m : MsgD) : Prop where
  k : I64 m.k
  a : I64 m.a
  b : I64 m.b
  t : U64 m.t
  i : U64 m.i
  lt : U64 m.lt
  es : m.es.length ≤ 9223372036854775807 ∧ ∀ e, e ∈ m.es → e.ok
  co : U64 m.co
  bi : U64 m.bi
  bt : U64 m.bt
  bc : I64 m.bc
  o : I64 m.o
  d : m.d.length ≤ 9223372036854775807

/-- the fields of a kind, as a sum of 1 (index), 2 (logterm), 4 (commit), 8 (entries), 16 (refused), 32 (base), 64 (offset), 128 (last), 256 (data) -/
def fm (k : Int) : Nat := if k = 1 then 131 else if k = 2 then 144 else if k = 3 then 15 else if k = 4 then 17 else if k = 5 then 480 else if k = 6 then 96 else 0
/-! ## What is laid -/
/-! ## What is read -/
/-- an entry of a message -/
def rent (l : List UInt8) (f : Nat) : EntD × List UInt8 × Nat :=
  match rtext 160 l f with
  | (x, l1, f1) => if f1 ≠ 0 then (.zero, l1, f1) else ((decE x).1, l1, (decE x).2)
/-- n entries -/
def rents : Nat → List UInt8 → Nat → List EntD × List UInt8 × Nat
  | 0, l, f => ([], l, f)
  | n + 1, l, f => match rent l f with
    | (e, l1, f1) => if f1 ≠ 0 then ([], l1, f1) else match rents n l1 0 with
      | (es, l2, f2) => (e :: es, l2, f2)
/-- a message's entries: their number, then each -/
def rlist (l : List UInt8) (f : Nat) : List EntD × List UInt8 × Nat :=
  match rnum 4 l f with
  | (n, l1, f1) => rents n l1 f1
/-- a base -/
def rbase (l : List UInt8) (f : Nat) : (Int × Int × Int) × List UInt8 × Nat :=
  match rnum 72057594037927935 l f with
  | (x, l1, f1) => match rnum 72057594037927935 l1 f1 with
    | (y, l2, f2) => match rbyte 254 l2 f2 with
      | (z, l3, f3) => (((x : Int), (y : Int), (z : Int)), l3, f3)
/-- what is read of l: the message, the rest, what was wrong -/
def readM (l : List UInt8) : MsgD × List UInt8 × Nat :=
  match rbyte 6 l 0 with
  | (k, l0, f0) => match rI (k != 0) 0 (rbyte 7 l0 f0) l0 f0 with
  | (a, l1, f1) => match rI (k != 0) 0 (rbyte 7 l1 f1) l1 f1 with
  | (b, l2, f2) => match rI (k != 0) 0 (rnum 72057594037927935 l2 f2) l2 f2 with
  | (t, l3, f3) => match rI (wth (fm (k : Int)) 1) 0 (rnum 72057594037927935 l3 f3) l3 f3 with
  | (i, l4, f4) => match rI (wth (fm (k : Int)) 2) 0 (rnum 72057594037927935 l4 f4) l4 f4 with
  | (lt, l5, f5) => match rI (wth (fm (k : Int)) 4) 0 (rnum 72057594037927935 l5 f5) l5 f5 with
  | (co, l6, f6) => match rI (wth (fm (k : Int)) 8) [] (rlist l6 f6) l6 f6 with
  | (es, l7, f7) => match rI (wth (fm (k : Int)) 16) 0 (rbyte 1 l7 f7) l7 f7 with
  | (rf, l8, f8) => match rI (wth (fm (k : Int)) 32) (0, 0, 0) (rbase l8 f8) l8 f8 with
  | ((bi, bt, bc), l9, f9) => match rI (wth (fm (k : Int)) 64) 0 (rnum 32768 l9 f9) l9 f9 with
  | (o, l10, f10) => match rI (wth (fm (k : Int)) 128) 0 (rbyte 1 l10 f10) l10 f10 with
  | (la, l11, f11) => match rI (wth (fm (k : Int)) 256) [] (rtext 256 l11 f11) l11 f11 with
  | (d, l12, f12) => (⟨(k : Int), (a : Int), (b : Int), (t : Int), (i : Int), (lt : Int), es, (co : Int), rf == 1, bi, bt, bc, (o : Int), d, la == 1⟩, l12, f12)
/-- the same, step by step -/
structure ReadM (l : List UInt8) (m : MsgD) (l' : List UInt8) (f' : Nat) where
  mk ::
  k : Nat
  l0 : List UInt8
  f0 : Nat
  h0 : rbyte 6 l 0 = (k, l0, f0)
  a : Nat
  l1 : List UInt8
  f1 : Nat
  h1 : rI (k != 0) 0 (rbyte 7 l0 f0) l0 f0 = (a, l1, f1)
  b : Nat
  l2 : List UInt8
  f2 : Nat
  h2 : rI (k != 0) 0 (rbyte 7 l1 f1) l1 f1 = (b, l2, f2)
  t : Nat
  l3 : List UInt8
  f3 : Nat
  h3 : rI (k != 0) 0 (rnum 72057594037927935 l2 f2) l2 f2 = (t, l3, f3)
  i : Nat
  l4 : List UInt8
  f4 : Nat
  h4 : rI (wth (fm (k : Int)) 1) 0 (rnum 72057594037927935 l3 f3) l3 f3 = (i, l4, f4)
  lt : Nat
  l5 : List UInt8
  f5 : Nat
  h5 : rI (wth (fm (k : Int)) 2) 0 (rnum 72057594037927935 l4 f4) l4 f4 = (lt, l5, f5)
  co : Nat
  l6 : List UInt8
  f6 : Nat
  h6 : rI (wth (fm (k : Int)) 4) 0 (rnum 72057594037927935 l5 f5) l5 f5 = (co, l6, f6)
  es : List EntD
  l7 : List UInt8
  f7 : Nat
  h7 : rI (wth (fm (k : Int)) 8) [] (rlist l6 f6) l6 f6 = (es, l7, f7)
  rf : Nat
  l8 : List UInt8
  f8 : Nat
  h8 : rI (wth (fm (k : Int)) 16) 0 (rbyte 1 l7 f7) l7 f7 = (rf, l8, f8)
  bi : Int
  bt : Int
  bc : Int
  l9 : List UInt8
  f9 : Nat
  h9 : rI (wth (fm (k : Int)) 32) (0, 0, 0) (rbase l8 f8) l8 f8 = ((bi, bt, bc), l9, f9)
  o : Nat
  l10 : List UInt8
  f10 : Nat
  h10 : rI (wth (fm (k : Int)) 64) 0 (rnum 32768 l9 f9) l9 f9 = (o, l10, f10)
  la : Nat
  l11 : List UInt8
  f11 : Nat
  h11 : rI (wth (fm (k : Int)) 128) 0 (rbyte 1 l10 f10) l10 f10 = (la, l11, f11)
  d : List UInt8
  h12 : rI (wth (fm (k : Int)) 256) [] (rtext 256 l11 f11) l11 f11 = (d, l', f')
  hm : m = ⟨(k : Int), (a : Int), (b : Int), (t : Int), (i : Int), (lt : Int), es, (co : Int), rf == 1, bi, bt, bc, (o : Int), d, la == 1⟩
theorem ReadM.is {l l' : List UInt8} {m : MsgD} {f' : Nat} (h : ReadM l m l' f') : readM l = (m, l', f') := by
  obtain ⟨k, l0, f0, h0, a, l1, f1, h1, b, l2, f2, h2, t, l3, f3, h3, i, l4, f4, h4, lt, l5, f5, h5, co, l6, f6, h6, es, l7, f7, h7, rf, l8, f8, h8, bi, bt, bc, l9, f9, h9, o, l10, f10, h10, la, l11, f11, h11, d, h12, rfl⟩ := h
  simp only [readM, h0, h1, h2, h3, h4, h5, h6, h7, h8, h9, h10, h11, h12]
end Go.Proofs.Ytikcleaicbihfaa

namespace Go.Proofs.Ytikcleaicbihfaa.Sep
open Go.ChangeShapes Go.WideShapes Go.ChangeAt Go.RowKit
/-- a struct's field of one cell -/
structure F1 (f : Field) (t : TypeId) (o : Nat) : Prop where
  t : f.type = t
  o : f.offset = o
section
variable {H : Type} {enc : TypeId × Value → H} {W : World} {base b0 : Nat} {r : Reach} {spare : Nat → Bool} {held : Bool} {v : Value} {d : DataW H} {p : List MemPlace}
theorem fldF {P : Program} {n j k off : Nat} {f : Field} {t : TypeId} {cs zs : List Value} {ys : List (DataW H × List MemPlace)} {y : DataW H × List MemPlace} (hF : F1 f t off) (hc : P.cellsOf t = k) (h : DataW.trod enc P W base spare held n f.type ((cs.drop f.offset).take (P.cellsOf f.type)) = ys[j]?) (ha : (cs.drop off).take k = zs) (hy : ys[j]? = some y) : DataW.trod enc P W base spare held n t zs = some y := by
  rw [hF.t, hF.o, hc, ha, hy] at h
  exact h
theorem sizedF {P : Program} {t t' : TypeId} {fs : Array Field} {ys : List (DataW H × List MemPlace)} {x : DataW H × List MemPlace} {j off : Nat} {f : Field} {y : DataW H × List MemPlace} {zs : List MemPlace} (hs : SizedD P t x.1) (hx : x = (.agg (ys.map (·.1)), zs)) (hu : P.underlying t = some (.struct fs)) (hf : fs[j]? = some f) (hF : F1 f t' off) (hy : ys[j]? = some y) : SizedD P t' y.1 := by
  subst hx
  have := SizedD.field hs hu hf (d := y.1) (by rw [List.getElem?_map, hy]; rfl)
  rwa [hF.t] at this
/-! ## An entry -/
def EntOk (W : World) (x : EntV) : Prop := x.e.ok ∧ Sl8 W x.v x.e.d ∧ x.e.d.length ≤ 140737488351232
theorem k_int : Try.prog.cellsOf 3 = 1 := by kernel_rfl
theorem k_u64 : Try.prog.cellsOf 29 = 1 := by kernel_rfl
theorem k_u8s : Try.prog.cellsOf 22 = 1 := by kernel_rfl
theorem k_bool : Try.prog.cellsOf 4 = 1 := by kernel_rfl
instance : Inhabited EntV := ⟨⟨.zero, none, 0⟩⟩
/-! ## A message -/
/-- a message, and where its entries and its bytes lie -/
structure MsgV where
  m : MsgD
  es : List EntV
  EA : Option Addr
  ec : Nat
  A : Option Addr
  c : Nat
def MsgV.ev (x : MsgV) : Value := .slice x.EA x.es.length x.ec
def MsgV.dv (x : MsgV) : Value := .slice x.A x.m.d.length x.c
def MsgV.cells (x : MsgV) : List Value := cellsM x.m.k x.m.a x.m.b x.m.t x.m.i x.m.lt x.ev x.m.co x.m.rf x.m.bi x.m.bt x.m.bc x.m.o x.dv x.m.la
structure MsgOk (W : World) (x : MsgV) : Prop where
  ok : x.m.ok
  es : x.m.es = x.es.map (·.e)
  rd : EntsRd W x.ev x.es
  le : x.es.length * 56 ≤ 140737488351232
  each : ∀ y ∈ x.es, EntOk W y
  d : Sl8 W x.dv x.m.d
  dl : x.m.d.length ≤ 140737488351232
theorem EntOk.below {u w : World} {x : EntV} (h : EntOk u x) (hb : Below u.heap.size u w) : EntOk w x := ⟨h.1, h.2.1.below hb, h.2.2⟩
theorem MsgOk.below {u w : World} {x : MsgV} (h : MsgOk u x) (hb : Below u.heap.size u w) : MsgOk w x := ⟨h.ok, h.es, h.rd.below hb, h.le, fun y hy => (h.each y hy).below hb, h.d.below hb, h.dl⟩
end
end Go.Proofs.Ytikcleaicbihfaa.Sep

namespace Go.Proofs.Ytikcleaicbihfaa.Sep
open Go.ChangeShapes Go.WideShapes Go.ChangeAt Go.RowKit
section
variable {H : Type} {enc : TypeId × Value → H} {P : Program}
end
end Go.Proofs.Ytikcleaicbihfaa.Sep
