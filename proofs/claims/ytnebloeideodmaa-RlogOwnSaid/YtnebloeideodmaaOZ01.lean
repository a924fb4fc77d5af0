/-
  RlAk · RlAl · RlAm · Opw · RlAn
-/
import Derived.Test.YtnebloeideodmaaOC01
import Derived.Test.YtnebloeideodmaaOD04
import Derived.Test.YtnebloeideodmaaOG02
import Derived.Test.YtnebloeideodmaaOK01
import Derived.Test.YtnebloeideodmaaOW01
import Derived.SizedLaws
set_option linter.unusedSimpArgs false
set_option linter.unusedVariables false

namespace Go.Proofs.Ytnebloeideodmaa.Sep
open Go.RowKit
open Go.Proofs.Ytnebloeideodmaa.Mem (Dist Blk Chg below0)

def NwT (nv : Value) (bi bt bc : Int) (es : List EntD) : Ass := fun rs => ∃ g : Nat, nv = .tuple #[.pointer (some ⟨g, 0, none⟩), .int .i64 0] ∧ LogD g bi bt bc es rs
theorem NwT.open_ {nv : Value} {bi bt bc : Int} {es : List EntD} : ∀ rs, NwT nv bi bt bc es rs → ∃ x : { g : Nat // nv = .tuple #[.pointer (some ⟨g, 0, none⟩), .int .i64 0] }, Parts [LogD x.1 bi bt bc es] rs := fun _ ⟨g, h, hr⟩ => ⟨⟨g, h⟩, Parts.one hr⟩
end Go.Proofs.Ytnebloeideodmaa.Sep

namespace Go.Proofs.Ytnebloeideodmaa.Sep
open Go.RowKit
open Go.Proofs.Ytnebloeideodmaa.Mem (Dist Blk Chg below0)

/-- a log and the reference's, alike, of no more than so many entries -/
structure LSt where
  bi : Int
  bt : Int
  bc : Int
  es : List EntD
structure OkS (n : Nat) (s : LSt) : Prop where
  inv : InvL s.bi s.bt s.es
  bc : -9223372036854775808 ≤ s.bc ∧ s.bc ≤ 9223372036854775807
  le : s.es.length ≤ n
def StT (gp gq n : Nat) : Ass := fun rs => ∃ s : LSt, OkS n s ∧ Parts [LogD gp s.bi s.bt s.bc s.es, RfT gq s.bi s.bt s.bc s.es] rs
theorem StT.open_ {gp gq n : Nat} : ∀ rs, StT gp gq n rs → ∃ x : { s : LSt // OkS n s }, Parts [LogD gp x.1.bi x.1.bt x.1.bc x.1.es, RfT gq x.1.bi x.1.bt x.1.bc x.1.es] rs := fun _ ⟨s, h, hr⟩ => ⟨⟨s, h⟩, hr⟩
/-- what a step hands in: of its own words or made by the hand -/
structure AdOk (X Y : Ass) (x : RfV) : Prop where
  rd : RdEs (star [Y, X]) (.slice x.A x.L.length x.c) x.L
  cap : x.L.length ≤ x.c
  len : x.L.length ≤ 6
  hd : ∀ e, e ∈ x.L → e.e.d.length ≤ 140737488351232
def AdT (av : Value) (X : Ass) : Ass := fun rs => ∃ (x : RfV) (Y : Ass), (av = .slice x.A x.L.length x.c ∧ AdOk X Y x) ∧ star [Y, X] rs
theorem AdT.open_ {av : Value} {X : Ass} : ∀ rs, AdT av X rs → ∃ x : { z : RfV × PSigma fun _ : Unit => Ass // av = .slice z.1.A z.1.L.length z.1.c ∧ AdOk X z.2.2 z.1 }, Parts [star [x.1.2.2, X]] rs := fun _ ⟨x, Y, h, hr⟩ => ⟨⟨(x, ⟨(), Y⟩), h⟩, Parts.one hr⟩
end Go.Proofs.Ytnebloeideodmaa.Sep

namespace Go.Proofs.Ytnebloeideodmaa.Sep
open Go.RowKit
open Go.Proofs.Ytnebloeideodmaa.Mem (Dist Blk Chg below0)

end Go.Proofs.Ytnebloeideodmaa.Sep

namespace Go.Proofs.Ytnebloeideodmaa.Sep
open Go.ChangeShapes Go.WideShapes Go.ChangeAt Go.RowKit
section
variable {H : Type} {enc : TypeId × Value → H} {P : Program}
end
end Go.Proofs.Ytnebloeideodmaa.Sep

namespace Go.Proofs.Ytnebloeideodmaa.Sep
open Go.ChangeShapes Go.WideShapes Go.ChangeAt Go.RowKit
open Go.Proofs.Ytnebloeideodmaa.Mem (Dist Blk Chg below0)
/-- each once -/
def onceL : List Nat → List Nat
  | [] => []
  | a :: l => if a ∈ onceL l then onceL l else a :: onceL l
theorem once_mem {a : Nat} : ∀ {l : List Nat}, a ∈ onceL l ↔ a ∈ l
  | [] => Iff.rfl
  | b :: l => by
    have ih := once_mem (a := a) (l := l)
    unfold onceL
    split
    · rename_i h
      rw [ih, List.mem_cons]
      refine ⟨.inr, fun h2 => ?_⟩
      rcases h2 with rfl | h2
      · exact once_mem.1 h
      · exact h2
    · rw [List.mem_cons, List.mem_cons, ih]
theorem once_nodup : ∀ l : List Nat, (onceL l).Nodup
  | [] => List.nodup_nil
  | b :: l => by
    unfold onceL
    split
    · exact once_nodup l
    · rename_i h
      exact List.nodup_cons.2 ⟨h, once_nodup l⟩
def rowAt (w : World) (g : Nat) : RowT := (g, none, match w.heap[g]? with | some (.cells C e f) => litC C e f | _ => #[])
def ArgT (w : World) (gs : List Nat) : Ass := fun rs => rs = (onceL gs).map (rowAt w)
def CellsAt (w : World) (g : Nat) : Prop := ∃ C e f, w.heap[g]? = some (.cells C e f)
theorem litC_inj {C C' : Array Value} {e e' : TypeId} {f f' : Nat × Nat} (h : litC C e f = litC C' e' f') : C = C' ∧ e = e' ∧ f = f' := by
  obtain ⟨f1, f2⟩ := f
  obtain ⟨g1, g2⟩ := f'
  unfold litC at h
  simp at h
  obtain ⟨h1, h2, h3, h4⟩ := h
  refine ⟨h1, ?_, ?_⟩
  · first | exact h2 | exact Int.ofNat.inj h2 | omega
  · rw [show f1 = g1 by first | exact h3 | omega, show f2 = g2 by first | exact h4 | omega]
theorem row_is {w w' : World} {g : Nat} (hc : CellsAt w g) (h : RowX w' (rowAt w g)) : w'.heap[g]? = w.heap[g]? := by
  obtain ⟨C, e, f, hw⟩ := hc
  unfold rowAt at h
  rw [hw] at h
  rcases h with ⟨es, c, _, h2⟩ | ⟨b, s, seen, c, _, h2⟩ | ⟨C', e', f', h1, h2⟩
  · unfold litC mapC at h2
    simp at h2
  · unfold litC iterC at h2
    simp at h2
  · obtain ⟨rfl, rfl, rfl⟩ := litC_inj h2
    rw [hw]; exact h1
theorem row_at {w : World} {g : Nat} (hc : CellsAt w g) : RowX w (rowAt w g) := by
  obtain ⟨C, e, f, hw⟩ := hc
  unfold rowAt
  rw [hw]
  exact .inr (.inr ⟨C, e, f, hw, rfl⟩)
theorem cells_of {w : World} {a : Addr} {x : Value} (h : w.cell? a = some x) : CellsAt w a.block := by
  unfold World.cell? at h
  split at h
  · rename_i c e f hc
    exact ⟨c, e, f, hc⟩
  · cases h
theorem cell_eq {w w' : World} {a : Addr} (h : w'.heap[a.block]? = w.heap[a.block]?) : w'.cell? a = w.cell? a := by
  unfold World.cell?
  rw [h]
/-- the blocks that a slice's reading needs -/
theorem sl_blocks {w : World} {k : Nat} {v : Value} {m : Nat} {ys : List Value} (h : SlRd w k v m ys) : ∃ gs : List Nat, (∀ g ∈ gs, CellsAt w g) ∧ ∀ w' : World, (∀ g ∈ gs, w'.heap[g]? = w.heap[g]?) → SlRd w' k v m ys := by
  obtain ⟨h1, A, c, e, h2⟩ := h
  rcases h2 with h2 | ⟨a, ha, h2⟩
  · exact ⟨[], (fun _ h => nomatch h), fun w' _ => ⟨h1, A, c, e, .inl h2⟩⟩
  · cases ys with
    | nil => exact ⟨[], (fun _ h => nomatch h), fun w' _ => ⟨h1, A, c, e, .inr ⟨a, ha, fun j x hx => by simp at hx⟩⟩⟩
    | cons y ys =>
      have h3 := cells_of (h2 0 y rfl)
      refine ⟨[(a.add 0).block], fun g hg => by rw [List.mem_singleton.1 hg]; exact h3, fun w' hw => ⟨h1, A, c, e, .inr ⟨a, ha, fun j x hx => ?_⟩⟩⟩
      have hb : (a.add j).block = (a.add 0).block := by unfold Addr.add; split <;> rfl
      exact (cell_eq (by rw [hb]; exact hw _ (List.mem_singleton.2 rfl))).trans (h2 j x hx)
theorem s8_blocks {w : World} {v : Value} {l : List UInt8} (h : Sl8 w v l) : ∃ gs : List Nat, (∀ g ∈ gs, CellsAt w g) ∧ ∀ w' : World, (∀ g ∈ gs, w'.heap[g]? = w.heap[g]?) → Sl8 w' v l := by
  obtain ⟨A, c, e, h1, h2, h3⟩ := h
  cases l with
  | nil => exact ⟨[], (fun _ h => nomatch h), fun w' _ => ⟨A, c, e, h1, h2, fun h => absurd h (by simp)⟩⟩
  | cons y ys =>
    obtain ⟨g, o, hA, _, h4⟩ := h3 (by simp)
    have h5 := cells_of (h4 0 y rfl)
    refine ⟨[g], fun k hk => by rw [List.mem_singleton.1 hk]; exact h5, fun w' hw => ⟨A, c, e, h1, h2, fun _ => ⟨g, o, hA, trivial, fun j b hb => ?_⟩⟩⟩
    rw [cell_eq (a := ⟨g, o + j, none⟩) (hw g (List.mem_singleton.2 rfl))]
    exact h4 j b hb
theorem argT_same {w w' : World} {gs : List Nat} (hc : ∀ g ∈ gs, CellsAt w g) {rs : List RowT} (h : ArgT w gs rs) (hr : RowsOf w' rs) : ∀ g ∈ gs, w'.heap[g]? = w.heap[g]? := fun g hg => by
  obtain rfl : rs = _ := h
  exact row_is (hc g hg) (hr.mem _ (List.mem_map.2 ⟨g, once_mem.2 hg, rfl⟩))
theorem calls_argT {P : Program} {F : FuncId} {args : Array Value} {val : Value} {w : World} {gs : List Nat} (hc : ∀ g ∈ gs, CellsAt w g) (h : Does P F args [ArgT w gs] (fun _ : Unit => val) (fun _ => [ArgT w gs])) : Calls P F args w fun e w' => e = .returned val ∧ Below w.heap.size w w' := by
  have hd : Dist ((onceL gs).map (rowAt w)) := dist_iff.2 (by
    rw [List.map_map]
    have : ((fun x : RowT => x.1) ∘ rowAt w) = id := rfl
    first
      | (rw [this, List.map_id]; exact once_nodup gs)
      | (simpa [Function.comp_def, rowAt] using once_nodup gs))
  refine (h w _ (Parts.one rfl) (rows_iff.2 fun x hx => ?_) hd).mono ?_
  · obtain ⟨g, hg, rfl⟩ := List.mem_map.1 hx
    exact row_at (hc g (once_mem.1 hg))
  · rintro e w' ⟨_, he, rs', hp, hch⟩
    have hrs := hp.one'
    refine ⟨he, hch.mod.os, hch.mod.tape, hch.mod.output, hch.mod.size, fun k hk => ?_⟩
    cases Classical.em (k ∈ gs) with
    | inl hk2 => exact argT_same hc hrs hch.rows k hk2
    | inr hk2 =>
      refine hch.mod.block k hk ?_
      rintro ⟨x, hx, rfl⟩
      obtain ⟨g, hg, rfl⟩ := List.mem_map.1 hx
      exact hk2 (once_mem.1 hg)
theorem all_blocks {w : World} {α : Type} {f : α → Value} {d : α → List UInt8} : ∀ {l : List α}, (∀ y ∈ l, Sl8 w (f y) (d y)) → ∃ gs : List Nat, (∀ g ∈ gs, CellsAt w g) ∧ ∀ w' : World, (∀ g ∈ gs, w'.heap[g]? = w.heap[g]?) → ∀ y ∈ l, Sl8 w' (f y) (d y)
  | [], _ => ⟨[], (fun _ h => nomatch h), fun _ _ _ h => nomatch h⟩
  | y :: l, h => by
    obtain ⟨g0, hc0, r0⟩ := s8_blocks (h y (by simp))
    obtain ⟨g1, hc1, r1⟩ := all_blocks (l := l) fun z hz => h z (by simp [hz])
    refine ⟨g0 ++ g1, fun g hg => (List.mem_append.1 hg).elim (hc0 g) (hc1 g), fun w' hw z hz => ?_⟩
    rcases List.mem_cons.1 hz with rfl | hz
    · exact r0 w' fun g hg => hw g (List.mem_append.2 (.inl hg))
    · exact r1 w' (fun g hg => hw g (List.mem_append.2 (.inr hg))) z hz

theorem ents_blocks {w : World} {v : Value} {l : List EntV} (h : EntsRd w v l) : ∃ gs : List Nat, (∀ g ∈ gs, CellsAt w g) ∧ ∀ w' : World, (∀ g ∈ gs, w'.heap[g]? = w.heap[g]?) → EntsRd w' v l := by
  obtain ⟨g0, hc0, r0⟩ := sl_blocks h.1
  obtain ⟨g1, hc1, r1⟩ := all_blocks h.2
  exact ⟨g0 ++ g1, fun g hg => (List.mem_append.1 hg).elim (hc0 g) (hc1 g), fun w' hw => ⟨r0 w' fun g hg => hw g (List.mem_append.2 (.inl hg)), r1 w' fun g hg => hw g (List.mem_append.2 (.inr hg))⟩⟩
theorem argT_es {w : World} {gs : List Nat} (hc : ∀ g ∈ gs, CellsAt w g) {v : Value} {l : List EntV} (h : ∀ w' : World, (∀ g ∈ gs, w'.heap[g]? = w.heap[g]?) → EntsRd w' v l) : RdEs (ArgT w gs) v l := fun _ w' h1 h2 => h w' (argT_same hc h1 h2)
theorem calls_es1 {P : Program} {F : FuncId} {args : Array Value} {val : Value} {w : World} {v : Value} {l : List EntV} (h0 : EntsRd w v l) (h : ∀ X : Ass, RdEs X v l → Does P F args [X] (fun _ : Unit => val) (fun _ => [X])) : Calls P F args w fun e w' => e = .returned val ∧ Below w.heap.size w w' := by
  obtain ⟨g0, hc0, r0⟩ := ents_blocks h0
  exact calls_argT hc0 (h _ (argT_es hc0 r0))
/-- one step -/
structure StepE where
  what : Int
  x1 : Int
  x2 : Int
  A : Option Addr
  c : Nat
  l : List EntV
  b1 : Int
  b2 : Int
  b3 : Int
  nr : Bool
  off : Int
instance : Inhabited StepE := ⟨⟨0, 0, 0, none, 0, [], 0, 0, 0, false, 0⟩⟩
structure StepE.ok (x : StepE) : Prop where
  what : -9223372036854775808 ≤ x.what ∧ x.what ≤ 9223372036854775807
  x1 : 0 ≤ x.x1 ∧ x.x1 ≤ 18446744073709551615
  x2 : 0 ≤ x.x2 ∧ x.x2 ≤ 18446744073709551615
  b1 : 0 ≤ x.b1 ∧ x.b1 ≤ 18446744073709551615
  b2 : 0 ≤ x.b2 ∧ x.b2 ≤ 18446744073709551615
  b3 : -9223372036854775808 ≤ x.b3 ∧ x.b3 ≤ 9223372036854775807
  off : -9223372036854775808 ≤ x.off ∧ x.off ≤ 9223372036854775807
  ok : ∀ y, y ∈ x.l → y.e.ok
  hd : ∀ y, y ∈ x.l → y.e.d.length ≤ 140737488351232
  cap : x.l.length ≤ x.c
section
variable {H : Type} {enc : TypeId × Value → H} {W : World} {base b0 : Nat} {r : Reach} {spare : Nat → Bool} {held : Bool} {v : Value} {d : DataW H} {p : List MemPlace}
theorem open_capF {P : Program} {t e : TypeId} {A : Option Addr} {n c n0 : Nat} {x : DataW H × List MemPlace} (hu : P.underlying t = some (.slice e)) (hf : DataW.trod enc P W base spare held n0 t [.slice A n c] = some x) : n ≤ c := by
  rcases DataW.trod_slice hu hf with ⟨hcs, hx⟩ | ⟨a, len', cap', elems, rest, n', _, hcs, hx, _, hl, hm, hlen, hels, _, _⟩
  · simp at hcs
    obtain ⟨rfl, rfl, rfl⟩ := hcs
    exact Nat.le_refl _
  · simp at hcs
    obtain ⟨rfl, rfl, rfl⟩ := hcs
    omega
theorem k_entryL : Try.prog.cellsOf 32 = 5 := by kernel_rfl
theorem b_entryL : Try.prog.bytesOf 32 = 56 := by kernel_rfl
set_option maxRecDepth 100000 in
theorem open_entsL {n : Nat} {x : DataW H × List MemPlace} (h : DataW.trod enc Try.prog W base spare held n 34 [v] = some x) (hs : SizedD Try.prog 34 x.1) : ∃ A c, ∃ l : List EntV, v = .slice A l.length c ∧ EntsRd W v l ∧ (∀ y, y ∈ l → y.e.ok) ∧ (∀ y, y ∈ l → y.e.d.length ≤ 140737488351232) ∧ l.length ≤ c := by
  have hE : EntT 32 _ _ _ _ _ := ⟨Try.underlying32, ⟨rfl, rfl⟩, ⟨rfl, rfl⟩, ⟨rfl, rfl⟩, ⟨rfl, rfl⟩, ⟨rfl, rfl⟩⟩
  obtain ⟨A, c, l, hv, hl, hr, ho⟩ := open_ents hE Try.underlying34 k_entryL b_entryL h hs
  subst hv
  exact ⟨A, c, l, rfl, hr, fun x hx => (ho x hx).1, fun x hx => (ho x hx).2.2, open_capF Try.underlying34 h⟩
theorem open_entsV (hval : Value.okWide Try.prog W r b0 34 v) (h : DataW.Trod enc Try.prog W base spare held 34 v d p) (hs : SizedD Try.prog 34 d) : ∃ A c, ∃ l : List EntV, v = .slice A l.length c ∧ EntsRd W v l ∧ (∀ y, y ∈ l → y.e.ok) ∧ (∀ y, y ∈ l → y.e.d.length ≤ 140737488351232) ∧ l.length ≤ c := by
  obtain ⟨a0, len0, cap0, rfl⟩ := okWide_slice Try.underlying34 hval
  obtain ⟨fuel, hf⟩ := h
  exact open_entsL (x := (d, p)) hf hs
end
end Go.Proofs.Ytnebloeideodmaa.Sep
