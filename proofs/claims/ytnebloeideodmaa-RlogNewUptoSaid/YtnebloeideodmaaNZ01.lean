/-
  RlAl · RlAm · Opw · RlAn
-/
import Derived.Test.YtnebloeideodmaaNC01
import Derived.Test.YtnebloeideodmaaND03
import Derived.Test.YtnebloeideodmaaND04
import Derived.Test.YtnebloeideodmaaNG03
import Derived.Test.YtnebloeideodmaaNK01
import Derived.Test.YtnebloeideodmaaNX01
import Derived.SizedLaws
set_option linter.unusedSimpArgs false
set_option linter.unusedVariables false

namespace Go.Proofs.Ytnebloeideodmaa.Sep
open Go.RowKit
open Go.Proofs.Ytnebloeideodmaa.Mem (Dist Blk Chg below0)

/-- a log and the reference's, alike, of no more than so many entries -/
structure LSt where
  bi : Int
  bt : Int
  bc : Int
  es : List EntD
structure OkS (n : Nat) (s : LSt) : Prop where
  inv : InvL s.bi s.bt s.es
  bc : -9223372036854775808 ≤ s.bc ∧ s.bc ≤ 9223372036854775807
  le : s.es.length ≤ n
def StT (gp gq n : Nat) : Ass := fun rs => ∃ s : LSt, OkS n s ∧ Parts [LogD gp s.bi s.bt s.bc s.es, RfT gq s.bi s.bt s.bc s.es] rs
theorem StT.open_ {gp gq n : Nat} : ∀ rs, StT gp gq n rs → ∃ x : { s : LSt // OkS n s }, Parts [LogD gp x.1.bi x.1.bt x.1.bc x.1.es, RfT gq x.1.bi x.1.bt x.1.bc x.1.es] rs := fun _ ⟨s, h, hr⟩ => ⟨⟨s, h⟩, hr⟩
/-- what a step hands in: of its own words or made by the hand -/
structure AdOk (X Y : Ass) (x : RfV) : Prop where
  rd : RdEs (star [Y, X]) (.slice x.A x.L.length x.c) x.L
  cap : x.L.length ≤ x.c
  len : x.L.length ≤ 6
  hd : ∀ e, e ∈ x.L → e.e.d.length ≤ 140737488351232
def AdT (av : Value) (X : Ass) : Ass := fun rs => ∃ (x : RfV) (Y : Ass), (av = .slice x.A x.L.length x.c ∧ AdOk X Y x) ∧ star [Y, X] rs
theorem AdT.open_ {av : Value} {X : Ass} : ∀ rs, AdT av X rs → ∃ x : { z : RfV × PSigma fun _ : Unit => Ass // av = .slice z.1.A z.1.L.length z.1.c ∧ AdOk X z.2.2 z.1 }, Parts [star [x.1.2.2, X]] rs := fun _ ⟨x, Y, h, hr⟩ => ⟨⟨(x, ⟨(), Y⟩), h⟩, Parts.one hr⟩
end Go.Proofs.Ytnebloeideodmaa.Sep

namespace Go.Proofs.Ytnebloeideodmaa.Sep
open Go.RowKit
open Go.Proofs.Ytnebloeideodmaa.Mem (Dist Blk Chg below0)

end Go.Proofs.Ytnebloeideodmaa.Sep

namespace Go.Proofs.Ytnebloeideodmaa.Sep
open Go.ChangeShapes Go.WideShapes Go.ChangeAt Go.RowKit
section
variable {H : Type} {enc : TypeId × Value → H} {P : Program}
theorem open_slice_at {α : Type} [Inhabited α] {k : Nat} {enc' : α → List Value} {ok : α → Prop} {wt : α → Nat} {t e : TypeId} (he : EncOf k enc') (hk : 0 < k) (hu : P.underlying t = some (.slice e)) (hC : P.cellsOf e = k) {W : World} {base : Nat} {spare : Nat → Bool} {held : Bool} {v : Value} {n0 : Nat} {x0 : DataW H × List MemPlace}
    (hel : ∀ (n : Nat) (cs : List Value) (x : DataW H × List MemPlace), cs.length = k → DataW.trod enc P W base spare held n e cs = some x → ∃ y : α, cs = enc' y ∧ ok y ∧ wt y ≤ Rows.uptoBulk x.1)
    (hf : DataW.trod enc P W base spare held n0 t [v] = some x0) : ∃ A c, ∃ l : List α, v = .slice A l.length c ∧ l.length ≤ maxLen ∧ SlRd W k v l.length (flat enc' l) ∧ (∀ y ∈ l, ok y) ∧ (l.map wt).sum + 1 ≤ Rows.uptoBulk x0.1 := by
  rcases DataW.trod_slice hu hf with ⟨hcs, hx⟩ | ⟨a, len, cap, elems, rest, n, _, hcs, hx, _, hl, hm, hlen, hels, _, _⟩
  · simp at hcs
    subst hcs
    exact ⟨none, 0, [], rfl, Nat.zero_le _, ⟨by simp [flat], none, 0, rfl, .inl ⟨rfl, rfl⟩⟩, (fun y hy => by cases hy), bulk_pos _⟩
  · simp at hcs
    subst hcs
    rw [hC] at hels
    have each : ∀ i, i < len → ∃ y : α, ok y ∧ (∀ j x, (enc' y)[j]? = some x → W.cell? ((a.add (i * k)).add j) = some x) ∧ ∃ e, elems[i]? = some e ∧ wt y ≤ Rows.uptoBulk e.1 := by
      intro i hi
      have h1 := hels i hi
      rw [List.getElem?_eq_getElem (show i < elems.length by omega), Option.bind_eq_some_iff] at h1
      obtain ⟨cs', hcs, ht⟩ := h1
      obtain ⟨_, hcl, hat⟩ := World.cells?_some hcs
      obtain ⟨y, rfl, hy, hw⟩ := hel _ _ _ hcl ht
      exact ⟨y, hy, fun j x hj => (hat j (by rw [← hcl]; exact (List.getElem?_eq_some_iff.1 hj).1)).trans hj, _, List.getElem?_eq_getElem (by omega), hw⟩
    obtain ⟨f, hf⟩ := Go.Deep.choose_lt each
    have hll : ((List.range len).map f).length = len := by simp
    have hat : ∀ {i : Nat} {y : α}, ((List.range len).map f)[i]? = some y → i < len ∧ y = f i := by
      intro i y hi
      have hil : i < len := by have := (List.getElem?_eq_some_iff.1 hi).1; simpa using this
      rw [List.getElem?_map, List.getElem?_range hil] at hi
      simp only [Option.map_some, Option.some.injEq] at hi
      exact ⟨hil, hi.symm⟩
    refine ⟨some a, cap, (List.range len).map f, by rw [hll], by rw [hll]; omega, ?_, ?_, ?_⟩
    · rw [hll]
      refine ⟨by rw [flat_len he, hll], some a, cap, rfl, .inr ⟨a, rfl, fun q x hq => ?_⟩⟩
      obtain ⟨y, hy, hyx⟩ := flat_pick he hk hq
      obtain ⟨hil, rfl⟩ := hat hy
      have hc := (hf (q / k) hil).2.1 (q % k) x hyx
      have ha : a = ⟨a.block, a.off, none⟩ := by
        obtain ⟨z, hz⟩ : ∃ z, (enc' (f 0))[0]? = some z := ⟨_, List.getElem?_eq_getElem (by have := he.len (f 0); omega)⟩
        have h0 := (hf 0 (Nat.lt_of_le_of_lt (Nat.zero_le _) hil)).2.1 0 _ hz
        rw [Nat.zero_mul, show (a.add 0).add 0 = a by simp [Addr.add]] at h0
        exact spot0 h0
      rw [ha, Addr.add_lit, Addr.add_lit] at hc
      rw [ha, Addr.add_lit]
      have e1 : a.off + q / k * k + q % k = a.off + q := by rw [Nat.add_assoc, Nat.mul_comm]; congr 1; exact Nat.div_add_mod q k
      rw [e1] at hc
      exact hc
    · intro y hy
      obtain ⟨i, hi⟩ := List.getElem?_of_mem hy
      obtain ⟨hil, rfl⟩ := hat hi
      exact (hf i hil).1
    · rw [(Prod.mk.inj hx).1]
      simp only [Rows.uptoBulk]
      have h1 : (((List.range len).map f).map wt).sum ≤ Rows.uptoBulkAll (elems.map (·.1)) := by
        rw [List.map_map]
        have he : elems.map (·.1) = (List.range len).map fun i => ((elems[i]?).map (·.1)).getD .nil := by
          apply List.ext_getElem?
          intro i
          by_cases hi : i < len
          · rw [List.getElem?_map, List.getElem?_map, List.getElem?_range hi, List.getElem?_eq_getElem (by omega)]
            simp [List.getElem?_eq_getElem (show i < elems.length by omega)]
          · rw [List.getElem?_eq_none (by simp; omega), List.getElem?_eq_none (by simp; omega)]
        rw [he]
        refine bulk_map _ _ _ (fun i hi => ?_)
        obtain ⟨_, _, e, he1, hw⟩ := hf i (List.mem_range.1 hi)
        rw [he1]
        exact hw
      omega
/-- a []byte, met anywhere -/
theorem open_8at {W : World} {base : Nat} {spare : Nat → Bool} {held : Bool} {v : Value} {n0 : Nat} {x0 : DataW H × List MemPlace} (hf : DataW.trod enc Try.prog W base spare held n0 30 [v] = some x0) :
    ∃ A c l, v = .slice A l.length c ∧ Sl8 W (.slice A l.length c) l ∧ l.length ≤ maxLen ∧ l.length + 1 ≤ Rows.uptoBulk x0.1 := by
  obtain ⟨A, c, l, hcs, hb, hd⟩ := trod_u8s tyU8 cells_u8 hf
  simp at hcs
  exact ⟨A, c, l, hcs, ⟨A, c, rfl, hb.weaken fun _ _ _ => trivial⟩, Nat.le_trans hb.1 hb.2.1, bulk_bytes hd⟩
end
end Go.Proofs.Ytnebloeideodmaa.Sep

namespace Go.Proofs.Ytnebloeideodmaa.Sep
open Go.ChangeShapes Go.WideShapes Go.ChangeAt Go.RowKit
open Go.Proofs.Ytnebloeideodmaa.Mem (Dist Blk Chg below0)
/-- each once -/
def onceL : List Nat → List Nat
  | [] => []
  | a :: l => if a ∈ onceL l then onceL l else a :: onceL l
theorem once_mem {a : Nat} : ∀ {l : List Nat}, a ∈ onceL l ↔ a ∈ l
  | [] => Iff.rfl
  | b :: l => by
    have ih := once_mem (a := a) (l := l)
    unfold onceL
    split
    · rename_i h
      rw [ih, List.mem_cons]
      refine ⟨.inr, fun h2 => ?_⟩
      rcases h2 with rfl | h2
      · exact once_mem.1 h
      · exact h2
    · rw [List.mem_cons, List.mem_cons, ih]
theorem once_nodup : ∀ l : List Nat, (onceL l).Nodup
  | [] => List.nodup_nil
  | b :: l => by
    unfold onceL
    split
    · exact once_nodup l
    · rename_i h
      exact List.nodup_cons.2 ⟨h, once_nodup l⟩
def rowAt (w : World) (g : Nat) : RowT := (g, none, match w.heap[g]? with | some (.cells C e f) => litC C e f | _ => #[])
def ArgT (w : World) (gs : List Nat) : Ass := fun rs => rs = (onceL gs).map (rowAt w)
def CellsAt (w : World) (g : Nat) : Prop := ∃ C e f, w.heap[g]? = some (.cells C e f)
theorem litC_inj {C C' : Array Value} {e e' : TypeId} {f f' : Nat × Nat} (h : litC C e f = litC C' e' f') : C = C' ∧ e = e' ∧ f = f' := by
  obtain ⟨f1, f2⟩ := f
  obtain ⟨g1, g2⟩ := f'
  unfold litC at h
  simp at h
  obtain ⟨h1, h2, h3, h4⟩ := h
  refine ⟨h1, ?_, ?_⟩
  · first | exact h2 | exact Int.ofNat.inj h2 | omega
  · rw [show f1 = g1 by first | exact h3 | omega, show f2 = g2 by first | exact h4 | omega]
theorem row_is {w w' : World} {g : Nat} (hc : CellsAt w g) (h : RowX w' (rowAt w g)) : w'.heap[g]? = w.heap[g]? := by
  obtain ⟨C, e, f, hw⟩ := hc
  unfold rowAt at h
  rw [hw] at h
  rcases h with ⟨es, c, _, h2⟩ | ⟨b, s, seen, c, _, h2⟩ | ⟨C', e', f', h1, h2⟩
  · unfold litC mapC at h2
    simp at h2
  · unfold litC iterC at h2
    simp at h2
  · obtain ⟨rfl, rfl, rfl⟩ := litC_inj h2
    rw [hw]; exact h1
theorem row_at {w : World} {g : Nat} (hc : CellsAt w g) : RowX w (rowAt w g) := by
  obtain ⟨C, e, f, hw⟩ := hc
  unfold rowAt
  rw [hw]
  exact .inr (.inr ⟨C, e, f, hw, rfl⟩)
theorem cells_of {w : World} {a : Addr} {x : Value} (h : w.cell? a = some x) : CellsAt w a.block := by
  unfold World.cell? at h
  split at h
  · rename_i c e f hc
    exact ⟨c, e, f, hc⟩
  · cases h
theorem cell_eq {w w' : World} {a : Addr} (h : w'.heap[a.block]? = w.heap[a.block]?) : w'.cell? a = w.cell? a := by
  unfold World.cell?
  rw [h]
/-- the blocks that a slice's reading needs -/
theorem sl_blocks {w : World} {k : Nat} {v : Value} {m : Nat} {ys : List Value} (h : SlRd w k v m ys) : ∃ gs : List Nat, (∀ g ∈ gs, CellsAt w g) ∧ ∀ w' : World, (∀ g ∈ gs, w'.heap[g]? = w.heap[g]?) → SlRd w' k v m ys := by
  obtain ⟨h1, A, c, e, h2⟩ := h
  rcases h2 with h2 | ⟨a, ha, h2⟩
  · exact ⟨[], (fun _ h => nomatch h), fun w' _ => ⟨h1, A, c, e, .inl h2⟩⟩
  · cases ys with
    | nil => exact ⟨[], (fun _ h => nomatch h), fun w' _ => ⟨h1, A, c, e, .inr ⟨a, ha, fun j x hx => by simp at hx⟩⟩⟩
    | cons y ys =>
      have h3 := cells_of (h2 0 y rfl)
      refine ⟨[(a.add 0).block], fun g hg => by rw [List.mem_singleton.1 hg]; exact h3, fun w' hw => ⟨h1, A, c, e, .inr ⟨a, ha, fun j x hx => ?_⟩⟩⟩
      have hb : (a.add j).block = (a.add 0).block := by unfold Addr.add; split <;> rfl
      exact (cell_eq (by rw [hb]; exact hw _ (List.mem_singleton.2 rfl))).trans (h2 j x hx)
theorem s8_blocks {w : World} {v : Value} {l : List UInt8} (h : Sl8 w v l) : ∃ gs : List Nat, (∀ g ∈ gs, CellsAt w g) ∧ ∀ w' : World, (∀ g ∈ gs, w'.heap[g]? = w.heap[g]?) → Sl8 w' v l := by
  obtain ⟨A, c, e, h1, h2, h3⟩ := h
  cases l with
  | nil => exact ⟨[], (fun _ h => nomatch h), fun w' _ => ⟨A, c, e, h1, h2, fun h => absurd h (by simp)⟩⟩
  | cons y ys =>
    obtain ⟨g, o, hA, _, h4⟩ := h3 (by simp)
    have h5 := cells_of (h4 0 y rfl)
    refine ⟨[g], fun k hk => by rw [List.mem_singleton.1 hk]; exact h5, fun w' hw => ⟨A, c, e, h1, h2, fun _ => ⟨g, o, hA, trivial, fun j b hb => ?_⟩⟩⟩
    rw [cell_eq (a := ⟨g, o + j, none⟩) (hw g (List.mem_singleton.2 rfl))]
    exact h4 j b hb
theorem argT_same {w w' : World} {gs : List Nat} (hc : ∀ g ∈ gs, CellsAt w g) {rs : List RowT} (h : ArgT w gs rs) (hr : RowsOf w' rs) : ∀ g ∈ gs, w'.heap[g]? = w.heap[g]? := fun g hg => by
  obtain rfl : rs = _ := h
  exact row_is (hc g hg) (hr.mem _ (List.mem_map.2 ⟨g, once_mem.2 hg, rfl⟩))
theorem calls_argT {P : Program} {F : FuncId} {args : Array Value} {val : Value} {w : World} {gs : List Nat} (hc : ∀ g ∈ gs, CellsAt w g) (h : Does P F args [ArgT w gs] (fun _ : Unit => val) (fun _ => [ArgT w gs])) : Calls P F args w fun e w' => e = .returned val ∧ Below w.heap.size w w' := by
  have hd : Dist ((onceL gs).map (rowAt w)) := dist_iff.2 (by
    rw [List.map_map]
    have : ((fun x : RowT => x.1) ∘ rowAt w) = id := rfl
    first
      | (rw [this, List.map_id]; exact once_nodup gs)
      | (simpa [Function.comp_def, rowAt] using once_nodup gs))
  refine (h w _ (Parts.one rfl) (rows_iff.2 fun x hx => ?_) hd).mono ?_
  · obtain ⟨g, hg, rfl⟩ := List.mem_map.1 hx
    exact row_at (hc g (once_mem.1 hg))
  · rintro e w' ⟨_, he, rs', hp, hch⟩
    have hrs := hp.one'
    refine ⟨he, hch.mod.os, hch.mod.tape, hch.mod.output, hch.mod.size, fun k hk => ?_⟩
    cases Classical.em (k ∈ gs) with
    | inl hk2 => exact argT_same hc hrs hch.rows k hk2
    | inr hk2 =>
      refine hch.mod.block k hk ?_
      rintro ⟨x, hx, rfl⟩
      obtain ⟨g, hg, rfl⟩ := List.mem_map.1 hx
      exact hk2 (once_mem.1 hg)
theorem all_blocks {w : World} {α : Type} {f : α → Value} {d : α → List UInt8} : ∀ {l : List α}, (∀ y ∈ l, Sl8 w (f y) (d y)) → ∃ gs : List Nat, (∀ g ∈ gs, CellsAt w g) ∧ ∀ w' : World, (∀ g ∈ gs, w'.heap[g]? = w.heap[g]?) → ∀ y ∈ l, Sl8 w' (f y) (d y)
  | [], _ => ⟨[], (fun _ h => nomatch h), fun _ _ _ h => nomatch h⟩
  | y :: l, h => by
    obtain ⟨g0, hc0, r0⟩ := s8_blocks (h y (by simp))
    obtain ⟨g1, hc1, r1⟩ := all_blocks (l := l) fun z hz => h z (by simp [hz])
    refine ⟨g0 ++ g1, fun g hg => (List.mem_append.1 hg).elim (hc0 g) (hc1 g), fun w' hw z hz => ?_⟩
    rcases List.mem_cons.1 hz with rfl | hz
    · exact r0 w' fun g hg => hw g (List.mem_append.2 (.inl hg))
    · exact r1 w' (fun g hg => hw g (List.mem_append.2 (.inr hg))) z hz

theorem ents_blocks {w : World} {v : Value} {l : List EntV} (h : EntsRd w v l) : ∃ gs : List Nat, (∀ g ∈ gs, CellsAt w g) ∧ ∀ w' : World, (∀ g ∈ gs, w'.heap[g]? = w.heap[g]?) → EntsRd w' v l := by
  obtain ⟨g0, hc0, r0⟩ := sl_blocks h.1
  obtain ⟨g1, hc1, r1⟩ := all_blocks h.2
  exact ⟨g0 ++ g1, fun g hg => (List.mem_append.1 hg).elim (hc0 g) (hc1 g), fun w' hw => ⟨r0 w' fun g hg => hw g (List.mem_append.2 (.inl hg)), r1 w' fun g hg => hw g (List.mem_append.2 (.inr hg))⟩⟩
theorem argT_es {w : World} {gs : List Nat} (hc : ∀ g ∈ gs, CellsAt w g) {v : Value} {l : List EntV} (h : ∀ w' : World, (∀ g ∈ gs, w'.heap[g]? = w.heap[g]?) → EntsRd w' v l) : RdEs (ArgT w gs) v l := fun _ w' h1 h2 => h w' (argT_same hc h1 h2)
theorem calls_es1 {P : Program} {F : FuncId} {args : Array Value} {val : Value} {w : World} {v : Value} {l : List EntV} (h0 : EntsRd w v l) (h : ∀ X : Ass, RdEs X v l → Does P F args [X] (fun _ : Unit => val) (fun _ => [X])) : Calls P F args w fun e w' => e = .returned val ∧ Below w.heap.size w w' := by
  obtain ⟨g0, hc0, r0⟩ := ents_blocks h0
  exact calls_argT hc0 (h _ (argT_es hc0 r0))
/-- one step -/
structure StepE where
  what : Int
  x1 : Int
  x2 : Int
  A : Option Addr
  c : Nat
  l : List EntV
  b1 : Int
  b2 : Int
  b3 : Int
  nr : Bool
  off : Int
instance : Inhabited StepE := ⟨⟨0, 0, 0, none, 0, [], 0, 0, 0, false, 0⟩⟩
structure StepE.ok (x : StepE) : Prop where
  what : -9223372036854775808 ≤ x.what ∧ x.what ≤ 9223372036854775807
  x1 : 0 ≤ x.x1 ∧ x.x1 ≤ 18446744073709551615
  x2 : 0 ≤ x.x2 ∧ x.x2 ≤ 18446744073709551615
  b1 : 0 ≤ x.b1 ∧ x.b1 ≤ 18446744073709551615
  b2 : 0 ≤ x.b2 ∧ x.b2 ≤ 18446744073709551615
  b3 : -9223372036854775808 ≤ x.b3 ∧ x.b3 ≤ 9223372036854775807
  off : -9223372036854775808 ≤ x.off ∧ x.off ≤ 9223372036854775807
  ok : ∀ y, y ∈ x.l → y.e.ok
  hd : ∀ y, y ∈ x.l → y.e.d.length ≤ 140737488351232
  cap : x.l.length ≤ x.c
section
variable {H : Type} {enc : TypeId × Value → H} {W : World} {base b0 : Nat} {r : Reach} {spare : Nat → Bool} {held : Bool} {v : Value} {d : DataW H} {p : List MemPlace}
theorem k_entryL : Try.prog.cellsOf 32 = 5 := by kernel_rfl
theorem open_baseV (hval : Value.okWide Try.prog W r b0 28 v) (h : DataW.Trod enc Try.prog W base spare held 28 v d p) : ∃ z0 z1 z2, v = .agg #[.int .u64 z0, .int .u64 z1, .int .i64 z2] ∧ (0 ≤ z0 ∧ z0 ≤ 18446744073709551615) ∧ (0 ≤ z1 ∧ z1 ≤ 18446744073709551615) ∧ (-9223372036854775808 ≤ z2 ∧ z2 ≤ 9223372036854775807) := by
  obtain ⟨cs, rfl, hsz⟩ := okWide_struct Try.underlying28 hval
  have hcl : cs.toList.length = 3 := by rw [Array.length_toList]; exact hsz.trans (by kernel_rfl)
  obtain ⟨fuel, hf⟩ := h
  have hB : BaseT 28 _ _ _ := ⟨Try.underlying28, ⟨rfl, rfl⟩, ⟨rfl, rfl⟩, ⟨rfl, rfl⟩⟩
  obtain ⟨l⟩ := cs
  match l, hcl with
  | [a0, a1, a2], _ =>
    obtain ⟨z0, z1, z2, rfl, rfl, rfl, w0, w1, w2⟩ := open_base (x := (d, p)) hB hf
    exact ⟨z0, z1, z2, rfl, w0, w1, w2⟩
theorem sum_memL {l : List Nat} {x : Nat} (h : x ∈ l) : x ≤ l.sum := by
  induction l with
  | nil => cases h
  | cons y r ih =>
    rw [List.sum_cons]
    rcases List.mem_cons.1 h with rfl | h
    · omega
    · have := ih h; omega
theorem sum_lenL {l : List EntV} : l.length ≤ (l.map fun y : EntV => y.e.d.length + 1).sum := by
  induction l with
  | nil => exact Nat.le_refl _
  | cons y r ih => rw [List.map_cons, List.sum_cons, List.length_cons]; omega
theorem bulk_mem {H : Type} {d : DataW H} : ∀ {l : List (DataW H)}, d ∈ l → Rows.uptoBulk d ≤ Rows.uptoBulkAll l
  | [], h => by cases h
  | x :: r, h => by
    simp only [Rows.uptoBulkAll]
    rcases List.mem_cons.1 h with rfl | h
    · omega
    · have := bulk_mem h; omega
/-- entries, within the second form's bound -/
theorem open_entU {n : Nat} {cs : List Value} {x : DataW H × List MemPlace} (hcl : cs.length = 5) (h : DataW.trod enc Try.prog W base spare held n 32 cs = some x) : ∃ y : EntV, cs = encV y ∧ (y.e.ok ∧ Sl8 W y.v y.e.d) ∧ y.e.d.length + 1 ≤ Rows.uptoBulk x.1 := by
  obtain ⟨ys, n', _, hx, _, hyl, hf⟩ := DataW.trod_struct Try.underlying32 h
  have hyl : ys.length = 5 := hyl
  match cs, hcl with
  | [a0, a1, a2, a3, a4], _ =>
    obtain ⟨y0, g0⟩ : ∃ y, ys[0]? = some y := ⟨_, List.getElem?_eq_getElem (by omega)⟩
    obtain ⟨y1, g1⟩ : ∃ y, ys[1]? = some y := ⟨_, List.getElem?_eq_getElem (by omega)⟩
    obtain ⟨y2, g2⟩ : ∃ y, ys[2]? = some y := ⟨_, List.getElem?_eq_getElem (by omega)⟩
    obtain ⟨y3, g3⟩ : ∃ y, ys[3]? = some y := ⟨_, List.getElem?_eq_getElem (by omega)⟩
    obtain ⟨y4, g4⟩ : ∃ y, ys[4]? = some y := ⟨_, List.getElem?_eq_getElem (by omega)⟩
    have h0 := fldF (⟨rfl, rfl⟩ : F1 _ 3 0) k_int (hf 0 _ rfl) (zs := [a0]) rfl g0
    have h1 := fldF (⟨rfl, rfl⟩ : F1 _ 26 1) k_u64 (hf 1 _ rfl) (zs := [a1]) rfl g1
    have h2 := fldF (⟨rfl, rfl⟩ : F1 _ 26 2) k_u64 (hf 2 _ rfl) (zs := [a2]) rfl g2
    have h3 := fldF (⟨rfl, rfl⟩ : F1 _ 30 3) k_u8s (hf 3 _ rfl) (zs := [a3]) rfl g3
    have h4 := fldF (⟨rfl, rfl⟩ : F1 _ 3 4) k_int (hf 4 _ rfl) (zs := [a4]) rfl g4
    obtain ⟨z0, e0, _, w0⟩ := DataW.trod_int Try.underlying3 h0
    obtain ⟨z1, e1, _, w1⟩ := DataW.trod_int Try.underlying26 h1
    obtain ⟨z2, e2, _, w2⟩ := DataW.trod_int Try.underlying26 h2
    obtain ⟨A, c, l, rfl, hl, hl2, hl3⟩ := open_8at h3
    obtain ⟨z4, e4, _, w4⟩ := DataW.trod_int Try.underlying3 h4
    simp at e0 e1 e2 e4
    subst e0; subst e1; subst e2; subst e4
    have hm : maxLen ≤ 9223372036854775807 := by unfold maxLen; omega
    refine ⟨⟨⟨z0, z1, z2, l, z4⟩, A, c⟩, rfl, ⟨⟨wf_i64 w0, wf_u64 w1, wf_u64 w2, by show l.length ≤ _; omega, wf_i64 w4⟩, hl⟩, ?_⟩
    subst hx
    have h8 : Rows.uptoBulk y3.1 ≤ Rows.uptoBulkAll (ys.map (·.1)) := bulk_mem (List.mem_of_getElem? (by rw [List.getElem?_map, g3]; rfl))
    show l.length + 1 ≤ Rows.uptoBulkAll (ys.map (·.1)) + 1
    omega
theorem open_entsU (hval : Value.okWide Try.prog W r b0 34 v) (h : DataW.Trod enc Try.prog W base spare held 34 v d p) : ∃ A c, ∃ l : List EntV, v = .slice A l.length c ∧ EntsRd W v l ∧ (∀ y, y ∈ l → y.e.ok) ∧ (∀ y, y ∈ l → y.e.d.length ≤ Rows.uptoBulk d) ∧ l.length ≤ Rows.uptoBulk d := by
  obtain ⟨a0, len0, cap0, rfl⟩ := okWide_slice Try.underlying34 hval
  obtain ⟨fuel, hf⟩ := h
  obtain ⟨A, c, l, hv, hl, hr, ho, hw⟩ := open_slice_at okV (by decide) Try.underlying34 k_entryL (ok := fun y : EntV => y.e.ok ∧ Sl8 W y.v y.e.d) (wt := fun y : EntV => y.e.d.length + 1) (fun n cs x hcl h => open_entU hcl h) (x0 := (d, p)) hf
  have hw : (l.map fun y : EntV => y.e.d.length + 1).sum + 1 ≤ Rows.uptoBulk d := hw
  refine ⟨A, c, l, hv, ⟨hr, fun x hx => (ho x hx).2⟩, fun x hx => (ho x hx).1, fun x hx => ?_, ?_⟩
  · have := sum_memL (List.mem_map_of_mem (f := fun y : EntV => y.e.d.length + 1) hx)
    omega
  · have := sum_lenL (l := l)
    omega
end
end Go.Proofs.Ytnebloeideodmaa.Sep
