/-
  MbG
-/
import Derived.Test.YtmcdjniebkfagaaAS01
import Derived.SizedLaws
set_option linter.unusedSimpArgs false
set_option linter.unusedVariables false

namespace Go.Proofs.Ytmcdjniebkfagaa.Sep
open Go.ChangeShapes Go.WideShapes Go.ChangeAt Go.RowKit
open Go.Proofs.Ytmcdjniebkfagaa.Mem (Dist Blk Chg below0)
/-- each once -/
def onceL : List Nat → List Nat
  | [] => []
  | a :: l => if a ∈ onceL l then onceL l else a :: onceL l
theorem once_mem {a : Nat} : ∀ {l : List Nat}, a ∈ onceL l ↔ a ∈ l
  | [] => Iff.rfl
  | b :: l => by
    have ih := once_mem (a := a) (l := l)
    unfold onceL
    split
    · rename_i h
      rw [ih, List.mem_cons]
      refine ⟨.inr, fun h2 => ?_⟩
      rcases h2 with rfl | h2
      · exact once_mem.1 h
      · exact h2
    · rw [List.mem_cons, List.mem_cons, ih]
theorem once_nodup : ∀ l : List Nat, (onceL l).Nodup
  | [] => List.nodup_nil
  | b :: l => by
    unfold onceL
    split
    · exact once_nodup l
    · rename_i h
      exact List.nodup_cons.2 ⟨h, once_nodup l⟩
def rowAt (w : World) (g : Nat) : RowT := (g, none, match w.heap[g]? with | some (.cells C e f) => litC C e f | _ => #[])
def ArgT (w : World) (gs : List Nat) : Ass := fun rs => rs = (onceL gs).map (rowAt w)
def CellsAt (w : World) (g : Nat) : Prop := ∃ C e f, w.heap[g]? = some (.cells C e f)
theorem litC_inj {C C' : Array Value} {e e' : TypeId} {f f' : Nat × Nat} (h : litC C e f = litC C' e' f') : C = C' ∧ e = e' ∧ f = f' := by
  obtain ⟨f1, f2⟩ := f
  obtain ⟨g1, g2⟩ := f'
  unfold litC at h
  simp at h
  obtain ⟨h1, h2, h3, h4⟩ := h
  refine ⟨h1, ?_, ?_⟩
  · first | exact h2 | exact Int.ofNat.inj h2 | omega
  · rw [show f1 = g1 by first | exact h3 | omega, show f2 = g2 by first | exact h4 | omega]
theorem row_is {w w' : World} {g : Nat} (hc : CellsAt w g) (h : RowX w' (rowAt w g)) : w'.heap[g]? = w.heap[g]? := by
  obtain ⟨C, e, f, hw⟩ := hc
  unfold rowAt at h
  rw [hw] at h
  rcases h with ⟨es, c, _, h2⟩ | ⟨b, s, seen, c, _, h2⟩ | ⟨C', e', f', h1, h2⟩
  · unfold litC mapC at h2
    simp at h2
  · unfold litC iterC at h2
    simp at h2
  · obtain ⟨rfl, rfl, rfl⟩ := litC_inj h2
    rw [hw]; exact h1
theorem row_at {w : World} {g : Nat} (hc : CellsAt w g) : RowX w (rowAt w g) := by
  obtain ⟨C, e, f, hw⟩ := hc
  unfold rowAt
  rw [hw]
  exact .inr (.inr ⟨C, e, f, hw, rfl⟩)
theorem cells_of {w : World} {a : Addr} {x : Value} (h : w.cell? a = some x) : CellsAt w a.block := by
  unfold World.cell? at h
  split at h
  · rename_i c e f hc
    exact ⟨c, e, f, hc⟩
  · cases h
theorem cell_eq {w w' : World} {a : Addr} (h : w'.heap[a.block]? = w.heap[a.block]?) : w'.cell? a = w.cell? a := by
  unfold World.cell?
  rw [h]
/-- the blocks that a slice's reading needs -/
theorem sl_blocks {w : World} {k : Nat} {v : Value} {m : Nat} {ys : List Value} (h : SlRd w k v m ys) : ∃ gs : List Nat, (∀ g ∈ gs, CellsAt w g) ∧ ∀ w' : World, (∀ g ∈ gs, w'.heap[g]? = w.heap[g]?) → SlRd w' k v m ys := by
  obtain ⟨h1, A, c, e, h2⟩ := h
  rcases h2 with h2 | ⟨a, ha, h2⟩
  · exact ⟨[], (fun _ h => nomatch h), fun w' _ => ⟨h1, A, c, e, .inl h2⟩⟩
  · cases ys with
    | nil => exact ⟨[], (fun _ h => nomatch h), fun w' _ => ⟨h1, A, c, e, .inr ⟨a, ha, fun j x hx => by simp at hx⟩⟩⟩
    | cons y ys =>
      have h3 := cells_of (h2 0 y rfl)
      refine ⟨[(a.add 0).block], fun g hg => by rw [List.mem_singleton.1 hg]; exact h3, fun w' hw => ⟨h1, A, c, e, .inr ⟨a, ha, fun j x hx => ?_⟩⟩⟩
      have hb : (a.add j).block = (a.add 0).block := by unfold Addr.add; split <;> rfl
      exact (cell_eq (by rw [hb]; exact hw _ (List.mem_singleton.2 rfl))).trans (h2 j x hx)
theorem argT_same {w w' : World} {gs : List Nat} (hc : ∀ g ∈ gs, CellsAt w g) {rs : List RowT} (h : ArgT w gs rs) (hr : RowsOf w' rs) : ∀ g ∈ gs, w'.heap[g]? = w.heap[g]? := fun g hg => by
  obtain rfl : rs = _ := h
  exact row_is (hc g hg) (hr.mem _ (List.mem_map.2 ⟨g, once_mem.2 hg, rfl⟩))
theorem argT_rd {w : World} {gs : List Nat} (hc : ∀ g ∈ gs, CellsAt w g) {α : Type} {k : Nat} {enc : α → List Value} {v : Value} {m : List α} (h : ∀ w' : World, (∀ g ∈ gs, w'.heap[g]? = w.heap[g]?) → SlRd w' k v m.length (flat enc m)) : Rd (ArgT w gs) k enc v m := fun _ w' h1 h2 => h w' (argT_same hc h1 h2)
theorem calls_argT {P : Program} {F : FuncId} {args : Array Value} {val : Value} {w : World} {gs : List Nat} (hc : ∀ g ∈ gs, CellsAt w g) (h : Does P F args [ArgT w gs] (fun _ : Unit => val) (fun _ => [ArgT w gs])) : Calls P F args w fun e w' => e = .returned val ∧ Below w.heap.size w w' := by
  have hd : Dist ((onceL gs).map (rowAt w)) := dist_iff.2 (by
    rw [List.map_map]
    have : ((fun x : RowT => x.1) ∘ rowAt w) = id := rfl
    first
      | (rw [this, List.map_id]; exact once_nodup gs)
      | (simpa [Function.comp_def, rowAt] using once_nodup gs))
  refine (h w _ (Parts.one rfl) (rows_iff.2 fun x hx => ?_) hd).mono ?_
  · obtain ⟨g, hg, rfl⟩ := List.mem_map.1 hx
    exact row_at (hc g (once_mem.1 hg))
  · rintro e w' ⟨_, he, rs', hp, hch⟩
    have hrs := hp.one'
    refine ⟨he, hch.mod.os, hch.mod.tape, hch.mod.output, hch.mod.size, fun k hk => ?_⟩
    cases Classical.em (k ∈ gs) with
    | inl hk2 => exact argT_same hc hrs hch.rows k hk2
    | inr hk2 =>
      refine hch.mod.block k hk ?_
      rintro ⟨x, hx, rfl⟩
      obtain ⟨g, hg, rfl⟩ := List.mem_map.1 hx
      exact hk2 (once_mem.1 hg)
/-- a law over a slice that is read only -/
theorem calls_arg1 {P : Program} {F : FuncId} {args : Array Value} {val : Value} {w : World} {α : Type} {k : Nat} {enc : α → List Value} {v1 : Value} {l : List α} (h1 : SlRd w k v1 l.length (flat enc l)) (h : ∀ X : Ass, Rd X k enc v1 l → Does P F args [X] (fun _ : Unit => val) (fun _ => [X])) : Calls P F args w fun e w' => e = .returned val ∧ Below w.heap.size w w' := by
  obtain ⟨g1, hc1, r1⟩ := sl_blocks h1
  exact calls_argT hc1 (h _ (argT_rd hc1 r1))
/-- how many elements a slice that came in has -/
theorem open_sz {H : Type} {enc : TypeId × Value → H} {P : Program} {W : World} {base n c : Nat} {A : Option Addr} {spare : Nat → Bool} {held : Bool} {t e : TypeId} {d : DataW H} {p : List MemPlace} (hu : P.underlying t = some (.slice e)) (h : DataW.Trod enc P W base spare held t (.slice A n c) d p) : n = 0 ∨ ∃ es sp, d = .slice es sp ∧ es.length = n := by
  obtain ⟨fuel, hf⟩ := h
  rcases DataW.trod_slice hu hf with ⟨hcs, hx⟩ | ⟨a, len', cap', elems, rest, n', _, hcs, hx, _, hl, hm, hlen, hels, _, _⟩
  · simp [Value.cells] at hcs
    exact .inl hcs.2.1
  · simp [Value.cells] at hcs
    obtain ⟨rfl, rfl, rfl⟩ := hcs
    right
    exact ⟨_, _, congrArg Prod.fst hx, by rw [List.length_map]; omega⟩
end Go.Proofs.Ytmcdjniebkfagaa.Sep
