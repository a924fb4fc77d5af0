/-
  ChkO
-/
import Derived.Test.YtikcleaicbihfaaAG01
import Derived.Test.YtikcleaicbihfaaAH01
import Derived.SizedLaws
set_option linter.unusedSimpArgs false
set_option linter.unusedVariables false

namespace Go.Proofs.Ytikcleaicbihfaa.Sep
open Go.ChangeShapes Go.WideShapes Go.ChangeAt Go.RowKit
open Go.Proofs.Ytikcleaicbihfaa.Mem (Dist Blk Chg below0)
/-- each once -/
def onceL : List Nat → List Nat
  | [] => []
  | a :: l => if a ∈ onceL l then onceL l else a :: onceL l
theorem once_mem {a : Nat} : ∀ {l : List Nat}, a ∈ onceL l ↔ a ∈ l
  | [] => Iff.rfl
  | b :: l => by
    have ih := once_mem (a := a) (l := l)
    unfold onceL
    split
    · rename_i h
      rw [ih, List.mem_cons]
      refine ⟨.inr, fun h2 => ?_⟩
      rcases h2 with rfl | h2
      · exact once_mem.1 h
      · exact h2
    · rw [List.mem_cons, List.mem_cons, ih]
theorem once_nodup : ∀ l : List Nat, (onceL l).Nodup
  | [] => List.nodup_nil
  | b :: l => by
    unfold onceL
    split
    · exact once_nodup l
    · rename_i h
      exact List.nodup_cons.2 ⟨h, once_nodup l⟩
def rowAt (w : World) (g : Nat) : RowT := (g, none, match w.heap[g]? with | some (.cells C e f) => litC C e f | _ => #[])
def ArgT (w : World) (gs : List Nat) : Ass := fun rs => rs = (onceL gs).map (rowAt w)
def CellsAt (w : World) (g : Nat) : Prop := ∃ C e f, w.heap[g]? = some (.cells C e f)
theorem litC_inj {C C' : Array Value} {e e' : TypeId} {f f' : Nat × Nat} (h : litC C e f = litC C' e' f') : C = C' ∧ e = e' ∧ f = f' := by
  obtain ⟨f1, f2⟩ := f
  obtain ⟨g1, g2⟩ := f'
  unfold litC at h
  simp at h
  obtain ⟨h1, h2, h3, h4⟩ := h
  refine ⟨h1, ?_, ?_⟩
  · first | exact h2 | exact Int.ofNat.inj h2 | omega
  · rw [show f1 = g1 by first | exact h3 | omega, show f2 = g2 by first | exact h4 | omega]
theorem row_is {w w' : World} {g : Nat} (hc : CellsAt w g) (h : RowX w' (rowAt w g)) : w'.heap[g]? = w.heap[g]? := by
  obtain ⟨C, e, f, hw⟩ := hc
  unfold rowAt at h
  rw [hw] at h
  rcases h with ⟨es, c, _, h2⟩ | ⟨b, s, seen, c, _, h2⟩ | ⟨C', e', f', h1, h2⟩
  · unfold litC mapC at h2
    simp at h2
  · unfold litC iterC at h2
    simp at h2
  · obtain ⟨rfl, rfl, rfl⟩ := litC_inj h2
    rw [hw]; exact h1
theorem row_at {w : World} {g : Nat} (hc : CellsAt w g) : RowX w (rowAt w g) := by
  obtain ⟨C, e, f, hw⟩ := hc
  unfold rowAt
  rw [hw]
  exact .inr (.inr ⟨C, e, f, hw, rfl⟩)
theorem cells_of {w : World} {a : Addr} {x : Value} (h : w.cell? a = some x) : CellsAt w a.block := by
  unfold World.cell? at h
  split at h
  · rename_i c e f hc
    exact ⟨c, e, f, hc⟩
  · cases h
theorem cell_eq {w w' : World} {a : Addr} (h : w'.heap[a.block]? = w.heap[a.block]?) : w'.cell? a = w.cell? a := by
  unfold World.cell?
  rw [h]
/-- the blocks that a slice's reading needs -/
theorem sl_blocks {w : World} {k : Nat} {v : Value} {m : Nat} {ys : List Value} (h : SlRd w k v m ys) : ∃ gs : List Nat, (∀ g ∈ gs, CellsAt w g) ∧ ∀ w' : World, (∀ g ∈ gs, w'.heap[g]? = w.heap[g]?) → SlRd w' k v m ys := by
  obtain ⟨h1, A, c, e, h2⟩ := h
  rcases h2 with h2 | ⟨a, ha, h2⟩
  · exact ⟨[], (fun _ h => nomatch h), fun w' _ => ⟨h1, A, c, e, .inl h2⟩⟩
  · cases ys with
    | nil => exact ⟨[], (fun _ h => nomatch h), fun w' _ => ⟨h1, A, c, e, .inr ⟨a, ha, fun j x hx => by simp at hx⟩⟩⟩
    | cons y ys =>
      have h3 := cells_of (h2 0 y rfl)
      refine ⟨[(a.add 0).block], fun g hg => by rw [List.mem_singleton.1 hg]; exact h3, fun w' hw => ⟨h1, A, c, e, .inr ⟨a, ha, fun j x hx => ?_⟩⟩⟩
      have hb : (a.add j).block = (a.add 0).block := by unfold Addr.add; split <;> rfl
      exact (cell_eq (by rw [hb]; exact hw _ (List.mem_singleton.2 rfl))).trans (h2 j x hx)
theorem s8_blocks {w : World} {v : Value} {l : List UInt8} (h : Sl8 w v l) : ∃ gs : List Nat, (∀ g ∈ gs, CellsAt w g) ∧ ∀ w' : World, (∀ g ∈ gs, w'.heap[g]? = w.heap[g]?) → Sl8 w' v l := by
  obtain ⟨A, c, e, h1, h2, h3⟩ := h
  cases l with
  | nil => exact ⟨[], (fun _ h => nomatch h), fun w' _ => ⟨A, c, e, h1, h2, fun h => absurd h (by simp)⟩⟩
  | cons y ys =>
    obtain ⟨g, o, hA, _, h4⟩ := h3 (by simp)
    have h5 := cells_of (h4 0 y rfl)
    refine ⟨[g], fun k hk => by rw [List.mem_singleton.1 hk]; exact h5, fun w' hw => ⟨A, c, e, h1, h2, fun _ => ⟨g, o, hA, trivial, fun j b hb => ?_⟩⟩⟩
    rw [cell_eq (a := ⟨g, o + j, none⟩) (hw g (List.mem_singleton.2 rfl))]
    exact h4 j b hb
theorem argT_same {w w' : World} {gs : List Nat} (hc : ∀ g ∈ gs, CellsAt w g) {rs : List RowT} (h : ArgT w gs rs) (hr : RowsOf w' rs) : ∀ g ∈ gs, w'.heap[g]? = w.heap[g]? := fun g hg => by
  obtain rfl : rs = _ := h
  exact row_is (hc g hg) (hr.mem _ (List.mem_map.2 ⟨g, once_mem.2 hg, rfl⟩))
theorem argT_rd {w : World} {gs : List Nat} (hc : ∀ g ∈ gs, CellsAt w g) {α : Type} {k : Nat} {enc : α → List Value} {v : Value} {m : List α} (h : ∀ w' : World, (∀ g ∈ gs, w'.heap[g]? = w.heap[g]?) → SlRd w' k v m.length (flat enc m)) : Rd (ArgT w gs) k enc v m := fun _ w' h1 h2 => h w' (argT_same hc h1 h2)
theorem argT_rd8 {w : World} {gs : List Nat} (hc : ∀ g ∈ gs, CellsAt w g) {v : Value} {l : List UInt8} (h : ∀ w' : World, (∀ g ∈ gs, w'.heap[g]? = w.heap[g]?) → Sl8 w' v l) : Rd8 (ArgT w gs) v l := fun _ w' h1 h2 => h w' (argT_same hc h1 h2)
theorem calls_argT {P : Program} {F : FuncId} {args : Array Value} {val : Value} {w : World} {gs : List Nat} (hc : ∀ g ∈ gs, CellsAt w g) (h : Does P F args [ArgT w gs] (fun _ : Unit => val) (fun _ => [ArgT w gs])) : Calls P F args w fun e w' => e = .returned val ∧ Below w.heap.size w w' := by
  have hd : Dist ((onceL gs).map (rowAt w)) := dist_iff.2 (by
    rw [List.map_map]
    have : ((fun x : RowT => x.1) ∘ rowAt w) = id := rfl
    first
      | (rw [this, List.map_id]; exact once_nodup gs)
      | (simpa [Function.comp_def, rowAt] using once_nodup gs))
  refine (h w _ (Parts.one rfl) (rows_iff.2 fun x hx => ?_) hd).mono ?_
  · obtain ⟨g, hg, rfl⟩ := List.mem_map.1 hx
    exact row_at (hc g (once_mem.1 hg))
  · rintro e w' ⟨_, he, rs', hp, hch⟩
    have hrs := hp.one'
    refine ⟨he, hch.mod.os, hch.mod.tape, hch.mod.output, hch.mod.size, fun k hk => ?_⟩
    cases Classical.em (k ∈ gs) with
    | inl hk2 => exact argT_same hc hrs hch.rows k hk2
    | inr hk2 =>
      refine hch.mod.block k hk ?_
      rintro ⟨x, hx, rfl⟩
      obtain ⟨g, hg, rfl⟩ := List.mem_map.1 hx
      exact hk2 (once_mem.1 hg)
theorem all_blocks {w : World} {α : Type} {f : α → Value} {d : α → List UInt8} : ∀ {l : List α}, (∀ y ∈ l, Sl8 w (f y) (d y)) → ∃ gs : List Nat, (∀ g ∈ gs, CellsAt w g) ∧ ∀ w' : World, (∀ g ∈ gs, w'.heap[g]? = w.heap[g]?) → ∀ y ∈ l, Sl8 w' (f y) (d y)
  | [], _ => ⟨[], (fun _ h => nomatch h), fun _ _ _ h => nomatch h⟩
  | y :: l, h => by
    obtain ⟨g0, hc0, r0⟩ := s8_blocks (h y (by simp))
    obtain ⟨g1, hc1, r1⟩ := all_blocks (l := l) fun z hz => h z (by simp [hz])
    refine ⟨g0 ++ g1, fun g hg => (List.mem_append.1 hg).elim (hc0 g) (hc1 g), fun w' hw z hz => ?_⟩
    rcases List.mem_cons.1 hz with rfl | hz
    · exact r0 w' fun g hg => hw g (List.mem_append.2 (.inl hg))
    · exact r1 w' (fun g hg => hw g (List.mem_append.2 (.inr hg))) z hz

/-- one step -/
structure StepC where
  b : Int
  off : Int
  A : Option Addr
  c : Nat
  d : List UInt8
  la : Bool
  nr : Bool
  what : Int
instance : Inhabited StepC := ⟨⟨0, 0, none, 0, [], false, false, 0⟩⟩
def StepC.v (x : StepC) : Value := .slice x.A x.d.length x.c
def encSk (x : StepC) : List Value := [.int .u64 x.b, .int .i64 x.off, .slice x.A x.d.length x.c, .bool x.la, .bool x.nr, .int .i64 x.what]
theorem okSk : EncOf 6 encSk := ⟨fun _ => rfl, fun x v h => by unfold encSk at h; simp at h; rcases h with rfl | rfl | rfl | rfl | rfl | rfl <;> rfl⟩
structure StepC.ok (x : StepC) : Prop where
  b : 0 ≤ x.b ∧ x.b ≤ 18446744073709551615
  off : -9223372036854775808 ≤ x.off ∧ x.off ≤ 9223372036854775807
  what : -9223372036854775808 ≤ x.what ∧ x.what ≤ 9223372036854775807
  hd : x.d.length ≤ 140737488351232
theorem calls_c1 {P : Program} {F : FuncId} {args : Array Value} {val : Value} {w : World} {v : Value} {l : List UInt8} (h0 : Sl8 w v l) (h : ∀ X : Ass, Rd8 X v l → Does P F args [X] (fun _ : Unit => val) (fun _ => [X])) : Calls P F args w fun e w' => e = .returned val ∧ Below w.heap.size w w' := by
  obtain ⟨g0, hc0, r0⟩ := s8_blocks h0
  exact calls_argT hc0 (h _ (argT_rd8 hc0 r0))
theorem calls_c2 {P : Program} {F : FuncId} {args : Array Value} {val : Value} {w : World} {v1 : Value} {l1 : List StepC} (h1 : SlRd w 6 v1 l1.length (flat encSk l1)) (h2 : ∀ y ∈ l1, Sl8 w y.v y.d) (h : ∀ X : Ass, Rd X 6 encSk v1 l1 → (∀ y ∈ l1, Rd8 X y.v y.d) → Does P F args [X] (fun _ : Unit => val) (fun _ => [X])) : Calls P F args w fun e w' => e = .returned val ∧ Below w.heap.size w w' := by
  obtain ⟨g1, hc1, r1⟩ := sl_blocks h1
  obtain ⟨g2, hc2, r2⟩ := all_blocks h2
  have hc : ∀ g ∈ g1 ++ g2, CellsAt w g := fun g hg => (List.mem_append.1 hg).elim (hc1 g) (hc2 g)
  exact calls_argT hc (h _ (argT_rd hc fun w' hw => r1 w' fun g hg => hw g (by simp [hg])) fun y hy => argT_rd8 hc fun w' hw => r2 w' (fun g hg => hw g (by simp [hg])) y hy)
theorem calls_c3 {P : Program} {F : FuncId} {args : Array Value} {val : Value} {w : World} {v0 v1 : Value} {l0 : List UInt8} {l1 : List StepC} (h0 : Sl8 w v0 l0) (h1 : SlRd w 6 v1 l1.length (flat encSk l1)) (h2 : ∀ y ∈ l1, Sl8 w y.v y.d) (h : ∀ X : Ass, Rd8 X v0 l0 → Rd X 6 encSk v1 l1 → (∀ y ∈ l1, Rd8 X y.v y.d) → Does P F args [X] (fun _ : Unit => val) (fun _ => [X])) : Calls P F args w fun e w' => e = .returned val ∧ Below w.heap.size w w' := by
  obtain ⟨g0, hc0, r0⟩ := s8_blocks h0
  obtain ⟨g1, hc1, r1⟩ := sl_blocks h1
  obtain ⟨g2, hc2, r2⟩ := all_blocks h2
  have hc : ∀ g ∈ g0 ++ (g1 ++ g2), CellsAt w g := fun g hg => (List.mem_append.1 hg).elim (hc0 g) fun h => (List.mem_append.1 h).elim (hc1 g) (hc2 g)
  exact calls_argT hc (h _ (argT_rd8 hc fun w' hw => r0 w' fun g hg => hw g (by simp [hg])) (argT_rd hc fun w' hw => r1 w' fun g hg => hw g (by simp [hg])) fun y hy => argT_rd8 hc fun w' hw => r2 w' (fun g hg => hw g (by simp [hg])) y hy)
section
variable {H : Type} {enc : TypeId × Value → H} {W : World} {base b0 : Nat} {r : Reach} {spare : Nat → Bool} {held : Bool} {v : Value} {d : DataW H} {p : List MemPlace}
set_option maxRecDepth 100000 in
theorem open_stepsC (hval : Value.okWide Try.prog W r b0 39 v) (h : DataW.Trod enc Try.prog W base spare held 39 v d p) (hs : SizedD Try.prog 39 d) : ∃ A c, ∃ l : List StepC, v = .slice A l.length c ∧ l.length ≤ 9223372036854775807 ∧ SlRd W 6 v l.length (flat encSk l) ∧ (∀ y ∈ l, Sl8 W y.v y.d) ∧ ∀ y ∈ l, y.ok := by
  obtain ⟨a0, len0, cap0, rfl⟩ := okWide_slice Try.underlying39 hval
  obtain ⟨fuel, hf⟩ := h
  obtain ⟨A, c, l, hv, hl, hr, ho⟩ := open_slice_s okSk (by decide) Try.underlying39 (by kernel_rfl) (ok := fun y : StepC => Sl8 W y.v y.d ∧ y.ok) (x0 := (d, p)) (fun n cs x hcl h hs => by
    obtain ⟨ys, n', _, hx, _, hyl, hf⟩ := DataW.trod_struct Try.underlying44 h
    have hyl : ys.length = 6 := hyl
    match cs, hcl with
    | [a0, a1, a2, a3, a4, a5], _ =>
      obtain ⟨y0, g0⟩ : ∃ y, ys[0]? = some y := ⟨_, List.getElem?_eq_getElem (by omega)⟩
      obtain ⟨y1, g1⟩ : ∃ y, ys[1]? = some y := ⟨_, List.getElem?_eq_getElem (by omega)⟩
      obtain ⟨y2, g2⟩ : ∃ y, ys[2]? = some y := ⟨_, List.getElem?_eq_getElem (by omega)⟩
      obtain ⟨y3, g3⟩ : ∃ y, ys[3]? = some y := ⟨_, List.getElem?_eq_getElem (by omega)⟩
      obtain ⟨y4, g4⟩ : ∃ y, ys[4]? = some y := ⟨_, List.getElem?_eq_getElem (by omega)⟩
      obtain ⟨y5, g5⟩ : ∃ y, ys[5]? = some y := ⟨_, List.getElem?_eq_getElem (by omega)⟩
      have h0 := fldF (⟨rfl, rfl⟩ : F1 _ 29 0) k_u64 (hf 0 _ rfl) (zs := [a0]) rfl g0
      have h1 := fldF (⟨rfl, rfl⟩ : F1 _ 3 1) k_int (hf 1 _ rfl) (zs := [a1]) rfl g1
      have h2 := fldF (⟨rfl, rfl⟩ : F1 _ 22 2) k_u8s (hf 2 _ rfl) (zs := [a2]) rfl g2
      have h3 := fldF (⟨rfl, rfl⟩ : F1 _ 4 3) k_bool (hf 3 _ rfl) (zs := [a3]) rfl g3
      have h4 := fldF (⟨rfl, rfl⟩ : F1 _ 4 4) k_bool (hf 4 _ rfl) (zs := [a4]) rfl g4
      have h5 := fldF (⟨rfl, rfl⟩ : F1 _ 3 5) k_int (hf 5 _ rfl) (zs := [a5]) rfl g5
      have s2 := sizedF hs hx Try.underlying44 (j := 2) rfl (⟨rfl, rfl⟩ : F1 _ 22 2) g2
      obtain ⟨z0, e0, _, w0⟩ := DataW.trod_int Try.underlying29 h0
      obtain ⟨z1, e1, _, w1⟩ := DataW.trod_int Try.underlying3 h1
      obtain ⟨A2, c2, l2, e2, hr2, hd2⟩ := open_8s h2 s2
      obtain ⟨z3, e3, _⟩ := DataW.trod_bool Try.underlying4 h3
      obtain ⟨z4, e4, _⟩ := DataW.trod_bool Try.underlying4 h4
      obtain ⟨z5, e5, _, w5⟩ := DataW.trod_int Try.underlying3 h5
      simp at e0 e1 e3 e4 e5
      subst e0; subst e1; subst e2; subst e3; subst e4; subst e5
      exact ⟨⟨z0, z1, A2, c2, l2, z3, z4, z5⟩, rfl, hr2, ⟨wf_u64 w0, wf_i64 w1, wf_i64 w5, hd2⟩⟩) hf hs
  have hb : Try.prog.bytesOf 44 = 56 := by kernel_rfl
  rw [hb] at hl
  have hrb : reachBytes = 140737488351232 := rfl
  exact ⟨A, c, l, hv, by omega, hr, fun y hy => (ho y hy).1, fun y hy => (ho y hy).2⟩
end
end Go.Proofs.Ytikcleaicbihfaa.Sep
