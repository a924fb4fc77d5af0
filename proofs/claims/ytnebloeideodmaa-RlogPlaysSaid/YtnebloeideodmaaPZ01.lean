/-
  Opw · RlAn
-/
import Derived.Test.YtnebloeideodmaaPC01
import Derived.Test.YtnebloeideodmaaPD04
import Derived.Test.YtnebloeideodmaaPG03
import Derived.Test.YtnebloeideodmaaPK01
import Derived.Test.YtnebloeideodmaaPY02
import Derived.SizedLaws
set_option linter.unusedSimpArgs false
set_option linter.unusedVariables false
set_option maxRecDepth 100000
namespace Go.Proofs.Ytnebloeideodmaa.Sep
open Go.ChangeShapes Go.WideShapes Go.ChangeAt Go.RowKit
section
variable {H : Type} {enc : TypeId × Value → H} {P : Program}
end
end Go.Proofs.Ytnebloeideodmaa.Sep
namespace Go.Proofs.Ytnebloeideodmaa.Sep
open Go.ChangeShapes Go.WideShapes Go.ChangeAt Go.RowKit
open Go.Proofs.Ytnebloeideodmaa.Mem (AM BA Chg Aq)
def Hl : List Nat → List Nat
  | [] => []
  | a :: l => if a ∈ Hl l then Hl l else a :: Hl l
theorem Ga {a : Nat} : ∀ {l : List Nat}, a ∈ Hl l ↔ a ∈ l
  | [] => Iff.rfl
  | b :: l => by
    have ih := Ga (a := a) (l := l)
    unfold Hl
    split
    · rename_i h
      rw [ih, List.mem_cons]
      refine ⟨.inr, fun h2 => ?_⟩
      rcases h2 with rfl | h2
      · exact Ga.1 h
      · exact h2
    · rw [List.mem_cons, List.mem_cons, ih]
theorem Fm : ∀ l : List Nat, (Hl l).Nodup
  | [] => List.nodup_nil
  | b :: l => by
    unfold Hl
    split
    · exact Fm l
    · rename_i h
      exact List.nodup_cons.2 ⟨h, Fm l⟩
def CH (w : World) (g : Nat) : RowT := (g, none, match w.heap[g]? with | some (.cells C e f) => MF C e f | _ => #[])
def Sz (w : World) (gs : List Nat) : Ass := fun rs => rs = (Hl gs).map (CH w)
def CR (w : World) (g : Nat) : Prop := ∃ C e f, w.heap[g]? = some (.cells C e f)
theorem SA {C C' : Array Value} {e e' : TypeId} {f f' : Nat × Nat} (h : MF C e f = MF C' e' f') : C = C' ∧ e = e' ∧ f = f' := by
  obtain ⟨f1, f2⟩ := f
  obtain ⟨g1, g2⟩ := f'
  unfold MF at h
  simp at h
  obtain ⟨h1, h2, h3, h4⟩ := h
  refine ⟨h1, ?_, ?_⟩
  · first | exact h2 | exact Int.ofNat.inj h2 | omega
  · rw [show f1 = g1 by first | exact h3 | omega, show f2 = g2 by first | exact h4 | omega]
theorem VA {w w' : World} {g : Nat} (hc : CR w g) (h : Ci w' (CH w g)) : w'.heap[g]? = w.heap[g]? := by
  obtain ⟨C, e, f, hw⟩ := hc
  unfold CH at h
  rw [hw] at h
  rcases h with ⟨es, c, _, h2⟩ | ⟨b, s, seen, c, _, h2⟩ | ⟨C', e', f', h1, h2⟩
  · unfold MF VQ at h2
    simp at h2
  · unfold MF TK at h2
    simp at h2
  · obtain ⟨rfl, rfl, rfl⟩ := SA h2
    rw [hw]; exact h1
theorem VB {w : World} {g : Nat} (hc : CR w g) : Ci w (CH w g) := by
 obtain ⟨C, e, f, hw⟩ := hc
 unfold CH
 rw [hw]
 exact .inr (.inr ⟨C, e, f, hw, rfl⟩)
theorem Mx {w : World} {a : Addr} {x : Value} (h : w.cell? a = some x) : CR w a.block := by
  unfold World.cell? at h
  split at h
  · rename_i c e f hc
    exact ⟨c, e, f, hc⟩
  · cases h
theorem OV {w w' : World} {a : Addr} (h : w'.heap[a.block]? = w.heap[a.block]?) : w'.cell? a = w.cell? a := by
 unfold World.cell?
 rw [h]
theorem J6 {w : World} {k : Nat} {v : Value} {m : Nat} {ys : List Value} (h : Cg w k v m ys) : ∃ gs : List Nat, (∀ g ∈ gs, CR w g) ∧ ∀ w' : World, (∀ g ∈ gs, w'.heap[g]? = w.heap[g]?) → Cg w' k v m ys := by
  obtain ⟨h1, A, c, e, h2⟩ := h
  rcases h2 with h2 | ⟨a, ha, h2⟩
  · exact ⟨[], (fun _ h => nomatch h), fun w' _ => ⟨h1, A, c, e, .inl h2⟩⟩
  · cases ys with
    | nil => exact ⟨[], (fun _ h => nomatch h), fun w' _ => ⟨h1, A, c, e, .inr ⟨a, ha, fun j x hx => by simp at hx⟩⟩⟩
    | cons y ys =>
      have h3 := Mx (h2 0 y rfl)
      refine ⟨[(a.add 0).block], fun g hg => by rw [List.mem_singleton.1 hg]; exact h3, fun w' hw => ⟨h1, A, c, e, .inr ⟨a, ha, fun j x hx => ?_⟩⟩⟩
      have hb : (a.add j).block = (a.add 0).block := by unfold Addr.add; split <;> rfl
      exact (OV (by rw [hb]; exact hw _ (List.mem_singleton.2 rfl))).trans (h2 j x hx)
theorem Qf {w : World} {v : Value} {l : List UInt8} (h : Ft w v l) : ∃ gs : List Nat, (∀ g ∈ gs, CR w g) ∧ ∀ w' : World, (∀ g ∈ gs, w'.heap[g]? = w.heap[g]?) → Ft w' v l := by
  obtain ⟨A, c, e, h1, h2, h3⟩ := h
  cases l with
  | nil => exact ⟨[], (fun _ h => nomatch h), fun w' _ => ⟨A, c, e, h1, h2, fun h => absurd h (by simp)⟩⟩
  | cons y ys =>
    obtain ⟨g, o, hA, _, h4⟩ := h3 (by simp)
    have h5 := Mx (h4 0 y rfl)
    refine ⟨[g], fun k hk => by rw [List.mem_singleton.1 hk]; exact h5, fun w' hw => ⟨A, c, e, h1, h2, fun _ => ⟨g, o, hA, trivial, fun j b hb => ?_⟩⟩⟩
    rw [OV (a := ⟨g, o + j, none⟩) (hw g (List.mem_singleton.2 rfl))]
    exact h4 j b hb
theorem HO {w w' : World} {gs : List Nat} (hc : ∀ g ∈ gs, CR w g) {rs : List RowT} (h : Sz w gs rs) (hr : RowsOf w' rs) : ∀ g ∈ gs, w'.heap[g]? = w.heap[g]? := fun g hg => by
 obtain rfl : rs = _ := h
 exact VA (hc g hg) (hr.mem _ (List.mem_map.2 ⟨g, Ga.2 hg, rfl⟩))
theorem TH {w : World} {gs : List Nat} (hc : ∀ g ∈ gs, CR w g) {α : Type} {k : Nat} {enc : α → List Value} {v : Value} {m : List α} (h : ∀ w' : World, (∀ g ∈ gs, w'.heap[g]? = w.heap[g]?) → Cg w' k v m.length (A6 enc m)) : Rd (Sz w gs) k enc v m := fun _ w' h1 h2 => h w' (HO hc h1 h2)
theorem NW {P : Program} {F : FuncId} {args : Array Value} {val : Value} {w : World} {gs : List Nat} (hc : ∀ g ∈ gs, CR w g) (h : AV P F args [Sz w gs] (fun _ : Unit => val) (fun _ => [Sz w gs])) : Calls P F args w fun e w' => e = .returned val ∧ Below w.heap.size w w' := by
  have hd : AM ((Hl gs).map (CH w)) := AS.2 (by
    rw [List.map_map]
    have : ((fun x : RowT => x.1) ∘ CH w) = id := rfl
    first
      | (rw [this, List.map_id]; exact Fm gs)
      | (simpa [Function.comp_def, CH] using Fm gs))
  refine (h w _ (Am.one rfl) (AT.2 fun x hx => ?_) hd).mono ?_
  · obtain ⟨g, hg, rfl⟩ := List.mem_map.1 hx
    exact VB (hc g (Ga.1 hg))
  · rintro e w' ⟨_, he, rs', hp, hch⟩
    have hrs := hp.one'
    refine ⟨he, hch.mod.os, hch.mod.tape, hch.mod.output, hch.mod.size, fun k hk => ?_⟩
    cases Classical.em (k ∈ gs) with
    | inl hk2 => exact HO hc hrs hch.rows k hk2
    | inr hk2 =>
      refine hch.mod.block k hk ?_
      rintro ⟨x, hx, rfl⟩
      obtain ⟨g, hg, rfl⟩ := List.mem_map.1 hx
      exact hk2 (Ga.1 hg)
theorem Jj {w : World} {α : Type} {f : α → Value} {d : α → List UInt8} : ∀ {l : List α}, (∀ y ∈ l, Ft w (f y) (d y)) → ∃ gs : List Nat, (∀ g ∈ gs, CR w g) ∧ ∀ w' : World, (∀ g ∈ gs, w'.heap[g]? = w.heap[g]?) → ∀ y ∈ l, Ft w' (f y) (d y)
  | [], _ => ⟨[], (fun _ h => nomatch h), fun _ _ _ h => nomatch h⟩
  | y :: l, h => by
    obtain ⟨g0, hc0, r0⟩ := Qf (h y (by simp))
    obtain ⟨g1, hc1, r1⟩ := Jj (l := l) fun z hz => h z (by simp [hz])
    refine ⟨g0 ++ g1, fun g hg => (List.mem_append.1 hg).elim (hc0 g) (hc1 g), fun w' hw z hz => ?_⟩
    rcases List.mem_cons.1 hz with rfl | hz
    · exact r0 w' fun g hg => hw g (List.mem_append.2 (.inl hg))
    · exact r1 w' (fun g hg => hw g (List.mem_append.2 (.inr hg))) z hz
theorem H5 {w : World} {v : Value} {l : List EntV} (h : Bj w v l) : ∃ gs : List Nat, (∀ g ∈ gs, CR w g) ∧ ∀ w' : World, (∀ g ∈ gs, w'.heap[g]? = w.heap[g]?) → Bj w' v l := by
 obtain ⟨g0, hc0, r0⟩ := J6 h.1
 obtain ⟨g1, hc1, r1⟩ := Jj h.2
 exact ⟨g0 ++ g1, fun g hg => (List.mem_append.1 hg).elim (hc0 g) (hc1 g), fun w' hw => ⟨r0 w' fun g hg => hw g (List.mem_append.2 (.inl hg)), r1 w' fun g hg => hw g (List.mem_append.2 (.inr hg))⟩⟩
theorem OW {w : World} {gs : List Nat} (hc : ∀ g ∈ gs, CR w g) {v : Value} {l : List EntV} (h : ∀ w' : World, (∀ g ∈ gs, w'.heap[g]? = w.heap[g]?) → Bj w' v l) : Cx (Sz w gs) v l := fun _ w' h1 h2 => h w' (HO hc h1 h2)
structure StepE where
  what : Int
  x1 : Int
  x2 : Int
  A : Option Addr
  c : Nat
  l : List EntV
  b1 : Int
  b2 : Int
  b3 : Int
  nr : Bool
  off : Int
instance : Inhabited StepE := ⟨⟨0, 0, 0, none, 0, [], 0, 0, 0, false, 0⟩⟩
def StepE.lv (x : StepE) : Value := .slice x.A x.l.length x.c
def encSt (x : StepE) : List Value := [.int .i64 x.what, .int .u64 x.x1, .int .u64 x.x2, .slice x.A x.l.length x.c, .int .u64 x.b1, .int .u64 x.b2, .int .i64 x.b3, .bool x.nr, .int .i64 x.off]
theorem SB : EncOf 9 encSt := ⟨fun _ => rfl, fun x v h => by unfold encSt at h; simp at h; rcases h with rfl | rfl | rfl | rfl | rfl | rfl | rfl | rfl | rfl <;> rfl⟩
structure StepE.ok (x : StepE) : Prop where
  what : -9223372036854775808 ≤ x.what ∧ x.what ≤ 9223372036854775807
  x1 : 0 ≤ x.x1 ∧ x.x1 ≤ 18446744073709551615
  x2 : 0 ≤ x.x2 ∧ x.x2 ≤ 18446744073709551615
  b1 : 0 ≤ x.b1 ∧ x.b1 ≤ 18446744073709551615
  b2 : 0 ≤ x.b2 ∧ x.b2 ≤ 18446744073709551615
  b3 : -9223372036854775808 ≤ x.b3 ∧ x.b3 ≤ 9223372036854775807
  off : -9223372036854775808 ≤ x.off ∧ x.off ≤ 9223372036854775807
  ok : ∀ y, y ∈ x.l → y.e.ok
  hd : ∀ y, y ∈ x.l → y.e.d.length ≤ 140737488351232
  cap : x.l.length ≤ x.c
theorem Hm {w : World} : ∀ {l : List StepE}, (∀ y ∈ l, Bj w y.lv y.l) → ∃ gs : List Nat, (∀ g ∈ gs, CR w g) ∧ ∀ w' : World, (∀ g ∈ gs, w'.heap[g]? = w.heap[g]?) → ∀ y ∈ l, Bj w' y.lv y.l
  | [], _ => ⟨[], (fun _ h => nomatch h), fun _ _ _ h => nomatch h⟩
  | y :: l, h => by
    obtain ⟨g0, hc0, r0⟩ := H5 (h y (by simp))
    obtain ⟨g1, hc1, r1⟩ := Hm (l := l) fun z hz => h z (by simp [hz])
    refine ⟨g0 ++ g1, fun g hg => (List.mem_append.1 hg).elim (hc0 g) (hc1 g), fun w' hw z hz => ?_⟩
    rcases List.mem_cons.1 hz with rfl | hz
    · exact r0 w' fun g hg => hw g (List.mem_append.2 (.inl hg))
    · exact r1 w' (fun g hg => hw g (List.mem_append.2 (.inr hg))) z hz
theorem calls_plays {P : Program} {F : FuncId} {args : Array Value} {val : Value} {w : World} {v0 v1 : Value} {l0 : List EntV} {l1 : List StepE} (h0 : Bj w v0 l0) (h1 : Cg w 9 v1 l1.length (A6 encSt l1)) (h2 : ∀ y ∈ l1, Bj w y.lv y.l) (h : ∀ X : Ass, Cx X v0 l0 → Rd X 9 encSt v1 l1 → (∀ y ∈ l1, Cx X y.lv y.l) → AV P F args [X] (fun _ : Unit => val) (fun _ => [X])) : Calls P F args w fun e w' => e = .returned val ∧ Below w.heap.size w w' := by
 obtain ⟨g0, hc0, r0⟩ := H5 h0
 obtain ⟨g1, hc1, r1⟩ := J6 h1
 obtain ⟨g2, hc2, r2⟩ := Hm h2
 have hc : ∀ g ∈ g0 ++ (g1 ++ g2), CR w g := fun g hg => (List.mem_append.1 hg).elim (hc0 g) fun h => (List.mem_append.1 h).elim (hc1 g) (hc2 g)
 exact NW hc (h _ (OW hc fun w' hw => r0 w' fun g hg => hw g (by simp [hg])) (TH hc fun w' hw => r1 w' fun g hg => hw g (by simp [hg])) fun y hy => OW hc fun w' hw => r2 w' (fun g hg => hw g (by simp [hg])) y hy)
section
variable {H : Type} {enc : TypeId × Value → H} {W : World} {base b0 : Nat} {r : Reach} {spare : Nat → Bool} {held : Bool} {v : Value} {d : DataW H} {p : List MemPlace}
theorem Qg {P : Program} {t e : TypeId} {A : Option Addr} {n c n0 : Nat} {x : DataW H × List MemPlace} (hu : P.underlying t = some (.slice e)) (hf : DataW.trod enc P W base spare held n0 t [.slice A n c] = some x) : n ≤ c := by
  rcases DataW.trod_slice hu hf with ⟨hcs, hx⟩ | ⟨a, len', cap', elems, rest, n', _, hcs, hx, _, hl, hm, hlen, hels, _, _⟩
  · simp at hcs
    obtain ⟨rfl, rfl, rfl⟩ := hcs
    exact Nat.le_refl _
  · simp at hcs
    obtain ⟨rfl, rfl, rfl⟩ := hcs
    omega
theorem SC : Try.prog.cellsOf 32 = 5 := by kernel_rfl
theorem WQ : Try.prog.cellsOf 34 = 1 := by kernel_rfl
theorem TI : Try.prog.cellsOf 28 = 3 := by kernel_rfl
theorem SD : Try.prog.bytesOf 32 = 56 := by kernel_rfl
theorem Jk {n : Nat} {x : DataW H × List MemPlace} (h : DataW.trod enc Try.prog W base spare held n 34 [v] = some x) (hs : Cn Try.prog 34 x.1) : ∃ A c, ∃ l : List EntV, v = .slice A l.length c ∧ Bj W v l ∧ (∀ y, y ∈ l → y.e.ok) ∧ (∀ y, y ∈ l → y.e.d.length ≤ 140737488351232) ∧ l.length ≤ c := by
 have hE : EntT 32 _ _ _ _ _ := ⟨Try.underlying32, ⟨rfl, rfl⟩, ⟨rfl, rfl⟩, ⟨rfl, rfl⟩, ⟨rfl, rfl⟩, ⟨rfl, rfl⟩⟩
 obtain ⟨A, c, l, hv, hl, hr, ho⟩ := PU hE Try.underlying34 SC SD h hs
 subst hv
 exact ⟨A, c, l, rfl, hr, fun x hx => (ho x hx).1, fun x hx => (ho x hx).2.2, Qg Try.underlying34 h⟩
theorem open_entsV (hval : Value.okWide Try.prog W r b0 34 v) (h : DataW.Trod enc Try.prog W base spare held 34 v d p) (hs : Cn Try.prog 34 d) : ∃ A c, ∃ l : List EntV, v = .slice A l.length c ∧ Bj W v l ∧ (∀ y, y ∈ l → y.e.ok) ∧ (∀ y, y ∈ l → y.e.d.length ≤ 140737488351232) ∧ l.length ≤ c := by
 obtain ⟨a0, len0, cap0, rfl⟩ := okWide_slice Try.underlying34 hval
 obtain ⟨fuel, hf⟩ := h
 exact Jk (x := (d, p)) hf hs
theorem open_baseV (hval : Value.okWide Try.prog W r b0 28 v) (h : DataW.Trod enc Try.prog W base spare held 28 v d p) : ∃ z0 z1 z2, v = .agg #[.int .u64 z0, .int .u64 z1, .int .i64 z2] ∧ (0 ≤ z0 ∧ z0 ≤ 18446744073709551615) ∧ (0 ≤ z1 ∧ z1 ≤ 18446744073709551615) ∧ (-9223372036854775808 ≤ z2 ∧ z2 ≤ 9223372036854775807) := by
  obtain ⟨cs, rfl, hsz⟩ := okWide_struct Try.underlying28 hval
  have hcl : cs.toList.length = 3 := by rw [Array.length_toList]; exact hsz.trans (by kernel_rfl)
  obtain ⟨fuel, hf⟩ := h
  have hB : BaseT 28 _ _ _ := ⟨Try.underlying28, ⟨rfl, rfl⟩, ⟨rfl, rfl⟩, ⟨rfl, rfl⟩⟩
  obtain ⟨l⟩ := cs
  match l, hcl with
  | [a0, a1, a2], _ =>
    obtain ⟨z0, z1, z2, rfl, rfl, rfl, w0, w1, w2⟩ := JZ (x := (d, p)) hB hf
    exact ⟨z0, z1, z2, rfl, w0, w1, w2⟩
theorem open_stepsV (hval : Value.okWide Try.prog W r b0 53 v) (h : DataW.Trod enc Try.prog W base spare held 53 v d p) (hs : Cn Try.prog 53 d) : ∃ A c, ∃ l : List StepE, v = .slice A l.length c ∧ l.length ≤ 9223372036854775807 ∧ Cg W 9 v l.length (A6 encSt l) ∧ (∀ y ∈ l, Bj W y.lv y.l) ∧ ∀ y ∈ l, y.ok := by
  obtain ⟨a0, len0, cap0, rfl⟩ := okWide_slice Try.underlying53 hval
  obtain ⟨fuel, hf⟩ := h
  have hB : BaseT 28 _ _ _ := ⟨Try.underlying28, ⟨rfl, rfl⟩, ⟨rfl, rfl⟩, ⟨rfl, rfl⟩⟩
  obtain ⟨A, c, l, hv, hl, hr, ho⟩ := Hg SB (by decide) Try.underlying53 (by kernel_rfl) (ok := fun y : StepE => Bj W y.lv y.l ∧ y.ok) (x0 := (d, p)) (fun n cs x hcl h hs => by
    obtain ⟨ys, n', _, hx, _, hyl, hf⟩ := DataW.trod_struct Try.underlying51 h
    have hyl : ys.length = 7 := hyl
    match cs, hcl with
    | [a0, a1, a2, a3, a4, a5, a6, a7, a8], _ =>
      obtain ⟨y0, g0⟩ : ∃ y, ys[0]? = some y := ⟨_, List.getElem?_eq_getElem (by omega)⟩
      obtain ⟨y1, g1⟩ : ∃ y, ys[1]? = some y := ⟨_, List.getElem?_eq_getElem (by omega)⟩
      obtain ⟨y2, g2⟩ : ∃ y, ys[2]? = some y := ⟨_, List.getElem?_eq_getElem (by omega)⟩
      obtain ⟨y3, g3⟩ : ∃ y, ys[3]? = some y := ⟨_, List.getElem?_eq_getElem (by omega)⟩
      obtain ⟨y4, g4⟩ : ∃ y, ys[4]? = some y := ⟨_, List.getElem?_eq_getElem (by omega)⟩
      obtain ⟨y5, g5⟩ : ∃ y, ys[5]? = some y := ⟨_, List.getElem?_eq_getElem (by omega)⟩
      obtain ⟨y6, g6⟩ : ∃ y, ys[6]? = some y := ⟨_, List.getElem?_eq_getElem (by omega)⟩
      have h0 := GT (⟨rfl, rfl⟩ : F1 _ 3 0) Md (hf 0 _ rfl) (zs := [a0]) rfl g0
      have h1 := GT (⟨rfl, rfl⟩ : F1 _ 26 1) JY (hf 1 _ rfl) (zs := [a1]) rfl g1
      have h2 := GT (⟨rfl, rfl⟩ : F1 _ 26 2) JY (hf 2 _ rfl) (zs := [a2]) rfl g2
      have h3 := GT (⟨rfl, rfl⟩ : F1 _ 34 3) WQ (hf 3 _ rfl) (zs := [a3]) rfl g3
      have h4 := GT (⟨rfl, rfl⟩ : F1 _ 28 4) TI (hf 4 _ rfl) (zs := [a4, a5, a6]) rfl g4
      have h5 := GT (⟨rfl, rfl⟩ : F1 _ 4 7) U0 (hf 5 _ rfl) (zs := [a7]) rfl g5
      have h6 := GT (⟨rfl, rfl⟩ : F1 _ 3 8) Md (hf 6 _ rfl) (zs := [a8]) rfl g6
      have s3 := RN hs hx Try.underlying51 (j := 3) rfl (⟨rfl, rfl⟩ : F1 _ 34 3) g3
      obtain ⟨z0, e0, _, w0⟩ := DataW.trod_int Try.underlying3 h0
      obtain ⟨z1, e1, _, w1⟩ := DataW.trod_int Try.underlying26 h1
      obtain ⟨z2, e2, _, w2⟩ := DataW.trod_int Try.underlying26 h2
      obtain ⟨A3, c3, l3, e3, hr3, ho3, hd3, hc3⟩ := Jk h3 s3
      obtain ⟨q0, q1, q2, e4, e5, e6, w4, w5, w6⟩ := JZ hB h4
      obtain ⟨z7, e7, _⟩ := DataW.trod_bool Try.underlying4 h5
      obtain ⟨z8, e8, _, w8⟩ := DataW.trod_int Try.underlying3 h6
      simp at e0 e1 e2 e7 e8
      subst e0; subst e1; subst e2; subst e3; subst e4; subst e5; subst e6; subst e7; subst e8
      exact ⟨⟨z0, z1, z2, A3, c3, l3, q0, q1, q2, z7, z8⟩, rfl, hr3, ⟨IK w0, HA w1, HA w2, w4, w5, w6, IK w8, ho3, hd3, hc3⟩⟩) hf hs
  have hb : Try.prog.bytesOf 51 = 88 := by kernel_rfl
  rw [hb] at hl
  have hrb : reachBytes = 140737488351232 := rfl
  exact ⟨A, c, l, hv, by omega, hr, fun y hy => (ho y hy).1, fun y hy => (ho y hy).2⟩
end
end Go.Proofs.Ytnebloeideodmaa.Sep
