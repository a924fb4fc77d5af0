/-
  Ro · MbO
-/
import Derived.Test.YtmcdjniebkfagaaAA11
import Derived.Test.YtmcdjniebkfagaaChecked
set_option linter.unusedSimpArgs false
set_option linter.unusedVariables false

namespace Go.Proofs.Ytmcdjniebkfagaa.Run
noncomputable section
open Go.RowKit
def givesT (P : Program) (X : Els P) (lf d : Nat) (F : FuncId) (avs : List Value) (v : Value) : Bool := match nb v && avs.all nb with
  | true => match callN P X lf d (.func (.func F) ⟨[]⟩ ⟨[]⟩) avs .tE 1 with
    | some outs => outs.all fun x => match x.wr with | [] => eV x.v v | _ => false
    | none => false
  | false => false
theorem givesT_run {P : Program} {X : Els P} {lf : Nat} (hmix : P.follows .mixedOrders = true) (hname : NoOwn P) {d : Nat} {F : FuncId} {avs : List Value} {v : Value} (h : givesT P X lf d F avs v = true) (w : World) : Calls P F avs.toArray w fun e w' => e = .returned v ∧ Below w.heap.size w w' := by
  unfold givesT at h
  split at h
  case h_2 => cases h
  rename_i hnb
  rw [Bool.and_eq_true] at hnb
  split at h
  case h_2 => cases h
  rename_i outs ho
  have hrep : Rep (fun _ => none) .tE w := ⟨fun i o hi => (nomatch (Tr.get_e i).symm.trans hi), fun i j o o' g c c' _ _ h1 h2 => nomatch h1⟩
  obtain ⟨⟨_, hgd⟩, h2⟩ := callN_s hmix hname d _ _ _ _ _ ho
  have := h2 (fun _ => none) w (outs.foldl (fun m x => max m x.nx) 0) (.func (.func F) ⟨[]⟩ ⟨[]⟩) avs (.func F .nil .nil) (nb.selfs hnb.2) hrep (fun x hx => by
    have key : ∀ (l : List Out) (m : Nat), m ≤ l.foldl (fun m x => max m x.nx) m ∧ ∀ x ∈ l, x.nx ≤ l.foldl (fun m x => max m x.nx) m := by
      intro l
      induction l with
      | nil => intro m; exact ⟨Nat.le_refl _, fun x hx => by simp at hx⟩
      | cons y r ih =>
        intro m
        obtain ⟨i1, i2⟩ := ih (max m y.nx)
        rw [List.foldl_cons]
        refine ⟨by omega, fun x hx => ?_⟩
        rcases List.mem_cons.1 hx with rfl | hx
        · omega
        · exact i2 x hx
    exact (key outs 0).2 x hx) (fun i hi _ => rfl) (fun u w' => u = v ∧ Below w.heap.size w w') fun x hx ρ' w' u hA hv => by
      have := List.all_eq_true.1 h x hx
      generalize hxw : x.wr = xw at this
      split at this
      case h_2 => cases this
      have e := eV_at this
      rw [e] at hv
      refine ⟨nb.eq hnb.1 hv, ⟨hA.stp.os, hA.stp.tape, hA.stp.output, hA.stp.size, fun k hk => ?_⟩⟩
      refine hA.stp.block k hk ?_
      rintro ⟨i, o, c, h3, h4⟩
      cases h4
  rcases this with ⟨F', p, q, he, hE, hc⟩ | ⟨L, r, he, _⟩
  · simp only [Value.func.injEq, Fn.func.injEq, Array.mk.injEq] at he
    obtain ⟨rfl, rfl, rfl⟩ := he
    refine Eq.mp (congrArg (fun a => Calls P F a w _) ?_) (hc.mono fun e w' ⟨u, h1, h2, h3⟩ => ⟨by rw [h1, h2], h3⟩)
    simp
  · simp at he
end
end Go.Proofs.Ytmcdjniebkfagaa.Run

namespace Go.Proofs.Ytmcdjniebkfagaa.Run
open Go.RowKit
def ones (s : Nat) : Nat := ((List.range 8).filter fun k => s.testBit k).length
noncomputable def onesAll : Bool := (List.range 128).all fun k => givesT Try.prog (stdX Try.prog) 100 8 35 [.int .u64 ((2 * k : Nat) : Int)] (.int .i64 (ones (2 * k) : Int))
set_option maxRecDepth 1000000 in
theorem onesAll_t : onesAll = true := by kernel_rfl
end Go.Proofs.Ytmcdjniebkfagaa.Run
