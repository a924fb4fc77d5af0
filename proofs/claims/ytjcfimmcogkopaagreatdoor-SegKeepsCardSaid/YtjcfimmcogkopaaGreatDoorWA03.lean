/-
  Mem
-/
import Derived.Test.YtjcfimmcogkopaaGreatDoorWA02
set_option linter.unusedSimpArgs false
set_option linter.unusedVariables false
namespace Go.Proofs.YtjcfimmcogkopaaGreatDoor.Mem
variable {K : Act → World → Prop} {id : Nat} {l : List Oper} {r r1 : ResultVar} {v1 : Value} {x y : Code}
open Go.RowKit
def AG : List RowT → Prop
  | [] => True
  | x :: r => (∀ y ∈ r, y.1 ≠ x.1) ∧ AG r
def BC (a : List RowT) : Nat → Prop := fun k => ∃ x ∈ a, x.1 = k
structure Hp (B : Nat → Prop) (w0 w : World) (rs : List RowT) : Prop where
  up : Mod B w0 w
  rows : RowsOf w rs
  apart : AG rs
  own : ∀ x ∈ rs, x.1 < w0.heap.size → B x.1
section hp
variable {B : Nat → Prop} {w0 w w' : World} {rs : List RowT}
theorem Hp.start (w : World) : Hp Nil w w [] := ⟨Mod.refl _ w, trivial, trivial, fun x hx => by simp at hx⟩
theorem Hp.given {a : List RowT} (h : RowsOf w a) (hd : AG a) : Hp (BC a) w w a := ⟨Mod.refl _ w, h, hd, fun x hx _ => ⟨x, hx, rfl⟩⟩
theorem Hp.call (h : Hp B w0 w rs) (hb : Below w.heap.size w w') : Hp B w0 w' rs := ⟨h.up.trans (T := Nil) (Mod.of_below hb Nil) (fun _ _ hf => hf.elim), h.rows.map_ fun _ _ r => r.old hb, h.apart, h.own⟩
theorem Hp.new (h : Hp B w0 w rs) (t : TypeId) (cs : Array Value) : Hp B w0 (w.alloc (.cells cs t)) ((w.heap.size, EO t, cs) :: rs) :=
  ⟨h.up.alloc _, ⟨CQ.new w t cs, h.rows.map_ fun _ _ r => r.alloc _⟩, ⟨fun y hy => by have := (h.rows.mem y hy).lt; show y.1 ≠ w.heap.size; omega, h.apart⟩, fun x hx hlt => by
    rcases List.mem_cons.1 hx with rfl | hx
    · have := h.up.size; exact absurd hlt (by show ¬ w.heap.size < w0.heap.size; omega)
    · exact h.own x hx hlt⟩
theorem Hp.drew (h : Hp B w0 w rs) : Hp B w0 w.drew rs := ⟨h.up.drew, h.rows.map_ fun _ _ r => r.drew, h.apart, h.own⟩
theorem Ak {a b : World} (h : Mod Nil a b) : Below a.heap.size a b := h.below (Nat.le_refl _) (fun _ hf => hf.elim)
end hp
section parts
variable {w : World} {rs : List RowT} {ids : List Nat}
theorem RowsOf.ofAll : ∀ {l : List RowT}, (∀ x ∈ l, CC w x) → RowsOf w l
  | [], _ => trivial
  | (g, t, cs) :: r, h => ⟨h (g, t, cs) (by simp), RowsOf.ofAll fun x hx => h x (by simp [hx])⟩
theorem dist_app : ∀ {a b : List RowT}, AG a → AG b → (∀ x ∈ a, ∀ y ∈ b, y.1 ≠ x.1) → AG (a ++ b)
  | [], _, _, hb, _ => hb
  | x :: r, b, ha, hb, h => ⟨fun y hy => by
      rcases List.mem_append.1 hy with hy | hy
      · exact ha.1 y hy
      · exact h x (by simp) y hy, dist_app ha.2 hb fun z hz => h z (by simp [hz])⟩
end parts
structure Chg (w w' : World) (a b : List RowT) : Prop where
  mod : Mod (BC a) w w'
  rows : RowsOf w' b
  dist : AG b
  from_ : ∀ x ∈ b, x.1 < w.heap.size → BC a x.1
section chg
variable {B : Nat → Prop} {w0 w w' : World} {rs a b : List RowT}
end chg
section wl2
variable {P : Program} {ops : Array Oper} {Q : Exit → Act → World → Prop} {n : Nat} {B : Nat → Prop} {w0 : World} {rs rs' : List RowT} {env env' : List (Nat × Value)} {l rest : List Oper} {o : Oper} {d : Nat} {fl : List ((Nat × Nat) × Nat)}
end wl2
section wc2
variable {P : Program} {Q : Exit → Act → World → Prop} {n : Nat} {B : Nat → Prop} {w0 : World} {rs : List RowT} {env : List (Nat × Value)}
variable {fn : Func} {R : Ending → World → Prop}
end wc2
section par2
variable {P : Program} {ops : Array Oper} {Q : Exit → Act → World → Prop} {n : Nat} {B : Nat → Prop} {w0 : World} {rs : List RowT} {env env0 : List (Nat × Value)} {o : Oper} {deps : List Nat} {v : Value} {fl : List ((Nat × Nat) × Nat)} {kk : Nat}
end par2
section orders2
variable {P : Program} {ops : Array Oper} {Q : Exit → Act → World → Prop} {n f i d : Nat} {B : Nat → Prop} {w0 : World} {rs : List RowT} {env env' : List (Nat × Value)} {listed : Array Bool} {o : Oper} {fl : List ((Nat × Nat) × Nat)}
end orders2
section loops
variable {P : Program} {Q : Exit → Act → World → Prop} {n : Nat} {B : Nat → Prop} {w0 : World} {rs rs' : List RowT} {env env' : List (Nat × Value)} {c : Code} {α : Type}
end loops
section orders3
variable {P : Program} {ops : Array Oper} {Q : Exit → Act → World → Prop} {n fu i d : Nat} {B : Nat → Prop} {w0 : World} {rs : List RowT} {env : List (Nat × Value)} {listed : Array Bool} {o : Oper}
end orders3
section textsBs
variable {P : Program} {ops : Array Oper} {Q : Exit → Act → World → Prop} {n d : Nat} {B : Nat → Prop} {w0 : World} {rs : List RowT} {env env0 : List (Nat × Value)} {rest : List Oper} {o : Oper} {a : Act} {w : World} {deps : List Nat} {kk : Nat}
end textsBs
section textsBytes
variable {P : Program} {ops : Array Oper} {Q : Exit → Act → World → Prop} {n : Nat} {B : Nat → Prop} {w0 w : World} {rs : List RowT} {env : List (Nat × Value)} {rest : List Oper} {o : Oper} {d : Nat}
end textsBytes
section par3
variable {P : Program} {ops : Array Oper} {Q : Exit → Act → World → Prop} {n : Nat} {B : Nat → Prop} {w0 : World} {rs : List RowT} {env : List (Nat × Value)}
end par3
section par4
variable {P : Program} {ops : Array Oper} {Q : Exit → Act → World → Prop} {n : Nat} {B : Nat → Prop} {w0 : World} {rs : List RowT} {env : List (Nat × Value)}
end par4
end Go.Proofs.YtjcfimmcogkopaaGreatDoor.Mem
