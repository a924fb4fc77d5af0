/-
  Hp · Bs · Loop · Bytes · ParO · ParE
-/
import Derived.Test.YtnhcbjlaeaohjaaCA02
import Derived.Laws.Concat
import Derived.Lib.SmallJoins
import Derived.LoopN
import Derived.Lib.SlBytesRow
set_option linter.unusedSimpArgs false
set_option linter.unusedVariables false

namespace Go.Proofs.Ytnhcbjlaeaohjaa
open Go.RowKit

/-! ## The rows that a call has made -/
abbrev RowT := Nat × TypeId × Array Value
def RowsOf (w : World) : List RowT → Prop
  | [] => True
  | (g, t, cs) :: r => Row w g t cs ∧ RowsOf w r
def Apart (B : Nat) : List RowT → Prop
  | [] => True
  | x :: r => B ≤ x.1 ∧ (∀ y ∈ r, y.1 ≠ x.1) ∧ Apart B r
/-- what stood before the call is as it was; of its own rows these are known -/
structure Hp (B : Nat) (w0 w : World) (rs : List RowT) : Prop where
  up : Up B w0 w
  rows : RowsOf w rs
  apart : Apart B rs
section hp
variable {B : Nat} {w0 w w' : World} {rs : List RowT}
theorem RowsOf.at_ : ∀ {rs : List RowT}, RowsOf w rs → ∀ (i : Nat) g t cs, rs[i]? = some (g, t, cs) → Row w g t cs
  | [], _, i, g, t, cs, h => by simp at h
  | x :: r, hr, 0, g, t, cs, h => by
    simp only [List.getElem?_cons_zero, Option.some.injEq] at h
    subst h
    exact hr.1
  | x :: r, hr, i + 1, g, t, cs, h => by
    simp only [List.getElem?_cons_succ] at h
    exact RowsOf.at_ hr.2 i g t cs h
theorem RowsOf.map_ : ∀ {rs : List RowT}, RowsOf w rs → (∀ x ∈ rs, Row w x.1 x.2.1 x.2.2 → Row w' x.1 x.2.1 x.2.2) → RowsOf w' rs
  | [], _, _ => trivial
  | (g, t, cs) :: r, hr, h => ⟨h (g, t, cs) (by simp) hr.1, RowsOf.map_ hr.2 fun x hx => h x (by simp [hx])⟩
theorem RowsOf.mem : ∀ {rs : List RowT}, RowsOf w rs → ∀ x ∈ rs, Row w x.1 x.2.1 x.2.2
  | [], _, x, h => by simp at h
  | (g, t, cs) :: r, hr, x, h => by
    rcases List.mem_cons.1 h with rfl | h
    · exact hr.1
    · exact RowsOf.mem hr.2 x h
theorem Apart.ge : ∀ {rs : List RowT}, Apart B rs → ∀ x ∈ rs, B ≤ x.1
  | [], _, x, h => by simp at h
  | y :: r, ha, x, h => by
    rcases List.mem_cons.1 h with rfl | h
    · exact ha.1
    · exact Apart.ge ha.2.2 x h
theorem Hp.start (w : World) : Hp w.heap.size w w [] := ⟨Up.refl w, trivial, trivial⟩
theorem Hp.row (h : Hp B w0 w rs) (i : Nat) {g : Nat} {t : TypeId} {cs : Array Value} (hi : rs[i]? = some (g, t, cs)) : Row w g t cs := h.rows.at_ i g t cs hi
theorem Hp.call (h : Hp B w0 w rs) (hb : Below w.heap.size w w') : Hp B w0 w' rs := ⟨h.up.trans hb, h.rows.map_ fun _ _ r => r.old hb, h.apart⟩
theorem Hp.new (h : Hp B w0 w rs) (t : TypeId) (cs : Array Value) : Hp B w0 (w.alloc (.cells cs t)) ((w.heap.size, t, cs) :: rs) :=
  ⟨h.up.alloc _, ⟨Row.new w t cs, h.rows.map_ fun _ _ r => r.alloc _⟩, h.up.size, fun y hy => by have := (h.rows.mem y hy).lt; omega, h.apart⟩
/-- row i holds other cells now -/
def setRowT : List RowT → Nat → Array Value → List RowT
  | [], _, _ => []
  | (g, t, _) :: r, 0, c => (g, t, c) :: r
  | x :: r, i + 1, c => x :: setRowT r i c
theorem setRowT_mem : ∀ {rs : List RowT} {i : Nat} {c : Array Value}, ∀ y ∈ setRowT rs i c, ∃ x ∈ rs, x.1 = y.1
  | [], _, _, y, h => by simp [setRowT] at h
  | (g, t, c0) :: r, 0, c, y, h => by
    unfold setRowT at h
    rcases List.mem_cons.1 h with rfl | h
    · exact ⟨(g, t, c0), by simp, rfl⟩
    · exact ⟨y, by simp [h], rfl⟩
  | x :: r, i + 1, c, y, h => by
    unfold setRowT at h
    rcases List.mem_cons.1 h with rfl | h
    · exact ⟨_, by simp, rfl⟩
    · obtain ⟨z, hz, e⟩ := setRowT_mem y h
      exact ⟨z, by simp [hz], e⟩
theorem Apart.set : ∀ {rs : List RowT} {i : Nat} {c : Array Value}, Apart B rs → Apart B (setRowT rs i c)
  | [], _, _, _ => trivial
  | (g, t, _) :: r, 0, c, h => h
  | x :: r, i + 1, c, h => ⟨h.1, fun y hy => by obtain ⟨z, hz, e⟩ := setRowT_mem y hy; rw [← e]; exact h.2.1 z hz, Apart.set h.2.2⟩
theorem Hp.set (h : Hp B w0 w rs) : ∀ (i : Nat) {g : Nat} {t : TypeId} {cs c : Array Value}, rs[i]? = some (g, t, cs) → Mod (One g) w w' → Row w' g t c → Hp B w0 w' (setRowT rs i c) := by
  intro i g t cs c hi hm hR
  have hmem : (g, t, cs) ∈ rs := List.mem_of_getElem? hi
  refine ⟨h.up.one hm (h.apart.ge _ hmem), ?_, h.apart.set⟩
  have key : ∀ {rs : List RowT} (i : Nat), RowsOf w rs → Apart B rs → rs[i]? = some (g, t, cs) → RowsOf w' (setRowT rs i c) := by
    intro rs
    induction rs with
    | nil => intro i _ _ hi; simp at hi
    | cons x r ih =>
      intro i hr ha hi
      obtain ⟨g', t', cs'⟩ := x
      cases i with
      | zero =>
        simp only [List.getElem?_cons_zero, Option.some.injEq, Prod.mk.injEq] at hi
        obtain ⟨rfl, rfl, rfl⟩ := hi
        exact ⟨hR, hr.2.map_ fun y hy r => r.mod_ne hm (ha.2.1 y hy)⟩
      | succ i =>
        simp only [List.getElem?_cons_succ] at hi
        refine ⟨hr.1.mod_ne hm (fun e => ?_), ih i hr.2 ha.2.2 hi⟩
        exact ha.2.1 _ (List.mem_of_getElem? hi) e.symm
  exact key i h.rows h.apart hi
theorem Hp.drew (h : Hp B w0 w rs) : Hp B w0 w.drew rs := ⟨h.up.drew, h.rows.map_ fun _ _ r => r.drew, h.apart⟩
theorem Hp.sub (h : Hp B w0 w rs) {rs' : List RowT} (h1 : RowsOf w rs → RowsOf w rs') (h2 : Apart B rs → Apart B rs') : Hp B w0 w rs' := ⟨h.up, h1 h.rows, h2 h.apart⟩
end hp

/-- from any frame that holds env and any world with the rows rs, the operations l -/
def WL2 (P : Program) (ops : Array Oper) (Q : Exit → Act → World → Prop) (n : Nat) (env : List (Nat × Value)) (B : Nat) (w0 : World) (rs : List RowT) (l : List Oper) : Prop := ∀ a w, Fr n a env → Hp B w0 w rs → wpList P ops Q l a w
def WC2 (P : Program) (Q : Exit → Act → World → Prop) (n : Nat) (env : List (Nat × Value)) (B : Nat) (w0 : World) (rs : List RowT) (c : Code) : Prop := ∀ a w, Fr n a env → Hp B w0 w rs → c.wp P Q a w
def WE2 (Q : Exit → Act → World → Prop) (n : Nat) (env : List (Nat × Value)) (B : Nat) (w0 : World) (rs : List RowT) (e : Exit) : Prop := ∀ a w, Fr n a env → Hp B w0 w rs → Q e a w

/-! ## What needs no memory, as much of it as stands in a row -/
def fld : List ((Nat × Nat) × Nat) → Nat → Nat → Option Nat
  | [], _, _ => none
  | ((s, f), k) :: r, S, F => match Nat.beq s S, Nat.beq f F with | true, true => some k | _, _ => fld r S F
def Flds (P : Program) (fl : List ((Nat × Nat) × Nat)) : Prop := ∀ S f k, fld fl S f = some k → FieldAt P S f k
def AllFlds (P : Program) : List ((Nat × Nat) × Nat) → Prop
  | [] => True
  | ((s, f), k) :: r => FieldAt P s f k ∧ AllFlds P r
theorem flds_of {P : Program} : ∀ {fl : List ((Nat × Nat) × Nat)}, AllFlds P fl → Flds P fl
  | [], _, S, f, k, h => by cases h
  | ((s, g), j) :: r, ha, S, f, k, h => by
    unfold fld at h
    cases h1 : Nat.beq s S with
    | false => simp only [h1] at h; exact flds_of ha.2 S f k h
    | true =>
      cases h2 : Nat.beq g f with
      | false => simp only [h1, h2] at h; exact flds_of ha.2 S f k h
      | true =>
        simp only [h1, h2, Option.some.injEq] at h
        have e1 := Nat.eq_of_beq_eq_true h1
        have e2 := Nat.eq_of_beq_eq_true h2
        subst e1; subst e2; subst h
        exact ha.1
def q1 (fl : List ((Nat × Nat) × Nat)) (o : Oper) (env : List (Nat × Value)) : Option Value :=
  match o.op with
  | .move x => evs env x
  | .assign x => evs env x
  | .extract x i => match evs env x with | some (.tuple vs) => vs[i]? | _ => none
  | .pick c a b => match evs env c with | some (.bool true) => evs env a | some (.bool false) => evs env b | _ => none
  | .unOp .not _ x => match evs env x with | some (.bool true) => some (.bool false) | some (.bool false) => some (.bool true) | _ => none
  | .fieldAddr S x f => match evs env x with
    | some (.pointer (some ⟨g, off, none⟩)) => match fld fl S f with | some k => some (.pointer (some ⟨g, off + k, none⟩)) | none => none
    | _ => none
  | _ => none
theorem exec_q1 {P : Program} {fl : List ((Nat × Nat) × Nat)} (hfl : Flds P fl) {o : Oper} {n : Nat} {env : List (Nat × Value)} {v : Value} {a : Act} {w : World} (h : q1 fl o env = some v) (hF : Fr n a env) : (execOp a.eval o).run P w = .ok (.value v) w := by
  unfold q1 at h
  split at h
  · exact exec_move ‹_› h hF
  · exact exec_assign ‹_› h hF
  · rename_i x i ho
    cases hx : evs env x with
    | none => simp [hx] at h
    | some u =>
      cases u with
      | tuple vs => simp only [hx] at h; exact exec_extract ho hx h hF
      | _ => simp [hx] at h
  · rename_i c x y ho
    cases hx : evs env c with
    | none => simp [hx] at h
    | some u =>
      cases u with
      | bool b =>
        cases b with
        | true => simp only [hx] at h; exact exec_pick (c := true) ho hx (by simpa using h) hF
        | false => simp only [hx] at h; exact exec_pick (c := false) ho hx (by simpa using h) hF
      | _ => simp [hx] at h
  · rename_i T x ho
    cases hx : evs env x with
    | none => simp [hx] at h
    | some u =>
      cases u with
      | bool b =>
        cases b with
        | true => simp only [hx, Option.some.injEq] at h; subst h; exact exec_not ho hx rfl hF
        | false => simp only [hx, Option.some.injEq] at h; subst h; exact exec_not ho hx rfl hF
      | _ => simp [hx] at h
  · rename_i S x f ho
    cases hx : evs env x with
    | none => simp [hx] at h
    | some u =>
      cases u with
      | pointer p =>
        cases p with
        | none => simp [hx] at h
        | some ad =>
          obtain ⟨g, off, b⟩ := ad
          cases b with
          | some b => simp [hx] at h
          | none =>
            simp only [hx] at h
            cases hf : fld fl S f with
            | none => simp [hf] at h
            | some k =>
              simp only [hf, Option.some.injEq] at h
              subst h
              exact exec_field (hfl S f k hf) ho hx hF
      | _ => simp [hx] at h
  · cases h
/-- as many as need no memory; what is left -/
def runQ (fl : List ((Nat × Nat) × Nat)) (ops : Array Oper) (n : Nat) : List Oper → List (Nat × Value) → Option (List (Nat × Value) × List Oper)
  | [], env => some (env, [])
  | o :: r, env => match wants ops o env with
    | some false => match o.dst with
      | some d => match Nat.blt d n with | true => runQ fl ops n r ((d, undef) :: env) | false => none
      | none => none
    | some true => match q1 fl o env with
      | some v => match o.dst with
        | some d => match Nat.blt d n with | true => runQ fl ops n r ((d, v) :: env) | false => none
        | none => none
      | none => some (env, o :: r)
    | none => some (env, o :: r)

section wl2
variable {P : Program} {ops : Array Oper} {Q : Exit → Act → World → Prop} {n B : Nat} {w0 : World} {rs rs' : List RowT} {env env' : List (Nat × Value)} {l rest : List Oper} {o : Oper} {d : Nat} {fl : List ((Nat × Nat) × Nat)}
theorem h_q (hfl : Flds P fl) : ∀ {l : List Oper} {env : List (Nat × Value)}, runQ fl ops n l env = some (env', rest) → WL2 P ops Q n env' B w0 rs rest → WL2 P ops Q n env B w0 rs l
  | [], env, h, hk => by
    simp only [runQ, Option.some.injEq, Prod.mk.injEq] at h
    obtain ⟨rfl, rfl⟩ := h
    exact hk
  | o :: r, env, h, hk => by
    unfold runQ at h
    cases hw : wants ops o env with
    | none =>
      simp only [hw, Option.some.injEq, Prod.mk.injEq] at h
      obtain ⟨rfl, rfl⟩ := h
      exact hk
    | some b =>
      cases b with
      | false =>
        simp only [hw] at h
        cases hd : o.dst with
        | none => simp [hd] at h
        | some d =>
          simp only [hd] at h
          cases hn : Nat.blt d n with
          | false => simp [hn] at h
          | true =>
            simp only [hn] at h
            exact fun a w hF hH => st_skip hF hw hd (blt_lt hn) fun b hb => h_q hfl h hk b w hb hH
      | true =>
        simp only [hw] at h
        cases hq : q1 fl o env with
        | none =>
          simp only [hq, Option.some.injEq, Prod.mk.injEq] at h
          obtain ⟨rfl, rfl⟩ := h
          exact hk
        | some v =>
          simp only [hq] at h
          cases hd : o.dst with
          | none => simp [hd] at h
          | some d =>
            simp only [hd] at h
            cases hn : Nat.blt d n with
            | false => simp [hn] at h
            | true =>
              simp only [hn] at h
              exact fun a w hF hH => st_q hF hw hd (blt_lt hn) v (fun b hb => exec_q1 hfl hq hb) fun b hb => h_q hfl h hk b w hb hH
/-- what one operation writes where -/
def at1 (ops : Array Oper) (n : Nat) (o : Oper) (env : List (Nat × Value)) : Option Nat := match wants ops o env with
  | some true => match o.dst with
    | some d => match Nat.blt d n with | true => some d | false => none
    | none => none
  | _ => none
theorem at1_parts (h : at1 ops n o env = some d) : wants ops o env = some true ∧ o.dst = some d ∧ d < n := by
  unfold at1 at h
  cases hw : wants ops o env with
  | none => simp [hw] at h
  | some b =>
    cases b with
    | false => simp [hw] at h
    | true =>
      simp only [hw] at h
      cases hd : o.dst with
      | none => simp [hd] at h
      | some d' =>
        simp only [hd] at h
        cases hn : Nat.blt d' n with
        | false => simp [hn] at h
        | true =>
          simp only [hn, Option.some.injEq] at h
          subst h
          exact ⟨rfl, rfl, blt_lt hn⟩
theorem h_val (h1 : at1 ops n o env = some d) (v : Value) (hrun : ∀ b w, Fr n b env → Hp B w0 w rs → (execOp b.eval o).run P w = .ok (.value v) w) (h : WL2 P ops Q n ((d, v) :: env) B w0 rs rest) : WL2 P ops Q n env B w0 rs (o :: rest) :=
  fun a w hF hH => st_q hF (at1_parts h1).1 (at1_parts h1).2.1 (at1_parts h1).2.2 v (fun b hb => hrun b w hb hH) fun b hb => h b w hb hH
/-- what '==' and '!=' give of two values that are no numbers -/
def EqAt (P : Program) (T : TypeId) (u v : Value) (c : Bool) : Prop := ∀ x y w, (do eqGuard .eql T x y u v; binOp .eql T u v : Sem Value).run P w = .ok (.bool c) w
def NeAt (P : Program) (T : TypeId) (u v : Value) (c : Bool) : Prop := ∀ x y w, (do eqGuard .neq T x y u v; binOp .neq T u v : Sem Value).run P w = .ok (.bool c) w
theorem exec_eqs {a : Act} {w : World} {T T' : TypeId} {x y : Operand} {u v : Value} {c : Bool} (he : EqAt P T u v c) (ho : o.op = .binOp .eql T x y T') (hx : evs env x = some u) (hy : evs env y = some v) (hF : Fr n a env) : (execOp a.eval o).run P w = .ok (.value (.bool c)) w := by
  unfold execOp
  have := he x y w
  simp only [ho, hF.evs hx, hF.evs hy]
  rw [Sem.run_bind, this]
  rfl
theorem exec_nes {a : Act} {w : World} {T T' : TypeId} {x y : Operand} {u v : Value} {c : Bool} (he : NeAt P T u v c) (ho : o.op = .binOp .neq T x y T') (hx : evs env x = some u) (hy : evs env y = some v) (hF : Fr n a env) : (execOp a.eval o).run P w = .ok (.value (.bool c)) w := by
  unfold execOp
  have := he x y w
  simp only [ho, hF.evs hx, hF.evs hy]
  rw [Sem.run_bind, this]
  rfl
theorem h_nil (h : WE2 Q n env B w0 rs .normal) : WL2 P ops Q n env B w0 rs [] := h
theorem h_done {y : Code} (h : WC2 P Q n env B w0 rs y) : WL2 P ops (Exit.then (fun a w => y.wp P Q a w) Q) n env B w0 rs [] := h
theorem WL2.keep (hs : Sub env env') (h : WL2 P ops Q n env' B w0 rs l) : WL2 P ops Q n env B w0 rs l := fun a w hF hH => h a w (hF.keep hs) hH
theorem WC2.keep {c : Code} (hs : Sub env env') (h : WC2 P Q n env' B w0 rs c) : WC2 P Q n env B w0 rs c := fun a w hF hH => h a w (hF.keep hs) hH
theorem WE2.keep {e : Exit} (hs : Sub env env') (h : WE2 Q n env' B w0 rs e) : WE2 Q n env B w0 rs e := fun a w hF hH => h a w (hF.keep hs) hH
end wl2

section wc2
variable {P : Program} {Q : Exit → Act → World → Prop} {n B : Nat} {w0 : World} {rs : List RowT} {env : List (Nat × Value)}
theorem d_reg {id : Nat} {l : List Oper} {y : Code} (h : WL2 P l.toArray (Exit.then (fun a w => y.wp P Q a w) Q) n env B w0 rs l) : WC2 P Q n env B w0 rs (.seq (.region id l.toArray false) y) := fun a w hF hH => wp_seq (wp_region_lit (h a w hF hH))
theorem d_reg1 {id : Nat} {l : List Oper} (h : WL2 P l.toArray Q n env B w0 rs l) : WC2 P Q n env B w0 rs (.region id l.toArray false) := fun a w hF hH => wp_region_lit (h a w hF hH)
theorem d_seq {x y : Code} (h : WC2 P (Exit.then (fun a w => y.wp P Q a w) Q) n env B w0 rs x) : WC2 P Q n env B w0 rs (.seq x y) := fun a w hF hH => wp_seq (h a w hF hH)
theorem d_then {c : Operand} {x y : Code} (hc : evs env c = some (.bool true)) (h : WC2 P Q n env B w0 rs x) : WC2 P Q n env B w0 rs (.cond c x y) := fun a w hF hH => cd_then hF hc (h a w hF hH)
theorem d_else {c : Operand} {x y : Code} (hc : evs env c = some (.bool false)) (h : WC2 P Q n env B w0 rs y) : WC2 P Q n env B w0 rs (.cond c x y) := fun a w hF hH => cd_else hF hc (h a w hF hH)
theorem d_skip (h : WE2 Q n env B w0 rs .normal) : WC2 P Q n env B w0 rs .skip := fun a w hF hH => wp_skip (h a w hF hH)
theorem d_ret (h : WE2 Q n env B w0 rs .ret) : WC2 P Q n env B w0 rs .ret := fun a w hF hH => wp_ret (h a w hF hH)
theorem d_block {id : Nat} {c : Code} (h : WC2 P (Exit.inBlock id Q) n env B w0 rs c) : WC2 P Q n env B w0 rs (.block id c) := fun a w hF hH => wp_block (h a w hF hH)
theorem d_exit {id : Nat} (h : WE2 Q n env B w0 rs (.exit id)) : WC2 P Q n env B w0 rs (.exit id) := fun a w hF hH => wp_exit (h a w hF hH)
theorem f_to {y : Code} (h : WC2 P Q n env B w0 rs y) : WE2 (Exit.then (fun a w => y.wp P Q a w) Q) n env B w0 rs .normal := h
theorem f_block {id : Nat} (h : WE2 Q n env B w0 rs .normal) : WE2 (Exit.inBlock id Q) n env B w0 rs .normal := h
theorem f_then_ret {K : Act → World → Prop} (h : WE2 Q n env B w0 rs .ret) : WE2 (Exit.then K Q) n env B w0 rs .ret := h
theorem f_block_ret {id : Nat} (h : WE2 Q n env B w0 rs .ret) : WE2 (Exit.inBlock id Q) n env B w0 rs .ret := h
theorem f_then_exit {K : Act → World → Prop} {id : Nat} (h : WE2 Q n env B w0 rs (.exit id)) : WE2 (Exit.then K Q) n env B w0 rs (.exit id) := h
theorem f_block_exit {id : Nat} (h : WE2 Q n env B w0 rs .normal) : WE2 (Exit.inBlock id Q) n env B w0 rs (.exit id) := fun a w hF hH => (if_pos rfl).mpr (h a w hF hH)
theorem f_block_other {id id' : Nat} (hne : id' ≠ id) (h : WE2 Q n env B w0 rs (.exit id')) : WE2 (Exit.inBlock id Q) n env B w0 rs (.exit id') := fun a w hF hH => (if_neg hne).mpr (h a w hF hH)
variable {fn : Func} {R : Ending → World → Prop}
inductive Res2 (P : Program) (env : List (Nat × Value)) (rs : List RowT) : ResultVar → Value → Prop
  | tmp {t : Tmp} {v : Value} (h : look env t = some v) : Res2 P env rs (.tmp t) v
  | cell (i : Nat) {s : Tmp} {T : TypeId} {g off : Nat} {t : TypeId} {cs : Array Value} {v : Value} (hv : Reads P T cs off v) (h : look env s = some (.pointer (some ⟨g, off, none⟩))) (hi : rs[i]? = some (g, t, cs)) : Res2 P env rs (.cell s T) v
theorem Res2.res {r : ResultVar} {v : Value} {w : World} (h : Res2 P env rs r v) (hH : Hp B w0 w rs) : Res P env w r v := by
  cases h with
  | tmp h => exact .tmp h
  | cell i hv h hi => exact .cell h hv (hH.row i hi)
theorem f_fin1 {r1 : ResultVar} {v1 : Value} (h1 : Res2 P env rs r1 v1) (hR : ∀ w, Hp B w0 w rs → R (.returned v1) w) (hr : fn.results = #[r1]) : WE2 (bodyPost P fn R) n env B w0 rs .ret := fun _ w hF hH => fin1 hF hr (h1.res hH) (hR w hH)
theorem f_fin2 {r1 r2 : ResultVar} {v1 v2 : Value} (h1 : Res2 P env rs r1 v1) (h2 : Res2 P env rs r2 v2) (hR : ∀ w, Hp B w0 w rs → R (.returned (.tuple #[v1, v2])) w) (hr : fn.results = #[r1, r2]) : WE2 (bodyPost P fn R) n env B w0 rs .ret := fun _ w hF hH => fin2 hF hr (h1.res hH) (h2.res hH) (hR w hH)
theorem f_fin0n (hR : ∀ w, Hp B w0 w rs → R (.returned (.tuple #[])) w) (hr : fn.results = #[]) : WE2 (bodyPost P fn R) n env B w0 rs .normal := fun _ w hF hH => fin0n hF hr (hR w hH)
theorem d_in {f : FuncId} {c : Code} {args : List Value} {w : World} (n : Nat) (hf : P.funcs[f]? = some fn) (hb : fn.body = some c) (hn : fn.ntmps = n) (hs : Nat.ble args.length n = true) (h : WC2 P (bodyPost P fn R) n (argEnv 0 args) w.heap.size w [] c) : Calls P f args.toArray w R := calls_in n hf hb hn (Nat.le_of_ble_eq_true hs) fun a hF => h a w hF (Hp.start w)
end wc2

/-! ## A region that draws its order -/
section par2
variable {P : Program} {ops : Array Oper} {Q : Exit → Act → World → Prop} {n B : Nat} {w0 : World} {rs : List RowT} {env env0 : List (Nat × Value)} {jobs : List Job} {o : Oper} {deps : List Nat} {v : Value} {fl : List ((Nat × Nat) × Nat)} {kk : Nat}
def OB2 (P : Program) (ops : Array Oper) (Q : Exit → Act → World → Prop) (n : Nat) (jobs : List Job) (env0 : List (Nat × Value)) (B : Nat) (w0 : World) (rs : List RowT) (o : Oper) (j : Job) : Prop := ∀ w, Hp B w0 w rs → OB P ops Q n jobs env0 w o j
def AllOB2 (P : Program) (ops : Array Oper) (Q : Exit → Act → World → Prop) (n : Nat) (jobs : List Job) (env0 : List (Nat × Value)) (B : Nat) (w0 : World) (rs : List RowT) : List Oper → List Job → Prop
  | o :: os, j :: js => OB2 P ops Q n jobs env0 B w0 rs o j ∧ AllOB2 P ops Q n jobs env0 B w0 rs os js
  | _, _ => True
theorem o_cons {os : List Oper} {j : Job} {js : List Job} (h : OB2 P ops Q n jobs env0 B w0 rs o j) (hs : AllOB2 P ops Q n jobs env0 B w0 rs os js) : AllOB2 P ops Q n jobs env0 B w0 rs (o :: os) (j :: js) := ⟨h, hs⟩
theorem o_nil {os : List Oper} : AllOB2 P ops Q n jobs env0 B w0 rs os [] := by cases os <;> trivial
theorem AllOB2.all : ∀ {os : List Oper} {js : List Job}, AllOB2 P ops Q n jobs env0 B w0 rs os js → ∀ w, Hp B w0 w rs → AllOb P ops Q n w.heap.size jobs env0 (UpΦ w) os js
  | [], _, _, _, _ => by unfold AllOb; trivial
  | _ :: _, [], _, _, _ => by unfold AllOb; trivial
  | _ :: _, _ :: _, h, w, hH => ⟨h.1 w hH, AllOB2.all h.2 w hH⟩
theorem o_val (hg : ∀ σ g, wants ops o (depEnv ops jobs σ g deps ++ env0) = some true) (hrun : ∀ w, Hp B w0 w rs → ∀ σ g b W, Up w.heap.size w W → Fr n b (depEnv ops jobs σ g deps ++ env0) → (execOp b.eval o).run P W = .ok (.value v) W) : OB2 P ops Q n jobs env0 B w0 rs o ⟨.quiet, kk, fun _ => v, deps⟩ := fun w hH => ob_q hg (hrun w hH)
theorem o_q (hfl : Flds P fl) (hg : ∀ σ g, wants ops o (depEnv ops jobs σ g deps ++ env0) = some true) (hq : ∀ σ g, q1 fl o (depEnv ops jobs σ g deps ++ env0) = some v) : OB2 P ops Q n jobs env0 B w0 rs o ⟨.quiet, kk, fun _ => v, deps⟩ := o_val hg fun _ _ σ g _ _ _ hb => exec_q1 hfl (hq σ g) hb
theorem o_call {k : Nat} {F : FuncId} {f : Operand} {args : Array Operand} {ats : Array TypeId} {vs : List Value} (hE : Ent P F) (hc : ∀ w, Up B w0 w → Calls P F vs.toArray w fun e w' => e = .returned v ∧ Below w.heap.size w w') (hg : ∀ σ g, wants ops o (depEnv ops jobs σ g deps ++ env0) = some true) (ho : o.op = .call { callee := .value f, args := args, argTypes := ats }) (hf : ∀ σ g, evs (depEnv ops jobs σ g deps ++ env0) f = some (.func (.func F) #[] #[])) (hx : ∀ σ g, evl (depEnv ops jobs σ g deps ++ env0) args.toList = some vs) : OB2 P ops Q n jobs env0 B w0 rs o ⟨.call, k, fun _ => v, deps⟩ :=
  fun _ hH => ob_call hg hE ho hf hx fun W hW => hc W (hH.up.trans hW.below)
/-- the new variables of a region -/
def newRows (all : List Job) (g : Nat → Nat) : Nat → List Job → List RowT
  | _, [] => []
  | i, j :: r => match j.kind with | .alloc T zs => (g i, T, (storedAt all i).getD zs) :: newRows all g (i + 1) r | _ => newRows all g (i + 1) r
theorem newRows_mem {all : List Job} {g : Nat → Nat} : ∀ {l : List Job} {i : Nat} {x : RowT}, x ∈ newRows all g i l → ∃ k j T zs, l[k]? = some j ∧ j.kind = .alloc T zs ∧ x = (g (i + k), T, (storedAt all (i + k)).getD zs)
  | [], i, x, h => by simp [newRows] at h
  | j :: r, i, x, h => by
    unfold newRows at h
    cases hk : j.kind with
    | alloc T zs =>
      simp only [hk, List.mem_cons] at h
      rcases h with rfl | h
      · exact ⟨0, j, T, zs, rfl, hk, rfl⟩
      · obtain ⟨k, j', T', zs', h1, h2, h3⟩ := newRows_mem h
        exact ⟨k + 1, j', T', zs', by simpa using h1, h2, by rw [h3, show i + 1 + k = i + (k + 1) by omega]⟩
    | _ =>
      simp only [hk] at h
      obtain ⟨k, j', T', zs', h1, h2, h3⟩ := newRows_mem h
      exact ⟨k + 1, j', T', zs', by simpa using h1, h2, by rw [h3, show i + 1 + k = i + (k + 1) by omega]⟩
theorem RowsOf.app {w : World} : ∀ {a b : List RowT}, (∀ x ∈ a, Row w x.1 x.2.1 x.2.2) → RowsOf w b → RowsOf w (a ++ b)
  | [], _, _, hb => hb
  | (g, t, cs) :: r, _, ha, hb => ⟨ha (g, t, cs) (by simp), RowsOf.app (fun x hx => ha x (by simp [hx])) hb⟩
theorem d_par {id : Nat} (D m : Nat) (jobs : List Job) (env0 : List (Nat × Value)) (hmix : P.follows .mixedOrders = true) (hok : parOK ops jobs n D m (env0.map (·.1)) = true) (hs : Sub env env0)
    (hOb : AllOB2 P ops Q n jobs env0 B w0 rs ops.toList jobs)
    (hend : ∀ σ g, WL2 P ops Q n (finEnv ops jobs σ g D ++ env0) B w0 (newRows jobs g 0 jobs ++ rs) (ops.toList.drop D)) : WC2 P Q n env B w0 rs (.region id ops true) := fun a w hF hH =>
  c_par D m jobs env0 hmix hok hs (hOb.all w hH) (fun σ g w' hU hA hX b hb => hend σ g b w' hb (by
    refine ⟨hH.up.trans hU.below, RowsOf.app (fun x hx => ?_) (hH.rows.map_ fun x hx r => r.below hU.below r.lt), ?_⟩
    · obtain ⟨k, j, T, zs, h1, h2, rfl⟩ := newRows_mem hx
      exact (hA (0 + k) j T zs (by simpa using h1) h2).2
    · have old : ∀ y ∈ rs, y.1 < w.heap.size := fun y hy => (hH.rows.mem y hy).lt
      have key : ∀ (l : List Job) (i : Nat), (∀ (k : Nat) (j : Job), l[k]? = some j → jobs[i + k]? = some j) → Apart B (newRows jobs g i l ++ rs) := by
        intro l
        induction l with
        | nil => intro i _; exact hH.apart
        | cons j r ih =>
          intro i hl
          have ih' := ih (i + 1) (fun k j' h => by have := hl (k + 1) j' (by simpa using h); rwa [show i + 1 + k = i + (k + 1) by omega])
          unfold newRows
          cases hk : j.kind with
          | alloc T zs =>
            have h0 := hl 0 j rfl
            have hge := (hA (i + 0) j T zs h0 hk).1
            refine ⟨Nat.le_trans hH.up.size hge, fun y hy => ?_, ih'⟩
            rcases List.mem_append.1 hy with hy | hy
            · obtain ⟨k, j', T', zs', h1, h2, rfl⟩ := newRows_mem hy
              have h1' := hl (k + 1) j' (by simpa using h1)
              have := hX (i + 0) (i + (k + 1)) j j' h0 h1' (by unfold Job.isAlloc; rw [hk]) (by unfold Job.isAlloc; rw [h2]) (by omega)
              show g (i + 1 + k) ≠ g i
              rw [show i + 1 + k = i + (k + 1) by omega]
              exact Ne.symm this
            · have := old y hy
              show y.1 ≠ g i
              rw [Nat.add_zero] at hge
              omega
          | _ => exact ih'
      exact key jobs 0 (fun k j h => by simpa using h))) a hF
end par2

/-! ## A small region, order by order -/
section orders2
variable {P : Program} {ops : Array Oper} {Q : Exit → Act → World → Prop} {n f i d B : Nat} {w0 : World} {rs : List RowT} {env env' : List (Nat × Value)} {listed : Array Bool} {o : Oper} {fl : List ((Nat × Nat) × Nat)}
def WA2 (P : Program) (ops : Array Oper) (Q : Exit → Act → World → Prop) (n : Nat) (env : List (Nat × Value)) (B : Nat) (w0 : World) (rs : List RowT) (f : Nat) (listed : Array Bool) : Prop := ∀ a w, Fr n a env → Hp B w0 w rs → wpAny P .any ops Q f listed a w
end orders2
end Go.Proofs.Ytnhcbjlaeaohjaa

namespace Go.Proofs.Ytnhcbjlaeaohjaa
open Go.RowKit
/-- a string of these bytes -/
def bs (l : List UInt8) : ByteArray := ⟨l.toArray⟩
theorem bs_list (l : List UInt8) : (bs l).toList = l := by simp [bs, ByteArray.toList_eq]
section
variable {P : Program} {ops : Array Oper} {Q : Exit → Act → World → Prop} {n B d : Nat} {w0 : World} {rs : List RowT} {env env0 : List (Nat × Value)} {rest : List Oper} {o : Oper} {a : Act} {w : World} {jobs : List Job} {deps : List Nat} {kk : Nat}
theorem exec_same {T T' : TypeId} {x y : Operand} {l m : List UInt8} {c : Bool} (ho : o.op = .binOp .eql T x y T') (hx : evs env x = some (.string (bs l))) (hy : evs env y = some (.string (bs m))) (hc : (l == m) = c) (hF : Fr n a env) : (execOp a.eval o).run P w = .ok (.value (.bool c)) w := by
  unfold execOp
  subst hc
  simp only [ho, hF.evs hx, hF.evs hy]
  simp [eqGuard, binOp, Op.stringOp, bs_list]
end
end Go.Proofs.Ytnhcbjlaeaohjaa

namespace Go.Proofs.Ytnhcbjlaeaohjaa
open Go.RowKit
section loops
variable {P : Program} {Q : Exit → Act → World → Prop} {n B : Nat} {w0 : World} {rs rs' : List RowT} {env env' : List (Nat × Value)} {c : Code} {α : Type}
theorem RowsOf.drop {w : World} : ∀ {rs : List RowT} (k : Nat), RowsOf w rs → RowsOf w (rs.drop k)
  | _, 0, h => h
  | [], k + 1, _ => trivial
  | (g, t, cs) :: r, k + 1, h => RowsOf.drop (rs := r) k h.2
theorem Apart.drop : ∀ {rs : List RowT} (k : Nat), Apart B rs → Apart B (rs.drop k)
  | _, 0, h => h
  | [], k + 1, _ => trivial
  | x :: r, k + 1, h => Apart.drop (rs := r) k h.2.2
theorem Hp.drop {w : World} (h : Hp B w0 w rs) (k : Nat) : Hp B w0 w (rs.drop k) := h.sub (fun h => h.drop k) (fun h => h.drop k)
theorem WC2.at_ (hs : Sub env env') (hr : rs = rs') (h : WC2 P Q n env' B w0 rs' c) : WC2 P Q n env B w0 rs c := fun a w hF hH => h a w (hF.keep hs) (hr ▸ hH)
def Again (n B : Nat) (w0 : World) (E : α → List (Nat × Value)) (R : α → List RowT) (Inv : α → Prop) (μ : α → Nat) (x : α) : Act → World → Prop := fun a w => ∃ y, Inv y ∧ μ y < μ x ∧ Fr n a (E y) ∧ Hp B w0 w (R y)
theorem d_loop (E : α → List (Nat × Value)) (R : α → List RowT) (Inv : α → Prop) (μ : α → Nat) (x : α) (hx : Inv x) (hE : Sub env (E x)) (hR : rs = R x) (h : ∀ x, Inv x → WC2 P (Exit.then (Again n B w0 E R Inv μ x) Q) n (E x) B w0 (R x) c) : WC2 P Q n env B w0 rs (.loop c) := by
  subst hR
  intro a w hF hH
  have key : ∀ m x, μ x < m → Inv x → ∀ a w, Fr n a (E x) → Hp B w0 w (R x) → Code.rounds P c Q m a w := by
    intro m
    induction m with
    | zero => intro x hx; omega
    | succ m ih =>
      intro x hm hx a w hF hH
      refine Code.wp_mono (fun e a' w' q => ?_) (h x hx a w hF hH)
      cases e with
      | normal =>
        obtain ⟨y, hy, hlt, hF', hH'⟩ := q
        exact ih y (by omega) hy a' w' hF' hH'
      | _ => exact q
  exact wp_loop_rounds _ (key _ x (Nat.lt_succ_self _) hx a w (hF.keep hE) hH)
theorem f_again {E : α → List (Nat × Value)} {R : α → List RowT} {Inv : α → Prop} {μ : α → Nat} {x : α} (y : α) (k : Nat) (hy : Inv y) (hμ : μ y < μ x) (hs : Sub env (E y)) (hr : rs.drop k = R y) : WE2 (Exit.then (Again n B w0 E R Inv μ x) Q) n env B w0 rs .normal := fun _ _ hF hH => ⟨y, hy, hμ, hF.keep hs, hr ▸ hH.drop k⟩
/-- a loop by its rounds -/
def WR (P : Program) (Q : Exit → Act → World → Prop) (n : Nat) (env : List (Nat × Value)) (B : Nat) (w0 : World) (rs : List RowT) (c : Code) (k : Nat) : Prop := ∀ a w, Fr n a env → Hp B w0 w rs → Code.rounds P c Q k a w
theorem d_rounds (k : Nat) (h : WR P Q n env B w0 rs c k) : WC2 P Q n env B w0 rs (.loop c) := fun a w hF hH => wp_loop_rounds k (h a w hF hH)
theorem r_step {k : Nat} (h : WC2 P (Exit.then (Code.rounds P c Q k) Q) n env B w0 rs c) : WR P Q n env B w0 rs c (k + 1) := fun a w hF hH => h a w hF hH
theorem f_next {k : Nat} (h : WR P Q n env B w0 rs c k) : WE2 (Exit.then (Code.rounds P c Q k) Q) n env B w0 rs .normal := h
end loops

/-! ## Order by order: a call, a sum -/
section orders3
variable {P : Program} {ops : Array Oper} {Q : Exit → Act → World → Prop} {n fu i d B : Nat} {w0 : World} {rs : List RowT} {env : List (Nat × Value)} {listed : Array Bool} {o : Oper}
end orders3

/-! ## An array's place -/
section index
variable {P : Program} {n : Nat} {w : World} {env : List (Nat × Value)} {o : Oper}
theorem exec_nilCheck {a : Act} {x : Operand} {p : Addr} (ho : o.op = .nilCheck x) (hx : evs env x = some (.pointer (some p))) (hF : Fr n a env) : (execOp a.eval o).run P w = .ok (.value (.pointer (some p))) w := by
  unfold execOp
  simp [ho, hF.evs hx]
end index
end Go.Proofs.Ytnhcbjlaeaohjaa

namespace Go.Proofs.Ytnhcbjlaeaohjaa
open Go.RowKit
section
variable {P : Program} {ops : Array Oper} {Q : Exit → Act → World → Prop} {n B : Nat} {w0 w : World} {rs : List RowT} {env : List (Nat × Value)} {rest : List Oper} {o : Oper} {d : Nat}
theorem exec_conv {a : Act} {T T' : TypeId} {u : TypeDesc} {k k' : IntKind} {p z : Int} {x : Operand} (hs : P.underlying T = some u) (hd : P.underlying T' = some (.int k)) (hz : k.wrap p = z) (ho : o.op = .convert T T' x) (hx : evs env x = some (.int k' p)) (hF : Fr n a env) : (execOp a.eval o).run P w = .ok (.value (.int k z)) w := by
  unfold execOp
  simp [ho, hF.evs hx, convert, run_underlying hs, run_underlying hd, Conv.intToInt, hz]
end
end Go.Proofs.Ytnhcbjlaeaohjaa

namespace Go.Proofs.Ytnhcbjlaeaohjaa
open Go.RowKit
section main
variable {P : Program} {ops : Array Oper} {Q : Exit → Act → World → Prop} {n B : Nat} {jobs : List Job} {env0 : List (Nat × Value)} {Φ : Nat → List Value → World → Prop} {D m : Nat}
end main
section par3
variable {P : Program} {ops : Array Oper} {Q : Exit → Act → World → Prop} {n B : Nat} {w0 : World} {rs : List RowT} {env : List (Nat × Value)}
theorem news_hp {B : Nat} {w0 w w' : World} {rs : List RowT} {jobs : List Job} {g : Nat → Nat} (hH : Hp B w0 w rs) (hU : Up w.heap.size w w') (hA : ∀ (i : Nat) j T zs, jobs[i]? = some j → j.kind = .alloc T zs → w.heap.size ≤ g i ∧ Row w' (g i) T ((storedAt jobs i).getD zs)) (hX : ∀ (i i' : Nat) j j', jobs[i]? = some j → jobs[i']? = some j' → j.isAlloc = true → j'.isAlloc = true → i ≠ i' → g i ≠ g i') : Hp B w0 w' (newRows jobs g 0 jobs ++ rs) := by
    refine ⟨hH.up.trans hU.below, RowsOf.app (fun x hx => ?_) (hH.rows.map_ fun x hx r => r.below hU.below r.lt), ?_⟩
    · obtain ⟨k, j, T, zs, h1, h2, rfl⟩ := newRows_mem hx
      exact (hA (0 + k) j T zs (by simpa using h1) h2).2
    · have old : ∀ y ∈ rs, y.1 < w.heap.size := fun y hy => (hH.rows.mem y hy).lt
      have key : ∀ (l : List Job) (i : Nat), (∀ (k : Nat) (j : Job), l[k]? = some j → jobs[i + k]? = some j) → Apart B (newRows jobs g i l ++ rs) := by
        intro l
        induction l with
        | nil => intro i _; exact hH.apart
        | cons j r ih =>
          intro i hl
          have ih' := ih (i + 1) (fun k j' h => by have := hl (k + 1) j' (by simpa using h); rwa [show i + 1 + k = i + (k + 1) by omega])
          unfold newRows
          cases hk : j.kind with
          | alloc T zs =>
            have h0 := hl 0 j rfl
            have hge := (hA (i + 0) j T zs h0 hk).1
            refine ⟨Nat.le_trans hH.up.size hge, fun y hy => ?_, ih'⟩
            rcases List.mem_append.1 hy with hy | hy
            · obtain ⟨k, j', T', zs', h1, h2, rfl⟩ := newRows_mem hy
              have h1' := hl (k + 1) j' (by simpa using h1)
              have := hX (i + 0) (i + (k + 1)) j j' h0 h1' (by unfold Job.isAlloc; rw [hk]) (by unfold Job.isAlloc; rw [h2]) (by omega)
              show g (i + 1 + k) ≠ g i
              rw [show i + 1 + k = i + (k + 1) by omega]
              exact Ne.symm this
            · have := old y hy
              show y.1 ≠ g i
              rw [Nat.add_zero] at hge
              omega
          | _ => exact ih'
      exact key jobs 0 (fun k j h => by simpa using h)
theorem WA2.keep {f : Nat} {env' : List (Nat × Value)} {listed : Array Bool} (hs : Sub env env') (h : WA2 P ops Q n env' B w0 rs f listed) : WA2 P ops Q n env B w0 rs f listed := fun a w hF hH => h a w (hF.keep hs) hH
end par3
end Go.Proofs.Ytnhcbjlaeaohjaa

namespace Go.Proofs.Ytnhcbjlaeaohjaa
open Go.RowKit
/-- P holds of each part of out, listed one by one -/
def AllSubs : List Nat → (List Nat → Prop) → Prop
  | [], P => P []
  | x :: xs, P => AllSubs xs P ∧ AllSubs xs fun l => P (x :: l)
theorem AllSubs.filter {c : Nat → Bool} : ∀ {out : List Nat} {P : List Nat → Prop}, AllSubs out P → P (out.filter c)
  | [], _, h => h
  | x :: xs, P, h => by
    cases hc : c x with
    | true => rw [List.filter_cons_of_pos hc]; exact AllSubs.filter (P := fun l => P (x :: l)) h.2
    | false => rw [List.filter_cons_of_neg (by rw [hc]; simp)]; exact AllSubs.filter (P := P) h.1
section par4
variable {P : Program} {ops : Array Oper} {Q : Exit → Act → World → Prop} {n B : Nat} {w0 : World} {rs : List RowT} {env : List (Nat × Value)}
/-- where several ways through a region come together again -/
def Mid (n : Nat) (B : Nat) (w0 : World) (E : List (Nat × Value)) (R : List RowT) : Exit → Act → World → Prop := fun e a w => e = .normal ∧ Fr n a E ∧ Hp B w0 w R
theorem d_mid {c : Code} (E : List (Nat × Value)) (R : List RowT) (h1 : WC2 P (Mid n B w0 E R) n env B w0 rs c) (h2 : WE2 Q n E B w0 R .normal) : WC2 P Q n env B w0 rs c := fun a w hF hH => Code.wp_mono (fun e a' w' (h : Mid n B w0 E R e a' w') => by obtain ⟨he, hF', hH'⟩ := h; subst he; exact h2 a' w' hF' hH') (h1 a w hF hH)
theorem f_mid {E : List (Nat × Value)} {R : List RowT} (k : Nat) (hs : Sub env E) (hr : rs.drop k = R) : WE2 (Mid n B w0 E R) n env B w0 rs .normal := fun _ _ hF hH => ⟨rfl, hF.keep hs, hr ▸ hH.drop k⟩
end par4
end Go.Proofs.Ytnhcbjlaeaohjaa
