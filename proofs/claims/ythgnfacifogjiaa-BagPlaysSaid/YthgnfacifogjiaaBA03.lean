/-
  Hp · Bs · Loop · Bytes · Rd · Re
-/
import Derived.Test.YthgnfacifogjiaaBA02
import Derived.Laws.Concat
import Derived.Lib.SmallJoins
import Derived.LoopN
import Derived.Lib.SlBytesRow
import Derived.Lib.SliceRun
import Derived.Laws.Cover3
import Derived.Deep.AppendSrc
import Derived.Deep.Upon
set_option linter.unusedSimpArgs false
set_option linter.unusedVariables false

namespace Go.Proofs.Ythgnfacifogjiaa
open Go.RowKit

/-! ## The rows that a call has made -/
/-- what a row is of: cells of a type, or a loop's record -/
inductive RTy
  | ty (t : TypeId)
  | loop (l : Loop)
instance : Coe TypeId RTy := ⟨.ty⟩
instance (n : Nat) : OfNat RTy n := ⟨.ty n⟩
abbrev RowT := Nat × Option RTy × Array Value
abbrev tyR (t : TypeId) : Option RTy := some (.ty t)
instance (n : Nat) : OfNat (Option RTy) n := ⟨some (.ty n)⟩
/-- a map's entry, a map and what a range over one has seen, as values -/
def codeE (x : MapEntry) : Value := .tuple #[x.key, x.val, .int .i64 (x.born : Int)]
def mapC (es : Array MapEntry) (c : Nat) : Array Value := #[.bool true, .int .i64 (c : Int), .tuple (es.map codeE)]
def iterC (b since : Nat) (seen : Array Nat) (c : Nat) : Array Value := #[.bool false, .int .i64 (b : Int), .int .i64 (since : Int), .tuple (seen.map fun z : Nat => Value.int .i64 (z : Int)), .int .i64 (c : Int)]
/-- cells of which some are frozen -/
def litC (C : Array Value) (e : TypeId) (f : Nat × Nat) : Array Value := #[.tuple C, .int .i64 (e : Int), .int .i64 (f.1 : Int), .int .i64 (f.2 : Int)]
/-- block g is a map, or a range over one, or cells of which some are frozen -/
def ObjRow (w : World) (g : Nat) (cs : Array Value) : Prop := (∃ es c, w.heap[g]? = some (.map es c) ∧ cs = mapC es c) ∨ (∃ b s seen c, w.heap[g]? = some (.mapIter (some b) s seen c) ∧ cs = iterC b s seen c) ∨ ∃ C e f, w.heap[g]? = some (.cells C e f) ∧ cs = litC C e f
/-- what a row says of the world: cells of a type, or (without a type) a map -/
def RowX (w : World) (x : RowT) : Prop := match x.2.1 with
  | some (.ty t) => Row w x.1 t x.2.2
  | some (.loop l) => w.heap[x.1]? = some (.loop l)
  | none => ObjRow w x.1 x.2.2
def RowsOf (w : World) : List RowT → Prop
  | [] => True
  | x :: r => RowX w x ∧ RowsOf w r
section rowx
variable {S : Nat → Prop} {w w' : World} {x : RowT}
theorem RowX.obj (h : RowX w x) : ∃ o, w.heap[x.1]? = some o ∧ ∀ w' : World, w'.heap[x.1]? = some o → RowX w' x := by
  obtain ⟨g, t, cs⟩ := x
  cases t with
  | some t => cases t <;> exact ⟨_, h, fun w' h' => h'⟩
  | none =>
    rcases h with ⟨es, c, h1, h2⟩ | ⟨b, s, seen, c, h1, h2⟩ | ⟨C, e, f, h1, h2⟩
    · exact ⟨_, h1, fun w' h' => .inl ⟨es, c, h', h2⟩⟩
    · exact ⟨_, h1, fun w' h' => .inr (.inl ⟨b, s, seen, c, h', h2⟩)⟩
    · exact ⟨_, h1, fun w' h' => .inr (.inr ⟨C, e, f, h', h2⟩)⟩
theorem RowX.lt (h : RowX w x) : x.1 < w.heap.size := by
  obtain ⟨o, h1, _⟩ := h.obj
  exact (Array.getElem?_eq_some_iff.1 h1).1
theorem RowX.same (h : RowX w x) (e : w'.heap[x.1]? = w.heap[x.1]?) : RowX w' x := by
  obtain ⟨o, h1, h2⟩ := h.obj
  exact h2 w' (e.trans h1)
theorem RowX.mod (h : RowX w x) (hm : Mod S w w') (hn : ¬ S x.1) : RowX w' x := h.same (hm.block x.1 h.lt hn)
theorem RowX.below {B : Nat} (h : RowX w x) (hb : Below B w w') (hg : x.1 < B) : RowX w' x := h.same (hb.block x.1 hg)
theorem RowX.old (h : RowX w x) (hb : Below w.heap.size w w') : RowX w' x := h.below hb h.lt
theorem RowX.alloc (h : RowX w x) (o : Obj) : RowX (w.alloc o) x := h.same (Below.heap_alloc w o x.1 h.lt)
theorem RowX.drew (h : RowX w x) : RowX w.drew x := h.same rfl
theorem RowX.mod_ne {g' : Nat} (h : RowX w x) (hm : Mod (One g') w w') (hn : x.1 ≠ g') : RowX w' x := h.mod hm (fun e => hn e)
end rowx
def Apart (B : Nat) : List RowT → Prop
  | [] => True
  | x :: r => B ≤ x.1 ∧ (∀ y ∈ r, y.1 ≠ x.1) ∧ Apart B r
/-- what stood before the call is as it was; of its own rows these are known -/
structure Hp (B : Nat) (w0 w : World) (rs : List RowT) : Prop where
  up : Up B w0 w
  rows : RowsOf w rs
  apart : Apart B rs
section hp
variable {B : Nat} {w0 w w' : World} {rs : List RowT}
theorem RowsOf.at_ : ∀ {rs : List RowT}, RowsOf w rs → ∀ (i : Nat) g (t : TypeId) cs, rs[i]? = some (g, tyR t, cs) → Row w g t cs
  | [], _, i, g, t, cs, h => by simp at h
  | x :: r, hr, 0, g, t, cs, h => by
    simp only [List.getElem?_cons_zero, Option.some.injEq] at h
    subst h
    exact hr.1
  | x :: r, hr, i + 1, g, t, cs, h => by
    simp only [List.getElem?_cons_succ] at h
    exact RowsOf.at_ hr.2 i g t cs h
theorem RowsOf.map_ : ∀ {rs : List RowT}, RowsOf w rs → (∀ x ∈ rs, RowX w x → RowX w' x) → RowsOf w' rs
  | [], _, _ => trivial
  | (g, t, cs) :: r, hr, h => ⟨h (g, t, cs) (by simp) hr.1, RowsOf.map_ hr.2 fun x hx => h x (by simp [hx])⟩
theorem RowsOf.mem : ∀ {rs : List RowT}, RowsOf w rs → ∀ x ∈ rs, RowX w x
  | [], _, x, h => by simp at h
  | (g, t, cs) :: r, hr, x, h => by
    rcases List.mem_cons.1 h with rfl | h
    · exact hr.1
    · exact RowsOf.mem hr.2 x h
theorem Apart.ge : ∀ {rs : List RowT}, Apart B rs → ∀ x ∈ rs, B ≤ x.1
  | [], _, x, h => by simp at h
  | y :: r, ha, x, h => by
    rcases List.mem_cons.1 h with rfl | h
    · exact ha.1
    · exact Apart.ge ha.2.2 x h
theorem Hp.start (w : World) : Hp w.heap.size w w [] := ⟨Up.refl w, trivial, trivial⟩
theorem Hp.row (h : Hp B w0 w rs) (i : Nat) {g : Nat} {t : TypeId} {cs : Array Value} (hi : rs[i]? = some (g, tyR t, cs)) : Row w g t cs := h.rows.at_ i g t cs hi
theorem Hp.call (h : Hp B w0 w rs) (hb : Below w.heap.size w w') : Hp B w0 w' rs := ⟨h.up.trans hb, h.rows.map_ fun _ _ r => r.old hb, h.apart⟩
theorem Hp.new (h : Hp B w0 w rs) (t : TypeId) (cs : Array Value) : Hp B w0 (w.alloc (.cells cs t)) ((w.heap.size, tyR t, cs) :: rs) :=
  ⟨h.up.alloc _, ⟨Row.new w t cs, h.rows.map_ fun _ _ r => r.alloc _⟩, h.up.size, fun y hy => by have := (h.rows.mem y hy).lt; omega, h.apart⟩
/-- row i holds other cells now -/
def setRowT : List RowT → Nat → Array Value → List RowT
  | [], _, _ => []
  | (g, t, _) :: r, 0, c => (g, t, c) :: r
  | x :: r, i + 1, c => x :: setRowT r i c
theorem setRowT_mem : ∀ {rs : List RowT} {i : Nat} {c : Array Value}, ∀ y ∈ setRowT rs i c, ∃ x ∈ rs, x.1 = y.1
  | [], _, _, y, h => by simp [setRowT] at h
  | (g, t, c0) :: r, 0, c, y, h => by
    unfold setRowT at h
    rcases List.mem_cons.1 h with rfl | h
    · exact ⟨(g, t, c0), by simp, rfl⟩
    · exact ⟨y, by simp [h], rfl⟩
  | x :: r, i + 1, c, y, h => by
    unfold setRowT at h
    rcases List.mem_cons.1 h with rfl | h
    · exact ⟨_, by simp, rfl⟩
    · obtain ⟨z, hz, e⟩ := setRowT_mem y h
      exact ⟨z, by simp [hz], e⟩
theorem Apart.set : ∀ {rs : List RowT} {i : Nat} {c : Array Value}, Apart B rs → Apart B (setRowT rs i c)
  | [], _, _, _ => trivial
  | (g, t, _) :: r, 0, c, h => h
  | x :: r, i + 1, c, h => ⟨h.1, fun y hy => by obtain ⟨z, hz, e⟩ := setRowT_mem y hy; rw [← e]; exact h.2.1 z hz, Apart.set h.2.2⟩
theorem Hp.set (h : Hp B w0 w rs) : ∀ (i : Nat) {g : Nat} {t : TypeId} {cs c : Array Value}, rs[i]? = some (g, tyR t, cs) → Mod (One g) w w' → Row w' g t c → Hp B w0 w' (setRowT rs i c) := by
  intro i g t cs c hi hm hR
  have hmem : (g, tyR t, cs) ∈ rs := List.mem_of_getElem? hi
  refine ⟨h.up.one hm (h.apart.ge _ hmem), ?_, h.apart.set⟩
  have key : ∀ {rs : List RowT} (i : Nat), RowsOf w rs → Apart B rs → rs[i]? = some (g, tyR t, cs) → RowsOf w' (setRowT rs i c) := by
    intro rs
    induction rs with
    | nil => intro i _ _ hi; simp at hi
    | cons x r ih =>
      intro i hr ha hi
      obtain ⟨g', t', cs'⟩ := x
      cases i with
      | zero =>
        simp only [List.getElem?_cons_zero, Option.some.injEq, Prod.mk.injEq] at hi
        obtain ⟨rfl, rfl, rfl⟩ := hi
        exact ⟨hR, hr.2.map_ fun y hy r => r.mod_ne hm (ha.2.1 y hy)⟩
      | succ i =>
        simp only [List.getElem?_cons_succ] at hi
        refine ⟨hr.1.mod_ne hm (fun e => ?_), ih i hr.2 ha.2.2 hi⟩
        exact ha.2.1 _ (List.mem_of_getElem? hi) e.symm
  exact key i h.rows h.apart hi
theorem Hp.drew (h : Hp B w0 w rs) : Hp B w0 w.drew rs := ⟨h.up.drew, h.rows.map_ fun _ _ r => r.drew, h.apart⟩
theorem Hp.sub (h : Hp B w0 w rs) {rs' : List RowT} (h1 : RowsOf w rs → RowsOf w rs') (h2 : Apart B rs → Apart B rs') : Hp B w0 w rs' := ⟨h.up, h1 h.rows, h2 h.apart⟩
end hp

/-- from any frame that holds env and any world with the rows rs, the operations l -/
def WL2 (P : Program) (ops : Array Oper) (Q : Exit → Act → World → Prop) (n : Nat) (env : List (Nat × Value)) (B : Nat) (w0 : World) (rs : List RowT) (l : List Oper) : Prop := ∀ a w, Fr n a env → Hp B w0 w rs → wpList P ops Q l a w
def WC2 (P : Program) (Q : Exit → Act → World → Prop) (n : Nat) (env : List (Nat × Value)) (B : Nat) (w0 : World) (rs : List RowT) (c : Code) : Prop := ∀ a w, Fr n a env → Hp B w0 w rs → c.wp P Q a w
def WE2 (Q : Exit → Act → World → Prop) (n : Nat) (env : List (Nat × Value)) (B : Nat) (w0 : World) (rs : List RowT) (e : Exit) : Prop := ∀ a w, Fr n a env → Hp B w0 w rs → Q e a w

/-! ## What needs no memory, as much of it as stands in a row -/
def fld : List ((Nat × Nat) × Nat) → Nat → Nat → Option Nat
  | [], _, _ => none
  | ((s, f), k) :: r, S, F => match Nat.beq s S, Nat.beq f F with | true, true => some k | _, _ => fld r S F
def Flds (P : Program) (fl : List ((Nat × Nat) × Nat)) : Prop := ∀ S f k, fld fl S f = some k → FieldAt P S f k
def AllFlds (P : Program) : List ((Nat × Nat) × Nat) → Prop
  | [] => True
  | ((s, f), k) :: r => FieldAt P s f k ∧ AllFlds P r
theorem flds_of {P : Program} : ∀ {fl : List ((Nat × Nat) × Nat)}, AllFlds P fl → Flds P fl
  | [], _, S, f, k, h => by cases h
  | ((s, g), j) :: r, ha, S, f, k, h => by
    unfold fld at h
    cases h1 : Nat.beq s S with
    | false => simp only [h1] at h; exact flds_of ha.2 S f k h
    | true =>
      cases h2 : Nat.beq g f with
      | false => simp only [h1, h2] at h; exact flds_of ha.2 S f k h
      | true =>
        simp only [h1, h2, Option.some.injEq] at h
        have e1 := Nat.eq_of_beq_eq_true h1
        have e2 := Nat.eq_of_beq_eq_true h2
        subst e1; subst e2; subst h
        exact ha.1
def q1 (fl : List ((Nat × Nat) × Nat)) (o : Oper) (env : List (Nat × Value)) : Option Value :=
  match o.op with
  | .move x => evs env x
  | .assign x => evs env x
  | .extract x i => match evs env x with | some (.tuple vs) => vs[i]? | _ => none
  | .pick c a b => match evs env c with | some (.bool true) => evs env a | some (.bool false) => evs env b | _ => none
  | .unOp .not _ x => match evs env x with | some (.bool true) => some (.bool false) | some (.bool false) => some (.bool true) | _ => none
  | .fieldAddr S x f => match evs env x with
    | some (.pointer (some ⟨g, off, none⟩)) => match fld fl S f with | some k => some (.pointer (some ⟨g, off + k, none⟩)) | none => none
    | _ => none
  | _ => none
theorem exec_q1 {P : Program} {fl : List ((Nat × Nat) × Nat)} (hfl : Flds P fl) {o : Oper} {n : Nat} {env : List (Nat × Value)} {v : Value} {a : Act} {w : World} (h : q1 fl o env = some v) (hF : Fr n a env) : (execOp a.eval o).run P w = .ok (.value v) w := by
  unfold q1 at h
  split at h
  · exact exec_move ‹_› h hF
  · exact exec_assign ‹_› h hF
  · rename_i x i ho
    cases hx : evs env x with
    | none => simp [hx] at h
    | some u =>
      cases u with
      | tuple vs => simp only [hx] at h; exact exec_extract ho hx h hF
      | _ => simp [hx] at h
  · rename_i c x y ho
    cases hx : evs env c with
    | none => simp [hx] at h
    | some u =>
      cases u with
      | bool b =>
        cases b with
        | true => simp only [hx] at h; exact exec_pick (c := true) ho hx (by simpa using h) hF
        | false => simp only [hx] at h; exact exec_pick (c := false) ho hx (by simpa using h) hF
      | _ => simp [hx] at h
  · rename_i T x ho
    cases hx : evs env x with
    | none => simp [hx] at h
    | some u =>
      cases u with
      | bool b =>
        cases b with
        | true => simp only [hx, Option.some.injEq] at h; subst h; exact exec_not ho hx rfl hF
        | false => simp only [hx, Option.some.injEq] at h; subst h; exact exec_not ho hx rfl hF
      | _ => simp [hx] at h
  · rename_i S x f ho
    cases hx : evs env x with
    | none => simp [hx] at h
    | some u =>
      cases u with
      | pointer p =>
        cases p with
        | none => simp [hx] at h
        | some ad =>
          obtain ⟨g, off, b⟩ := ad
          cases b with
          | some b => simp [hx] at h
          | none =>
            simp only [hx] at h
            cases hf : fld fl S f with
            | none => simp [hf] at h
            | some k =>
              simp only [hf, Option.some.injEq] at h
              subst h
              exact exec_field (hfl S f k hf) ho hx hF
      | _ => simp [hx] at h
  · cases h
/-- as many as need no memory; what is left -/
def runQ (fl : List ((Nat × Nat) × Nat)) (ops : Array Oper) (n : Nat) : List Oper → List (Nat × Value) → Option (List (Nat × Value) × List Oper)
  | [], env => some (env, [])
  | o :: r, env => match wants ops o env with
    | some false => match o.dst with
      | some d => match Nat.blt d n with | true => runQ fl ops n r ((d, undef) :: env) | false => none
      | none => none
    | some true => match q1 fl o env with
      | some v => match o.dst with
        | some d => match Nat.blt d n with | true => runQ fl ops n r ((d, v) :: env) | false => none
        | none => none
      | none => some (env, o :: r)
    | none => some (env, o :: r)

section wl2
variable {P : Program} {ops : Array Oper} {Q : Exit → Act → World → Prop} {n B : Nat} {w0 : World} {rs rs' : List RowT} {env env' : List (Nat × Value)} {l rest : List Oper} {o : Oper} {d : Nat} {fl : List ((Nat × Nat) × Nat)}
theorem h_q (hfl : Flds P fl) : ∀ {l : List Oper} {env : List (Nat × Value)}, runQ fl ops n l env = some (env', rest) → WL2 P ops Q n env' B w0 rs rest → WL2 P ops Q n env B w0 rs l
  | [], env, h, hk => by
    simp only [runQ, Option.some.injEq, Prod.mk.injEq] at h
    obtain ⟨rfl, rfl⟩ := h
    exact hk
  | o :: r, env, h, hk => by
    unfold runQ at h
    cases hw : wants ops o env with
    | none =>
      simp only [hw, Option.some.injEq, Prod.mk.injEq] at h
      obtain ⟨rfl, rfl⟩ := h
      exact hk
    | some b =>
      cases b with
      | false =>
        simp only [hw] at h
        cases hd : o.dst with
        | none => simp [hd] at h
        | some d =>
          simp only [hd] at h
          cases hn : Nat.blt d n with
          | false => simp [hn] at h
          | true =>
            simp only [hn] at h
            exact fun a w hF hH => st_skip hF hw hd (blt_lt hn) fun b hb => h_q hfl h hk b w hb hH
      | true =>
        simp only [hw] at h
        cases hq : q1 fl o env with
        | none =>
          simp only [hq, Option.some.injEq, Prod.mk.injEq] at h
          obtain ⟨rfl, rfl⟩ := h
          exact hk
        | some v =>
          simp only [hq] at h
          cases hd : o.dst with
          | none => simp [hd] at h
          | some d =>
            simp only [hd] at h
            cases hn : Nat.blt d n with
            | false => simp [hn] at h
            | true =>
              simp only [hn] at h
              exact fun a w hF hH => st_q hF hw hd (blt_lt hn) v (fun b hb => exec_q1 hfl hq hb) fun b hb => h_q hfl h hk b w hb hH
/-- what one operation writes where -/
def at1 (ops : Array Oper) (n : Nat) (o : Oper) (env : List (Nat × Value)) : Option Nat := match wants ops o env with
  | some true => match o.dst with
    | some d => match Nat.blt d n with | true => some d | false => none
    | none => none
  | _ => none
theorem at1_parts (h : at1 ops n o env = some d) : wants ops o env = some true ∧ o.dst = some d ∧ d < n := by
  unfold at1 at h
  cases hw : wants ops o env with
  | none => simp [hw] at h
  | some b =>
    cases b with
    | false => simp [hw] at h
    | true =>
      simp only [hw] at h
      cases hd : o.dst with
      | none => simp [hd] at h
      | some d' =>
        simp only [hd] at h
        cases hn : Nat.blt d' n with
        | false => simp [hn] at h
        | true =>
          simp only [hn, Option.some.injEq] at h
          subst h
          exact ⟨rfl, rfl, blt_lt hn⟩
theorem h_val (h1 : at1 ops n o env = some d) (v : Value) (hrun : ∀ b w, Fr n b env → Hp B w0 w rs → (execOp b.eval o).run P w = .ok (.value v) w) (h : WL2 P ops Q n ((d, v) :: env) B w0 rs rest) : WL2 P ops Q n env B w0 rs (o :: rest) :=
  fun a w hF hH => st_q hF (at1_parts h1).1 (at1_parts h1).2.1 (at1_parts h1).2.2 v (fun b hb => hrun b w hb hH) fun b hb => h b w hb hH
/-- what '==' and '!=' give of two values that are no numbers -/
def EqAt (P : Program) (T : TypeId) (u v : Value) (c : Bool) : Prop := ∀ x y w, (do eqGuard .eql T x y u v; binOp .eql T u v : Sem Value).run P w = .ok (.bool c) w
theorem exec_eqs {a : Act} {w : World} {T T' : TypeId} {x y : Operand} {u v : Value} {c : Bool} (he : EqAt P T u v c) (ho : o.op = .binOp .eql T x y T') (hx : evs env x = some u) (hy : evs env y = some v) (hF : Fr n a env) : (execOp a.eval o).run P w = .ok (.value (.bool c)) w := by
  unfold execOp
  have := he x y w
  simp only [ho, hF.evs hx, hF.evs hy]
  rw [Sem.run_bind, this]
  rfl
theorem h_nil (h : WE2 Q n env B w0 rs .normal) : WL2 P ops Q n env B w0 rs [] := h
theorem h_done {y : Code} (h : WC2 P Q n env B w0 rs y) : WL2 P ops (Exit.then (fun a w => y.wp P Q a w) Q) n env B w0 rs [] := h
theorem WL2.keep (hs : Sub env env') (h : WL2 P ops Q n env' B w0 rs l) : WL2 P ops Q n env B w0 rs l := fun a w hF hH => h a w (hF.keep hs) hH
theorem WC2.keep {c : Code} (hs : Sub env env') (h : WC2 P Q n env' B w0 rs c) : WC2 P Q n env B w0 rs c := fun a w hF hH => h a w (hF.keep hs) hH
theorem WE2.keep {e : Exit} (hs : Sub env env') (h : WE2 Q n env' B w0 rs e) : WE2 Q n env B w0 rs e := fun a w hF hH => h a w (hF.keep hs) hH
end wl2

section wc2
variable {P : Program} {Q : Exit → Act → World → Prop} {n B : Nat} {w0 : World} {rs : List RowT} {env : List (Nat × Value)}
theorem d_reg {id : Nat} {l : List Oper} {y : Code} (h : WL2 P l.toArray (Exit.then (fun a w => y.wp P Q a w) Q) n env B w0 rs l) : WC2 P Q n env B w0 rs (.seq (.region id l.toArray false) y) := fun a w hF hH => wp_seq (wp_region_lit (h a w hF hH))
theorem d_reg1 {id : Nat} {l : List Oper} (h : WL2 P l.toArray Q n env B w0 rs l) : WC2 P Q n env B w0 rs (.region id l.toArray false) := fun a w hF hH => wp_region_lit (h a w hF hH)
theorem d_seq {x y : Code} (h : WC2 P (Exit.then (fun a w => y.wp P Q a w) Q) n env B w0 rs x) : WC2 P Q n env B w0 rs (.seq x y) := fun a w hF hH => wp_seq (h a w hF hH)
theorem d_then {c : Operand} {x y : Code} (hc : evs env c = some (.bool true)) (h : WC2 P Q n env B w0 rs x) : WC2 P Q n env B w0 rs (.cond c x y) := fun a w hF hH => cd_then hF hc (h a w hF hH)
theorem d_else {c : Operand} {x y : Code} (hc : evs env c = some (.bool false)) (h : WC2 P Q n env B w0 rs y) : WC2 P Q n env B w0 rs (.cond c x y) := fun a w hF hH => cd_else hF hc (h a w hF hH)
theorem d_skip (h : WE2 Q n env B w0 rs .normal) : WC2 P Q n env B w0 rs .skip := fun a w hF hH => wp_skip (h a w hF hH)
theorem d_ret (h : WE2 Q n env B w0 rs .ret) : WC2 P Q n env B w0 rs .ret := fun a w hF hH => wp_ret (h a w hF hH)
theorem d_block {id : Nat} {c : Code} (h : WC2 P (Exit.inBlock id Q) n env B w0 rs c) : WC2 P Q n env B w0 rs (.block id c) := fun a w hF hH => wp_block (h a w hF hH)
theorem d_exit {id : Nat} (h : WE2 Q n env B w0 rs (.exit id)) : WC2 P Q n env B w0 rs (.exit id) := fun a w hF hH => wp_exit (h a w hF hH)
theorem f_to {y : Code} (h : WC2 P Q n env B w0 rs y) : WE2 (Exit.then (fun a w => y.wp P Q a w) Q) n env B w0 rs .normal := h
theorem f_block {id : Nat} (h : WE2 Q n env B w0 rs .normal) : WE2 (Exit.inBlock id Q) n env B w0 rs .normal := h
theorem f_then_ret {K : Act → World → Prop} (h : WE2 Q n env B w0 rs .ret) : WE2 (Exit.then K Q) n env B w0 rs .ret := h
theorem f_then_exit {K : Act → World → Prop} {id : Nat} (h : WE2 Q n env B w0 rs (.exit id)) : WE2 (Exit.then K Q) n env B w0 rs (.exit id) := h
theorem f_block_exit {id : Nat} (h : WE2 Q n env B w0 rs .normal) : WE2 (Exit.inBlock id Q) n env B w0 rs (.exit id) := fun a w hF hH => (if_pos rfl).mpr (h a w hF hH)
variable {fn : Func} {R : Ending → World → Prop}
inductive Res2 (P : Program) (env : List (Nat × Value)) (rs : List RowT) : ResultVar → Value → Prop
  | tmp {t : Tmp} {v : Value} (h : look env t = some v) : Res2 P env rs (.tmp t) v
  | cell (i : Nat) {s : Tmp} {T : TypeId} {g off : Nat} {t : TypeId} {cs : Array Value} {v : Value} (hv : Reads P T cs off v) (h : look env s = some (.pointer (some ⟨g, off, none⟩))) (hi : rs[i]? = some (g, tyR t, cs)) : Res2 P env rs (.cell s T) v
theorem Res2.res {r : ResultVar} {v : Value} {w : World} (h : Res2 P env rs r v) (hH : Hp B w0 w rs) : Res P env w r v := by
  cases h with
  | tmp h => exact .tmp h
  | cell i hv h hi => exact .cell h hv (hH.row i hi)
theorem f_fin1 {r1 : ResultVar} {v1 : Value} (h1 : Res2 P env rs r1 v1) (hR : ∀ w, Hp B w0 w rs → R (.returned v1) w) (hr : fn.results = #[r1]) : WE2 (bodyPost P fn R) n env B w0 rs .ret := fun _ w hF hH => fin1 hF hr (h1.res hH) (hR w hH)
theorem f_fin2 {r1 r2 : ResultVar} {v1 v2 : Value} (h1 : Res2 P env rs r1 v1) (h2 : Res2 P env rs r2 v2) (hR : ∀ w, Hp B w0 w rs → R (.returned (.tuple #[v1, v2])) w) (hr : fn.results = #[r1, r2]) : WE2 (bodyPost P fn R) n env B w0 rs .ret := fun _ w hF hH => fin2 hF hr (h1.res hH) (h2.res hH) (hR w hH)
theorem d_in {f : FuncId} {c : Code} {args : List Value} {w : World} (n : Nat) (hf : P.funcs[f]? = some fn) (hb : fn.body = some c) (hn : fn.ntmps = n) (hs : Nat.ble args.length n = true) (h : WC2 P (bodyPost P fn R) n (argEnv 0 args) w.heap.size w [] c) : Calls P f args.toArray w R := calls_in n hf hb hn (Nat.le_of_ble_eq_true hs) fun a hF => h a w hF (Hp.start w)
end wc2

/-! ## A region that draws its order -/
section par2
variable {P : Program} {ops : Array Oper} {Q : Exit → Act → World → Prop} {n B : Nat} {w0 : World} {rs : List RowT} {env env0 : List (Nat × Value)} {jobs : List Job} {o : Oper} {deps : List Nat} {v : Value} {fl : List ((Nat × Nat) × Nat)} {kk : Nat}
def OB2 (P : Program) (ops : Array Oper) (Q : Exit → Act → World → Prop) (n : Nat) (jobs : List Job) (env0 : List (Nat × Value)) (B : Nat) (w0 : World) (rs : List RowT) (o : Oper) (j : Job) : Prop := ∀ w, Hp B w0 w rs → OB P ops Q n jobs env0 w o j
def AllOB2 (P : Program) (ops : Array Oper) (Q : Exit → Act → World → Prop) (n : Nat) (jobs : List Job) (env0 : List (Nat × Value)) (B : Nat) (w0 : World) (rs : List RowT) : List Oper → List Job → Prop
  | o :: os, j :: js => OB2 P ops Q n jobs env0 B w0 rs o j ∧ AllOB2 P ops Q n jobs env0 B w0 rs os js
  | _, _ => True
theorem AllOB2.all : ∀ {os : List Oper} {js : List Job}, AllOB2 P ops Q n jobs env0 B w0 rs os js → ∀ w, Hp B w0 w rs → AllOb P ops Q n w.heap.size jobs env0 (UpΦ w) os js
  | [], _, _, _, _ => by unfold AllOb; trivial
  | _ :: _, [], _, _, _ => by unfold AllOb; trivial
  | _ :: _, _ :: _, h, w, hH => ⟨h.1 w hH, AllOB2.all h.2 w hH⟩
theorem RowsOf.app {w : World} : ∀ {a b : List RowT}, (∀ x ∈ a, RowX w x) → RowsOf w b → RowsOf w (a ++ b)
  | [], _, _, hb => hb
  | (g, t, cs) :: r, _, ha, hb => ⟨ha (g, t, cs) (by simp), RowsOf.app (fun x hx => ha x (by simp [hx])) hb⟩
end par2

/-! ## A small region, order by order -/
section orders2
variable {P : Program} {ops : Array Oper} {Q : Exit → Act → World → Prop} {n f i d B : Nat} {w0 : World} {rs : List RowT} {env env' : List (Nat × Value)} {listed : Array Bool} {o : Oper} {fl : List ((Nat × Nat) × Nat)}
def WA2 (P : Program) (ops : Array Oper) (Q : Exit → Act → World → Prop) (n : Nat) (env : List (Nat × Value)) (B : Nat) (w0 : World) (rs : List RowT) (f : Nat) (listed : Array Bool) : Prop := ∀ a w, Fr n a env → Hp B w0 w rs → wpAny P .any ops Q f listed a w
end orders2
end Go.Proofs.Ythgnfacifogjiaa

namespace Go.Proofs.Ythgnfacifogjiaa
open Go.RowKit
/-- a string of these bytes -/
def bs (l : List UInt8) : ByteArray := ⟨l.toArray⟩
theorem bs_size (l : List UInt8) : (bs l).size = l.length := by simp [bs, ByteArray.size]
theorem bs_list (l : List UInt8) : (bs l).toList = l := by simp [bs, ByteArray.toList_eq]
theorem bs_of (s : ByteArray) : s = bs s.data.toList := by cases s; simp [bs]
theorem bs_cat (a b : List UInt8) : bs a ++ bs b = bs (a ++ b) := ByteArray.mk_append_mk a b
theorem bs_cut (l : List UInt8) (i j : Nat) : (bs l).extract i j = bs ((l.take j).drop i) := by
  rw [bs_of ((bs l).extract i j)]
  congr 1
  simp [bs, ByteArray.data_extract, List.drop_take]
section
variable {P : Program} {ops : Array Oper} {Q : Exit → Act → World → Prop} {n B d : Nat} {w0 : World} {rs : List RowT} {env env0 : List (Nat × Value)} {rest : List Oper} {o : Oper} {a : Act} {w : World} {jobs : List Job} {deps : List Nat} {kk : Nat}
end
end Go.Proofs.Ythgnfacifogjiaa

namespace Go.Proofs.Ythgnfacifogjiaa
open Go.RowKit
section loops
variable {P : Program} {Q : Exit → Act → World → Prop} {n B : Nat} {w0 : World} {rs rs' : List RowT} {env env' : List (Nat × Value)} {c : Code} {α : Type}
theorem RowsOf.drop {w : World} : ∀ {rs : List RowT} (k : Nat), RowsOf w rs → RowsOf w (rs.drop k)
  | _, 0, h => h
  | [], k + 1, _ => trivial
  | (g, t, cs) :: r, k + 1, h => RowsOf.drop (rs := r) k h.2
theorem Apart.drop : ∀ {rs : List RowT} (k : Nat), Apart B rs → Apart B (rs.drop k)
  | _, 0, h => h
  | [], k + 1, _ => trivial
  | x :: r, k + 1, h => Apart.drop (rs := r) k h.2.2
theorem Hp.drop {w : World} (h : Hp B w0 w rs) (k : Nat) : Hp B w0 w (rs.drop k) := h.sub (fun h => h.drop k) (fun h => h.drop k)
theorem WC2.less (k : Nat) (h : WC2 P Q n env B w0 (rs.drop k) c) : WC2 P Q n env B w0 rs c := fun a w hF hH => h a w hF (hH.drop k)
theorem WC2.at_ (hs : Sub env env') (hr : rs = rs') (h : WC2 P Q n env' B w0 rs' c) : WC2 P Q n env B w0 rs c := fun a w hF hH => h a w (hF.keep hs) (hr ▸ hH)
def Again (n B : Nat) (w0 : World) (E : α → List (Nat × Value)) (R : α → List RowT) (Inv : α → Prop) (μ : α → Nat) (x : α) : Act → World → Prop := fun a w => ∃ y, Inv y ∧ μ y < μ x ∧ Fr n a (E y) ∧ Hp B w0 w (R y)
theorem d_loop (E : α → List (Nat × Value)) (R : α → List RowT) (Inv : α → Prop) (μ : α → Nat) (x : α) (hx : Inv x) (hE : Sub env (E x)) (hR : rs = R x) (h : ∀ x, Inv x → WC2 P (Exit.then (Again n B w0 E R Inv μ x) Q) n (E x) B w0 (R x) c) : WC2 P Q n env B w0 rs (.loop c) := by
  subst hR
  intro a w hF hH
  have key : ∀ m x, μ x < m → Inv x → ∀ a w, Fr n a (E x) → Hp B w0 w (R x) → Code.rounds P c Q m a w := by
    intro m
    induction m with
    | zero => intro x hx; omega
    | succ m ih =>
      intro x hm hx a w hF hH
      refine Code.wp_mono (fun e a' w' q => ?_) (h x hx a w hF hH)
      cases e with
      | normal =>
        obtain ⟨y, hy, hlt, hF', hH'⟩ := q
        exact ih y (by omega) hy a' w' hF' hH'
      | _ => exact q
  exact wp_loop_rounds _ (key _ x (Nat.lt_succ_self _) hx a w (hF.keep hE) hH)
theorem f_again {E : α → List (Nat × Value)} {R : α → List RowT} {Inv : α → Prop} {μ : α → Nat} {x : α} (y : α) (k : Nat) (hy : Inv y) (hμ : μ y < μ x) (hs : Sub env (E y)) (hr : rs.drop k = R y) : WE2 (Exit.then (Again n B w0 E R Inv μ x) Q) n env B w0 rs .normal := fun _ _ hF hH => ⟨y, hy, hμ, hF.keep hs, hr ▸ hH.drop k⟩
end loops

/-! ## Order by order: a call, a sum -/
section orders3
variable {P : Program} {ops : Array Oper} {Q : Exit → Act → World → Prop} {n fu i d B : Nat} {w0 : World} {rs : List RowT} {env : List (Nat × Value)} {listed : Array Bool} {o : Oper}
end orders3

/-! ## An array's place -/
section index
variable {P : Program} {n : Nat} {w : World} {env : List (Nat × Value)} {o : Oper}
theorem exec_nilCheck {a : Act} {x : Operand} {p : Addr} (ho : o.op = .nilCheck x) (hx : evs env x = some (.pointer (some p))) (hF : Fr n a env) : (execOp a.eval o).run P w = .ok (.value (.pointer (some p))) w := by
  unfold execOp
  simp [ho, hF.evs hx]
end index
end Go.Proofs.Ythgnfacifogjiaa

namespace Go.Proofs.Ythgnfacifogjiaa
open Go.RowKit
section
variable {P : Program} {ops : Array Oper} {Q : Exit → Act → World → Prop} {n B : Nat} {w0 w : World} {rs : List RowT} {env : List (Nat × Value)} {rest : List Oper} {o : Oper} {d : Nat}
theorem bs_get (l : List UInt8) (i : Nat) : (bs l)[i]? = l[i]? := by
  by_cases h : i < l.length
  · rw [List.getElem?_eq_getElem h]
    have h' : i < (bs l).size := by rw [bs_size]; exact h
    rw [getElem?_pos (bs l) i h']
    simp [bs, ByteArray.getElem_eq_getElem_data]
  · rw [List.getElem?_eq_none (by omega)]
    have h' : ¬ i < (bs l).size := by rw [bs_size]; exact h
    rw [getElem?_neg (bs l) i h']
end
end Go.Proofs.Ythgnfacifogjiaa

namespace Go.Proofs.Ythgnfacifogjiaa.Run
noncomputable section
open Go.RowKit

/-! ## Texts -/
def eqL : List UInt8 → List UInt8 → Bool
  | [], [] => true
  | a :: x, b :: y => match Nat.beq a.toNat b.toNat with | true => eqL x y | false => false
  | _, _ => false
theorem eqL_iff : ∀ {l m : List UInt8}, eqL l m = true ↔ l = m
  | [], [] => by simp [eqL]
  | [], _ :: _ => by simp [eqL]
  | _ :: _, [] => by simp [eqL]
  | a :: x, b :: y => by
    unfold eqL
    by_cases h : a.toNat = b.toNat
    · have e : a = b := UInt8.toNat_inj.1 h
      subst e
      rw [Tr.beqT]
      simp [eqL_iff (l := x) (m := y)]
    · rw [Tr.beqF h]
      simp only [Bool.false_eq_true, List.cons.injEq, false_iff, not_and]
      intro e; exact absurd (by rw [e]) h
theorem eqL_beq (l m : List UInt8) : (l == m) = eqL l m := by
  cases h : eqL l m with
  | true => have := eqL_iff.1 h; subst this; simp
  | false =>
    have : l ≠ m := fun e => by rw [eqL_iff.2 e] at h; cases h
    simpa using this
def lessL : List UInt8 → List UInt8 → Bool
  | _, [] => false
  | [], _ :: _ => true
  | a :: x, b :: y => match Nat.blt a.toNat b.toNat with | true => true | false => match Nat.beq a.toNat b.toNat with | true => lessL x y | false => false
theorem lessL_eq : ∀ (l m : List UInt8), Op.bytesLess l m = lessL l m
  | l, [] => by cases l <;> rfl
  | [], _ :: _ => rfl
  | a :: x, b :: y => by
    unfold Op.bytesLess lessL
    rw [lessL_eq x y]
    have h1 : decide (a < b) = Nat.blt a.toNat b.toNat := by
      cases hb : Nat.blt a.toNat b.toNat with
      | true => have : a.toNat < b.toNat := Nat.le_of_ble_eq_true hb; simpa [UInt8.lt_iff_toNat_lt] using this
      | false =>
        have : ¬ a.toNat < b.toNat := fun h => by rw [show Nat.blt a.toNat b.toNat = true from Nat.ble_eq_true_of_le h] at hb; cases hb
        simpa [UInt8.lt_iff_toNat_lt] using this
    have h2 : (a == b) = Nat.beq a.toNat b.toNat := by
      by_cases h : a.toNat = b.toNat
      · have e : a = b := UInt8.toNat_inj.1 h
        subst e; rw [Tr.beqT]; simp
      · rw [Tr.beqF h]
        have : a ≠ b := fun e => h (by rw [e])
        simpa using this
    rw [h1, h2]
    cases Nat.blt a.toNat b.toNat <;> cases Nat.beq a.toNat b.toNat <;> rfl
def strOp (op : BinOp) (l m : List UInt8) : Option Value := match op with
  | .add => match Nat.ble (l.length + m.length) 9223372036854775807 with | true => some (.string ⟨⟨l ++ m⟩⟩) | false => none
  | .eql => some (.bool (eqL l m))
  | .neq => some (.bool (!eqL l m))
  | .lss => some (.bool (lessL l m))
  | .leq => some (.bool (lessL l m || eqL l m))
  | .gtr => some (.bool (!(lessL l m || eqL l m)))
  | .geq => some (.bool (!lessL l m))
  | _ => none
theorem strOp_run {P : Program} {op : BinOp} {l m : List UInt8} {v : Value} (h : strOp op l m = some v) (T : TypeId) (x y : Operand) (w : World) : (do eqGuard op T x y (.string ⟨⟨l⟩⟩) (.string ⟨⟨m⟩⟩); binOp op T (.string ⟨⟨l⟩⟩) (.string ⟨⟨m⟩⟩) : Sem Value).run P w = .ok v w ∧ nb v = true := by
  have e1 : (⟨⟨l⟩⟩ : ByteArray) = bs l := rfl
  have e2 : (⟨⟨m⟩⟩ : ByteArray) = bs m := rfl
  rw [e1, e2]
  unfold strOp at h
  split at h
  · split at h
    · rename_i hb
      cases h
      have hs := Nat.le_of_ble_eq_true hb
      have h : ¬ (((bs l).size + (bs m).size : Nat) : Int) > IntKind.i64.max := by rw [bs_size, bs_size]; show ¬ _ > (9223372036854775807 : Int); omega
      refine ⟨?_, rfl⟩
      simp only [eqGuard, binOp, Op.stringOp, if_neg h, bs_cat]
      simp
      rfl
    · cases h
  all_goals first
    | (cases h; done)
    | (cases h
       refine ⟨?_, rfl⟩
       simp [eqGuard, binOp, Op.stringOp, bs_list, lessL_eq, eqL_beq, bne]; done)
section ops
variable {P : Program} {o : Oper} {env : Env} {H H' : Tr AO} {nx : Nat} {v : Value} {outs : List Out}
def evStr (env : Env) (op : BinOp) (x y : Operand) : Option Value := match evO env x, evO env y with
  | some (.string ⟨⟨l⟩⟩), some (.string ⟨⟨m⟩⟩) => strOp op l m
  | _, _ => none
theorem vr_str {ρ : Rn} {s : ByteArray} {u : Value} (h : VR ρ (.string s) u) : u = .string s := by cases h; rfl
theorem vr_int {ρ : Rn} {k : IntKind} {z : Int} {u : Value} (h : VR ρ (.int k z) u) : u = .int k z := by cases h; rfl
theorem s_str {op : BinOp} {T T' : TypeId} {x y : Operand} (ho : o.op = .binOp op T x y T') (h : one (evStr env op x y) H nx = some outs) : OpS P o env H nx outs := by
  obtain ⟨v, h1, rfl⟩ := one_eq h
  refine ops_val (fun c hc => by rw [ho] at hc; cases hc) fun n ρ a w hF hR => ?_
  unfold evStr at h1
  split at h1
  · rename_i l m hx hy
    have h2 := vr_str (hF.ev hx)
    have h3 := vr_str (hF.ev hy)
    obtain ⟨h4, h5⟩ := strOp_run (P := P) h1 T x y w
    refine ⟨v, nb.self h5, ?_⟩
    unfold execOp
    simp only [ho, h2, h3]
    rw [Sem.run_bind, h4]
    rfl
  · cases h1
/-- a bound -/
def bnd (env : Env) (x : Option Operand) (dflt most : Nat) : Option Nat := match x with
  | none => some dflt
  | some y => match evO env y with
    | some (.int _ (.ofNat z)) => match Nat.ble z most with | true => some z | false => none
    | _ => none
theorem bnd_run {n : Nat} {ρ : Rn} {a : Act} (hF : FrR n ρ a env) {y : Operand} {dflt most j : Nat} (h : bnd env (some y) dflt most = some j) (code : Instr.sliceBound (a.eval y) most = Instr.sliceBound (a.eval y) most := rfl) : j ≤ most ∧ ∃ k, a.eval y = .int k (j : Int) := by
  unfold bnd at h
  simp only at h
  split at h
  · rename_i k z hy
    split at h
    · rename_i hb
      cases h
      exact ⟨Nat.le_of_ble_eq_true hb, k, vr_int (hF.ev hy)⟩
    · cases h
  · cases h
theorem run_bound {k : IntKind} {j most : Nat} (h : j ≤ most) (code : BoundsCode) (w : World) : (Instr.sliceBound (.int k (j : Int)) most code).run P w = .ok j w := by
  have : (0 : Int) ≤ (j : Int) ∧ (j : Int) ≤ (most : Int) := by omega
  simp [Instr.sliceBound, asIntOf, this]
/-- low, high, and the end of what there is -/
def bndH (env : Env) (hi mx : Option Operand) (len m : Nat) : Option Nat := match hi, mx with
  | none, some _ => none
  | none, none => some len
  | some y, _ => bnd env (some y) len m
def bnds (env : Env) (len cap : Nat) (lo hi mx : Option Operand) : Option (Nat × Nat × Nat) :=
  (bnd env mx cap cap).bind fun m => (bndH env hi mx len m).bind fun h => (bnd env lo 0 h).bind fun l => some (l, h, m)
theorem bnds_at {len cap : Nat} {lo hi mx : Option Operand} {l h m : Nat} (hb : bnds env len cap lo hi mx = some (l, h, m)) : bnd env mx cap cap = some m ∧ bndH env hi mx len m = some h ∧ bnd env lo 0 h = some l := by
  unfold bnds at hb
  simp only [Option.bind_eq_some_iff, Option.some.injEq, Prod.mk.injEq] at hb
  obtain ⟨m', h1, h', h2, l', h3, rfl, rfl, rfl⟩ := hb
  exact ⟨h1, h2, h3⟩
theorem bnds_of {len cap : Nat} {lo hi mx : Option Operand} {l h m : Nat} (h1 : bnd env mx cap cap = some m) (h2 : bndH env hi mx len m = some h) (h3 : bnd env lo 0 h = some l) : bnds env len cap lo hi mx = some (l, h, m) := by
  unfold bnds
  simp [h1, h2, h3]
theorem bnd_mono {x : Option Operand} {d m m' j : Nat} (h : bnd env x d m = some j) (hm : m ≤ m') : bnd env x d m' = some j := by
  cases x with
  | none => exact h
  | some y =>
    unfold bnd at h ⊢
    simp only at h ⊢
    split at h
    · rename_i k z hy
      split at h
      · rename_i hbl
        cases h
        rw [show Nat.ble j m' = true from Nat.ble_eq_true_of_le (by have := Nat.le_of_ble_eq_true hbl; omega)]
      · cases h
    · cases h
theorem bnds_run {n : Nat} {ρ : Rn} {a : Act} (hF : FrR n ρ a env) {len cap : Nat} {lo hi mx : Option Operand} {l h m : Nat} (hb : bnds env len cap lo hi mx = some (l, h, m)) (w : World) (isS : Bool) : (Instr.sliceBounds isS len cap (lo.map a.eval) (hi.map a.eval) (mx.map a.eval)).run P w = .ok (l, h, m) w ∧ (mx = none → m = cap) ∧ m ≤ cap := by
  obtain ⟨hm, hh, hl⟩ := bnds_at hb
  unfold Instr.sliceBounds
  have e1 : mx = none ∧ m = cap ∨ ∃ y k, mx = some y ∧ m ≤ cap ∧ a.eval y = .int k (m : Int) := by
    cases mx with
    | none => unfold bnd at hm; cases hm; exact .inl ⟨rfl, rfl⟩
    | some y => obtain ⟨h1, k, h2⟩ := bnd_run hF hm; exact .inr ⟨y, k, rfl, h1, h2⟩
  have e2 : hi = none ∧ mx = none ∧ h = len ∨ ∃ y k, hi = some y ∧ h ≤ m ∧ a.eval y = .int k (h : Int) := by
    cases hi with
    | none =>
      cases mx with
      | none => unfold bndH at hh; cases hh; exact .inl ⟨rfl, rfl, rfl⟩
      | some _ => cases hh
    | some y => obtain ⟨h1, k, h2⟩ := bnd_run hF (show bnd env (some y) len m = some h from by cases mx <;> exact hh); exact .inr ⟨y, k, rfl, h1, h2⟩
  have e3 : lo = none ∧ l = 0 ∨ ∃ y k, lo = some y ∧ l ≤ h ∧ a.eval y = .int k (l : Int) := by
    cases lo with
    | none => unfold bnd at hl; cases hl; exact .inl ⟨rfl, rfl⟩
    | some y => obtain ⟨h1, k, h2⟩ := bnd_run hF hl; exact .inr ⟨y, k, rfl, h1, h2⟩
  refine ⟨?_, ?_, ?_⟩
  · rcases e1 with ⟨rfl, rfl⟩ | ⟨y1, k1, rfl, h1, h1'⟩ <;> rcases e2 with ⟨rfl, e, rfl⟩ | ⟨y2, k2, rfl, h2, h2'⟩ <;> rcases e3 with ⟨rfl, rfl⟩ | ⟨y3, k3, rfl, h3, h3'⟩ <;>
      first
      | (cases e; done)
      | (simp_all [run_bound]; done)
  · intro e; subst e; rcases e1 with ⟨_, h⟩ | ⟨y, k, e, _⟩
    · exact h
    · cases e
  · rcases e1 with ⟨_, h⟩ | ⟨y, k, _, h, _⟩
    · omega
    · exact h
def addA (i off m l sz : Nat) : Addr := match Nat.beq m l with | true => ⟨i, off, none⟩ | false => ⟨i, off + l * sz, none⟩
theorem addA_eq (i off m l sz : Nat) : addA i off m l sz = if m = l then ⟨i, off, none⟩ else ⟨i, off + l * sz, none⟩ := by
  unfold addA
  by_cases h : m = l
  · subst h; rw [Tr.beqT]; simp
  · rw [Tr.beqF h, if_neg h]
/-- a part of a slice, of an array, of a text -/
def evSlice (P : Program) (env : Env) (T : TypeId) (x : Operand) (lo hi mx : Option Operand) : Option Value := match P.underlying T, evO env x with
  | some .string, some (.string ⟨⟨s⟩⟩) => match mx with
    | some _ => none
    | none => match bnds env s.length s.length lo hi none with
      | some (l, h, _) => some (.string ⟨⟨(s.take h).drop l⟩⟩)
      | none => none
  | some (.slice e), some (.slice A n c) => match szT P e with
    | none => none
    | some sz => match A with
      | none => match bnds env n c lo hi mx with
        | some (l, h, m) => some (.slice none (h - l) (m - l))
        | none => none
      | some ⟨i, off, some _⟩ => none
      | some ⟨i, off, none⟩ => match Nat.blt c BIG with
        | true => match bnds env n c lo hi mx with
          | some (l, h, m) => some (.slice (some (addA i off m l sz)) (h - l) (m - l))
          | none => none
        | false => match mx with
          | none => match bnds env n n lo hi none with
            | some (l, h, _) => match Nat.beq l 0 with
              | true => some (.slice (some ⟨i, off, none⟩) h c)
              | false => match Nat.blt l n with
                | true => some (.slice (some ⟨i, off + l * sz, none⟩) (h - l) (c + l))
                | false => some (.slice (some ⟨0, 0, some 0⟩) 0 0)
            | none => none
          | some _ => match bnds env n n lo hi mx with
            | some (l, h, m) => match Nat.blt m BIG with
              | true => some (.slice (some (addA i off m l sz)) (h - l) (m - l))
              | false => none
            | none => none
  | some (.array N e), some (.pointer (some ⟨i, off, none⟩)) => match szT P e with
    | some sz => match bnds env N N lo hi mx with
      | some (l, h, m) => match Nat.blt N BIG with
        | true => some (.slice (some (addA i off m l sz)) (h - l) (m - l))
        | false => none
      | none => none
    | none => none
  | _, _ => none
theorem run_slice_in {T e : TypeId} (hT : P.underlying T = some (.slice e)) {sz : Nat} (hs : szT P e = some sz) {A : Option Addr} {n c l h m : Nat} {lo hi mx : Option Value} (w : World) (hb : (Instr.sliceBounds true n c lo hi mx).run P w = .ok (l, h, m) w) : (Instr.sliceAt T (.slice A n c) lo hi mx).run P w = .ok (.slice (if m = l then A else A.map (·.add (l * sz))) (h - l) (m - l)) w := by
  simp [Instr.sliceAt, Instr.slice, run_underlying hT, hb, szT_run hs]
theorem addlit (i off m : Nat) : (⟨i, off, none⟩ : Addr).add m = ⟨i, off + m, none⟩ := by rw [Addr.add_lit]
theorem bnds_more {n : Nat} {ρ : Rn} {a : Act} (hF : FrR n ρ a env) {len cap : Nat} {lo hi : Option Operand} {l h m : Nat} (hb : bnds env len len lo hi none = some (l, h, m)) (hc : len ≤ cap) (w : World) : (Instr.sliceBounds true len cap (lo.map a.eval) (hi.map a.eval) none).run P w = .ok (l, h, cap) w ∧ l ≤ h ∧ h ≤ len := by
  obtain ⟨hm, hh, hl⟩ := bnds_at hb
  cases hm
  have h2 : bndH env hi none len cap = some h ∧ h ≤ len := by
    cases hi with
    | none => cases hh; exact ⟨rfl, Nat.le_refl _⟩
    | some y =>
      have hh : bnd env (some y) len len = some h := hh
      exact ⟨bnd_mono hh hc, (bnd_run hF hh).1⟩
  have h3 : l ≤ h := by
    cases lo with
    | none => cases hl; exact Nat.zero_le _
    | some y => exact (bnd_run hF hl).1
  have := bnds_run (P := P) hF (bnds_of (mx := none) (show bnd env none cap cap = some cap from rfl) h2.1 hl) w true
  exact ⟨this.1, h3, h2.2⟩
theorem s_slice {T : TypeId} {x : Operand} {lo hi mx : Option Operand} (ho : o.op = .slice T x lo hi mx) (h : one (evSlice P env T x lo hi mx) H nx = some outs) : OpS P o env H nx outs := by
  obtain ⟨v, h1, rfl⟩ := one_eq h
  refine ops_val (fun c hc => by rw [ho] at hc; cases hc) fun n ρ a w hF hR => ?_
  have fin : ∀ {u r : Value}, a.eval x = u → (Instr.sliceAt T u (lo.map a.eval) (hi.map a.eval) (mx.map a.eval)).run P w = .ok r w → (execOp a.eval o).run P w = .ok (.value r) w := fun hu hr => by
    unfold execOp
    simp only [ho, hu]
    rw [Sem.run_bind, hr]
    rfl
  unfold evSlice at h1
  split at h1
  · rename_i s hT hx
    split at h1
    · cases h1
    · split at h1
      · rename_i l h' m hb
        cases h1
        have hu := vr_str (hF.ev hx)
        have hbs := bnds_run (P := P) hF hb w false
        refine ⟨_, .str _, fin hu ?_⟩
        have e1 : (⟨⟨s⟩⟩ : ByteArray) = bs s := rfl
        have h2 := hbs.1
        simp only [Option.map_none] at h2
        rw [e1]
        simp only [Instr.sliceAt, Instr.slice, Sem.run_bind, run_underlying hT, Result.andThen_ok, Option.map_none, Option.isSome_none, Bool.false_eq_true, if_false, bs_size, h2, Sem.run_pure, bs_cut]
        rfl
      · cases h1
  · rename_i e A n' c hT hx
    have hv := hF.ev hx
    split at h1
    · cases h1
    · rename_i sz hs
      split at h1
      · split at h1
        · rename_i l h' m hb
          cases h1
          generalize hu : a.eval x = u at hv
          cases hv with
          | snil =>
            refine ⟨_, .snil _ _, fin hu ?_⟩
            rw [run_slice_in hT hs w (bnds_run hF hb w true).1]
            simp
        · cases h1
      · cases h1
      · rename_i i off
        split at h1
        · rename_i hlt
          have hlt' : c < BIG := Nat.le_of_ble_eq_true hlt
          split at h1
          · rename_i l h' m hb
            cases h1
            have hbs := bnds_run (P := P) hF hb w true
            generalize hu : a.eval x = u at hv
            cases hv with
            | sl hg hk =>
              refine ⟨_, ?_, fin hu (run_slice_in hT hs w hbs.1)⟩
              rw [addA_eq]
              have hm : m - l < BIG := by have := hbs.2.2; omega
              by_cases e : m = l
              · rw [if_pos e, if_pos e]; exact .sl hg hm
              · rw [if_neg e, if_neg e]; simp only [Option.map_some, addlit]; exact .sl hg hm
            | slu => omega
          · cases h1
        · rename_i hlt
          have hge : ¬ c < BIG := fun h => by rw [show Nat.blt c BIG = true from Nat.ble_eq_true_of_le h] at hlt; cases hlt
          split at h1
          · split at h1
            · rename_i l h' m hb
              generalize hu : a.eval x = u at hv
              cases hv with
              | sl hg hk => exact absurd hk hge
              | slu hg hs' =>
                rename_i g cc s
                obtain ⟨hb1, hb2, hb3⟩ := bnds_more (P := P) (cap := cc - s) hF hb (by omega) w
                have hrun := run_slice_in (P := P) hT hs (A := some ⟨g, off, none⟩) w hb1
                split at h1
                · rename_i h0
                  have h0 := Nat.eq_of_beq_eq_true h0
                  subst h0
                  cases h1
                  refine ⟨_, ?_, fin hu hrun⟩
                  have e1 : (if cc - s = 0 then some (⟨g, off, none⟩ : Addr) else Option.map (fun x : Addr => x.add (0 * sz)) (some (⟨g, off, none⟩ : Addr))) = some (⟨g, off, none⟩ : Addr) := by
                    split
                    · rfl
                    · simp [Addr.add]
                  rw [e1]
                  simp only [Nat.sub_zero]
                  exact .slu hg (by omega)
                · split at h1
                  · rename_i hln
                    have hln : l < n' := Nat.le_of_ble_eq_true hln
                    cases h1
                    refine ⟨_, ?_, fin hu hrun⟩
                    rw [if_neg (by omega)]
                    simp only [Option.map_some, addlit]
                    rw [show cc - s - l = cc - (s + l) by omega, show BIG + s + l = BIG + (s + l) by omega]
                    exact .slu hg (by omega)
                  · rename_i hln
                    have hln : ¬ l < n' := fun h => by rw [show Nat.blt l n' = true from Nat.ble_eq_true_of_le h] at hln; cases hln
                    cases h1
                    refine ⟨_, ?_, fin hu hrun⟩
                    rw [show h' - l = 0 by omega]
                    split
                    · exact .semp _ _
                    · exact .semp _ _
            · cases h1
          · rename_i y
            split at h1
            · rename_i l h' m hb
              split at h1
              case h_2 => cases h1
              rename_i hmB
              have hmB : m < BIG := Nat.le_of_ble_eq_true hmB
              cases h1
              generalize hu : a.eval x = u at hv
              cases hv with
              | sl hg hk => exact absurd hk hge
              | slu hg hs' =>
                rename_i g cc s
                obtain ⟨q1, q2, q3⟩ := bnds_at hb
                have hmn : m ≤ n' := (bnd_run hF q1).1
                have hb3 : bnds env n' (cc - s) lo hi (some y) = some (l, h', m) := bnds_of (bnd_mono (show bnd env (some y) (cc - s) n' = some m from q1) (by omega)) q2 q3
                have hbs := bnds_run (P := P) hF hb3 w true
                refine ⟨_, ?_, fin hu (run_slice_in hT hs w hbs.1)⟩
                rw [addA_eq]
                by_cases e : m = l
                · rw [if_pos e, if_pos e, show m - l = 0 by omega]; exact .sl hg (by decide)
                · rw [if_neg e, if_neg e]; simp only [Option.map_some, addlit]
                  exact .sl hg (by omega)
            · cases h1
  · rename_i N e i off hT hx
    split at h1
    · rename_i sz hs
      split at h1
      · rename_i l h' m hb
        split at h1
        · rename_i hN
          have hN : N < BIG := Nat.le_of_ble_eq_true hN
          cases h1
          have hv := hF.ev hx
          generalize hu : a.eval x = u at hv
          cases hv with
          | ptr hg =>
            have hbs := bnds_run (P := P) hF hb w false
            have hm : m - l < BIG := by have := hbs.2.2; omega
            rename_i g c
            have hrun : (Instr.sliceAt T (.pointer (some ⟨g, off, none⟩)) (lo.map a.eval) (hi.map a.eval) (mx.map a.eval)).run P w = .ok (.slice (some (if m = l then ⟨g, off, none⟩ else (⟨g, off, none⟩ : Addr).add (l * sz))) (h' - l) (m - l)) w := by
              simp [Instr.sliceAt, run_underlying hT, Instr.sureAddr, hbs.1, szT_run hs]
            refine ⟨_, ?_, fin hu hrun⟩
            rw [addA_eq]
            by_cases e : m = l
            · rw [if_pos e, if_pos e]; exact .sl hg hm
            · rw [if_neg e, if_neg e, addlit]; exact .sl hg hm
        · cases h1
      · cases h1
    · cases h1
  · cases h1
end ops
end
end Go.Proofs.Ythgnfacifogjiaa.Run

namespace Go.Proofs.Ythgnfacifogjiaa.Run
noncomputable section
open Go.RowKit
section ops
variable {P : Program} {o : Oper} {env : Env} {H H' : Tr AO} {nx : Nat} {v : Value} {outs : List Out}

/-! ## Elements -/
def evSIdx (P : Program) (env : Env) (T : TypeId) (x y : Operand) : Option Value := match P.underlying T, evO env x, evO env y with
  | some .string, some (.string ⟨⟨l⟩⟩), some (.int _ (.ofNat i)) => match l[i]? with | some b => some (.int .u8 (b.toNat : Int)) | none => none
  | _, _, _ => none
theorem s_sidx {T : TypeId} {x y : Operand} (ho : o.op = .index T x y) (h : one (evSIdx P env T x y) H nx = some outs) : OpS P o env H nx outs := by
  obtain ⟨v, h1, rfl⟩ := one_eq h
  refine ops_val (fun c hc => by rw [ho] at hc; cases hc) fun n ρ a w hF hR => ?_
  unfold evSIdx at h1
  split at h1
  · rename_i l k i hT hx hy
    split at h1
    · rename_i b hb
      cases h1
      have h2 := vr_str (hF.ev hx)
      have h3 := vr_int (hF.ev hy)
      refine ⟨_, .int _ _, ?_⟩
      have e1 : (⟨⟨l⟩⟩ : ByteArray) = bs l := rfl
      rw [e1] at h2
      have h0 : (0 : Int) ≤ (i : Int) := by omega
      have hg : (bs l)[i]? = some b := by rw [bs_get, hb]
      have h3' : a.eval y = .int k (i : Int) := h3
      unfold execOp
      simp [ho, h2, h3', Instr.index, asIntOf, run_underlying hT, h0, hg]
    · cases h1
  · cases h1
def evIdx (P : Program) (env : Env) (T : TypeId) (x y : Operand) : Option Value := match P.underlying T, evO env x, evO env y with
  | some (.slice e), some (.slice (some ⟨i, off, none⟩) n _), some (.int _ (.ofNat j)) => match Nat.blt j n, szT P e with
    | true, some sz => some (.pointer (some ⟨i, off + j * sz, none⟩))
    | _, _ => none
  | some (.array n e), some (.pointer (some ⟨i, off, none⟩)), some (.int _ (.ofNat j)) => match Nat.blt j n, szT P e with
    | true, some sz => some (.pointer (some ⟨i, off + j * sz, none⟩))
    | _, _ => none
  | _, _, _ => none
theorem s_idx {T : TypeId} {x y : Operand} (ho : o.op = .indexAddr T x y) (h : one (evIdx P env T x y) H nx = some outs) : OpS P o env H nx outs := by
  obtain ⟨v, h1, rfl⟩ := one_eq h
  refine ops_val (fun c hc => by rw [ho] at hc; cases hc) fun n ρ a w hF hR => ?_
  unfold evIdx at h1
  split at h1
  · rename_i e i off m c k j hT hx hy
    split at h1
    · rename_i sz hj hs
      cases h1
      have hj : j < m := Nat.le_of_ble_eq_true hj
      have h3 : a.eval y = .int k (j : Int) := vr_int (hF.ev hy)
      have h2 := hF.ev hx
      generalize hu : a.eval x = u at h2
      have hj' : (0 : Int) ≤ (j : Int) ∧ (j : Int) < (m : Int) := by omega
      cases h2 with
      | sl hg hk =>
        refine ⟨_, .ptr hg, ?_⟩
        unfold execOp
        simp [ho, hu, h3, Instr.indexAt, asIntOf, run_underlying hT, hj', hj, szT_run hs, addlit]
      | slu hg hs' =>
        refine ⟨_, .ptr hg, ?_⟩
        unfold execOp
        simp [ho, hu, h3, Instr.indexAt, asIntOf, run_underlying hT, hj', hj, szT_run hs, addlit]
    · cases h1
  · rename_i m e i off k j hT hx hy
    split at h1
    · rename_i sz hj hs
      cases h1
      have hj : j < m := Nat.le_of_ble_eq_true hj
      have h3 : a.eval y = .int k (j : Int) := vr_int (hF.ev hy)
      have h2 := hF.ev hx
      generalize hu : a.eval x = u at h2
      have hj' : (0 : Int) ≤ (j : Int) ∧ (j : Int) < (m : Int) := by omega
      cases h2 with
      | ptr hg =>
        refine ⟨_, .ptr hg, ?_⟩
        unfold execOp
        simp [ho, hu, h3, Instr.indexAt, asIntOf, run_underlying hT, hj', hj, szT_run hs, addlit, Instr.sureAddr]
    · cases h1
  · cases h1
/-- a field of a struct that is a value -/
def evFld (P : Program) (env : Env) (T : TypeId) (x : Operand) (f : Nat) : Option Value := match P.underlying T, evO env x with
  | some (.struct fs), some (.agg ⟨cs⟩) => match fs.toList[f]? with
    | some fl => rdV P fl.type cs fl.offset
    | none => none
  | _, _ => none
theorem rdV_part {ρ : Rn} {T : TypeId} {cs ds : List Value} {off : Nat} {v : Value} (h : rdV P T cs off = some v) (hv : VRL ρ cs ds) (w : World) : ∃ u, VR ρ v u ∧ (part T ⟨ds⟩ off).run P w = .ok u w := by
  unfold rdV at h
  split at h
  · rename_i k hk
    split at h
    · rename_i hb
      cases h
      have hA := aggk_some hk
      refine ⟨_, .agg ((hv.drop off).take k), ?_⟩
      simp [part, hA.1, hA.2, List.extract_eq_take_drop]
    · cases h
  · rename_i hk
    have hO := aggk_none hk
    obtain ⟨u, h1, h2⟩ := hv.get off v h
    refine ⟨u, h2, ?_⟩
    simp [part, hO.1, h1]
  · cases h
theorem s_fld {T f : Nat} {x : Operand} (ho : o.op = .field T x f) (h : one (evFld P env T x f) H nx = some outs) : OpS P o env H nx outs := by
  obtain ⟨v, h1, rfl⟩ := one_eq h
  refine ops_val (fun c hc => by rw [ho] at hc; cases hc) fun n ρ a w hF hR => ?_
  unfold evFld at h1
  split at h1
  · rename_i fs cs hT hx
    split at h1
    · rename_i fl hf
      have h2 := hF.ev hx
      generalize hu : a.eval x = u at h2
      cases h2 with
      | agg hs =>
        rename_i ds
        obtain ⟨r, h3, h4⟩ := rdV_part h1 hs w
        refine ⟨r, h3, ?_⟩
        have hf' : fs[f]? = some fl := by simpa using hf
        unfold execOp
        simp [ho, hu, Instr.field, run_underlying hT, hf', asAgg, h4]
    · cases h1
  · cases h1

/-! ## Closures, interfaces -/
def evFn (env : Env) (fn : Fn) (first caps : Array Operand) : Option Value := match fn, evL env first.toList, evL env caps.toList with
  | .func F, some p, some q => some (.func (.func F) ⟨p⟩ ⟨q⟩)
  | _, _, _ => none
theorem s_fn {fn : Fn} {first caps : Array Operand} (ho : o.op = .makeFunc fn first caps) (h : one (evFn env fn first caps) H nx = some outs) : OpS P o env H nx outs := by
  obtain ⟨v, h1, rfl⟩ := one_eq h
  refine ops_val (fun c hc => by rw [ho] at hc; cases hc) fun n ρ a w hF hR => ?_
  unfold evFn at h1
  split at h1
  · rename_i F p q hp hq
    cases h1
    refine ⟨_, .func F (hF.evL hp) (hF.evL hq), ?_⟩
    unfold execOp
    simp only [ho, Instr.makeFunc]
    rw [Sem.run_bind]
    simp only [Sem.run_pure, Result.andThen_ok]
    have e : ∀ xs : Array Operand, xs.map a.eval = ⟨xs.toList.map a.eval⟩ := fun xs => by cases xs; simp
    rw [e, e]
  · cases h1
def evIface (P : Program) (env : Env) (T : TypeId) (x : Operand) : Option Value := match P.underlying T, evO env x with
  | some (.interface _), _ => none
  | some _, some v => some (.iface T v)
  | _, _ => none
theorem s_iface {T : TypeId} {x : Operand} (ho : o.op = .makeInterface T x) (h : one (evIface P env T x) H nx = some outs) : OpS P o env H nx outs := by
  obtain ⟨v, h1, rfl⟩ := one_eq h
  refine ops_val (fun c hc => by rw [ho] at hc; cases hc) fun n ρ a w hF hR => ?_
  unfold evIface at h1
  split at h1
  · cases h1
  · rename_i d v hne hT hx
    cases h1
    refine ⟨_, .iface T (hF.ev hx), ?_⟩
    unfold execOp
    simp only [ho, Instr.makeInterface]
    rw [Sem.run_bind, Sem.run_bind, run_underlying hT]
    simp only [Result.andThen_ok]
    cases d with
    | interface ms => exact (hne _ rfl).elim
    | _ => rfl
  · cases h1
/-! ## Is it nil? -/
/-- some b: whether it is nil -/
def nilOf (d : TypeDesc) (v : Value) : Option Bool := match d, v with
  | .pointer _, .pointer x => some (match x with | none => true | some _ => false)
  | .slice _, .slice x _ _ => some (match x with | none => true | some _ => false)
  | .map _ _, .map x => some (match x with | none => true | some _ => false)
  | .func _ _ _, .nilFunc => some true
  | .func _ _ _, .func (.func _) _ _ => some false
  | .func _ _ _, .func (.yield _) _ _ => some false
  | _, _ => none
def isNil (d : TypeDesc) (v : Value) : Bool := match d, v with
  | .pointer _, .pointer none => true
  | .slice _, .slice none _ _ => true
  | .map _ _, .map none => true
  | .func _ _ _, .nilFunc => true
  | _, _ => false
def evEqNil (P : Program) (env : Env) (op : BinOp) (T : TypeId) (x y : Operand) : Option Value := match P.underlying T, evO env x, evO env y with
  | some d, some v, some u => match isNil d u with
    | true => match nilOf d v, op with
      | some b, .eql => some (.bool b)
      | some b, .neq => some (.bool (!b))
      | _, _ => none
    | false => none
  | _, _, _ => none
theorem s_eqnil {op : BinOp} {T T' : TypeId} {x y : Operand} (ho : o.op = .binOp op T x y T') (h : one (evEqNil P env op T x y) H nx = some outs) : OpS P o env H nx outs := by
  obtain ⟨v, h1, rfl⟩ := one_eq h
  refine ops_val (fun c hc => by rw [ho] at hc; cases hc) fun n ρ a w hF hR => ?_
  unfold evEqNil at h1
  split at h1
  · rename_i d p q hT hx hy
    split at h1
    · rename_i hn
      have h2 := hF.ev hx
      have h3 := hF.ev hy
      generalize hu : a.eval x = u at h2
      generalize hu' : a.eval y = u' at h3
      have key : ∀ b, nilOf d p = some b → (Op.equal T u u').run P w = .ok b w := fun b hb => by
        show (Op.equalIn (9999 + 1) T u u').run P w = _
        unfold nilOf at hb
        split at hb
        · cases hb
          unfold isNil at hn
          split at hn <;> first
            | (exfalso; simp_all; done)
            | (cases h3; cases h2 <;> (unfold Op.equalIn; simp [run_underlying hT]; done))
        · cases hb
          unfold isNil at hn
          split at hn <;> first
            | (exfalso; simp_all; done)
            | (cases h3; cases h2 <;> (unfold Op.equalIn; simp [run_underlying hT]; done))
        · cases hb
          unfold isNil at hn
          split at hn <;> first
            | (exfalso; simp_all; done)
            | (cases h3; cases h2 <;> (unfold Op.equalIn; simp [run_underlying hT]; done))
        · cases hb
          unfold isNil at hn
          split at hn <;> first
            | (exfalso; simp_all; done)
            | (cases h3; cases h2 <;> (unfold Op.equalIn; simp [run_underlying hT]; done))
        · cases hb
          unfold isNil at hn
          split at hn <;> first
            | (exfalso; simp_all; done)
            | (cases h3; cases h2 <;> (unfold Op.equalIn; simp [run_underlying hT]; done))
        · cases hb
          unfold isNil at hn
          split at hn <;> first
            | (exfalso; simp_all; done)
            | (cases h3; cases h2 <;> (unfold Op.equalIn; simp [run_underlying hT]; done))
        · cases hb
      have hshape : (∃ z, u = .pointer z) ∨ (∃ z i j, u = .slice z i j) ∨ (∃ z, u = .map z) ∨ u = .nilFunc ∨ ∃ f i j, u = .func f i j := by
        cases hb : nilOf d p with
        | none => simp [hb] at h1
        | some b =>
          unfold nilOf at hb
          split at hb <;> first
            | (cases hb; done)
            | (cases h2 <;> simp; done)
      have hguard : (eqGuard op T x y u u').run P w = .ok () w := by
        rcases hshape with ⟨z, rfl⟩ | ⟨z, i, j, rfl⟩ | ⟨z, rfl⟩ | rfl | ⟨f, i, j, rfl⟩ <;> cases op <;> rfl
      split at h1
      · rename_i b hb
        cases h1
        refine ⟨_, .bool b, ?_⟩
        unfold execOp
        simp only [ho, hu, hu', Sem.run_bind, hguard, Result.andThen_ok]
        have : (binOp .eql T u u').run P w = .ok (.bool b) w := by
          rcases hshape with ⟨z, rfl⟩ | ⟨z, i, j, rfl⟩ | ⟨z, rfl⟩ | rfl | ⟨f, i, j, rfl⟩ <;> (simp only [binOp]; rw [Sem.run_bind, key b hb]; rfl)
        rw [this]
        rfl
      · rename_i b hb
        cases h1
        refine ⟨_, .bool (!b), ?_⟩
        unfold execOp
        simp only [ho, hu, hu', Sem.run_bind, hguard, Result.andThen_ok]
        have : (binOp .neq T u u').run P w = .ok (.bool (!b)) w := by
          rcases hshape with ⟨z, rfl⟩ | ⟨z, i, j, rfl⟩ | ⟨z, rfl⟩ | rfl | ⟨f, i, j, rfl⟩ <;> (simp only [binOp]; rw [Sem.run_bind, key b hb]; rfl)
        rw [this]
        rfl
      · cases h1
    · cases h1
  · cases h1
end ops
end
end Go.Proofs.Ythgnfacifogjiaa.Run
