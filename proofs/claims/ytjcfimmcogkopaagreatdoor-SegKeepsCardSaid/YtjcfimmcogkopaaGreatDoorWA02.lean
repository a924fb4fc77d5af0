/-
  Walk · Hp · Bs · Loop · Bytes · ParO · ParE
-/
import Derived.Test.YtjcfimmcogkopaaGreatDoorWA01
import Derived.IntWalk
import Derived.Laws.Concat
import Derived.Lib.SmallJoins
import Derived.LoopN
import Derived.Lib.SlBytesRow
set_option linter.unusedSimpArgs false
set_option linter.unusedVariables false
namespace Go.Proofs.YtjcfimmcogkopaaGreatDoor
variable {T t : TypeId} {a : Act} {cs : Array Value} {g : Nat} {k : IntKind} {op : BinOp} {p : Int} {x y : Operand}
open Go.RowKit
section wl
variable {P : Program} {ops : Array Oper} {Q : Exit → Act → World → Prop} {n : Nat} {w : World} {env env' : List (Nat × Value)} {rest : List Oper} {o : Oper} {d : Nat}
def MI : List Value → Bool
  | [] => true
  | v :: r => match v.oneCell' with | true => MI r | false => false
theorem GZ : ∀ {l : List Value}, MI l = true → l.all (·.oneCell') = true
  | [], _ => rfl
  | v :: r, h => by
    unfold MI at h
    cases hv : v.oneCell' with
    | false => rw [hv] at h; cases h
    | true => rw [hv] at h; have := GZ h; simp_all
def Gk (op : BinOp) (a b : Int) : Option Bool := match op with | .eql => some (a == b) | .neq => some (a != b) | .lss => some (decide (a < b)) | .leq => some (decide (a ≤ b)) | .gtr => some (decide (a > b)) | .geq => some (decide (a ≥ b)) | _ => none
def YL (op : BinOp) (a b : Int) : Option Int := match op with | .add => some (a + b) | .sub => some (a - b) | .mul => some (a * b) | _ => none
theorem DS {T' : TypeId} {q : Int} {c : Bool} (ho : o.op = .binOp op T x y T') (hx : evs env x = some (.int k p)) (hy : evs env y = some (.int k q)) (hc : Gk op p q = some c) (hF : Fr n a env) : (execOp a.eval o).run P w = .ok (.value (.bool c)) w := by
 unfold execOp
 simp only [ho, hF.evs hx, hF.evs hy]
 cases op <;> simp only [Gk, Option.some.injEq, reduceCtorEq] at hc <;> subst hc <;> simp [eqGuard, binOp, Op.intCmp]
theorem Ay {T' : TypeId} {q z z' : Int} (ho : o.op = .binOp op T x y T') (hx : evs env x = some (.int k p)) (hy : evs env y = some (.int k q)) (hc : YL op p q = some z) (hz : k.wrap z = z') (hF : Fr n a env) : (execOp a.eval o).run P w = .ok (.value (.int k z')) w := by
 unfold execOp
 subst hz
 simp only [ho, hF.evs hx, hF.evs hy]
 cases op <;> simp only [YL, Option.some.injEq, reduceCtorEq] at hc <;> subst hc <;> simp [eqGuard, binOp, Op.intArith]
theorem Og {c c' : Bool} (ho : o.op = .unOp .not T x) (hx : evs env x = some (.bool c)) (hc : (!c) = c') (hF : Fr n a env) : (execOp a.eval o).run P w = .ok (.value (.bool c')) w := by
 unfold execOp
 subst hc
 simp [ho, hF.evs hx, Op.unary]
theorem Tx {z : Int} (ho : o.op = .unOp .neg T x) (hx : evs env x = some (.int k p)) (hz : k.wrap (0 - p) = z) (hF : Fr n a env) : (execOp a.eval o).run P w = .ok (.value (.int k z)) w := by
 unfold execOp
 subst hz
 simp [ho, hF.evs hx, Op.unary, Op.intArith]
def AO (P : Program) (S : TypeId) (f k : Nat) : Prop := ∀ g off w, (Instr.fieldAt S (.pointer (some ⟨g, off, none⟩)) f).run P w = .ok (.pointer (some ⟨g, off + k, none⟩)) w
theorem Lm {S : TypeId} {f k off : Nat} (hf : AO P S f k) (ho : o.op = .fieldAddr S x f) (hx : evs env x = some (.pointer (some ⟨g, off, none⟩))) (hF : Fr n a env) : (execOp a.eval o).run P w = .ok (.value (.pointer (some ⟨g, off + k, none⟩))) w := by
 unfold execOp
 simp only [ho, hF.evs hx, Sem.run_bind, hf g off w, Result.andThen_ok, Sem.run_pure]
def evp (env : List (Nat × Value)) : List (Nat × Operand) → Option (List (Nat × Value))
  | [] => some []
  | (i, x) :: r => match evs env x, evp env r with
    | some v, some l => some ((i, v) :: l)
    | _, _ => none
theorem Fr.evp {a : Act} (h : Fr n a env) : ∀ {xs : List (Nat × Operand)} {vs : List (Nat × Value)}, evp env xs = some vs → (xs.map fun (i, x) => (i, a.eval x)) = vs
  | [], vs, hx => by cases hx; rfl
  | (i, x) :: r, vs, hx => by
    unfold Go.Proofs.YtjcfimmcogkopaaGreatDoor.evp at hx
    cases h1 : Go.Proofs.YtjcfimmcogkopaaGreatDoor.evs env x with
    | none => simp [h1] at hx
    | some v =>
      cases h2 : Go.Proofs.YtjcfimmcogkopaaGreatDoor.evp env r with
      | none => simp [h1, h2] at hx
      | some l =>
        simp only [h1, h2, Option.some.injEq] at hx
        subst hx
        rw [List.map_cons, Fr.evp h h2]
        show (i, a.eval x) :: l = _
        rw [h.evs h1]
theorem AY {ps : Array (Nat × Operand)} {vs : List (Nat × Value)} (ho : o.op = .build T ps) (hx : evp env ps.toList = some vs) (hc : P.built T vs = some cs) (hF : Fr n a env) : (execOp a.eval o).run P w = .ok (.value (.agg cs)) w := by
 unfold execOp
 have h1 : (ps.map fun (i, x) => (i, a.eval x)).toList = vs := by rw [← hF.evp hx]; simp
 simp only [ho, Sem.run_bind, run_build w T _ cs (by rw [h1]; exact hc), Result.andThen_ok, Sem.run_pure]
theorem B0 {bi : Builtin} {args : Array Operand} {ats : Array TypeId} {vs : List Value} {v : Value} (ho : o.op = .call { callee := .builtin bi, args := args, argTypes := ats }) (hx : evl env args.toList = some vs) (hr : ∀ cs, (builtin bi ats o.type cs vs.toArray).run P w = .ok (.value v) w) (hF : Fr n a env) : (execOp a.eval o).run P w = .ok (.value v) w := by
 have h1 : args.map a.eval = vs.toArray := by
  have := hF.evl hx
  rw [← this]
  cases args; simp
 unfold execOp
 simp only [ho, resolve, invoke, Sem.run_bind, Sem.run_pure, Result.andThen_ok, h1]
 exact hr _
theorem Ty {a b c : Int} (h : (if b < a then b else a) = c) (ats : Array TypeId) (ty : TypeId) (w : World) (cs : Array Bool) : (builtin .min ats ty cs [.int k a, .int k b].toArray).run P w = .ok (.value (.int k c)) w := by
 subst h
 simp [builtin, Builtin.min_, Builtin.min2]
 try (split <;> simp_all)
theorem Oh {a b c : Int} (h : (if a < b then b else a) = c) (ats : Array TypeId) (ty : TypeId) (w : World) (cs : Array Bool) : (builtin .max ats ty cs [.int k a, .int k b].toArray).run P w = .ok (.value (.int k c)) w := by
 subst h
 simp [builtin, Builtin.max_, Builtin.max2]
 try (split <;> simp_all)
theorem Oi (hu : P.underlying t = some .string) (s : ByteArray) (ty : TypeId) (w : World) (cs : Array Bool) : (builtin .len #[t] ty cs [.string s].toArray).run P w = .ok (.value (.int .i64 (s.size : Int))) w := by
 simp [builtin, Builtin.len_, run_underlying hu, goInt]
theorem FQ {e : TypeId} (hu : P.underlying t = some (.slice e)) (A : Option Addr) (k c : Nat) (ty : TypeId) (w : World) (cs : Array Bool) : (builtin .len #[t] ty cs [.slice A k c].toArray).run P w = .ok (.value (.int .i64 (k : Int))) w := by
 simp [builtin, Builtin.len_, run_underlying hu, goInt]
end wl
section wc
variable {P : Program} {Q : Exit → Act → World → Prop} {n : Nat} {w : World} {env : List (Nat × Value)}
variable {fn : Func} {R : Ending → World → Prop}
end wc
section conv
variable {P : Program} {F : FuncId} {vs : Array Value} {w : World} {v : Value}
theorem Tz (h : Calls P F vs w fun e w' => e = .returned v ∧ w' = w) : Calls P F vs w fun e w' => e = .returned v ∧ Below w.heap.size w w' := h.mono fun _ _ ⟨a, b⟩ => ⟨a, b ▸ Below.refl _ _⟩
end conv
section par
variable {P : Program} {ops : Array Oper} {Q : Exit → Act → World → Prop} {n : Nat} {w : World} {env env0 : List (Nat × Value)} {o : Oper}
variable {deps : List Nat} {v : Value} {kk : Nat}
end par
section orders
variable {P : Program} {ops : Array Oper} {Q : Exit → Act → World → Prop} {n f i d : Nat} {w : World} {env env' : List (Nat × Value)} {listed : Array Bool} {o : Oper}
end orders
end Go.Proofs.YtjcfimmcogkopaaGreatDoor
namespace Go.Proofs.YtjcfimmcogkopaaGreatDoor
variable {K : Act → World → Prop} {g id : Nat} {l : List Oper} {r1 : ResultVar} {v1 : Value} {x y : Code}
open Go.RowKit
inductive RTy
  | ty (t : TypeId)
  | loop (l : Loop)
instance : Coe TypeId RTy := ⟨.ty⟩
instance (n : Nat) : OfNat RTy n := ⟨.ty n⟩
abbrev RowT := Nat × Option RTy × Array Value
abbrev EO (t : TypeId) : Option RTy := some (.ty t)
instance (n : Nat) : OfNat (Option RTy) n := ⟨some (.ty n)⟩
def Q2 (x : MapEntry) : Value := .tuple #[x.key, x.val, .int .i64 (x.born : Int)]
def E3 (es : Array MapEntry) (c : Nat) : Array Value := #[.bool true, .int .i64 (c : Int), .tuple (es.map Q2)]
def DT (b since : Nat) (seen : Array Nat) (c : Nat) : Array Value := #[.bool false, .int .i64 (b : Int), .int .i64 (since : Int), .tuple (seen.map fun z : Nat => Value.int .i64 (z : Int)), .int .i64 (c : Int)]
def G0 (C : Array Value) (e : TypeId) (f : Nat × Nat) : Array Value := #[.tuple C, .int .i64 (e : Int), .int .i64 (f.1 : Int), .int .i64 (f.2 : Int)]
def Xj (w : World) (g : Nat) (cs : Array Value) : Prop := (∃ es c, w.heap[g]? = some (.map es c) ∧ cs = E3 es c) ∨ (∃ b s seen c, w.heap[g]? = some (.mapIter (some b) s seen c) ∧ cs = DT b s seen c) ∨ ∃ C e f, w.heap[g]? = some (.cells C e f) ∧ cs = G0 C e f
def CC (w : World) (x : RowT) : Prop := match x.2.1 with
  | some (.ty t) => CQ w x.1 t x.2.2
  | some (.loop l) => w.heap[x.1]? = some (.loop l)
  | none => Xj w x.1 x.2.2
def RowsOf (w : World) : List RowT → Prop
  | [] => True
  | x :: r => CC w x ∧ RowsOf w r
section rowx
variable {S : Nat → Prop} {w w' : World} {x : RowT}
theorem CC.obj (h : CC w x) : ∃ o, w.heap[x.1]? = some o ∧ ∀ w' : World, w'.heap[x.1]? = some o → CC w' x := by
  obtain ⟨g, t, cs⟩ := x
  cases t with
  | some t => cases t <;> exact ⟨_, h, fun w' h' => h'⟩
  | none =>
    rcases h with ⟨es, c, h1, h2⟩ | ⟨b, s, seen, c, h1, h2⟩ | ⟨C, e, f, h1, h2⟩
    · exact ⟨_, h1, fun w' h' => .inl ⟨es, c, h', h2⟩⟩
    · exact ⟨_, h1, fun w' h' => .inr (.inl ⟨b, s, seen, c, h', h2⟩)⟩
    · exact ⟨_, h1, fun w' h' => .inr (.inr ⟨C, e, f, h', h2⟩)⟩
theorem CC.ne_obj {o : Obj} (h : CC w x) (e : w.heap[x.1]? = some o) (h1 : ∀ c t f, o ≠ .cells c t f) (h2 : ∀ es c, o ≠ .map es c) (h3 : ∀ b s seen c, o ≠ .mapIter b s seen c) (h0 : ∀ l, o ≠ .loop l) : False := by
  obtain ⟨g, t, cs⟩ := x
  cases t with
  | some t =>
    cases t with
    | ty t =>
      have h : w.heap[g]? = some (.cells cs t (0, 0)) := h
      exact h1 _ _ _ (Option.some.inj (e.symm.trans h))
    | loop l =>
      have h : w.heap[g]? = some (.loop l) := h
      exact h0 _ (Option.some.inj (e.symm.trans h))
  | none =>
    rcases h with ⟨es, c, h4, _⟩ | ⟨b, s, seen, c, h4, _⟩ | ⟨C, t', f, h4, _⟩
    · exact h2 _ _ (Option.some.inj (e.symm.trans h4))
    · exact h3 _ _ _ _ (Option.some.inj (e.symm.trans h4))
    · exact h1 _ _ _ (Option.some.inj (e.symm.trans h4))
theorem CC.lt (h : CC w x) : x.1 < w.heap.size := by
 obtain ⟨o, h1, _⟩ := h.obj
 exact (Array.getElem?_eq_some_iff.1 h1).1
theorem CC.same (h : CC w x) (e : w'.heap[x.1]? = w.heap[x.1]?) : CC w' x := by
 obtain ⟨o, h1, h2⟩ := h.obj
 exact h2 w' (e.trans h1)
theorem CC.mod (h : CC w x) (hm : Mod S w w') (hn : ¬ S x.1) : CC w' x := h.same (hm.block x.1 h.lt hn)
theorem CC.below {B : Nat} (h : CC w x) (hb : Below B w w') (hg : x.1 < B) : CC w' x := h.same (hb.block x.1 hg)
theorem CC.old (h : CC w x) (hb : Below w.heap.size w w') : CC w' x := h.below hb h.lt
theorem CC.alloc (h : CC w x) (o : Obj) : CC (w.alloc o) x := h.same (Below.heap_alloc w o x.1 h.lt)
theorem CC.drew (h : CC w x) : CC w.drew x := h.same rfl
theorem Sa {x y : MapEntry} (h : Q2 x = Q2 y) : x = y := by
 obtain ⟨a, b, c⟩ := x
 obtain ⟨a', b', c'⟩ := y
 simp only [Q2, Value.tuple.injEq, Array.mk.injEq, List.cons.injEq, Value.int.injEq, true_and, and_true] at h
 obtain ⟨rfl, rfl, h3⟩ := h
 have h3 : c = c' := by omega
 rw [h3]
theorem KA {α β : Type} {f : α → β} (hf : ∀ {x y}, f x = f y → x = y) {a b : Array α} (h : a.map f = b.map f) : a = b := by
 obtain ⟨a⟩ := a
 obtain ⟨b⟩ := b
 have h : a.map f = b.map f := by simpa using h
 rw [(List.map_inj_right (fun _ _ => hf)).1 h]
theorem Dk {es : Array MapEntry} {c : Nat} : CC w (g, none, E3 es c) ↔ w.heap[g]? = some (.map es c) := by
  constructor
  · rintro (⟨es', c', h, e⟩ | ⟨b, s, seen, c', h, e⟩ | ⟨C, t', f, h, e⟩)
    · have e : E3 es c = E3 es' c' := e
      simp only [E3, Array.mk.injEq, List.cons.injEq, Value.int.injEq, Value.tuple.injEq, true_and, and_true] at e
      obtain ⟨e1, e2⟩ := e
      have e1 : c = c' := by omega
      have e2 := KA Sa e2
      subst e1; subst e2
      exact h
    · have e : E3 es c = DT b s seen c' := e
      simp [E3, DT] at e
    · have e : E3 es c = G0 C t' f := e
      simp [E3, G0] at e
  · exact fun h => .inl ⟨es, c, h, rfl⟩
theorem HP {b s c : Nat} {seen : Array Nat} : CC w (g, none, DT b s seen c) ↔ w.heap[g]? = some (.mapIter (some b) s seen c) := by
  constructor
  · rintro (⟨es', c', h, e⟩ | ⟨b', s', seen', c', h, e⟩ | ⟨C, t', f, h, e⟩)
    · have e : DT b s seen c = E3 es' c' := e
      simp [E3, DT] at e
    · have e : DT b s seen c = DT b' s' seen' c' := e
      simp only [DT, Array.mk.injEq, List.cons.injEq, Value.int.injEq, Value.tuple.injEq, true_and, and_true] at e
      obtain ⟨e1, e2, e3, e4⟩ := e
      have e1 : b = b' := by omega
      have e2 : s = s' := by omega
      have e4 : c = c' := by omega
      have e3 := KA (f := fun z : Nat => Value.int .i64 (z : Int)) (fun {x y} (h : Value.int .i64 (x : Int) = .int .i64 (y : Int)) => by simp only [Value.int.injEq, true_and] at h; omega) e3
      subst e1; subst e2; subst e3; subst e4
      exact h
    · have e : DT b s seen c = G0 C t' f := e
      simp [DT, G0] at e
  · exact fun h => .inr (.inl ⟨b, s, seen, c, h, rfl⟩)
theorem G1 {C : Array Value} {e : TypeId} {f : Nat × Nat} : CC w (g, none, G0 C e f) ↔ w.heap[g]? = some (.cells C e f) := by
  constructor
  · rintro (⟨es', c', h, e'⟩ | ⟨b', s', seen', c', h, e'⟩ | ⟨C', t', f', h, e'⟩)
    · have e' : G0 C e f = E3 es' c' := e'
      simp [E3, G0] at e'
    · have e' : G0 C e f = DT b' s' seen' c' := e'
      simp [DT, G0] at e'
    · have e' : G0 C e f = G0 C' t' f' := e'
      obtain ⟨f1, f2⟩ := f
      obtain ⟨g1, g2⟩ := f'
      simp only [G0, Array.mk.injEq, List.cons.injEq, Value.int.injEq, Value.tuple.injEq, true_and, and_true] at e'
      obtain ⟨e1, e2, e3, e4⟩ := e'
      have e2 : e = t' := by exact Int.ofNat.inj e2
      have e3 : f1 = g1 := by omega
      have e4 : f2 = g2 := by omega
      subst e1; subst e2; subst e3; subst e4
      exact h
  · exact fun h => .inr (.inr ⟨C, e, f, h, rfl⟩)
end rowx
section hp
variable {B : Nat} {w0 w w' : World} {rs : List RowT}
theorem RowsOf.map_ : ∀ {rs : List RowT}, RowsOf w rs → (∀ x ∈ rs, CC w x → CC w' x) → RowsOf w' rs
  | [], _, _ => trivial
  | (g, t, cs) :: r, hr, h => ⟨h (g, t, cs) (by simp) hr.1, RowsOf.map_ hr.2 fun x hx => h x (by simp [hx])⟩
theorem RowsOf.mem : ∀ {rs : List RowT}, RowsOf w rs → ∀ x ∈ rs, CC w x
  | [], _, x, h => by simp at h
  | (g, t, cs) :: r, hr, x, h => by
    rcases List.mem_cons.1 h with rfl | h
    · exact hr.1
    · exact RowsOf.mem hr.2 x h
end hp
def Ya : List ((Nat × Nat) × Nat) → Nat → Nat → Option Nat
  | [], _, _ => none
  | ((s, f), k) :: r, S, F => match Nat.beq s S, Nat.beq f F with | true, true => some k | _, _ => Ya r S F
def Oj (P : Program) (fl : List ((Nat × Nat) × Nat)) : Prop := ∀ S f k, Ya fl S f = some k → AO P S f k
def Q3 (P : Program) : List ((Nat × Nat) × Nat) → Prop
  | [] => True
  | ((s, f), k) :: r => AO P s f k ∧ Q3 P r
theorem Nw {P : Program} : ∀ {fl : List ((Nat × Nat) × Nat)}, Q3 P fl → Oj P fl
  | [], _, S, f, k, h => by cases h
  | ((s, g), j) :: r, ha, S, f, k, h => by
    unfold Ya at h
    cases h1 : Nat.beq s S with
    | false => simp only [h1] at h; exact Nw ha.2 S f k h
    | true =>
      cases h2 : Nat.beq g f with
      | false => simp only [h1, h2] at h; exact Nw ha.2 S f k h
      | true =>
        simp only [h1, h2, Option.some.injEq] at h
        have e1 := Nat.eq_of_beq_eq_true h1
        have e2 := Nat.eq_of_beq_eq_true h2
        subst e1; subst e2; subst h
        exact ha.1
def q1 (fl : List ((Nat × Nat) × Nat)) (o : Oper) (env : List (Nat × Value)) : Option Value :=
  match o.op with
  | .move x => evs env x
  | .assign x => evs env x
  | .extract x i => match evs env x with | some (.tuple vs) => vs[i]? | _ => none
  | .pick c a b => match evs env c with | some (.bool true) => evs env a | some (.bool false) => evs env b | _ => none
  | .unOp .not _ x => match evs env x with | some (.bool true) => some (.bool false) | some (.bool false) => some (.bool true) | _ => none
  | .fieldAddr S x f => match evs env x with
    | some (.pointer (some ⟨g, off, none⟩)) => match Ya fl S f with | some k => some (.pointer (some ⟨g, off + k, none⟩)) | none => none
    | _ => none
  | _ => none
theorem Cx {P : Program} {fl : List ((Nat × Nat) × Nat)} (hfl : Oj P fl) {o : Oper} {n : Nat} {env : List (Nat × Value)} {v : Value} {a : Act} {w : World} (h : q1 fl o env = some v) (hF : Fr n a env) : (execOp a.eval o).run P w = .ok (.value v) w := by
  unfold q1 at h
  split at h
  · exact R8 ‹_› h hF
  · exact Oe ‹_› h hF
  · rename_i x i ho
    cases hx : evs env x with
    | none => simp [hx] at h
    | some u =>
      cases u with
      | tuple vs => simp only [hx] at h; exact I7 ho hx h hF
      | _ => simp [hx] at h
  · rename_i c x y ho
    cases hx : evs env c with
    | none => simp [hx] at h
    | some u =>
      cases u with
      | bool b =>
        cases b with
        | true => simp only [hx] at h; exact MN (c := true) ho hx (by simpa using h) hF
        | false => simp only [hx] at h; exact MN (c := false) ho hx (by simpa using h) hF
      | _ => simp [hx] at h
  · rename_i T x ho
    cases hx : evs env x with
    | none => simp [hx] at h
    | some u =>
      cases u with
      | bool b =>
        cases b with
        | true => simp only [hx, Option.some.injEq] at h; subst h; exact Og ho hx rfl hF
        | false => simp only [hx, Option.some.injEq] at h; subst h; exact Og ho hx rfl hF
      | _ => simp [hx] at h
  · rename_i S x f ho
    cases hx : evs env x with
    | none => simp [hx] at h
    | some u =>
      cases u with
      | pointer p =>
        cases p with
        | none => simp [hx] at h
        | some ad =>
          obtain ⟨g, off, b⟩ := ad
          cases b with
          | some b => simp [hx] at h
          | none =>
            simp only [hx] at h
            cases hf : Ya fl S f with
            | none => simp [hf] at h
            | some k =>
              simp only [hf, Option.some.injEq] at h
              subst h
              exact Lm (hfl S f k hf) ho hx hF
      | _ => simp [hx] at h
  · cases h
def Ln (fl : List ((Nat × Nat) × Nat)) (ops : Array Oper) (n : Nat) : List Oper → List (Nat × Value) → Option (List (Nat × Value) × List Oper)
  | [], env => some (env, [])
  | o :: r, env => match wants ops o env with
    | some false => match o.dst with
      | some d => match Nat.blt d n with | true => Ln fl ops n r ((d, undef) :: env) | false => none
      | none => none
    | some true => match q1 fl o env with
      | some v => match o.dst with
        | some d => match Nat.blt d n with | true => Ln fl ops n r ((d, v) :: env) | false => none
        | none => none
      | none => some (env, o :: r)
    | none => some (env, o :: r)
section wl2
variable {P : Program} {ops : Array Oper} {Q : Exit → Act → World → Prop} {n B : Nat} {w0 : World} {rs rs' : List RowT} {env env' : List (Nat × Value)} {l rest : List Oper} {o : Oper} {d : Nat} {fl : List ((Nat × Nat) × Nat)}
def K7 (ops : Array Oper) (n : Nat) (o : Oper) (env : List (Nat × Value)) : Option Nat := match wants ops o env with
  | some true => match o.dst with
    | some d => match Nat.blt d n with | true => some d | false => none
    | none => none
  | _ => none
theorem BE (h : K7 ops n o env = some d) : wants ops o env = some true ∧ o.dst = some d ∧ d < n := by
  unfold K7 at h
  cases hw : wants ops o env with
  | none => simp [hw] at h
  | some b =>
    cases b with
    | false => simp [hw] at h
    | true =>
      simp only [hw] at h
      cases hd : o.dst with
      | none => simp [hd] at h
      | some d' =>
        simp only [hd] at h
        cases hn : Nat.blt d' n with
        | false => simp [hn] at h
        | true =>
          simp only [hn, Option.some.injEq] at h
          subst h
          exact ⟨rfl, rfl, Es hn⟩
end wl2
section wc2
variable {P : Program} {Q : Exit → Act → World → Prop} {n B : Nat} {w0 : World} {rs : List RowT} {env : List (Nat × Value)}
variable {fn : Func} {R : Ending → World → Prop}
end wc2
section par2
variable {P : Program} {ops : Array Oper} {Q : Exit → Act → World → Prop} {n B : Nat} {w0 : World} {rs : List RowT} {env env0 : List (Nat × Value)} {o : Oper} {deps : List Nat} {v : Value} {fl : List ((Nat × Nat) × Nat)} {kk : Nat}
end par2
section orders2
variable {P : Program} {ops : Array Oper} {Q : Exit → Act → World → Prop} {n f i d B : Nat} {w0 : World} {rs : List RowT} {env env' : List (Nat × Value)} {listed : Array Bool} {o : Oper} {fl : List ((Nat × Nat) × Nat)}
end orders2
end Go.Proofs.YtjcfimmcogkopaaGreatDoor
namespace Go.Proofs.YtjcfimmcogkopaaGreatDoor
open Go.RowKit
def bs (l : List UInt8) : ByteArray := ⟨l.toArray⟩
theorem Jd (l : List UInt8) : (bs l).size = l.length := by simp [bs, ByteArray.size]
theorem Q4 (l : List UInt8) : (bs l).toList = l := by simp [bs, ByteArray.toList_eq]
theorem Q5 (l : List UInt8) : (bs l).data.toList = l := by simp [bs]
theorem Xl (a b : List UInt8) : bs a ++ bs b = bs (a ++ b) := ByteArray.mk_append_mk a b
theorem TA {a b : List UInt8} (h : bs a = bs b) : a = b := by rw [← Q5 a, h, Q5]
section
variable {P : Program} {ops : Array Oper} {Q : Exit → Act → World → Prop} {n B d : Nat} {w0 : World} {rs : List RowT} {env env0 : List (Nat × Value)} {rest : List Oper} {o : Oper} {a : Act} {w : World} {deps : List Nat} {kk : Nat}
theorem TC {T T' : TypeId} {x y : Operand} {l m : List UInt8} (ho : o.op = .binOp .add T x y T') (hx : evs env x = some (.string (bs l))) (hy : evs env y = some (.string (bs m))) (hs : l.length + m.length ≤ 9223372036854775807) (hF : Fr n a env) : (execOp a.eval o).run P w = .ok (.value (.string (bs (l ++ m)))) w := by
 unfold execOp
 have h : ¬ (((bs l).size + (bs m).size : Nat) : Int) > IntKind.i64.max := by rw [Jd, Jd]; show ¬ _ > (9223372036854775807 : Int); omega
 simp only [ho, hF.evs hx, hF.evs hy]
 simp only [eqGuard, binOp, Op.stringOp, if_neg h, Xl]
 simp
theorem MO {T T' : TypeId} {x y : Operand} {l m : List UInt8} {c : Bool} (ho : o.op = .binOp .eql T x y T') (hx : evs env x = some (.string (bs l))) (hy : evs env y = some (.string (bs m))) (hc : (l == m) = c) (hF : Fr n a env) : (execOp a.eval o).run P w = .ok (.value (.bool c)) w := by
 unfold execOp
 subst hc
 simp only [ho, hF.evs hx, hF.evs hy]
 simp [eqGuard, binOp, Op.stringOp, Q4]
theorem Ev {t : TypeId} (hu : P.underlying t = some .string) (l : List UInt8) (ty : TypeId) (w : World) (cs : Array Bool) : (builtin .len #[t] ty cs [.string (bs l)].toArray).run P w = .ok (.value (.int .i64 (l.length : Int))) w := by
 rw [Oi hu, Jd]
end
end Go.Proofs.YtjcfimmcogkopaaGreatDoor
namespace Go.Proofs.YtjcfimmcogkopaaGreatDoor
variable {a : Act} {x : Operand}
open Go.RowKit
section loops
variable {P : Program} {Q : Exit → Act → World → Prop} {n B : Nat} {w0 : World} {rs rs' : List RowT} {env env' : List (Nat × Value)} {c : Code} {α : Type}
end loops
section orders3
variable {P : Program} {ops : Array Oper} {Q : Exit → Act → World → Prop} {n fu i d B : Nat} {w0 : World} {rs : List RowT} {env : List (Nat × Value)} {listed : Array Bool} {o : Oper}
end orders3
section index
variable {P : Program} {n : Nat} {w : World} {env : List (Nat × Value)} {o : Oper}
theorem Ir {p : Addr} (ho : o.op = .nilCheck x) (hx : evs env x = some (.pointer (some p))) (hF : Fr n a env) : (execOp a.eval o).run P w = .ok (.value (.pointer (some p))) w := by
 unfold execOp
 simp [ho, hF.evs hx]
def TD (P : Program) (T : TypeId) (i : Int) (k : Nat) : Prop := ∀ g off w, (Instr.indexAt T (.pointer (some ⟨g, off, none⟩)) (.int .i64 i)).run P w = .ok (.pointer (some ⟨g, off + k, none⟩)) w
theorem TF {T : TypeId} {y : Operand} {i : Int} {k g off : Nat} (hf : TD P T i k) (ho : o.op = .indexAddr T x y) (hx : evs env x = some (.pointer (some ⟨g, off, none⟩))) (hy : evs env y = some (.int .i64 i)) (hF : Fr n a env) : (execOp a.eval o).run P w = .ok (.value (.pointer (some ⟨g, off + k, none⟩))) w := by
 unfold execOp
 simp only [ho, hF.evs hx, hF.evs hy, Sem.run_bind, hf g off w, Result.andThen_ok, Sem.run_pure]
end index
end Go.Proofs.YtjcfimmcogkopaaGreatDoor
namespace Go.Proofs.YtjcfimmcogkopaaGreatDoor
variable {T : TypeId} {a : Act} {k : IntKind} {x : Operand}
open Go.RowKit
section
variable {P : Program} {ops : Array Oper} {Q : Exit → Act → World → Prop} {n B : Nat} {w0 w : World} {rs : List RowT} {env : List (Nat × Value)} {rest : List Oper} {o : Oper} {d : Nat}
theorem Xm (l : List UInt8) (i : Nat) : (bs l)[i]? = l[i]? := by
  by_cases h : i < l.length
  · rw [List.getElem?_eq_getElem h]
    have h' : i < (bs l).size := by rw [Jd]; exact h
    rw [getElem?_pos (bs l) i h']
    simp [bs, ByteArray.getElem_eq_getElem_data]
  · rw [List.getElem?_eq_none (by omega)]
    have h' : ¬ i < (bs l).size := by rw [Jd]; exact h
    rw [getElem?_neg (bs l) i h']
theorem Lo (hT : P.underlying T = some .string) {y : Operand} {l : List UInt8} {i : Nat} {b : UInt8} (hb : l[i]? = some b) (ho : o.op = .index T x y) (hx : evs env x = some (.string (bs l))) (hy : evs env y = some (.int k (i : Int))) (hF : Fr n a env) : (execOp a.eval o).run P w = .ok (.value (.int .u8 (b.toNat : Int))) w := by
 unfold execOp
 have h0 : (0 : Int) ≤ (i : Int) := by omega
 have hg : (bs l)[i]? = some b := by rw [Xm, hb]
 simp [ho, hF.evs hx, hF.evs hy, Instr.index, asIntOf, run_underlying hT, h0, hg]
theorem BX {T' : TypeId} {u : TypeDesc} {k' : IntKind} {p z : Int} (hs : P.underlying T = some u) (hd : P.underlying T' = some (.int k)) (hz : k.wrap p = z) (ho : o.op = .convert T T' x) (hx : evs env x = some (.int k' p)) (hF : Fr n a env) : (execOp a.eval o).run P w = .ok (.value (.int k z)) w := by
 unfold execOp
 simp [ho, hF.evs hx, convert, run_underlying hs, run_underlying hd, Conv.intToInt, hz]
end
end Go.Proofs.YtjcfimmcogkopaaGreatDoor
namespace Go.Proofs.YtjcfimmcogkopaaGreatDoor
open Go.RowKit
section main
variable {P : Program} {ops : Array Oper} {Q : Exit → Act → World → Prop} {n B : Nat} {env0 : List (Nat × Value)} {Φ : Nat → List Value → World → Prop} {D m : Nat}
end main
section par3
variable {P : Program} {ops : Array Oper} {Q : Exit → Act → World → Prop} {n B : Nat} {w0 : World} {rs : List RowT} {env : List (Nat × Value)}
end par3
end Go.Proofs.YtjcfimmcogkopaaGreatDoor
namespace Go.Proofs.YtjcfimmcogkopaaGreatDoor
open Go.RowKit
section par4
variable {P : Program} {ops : Array Oper} {Q : Exit → Act → World → Prop} {n B : Nat} {w0 : World} {rs : List RowT} {env : List (Nat × Value)}
end par4
end Go.Proofs.YtjcfimmcogkopaaGreatDoor
