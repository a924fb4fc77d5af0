/-
  Walk · Hp · Bs · Loop · Bytes · ParO · ParE
-/
import Derived.Test.YtjcfimmcogkopaaGreatDoorWA01
import Derived.IntWalk
import Derived.Laws.Concat
import Derived.Lib.SmallJoins
import Derived.LoopN
import Derived.Lib.SlBytesRow
set_option linter.unusedSimpArgs false
set_option linter.unusedVariables false
namespace Go.Proofs.YtjcfimmcogkopaaGreatDoor
open Go.RowKit
def WL (P : Program) (ops : Array Oper) (Q : Exit → Act → World → Prop) (n : Nat) (env : List (Nat × Value)) (w : World) (l : List Oper) : Prop := ∀ a, Fr n a env → wpList P ops Q l a w
def WC (P : Program) (Q : Exit → Act → World → Prop) (n : Nat) (env : List (Nat × Value)) (w : World) (c : Code) : Prop := ∀ a, Fr n a env → c.wp P Q a w
def WE (Q : Exit → Act → World → Prop) (n : Nat) (env : List (Nat × Value)) (w : World) (e : Exit) : Prop := ∀ a, Fr n a env → Q e a w
section wl
variable {P : Program} {ops : Array Oper} {Q : Exit → Act → World → Prop} {n : Nat} {w : World} {env env' : List (Nat × Value)} {rest : List Oper} {o : Oper} {d : Nat}
theorem WL.keep (hs : GG env env') (h : WL P ops Q n env' w rest) : WL P ops Q n env w rest := fun a hF => h a (hF.keep hs)
theorem WC.keep {c : Code} (hs : GG env env') (h : WC P Q n env' w c) : WC P Q n env w c := fun a hF => h a (hF.keep hs)
theorem WE.keep {e : Exit} (hs : GG env env') (h : WE Q n env' w e) : WE Q n env w e := fun a hF => h a (hF.keep hs)
def Ns : List Value → Bool
  | [] => true
  | v :: r => match v.oneCell' with | true => Ns r | false => false
theorem Hg : ∀ {l : List Value}, Ns l = true → l.all (·.oneCell') = true
  | [], _ => rfl
  | v :: r, h => by
    unfold Ns at h
    cases hv : v.oneCell' with
    | false => rw [hv] at h; cases h
    | true => rw [hv] at h; have := Hg h; simp_all
def G7 (op : BinOp) (a b : Int) : Option Bool := match op with | .eql => some (a == b) | .neq => some (a != b) | .lss => some (decide (a < b)) | .leq => some (decide (a ≤ b)) | .gtr => some (decide (a > b)) | .geq => some (decide (a ≥ b)) | _ => none
def Ye (op : BinOp) (a b : Int) : Option Int := match op with | .add => some (a + b) | .sub => some (a - b) | .mul => some (a * b) | _ => none
theorem A5 {a : Act} {op : BinOp} {T T' : TypeId} {x y : Operand} {k : IntKind} {p q : Int} {c : Bool} (ho : o.op = .binOp op T x y T') (hx : evs env x = some (.int k p)) (hy : evs env y = some (.int k q)) (hc : G7 op p q = some c) (hF : Fr n a env) : (execOp a.eval o).run P w = .ok (.value (.bool c)) w := by
 unfold execOp
 simp only [ho, hF.evs hx, hF.evs hy]
 cases op <;> simp only [G7, Option.some.injEq, reduceCtorEq] at hc <;> subst hc <;> simp [eqGuard, binOp, Op.intCmp]
theorem AJ {a : Act} {op : BinOp} {T T' : TypeId} {x y : Operand} {k : IntKind} {p q z z' : Int} (ho : o.op = .binOp op T x y T') (hx : evs env x = some (.int k p)) (hy : evs env y = some (.int k q)) (hc : Ye op p q = some z) (hz : k.wrap z = z') (hF : Fr n a env) : (execOp a.eval o).run P w = .ok (.value (.int k z')) w := by
 unfold execOp
 subst hz
 simp only [ho, hF.evs hx, hF.evs hy]
 cases op <;> simp only [Ye, Option.some.injEq, reduceCtorEq] at hc <;> subst hc <;> simp [eqGuard, binOp, Op.intArith]
theorem Od {a : Act} {T : TypeId} {x : Operand} {c c' : Bool} (ho : o.op = .unOp .not T x) (hx : evs env x = some (.bool c)) (hc : (!c) = c') (hF : Fr n a env) : (execOp a.eval o).run P w = .ok (.value (.bool c')) w := by
 unfold execOp
 subst hc
 simp [ho, hF.evs hx, Op.unary]
theorem Tl {a : Act} {T : TypeId} {x : Operand} {k : IntKind} {p z : Int} (ho : o.op = .unOp .neg T x) (hx : evs env x = some (.int k p)) (hz : k.wrap (0 - p) = z) (hF : Fr n a env) : (execOp a.eval o).run P w = .ok (.value (.int k z)) w := by
 unfold execOp
 subst hz
 simp [ho, hF.evs hx, Op.unary, Op.intArith]
def Bp (P : Program) (S : TypeId) (f k : Nat) : Prop := ∀ g off w, (Instr.fieldAt S (.pointer (some ⟨g, off, none⟩)) f).run P w = .ok (.pointer (some ⟨g, off + k, none⟩)) w
theorem Lk {a : Act} {S : TypeId} {x : Operand} {f k g off : Nat} (hf : Bp P S f k) (ho : o.op = .fieldAddr S x f) (hx : evs env x = some (.pointer (some ⟨g, off, none⟩))) (hF : Fr n a env) : (execOp a.eval o).run P w = .ok (.value (.pointer (some ⟨g, off + k, none⟩))) w := by
 unfold execOp
 simp only [ho, hF.evs hx, Sem.run_bind, hf g off w, Result.andThen_ok, Sem.run_pure]
def evp (env : List (Nat × Value)) : List (Nat × Operand) → Option (List (Nat × Value))
  | [] => some []
  | (i, x) :: r => match evs env x, evp env r with
    | some v, some l => some ((i, v) :: l)
    | _, _ => none
theorem Fr.evp {a : Act} (h : Fr n a env) : ∀ {xs : List (Nat × Operand)} {vs : List (Nat × Value)}, evp env xs = some vs → (xs.map fun (i, x) => (i, a.eval x)) = vs
  | [], vs, hx => by cases hx; rfl
  | (i, x) :: r, vs, hx => by
    unfold Go.Proofs.YtjcfimmcogkopaaGreatDoor.evp at hx
    cases h1 : Go.Proofs.YtjcfimmcogkopaaGreatDoor.evs env x with
    | none => simp [h1] at hx
    | some v =>
      cases h2 : Go.Proofs.YtjcfimmcogkopaaGreatDoor.evp env r with
      | none => simp [h1, h2] at hx
      | some l =>
        simp only [h1, h2, Option.some.injEq] at hx
        subst hx
        rw [List.map_cons, Fr.evp h h2]
        show (i, a.eval x) :: l = _
        rw [h.evs h1]
theorem BA {a : Act} {T : TypeId} {ps : Array (Nat × Operand)} {vs : List (Nat × Value)} {cs : Array Value} (ho : o.op = .build T ps) (hx : evp env ps.toList = some vs) (hc : P.built T vs = some cs) (hF : Fr n a env) : (execOp a.eval o).run P w = .ok (.value (.agg cs)) w := by
 unfold execOp
 have h1 : (ps.map fun (i, x) => (i, a.eval x)).toList = vs := by rw [← hF.evp hx]; simp
 simp only [ho, Sem.run_bind, run_build w T _ cs (by rw [h1]; exact hc), Result.andThen_ok, Sem.run_pure]
theorem CH {a : Act} {bi : Builtin} {args : Array Operand} {ats : Array TypeId} {vs : List Value} {v : Value} (ho : o.op = .call { callee := .builtin bi, args := args, argTypes := ats }) (hx : evl env args.toList = some vs) (hr : ∀ cs, (builtin bi ats o.type cs vs.toArray).run P w = .ok (.value v) w) (hF : Fr n a env) : (execOp a.eval o).run P w = .ok (.value v) w := by
 have h1 : args.map a.eval = vs.toArray := by
  have := hF.evl hx
  rw [← this]
  cases args; simp
 unfold execOp
 simp only [ho, resolve, invoke, Sem.run_bind, Sem.run_pure, Result.andThen_ok, h1]
 exact hr _
theorem Tm {k : IntKind} {a b c : Int} (h : (if b < a then b else a) = c) (ats : Array TypeId) (ty : TypeId) (w : World) (cs : Array Bool) : (builtin .min ats ty cs [.int k a, .int k b].toArray).run P w = .ok (.value (.int k c)) w := by
 subst h
 simp [builtin, Builtin.min_, Builtin.min2]
 try (split <;> simp_all)
theorem Oe {k : IntKind} {a b c : Int} (h : (if a < b then b else a) = c) (ats : Array TypeId) (ty : TypeId) (w : World) (cs : Array Bool) : (builtin .max ats ty cs [.int k a, .int k b].toArray).run P w = .ok (.value (.int k c)) w := by
 subst h
 simp [builtin, Builtin.max_, Builtin.max2]
 try (split <;> simp_all)
theorem Of {t : TypeId} (hu : P.underlying t = some .string) (s : ByteArray) (ty : TypeId) (w : World) (cs : Array Bool) : (builtin .len #[t] ty cs [.string s].toArray).run P w = .ok (.value (.int .i64 (s.size : Int))) w := by
 simp [builtin, Builtin.len_, run_underlying hu, goInt]
theorem Gh {t e : TypeId} (hu : P.underlying t = some (.slice e)) (A : Option Addr) (k c : Nat) (ty : TypeId) (w : World) (cs : Array Bool) : (builtin .len #[t] ty cs [.slice A k c].toArray).run P w = .ok (.value (.int .i64 (k : Int))) w := by
 simp [builtin, Builtin.len_, run_underlying hu, goInt]
end wl
section wc
variable {P : Program} {Q : Exit → Act → World → Prop} {n : Nat} {w : World} {env : List (Nat × Value)}
variable {fn : Func} {R : Ending → World → Prop}
end wc
section conv
variable {P : Program} {F : FuncId} {vs : Array Value} {w : World} {v : Value}
theorem To (h : Calls P F vs w fun e w' => e = .returned v ∧ w' = w) : Calls P F vs w fun e w' => e = .returned v ∧ Below w.heap.size w w' := h.mono fun _ _ ⟨a, b⟩ => ⟨a, b ▸ Below.refl _ _⟩
end conv
section par
variable {P : Program} {ops : Array Oper} {Q : Exit → Act → World → Prop} {n : Nat} {w : World} {env env0 : List (Nat × Value)} {jobs : List Job} {o : Oper}
abbrev XB (w : World) : Nat → List Value → World → Prop := fun _ _ W => Up w.heap.size w W
theorem XB.row {k : Nat} {σ : List Value} {W : World} {g : Nat} {t : TypeId} {cs : Array Value} (h : XB w k σ W) (hR : Dy w g t cs) : Dy W g t cs := hR.below h.below hR.lt
abbrev OB (P : Program) (ops : Array Oper) (Q : Exit → Act → World → Prop) (n : Nat) (jobs : List Job) (env0 : List (Nat × Value)) (w : World) (o : Oper) (j : Job) : Prop := Ob P ops Q n w.heap.size jobs env0 (XB w) o j
variable {deps : List Nat} {v : Value} {kk : Nat}
end par
section orders
variable {P : Program} {ops : Array Oper} {Q : Exit → Act → World → Prop} {n f i d : Nat} {w : World} {env env' : List (Nat × Value)} {listed : Array Bool} {o : Oper}
def WA (P : Program) (ops : Array Oper) (Q : Exit → Act → World → Prop) (n : Nat) (env : List (Nat × Value)) (w : World) (f : Nat) (listed : Array Bool) : Prop := ∀ a, Fr n a env → wpAny P .any ops Q f listed a w
def WO (P : Program) (ops : Array Oper) (Q : Exit → Act → World → Prop) (n : Nat) (env : List (Nat × Value)) (w : World) (f : Nat) (listed : Array Bool) (i : Nat) : Prop := ∀ a, Fr n a env → wpOp P ops Q i (wpAny P .any ops Q f (listed.setIfInBounds i true)) a w
theorem WA.keep (hs : GG env env') (h : WA P ops Q n env' w f listed) : WA P ops Q n env w f listed := fun a hF => h a (hF.keep hs)
theorem AZ (ho : ops[i]? = some o) (hg : wants ops o env = some true) (hd : o.dst = none) {T : TypeId} {x y : Operand} {g off k : Nat} {t : TypeId} {cs : Array Value} {v : Value} (hop : o.op = .store T x y) (hx : evs env x = some (.pointer (some ⟨g, off, none⟩))) (hy : evs env y = some v) (hR : Dy w g t cs) (hs : ∀ w, (sizeOf T).run P w = .ok k w) (hk : v.cells.size = k) (hl : off + k ≤ cs.size) (h1 : Ns v.cells.toList = true)
  (h : ∀ w', Dy w' g t (over? cs.toList off v.cells.toList).toArray → Mod (N5 g) w w' → WA P ops Q n env w' f (listed.setIfInBounds i true)) : WO P ops Q n env w f listed i := fun a hF => by
 unfold wpOp
 simp only [ho]
 rw [if_pos (hF.wants hg)]
 refine .inl ?_
 obtain ⟨w', hr, hR', hm⟩ := Di (P := P) g t v.cells.toList 0 cs w off hR (by simp; omega) (fun u hu => (List.all_eq_true.1 (Hg h1)) u hu)
 have hrun : (execOp a.eval o).run P w = .ok .skip w' := by
  unfold execOp
  simp [hop, hF.evs hx, hF.evs hy, Instr.storeAt, Instr.sureAddr, storeVar, hs, hk, hr]
 unfold Oper.wp
 rw [hrun, Oper.upon_skip, hd]
 exact h _ (by simpa [over?] using hR') hm _ hF
end orders
end Go.Proofs.YtjcfimmcogkopaaGreatDoor
namespace Go.Proofs.YtjcfimmcogkopaaGreatDoor
open Go.RowKit
inductive RTy
  | ty (t : TypeId)
  | loop (l : Loop)
instance : Coe TypeId RTy := ⟨.ty⟩
instance (n : Nat) : OfNat RTy n := ⟨.ty n⟩
abbrev RowT := Nat × Option RTy × Array Value
abbrev Fa (t : TypeId) : Option RTy := some (.ty t)
instance (n : Nat) : OfNat (Option RTy) n := ⟨some (.ty n)⟩
def QZ (x : MapEntry) : Value := .tuple #[x.key, x.val, .int .i64 (x.born : Int)]
def Fu (es : Array MapEntry) (c : Nat) : Array Value := #[.bool true, .int .i64 (c : Int), .tuple (es.map QZ)]
def Et (b since : Nat) (seen : Array Nat) (c : Nat) : Array Value := #[.bool false, .int .i64 (b : Int), .int .i64 (since : Int), .tuple (seen.map fun z : Nat => Value.int .i64 (z : Int)), .int .i64 (c : Int)]
def Hh (C : Array Value) (e : TypeId) (f : Nat × Nat) : Array Value := #[.tuple C, .int .i64 (e : Int), .int .i64 (f.1 : Int), .int .i64 (f.2 : Int)]
def WS (w : World) (g : Nat) (cs : Array Value) : Prop := (∃ es c, w.heap[g]? = some (.map es c) ∧ cs = Fu es c) ∨ (∃ b s seen c, w.heap[g]? = some (.mapIter (some b) s seen c) ∧ cs = Et b s seen c) ∨ ∃ C e f, w.heap[g]? = some (.cells C e f) ∧ cs = Hh C e f
def Do (w : World) (x : RowT) : Prop := match x.2.1 with
  | some (.ty t) => Dy w x.1 t x.2.2
  | some (.loop l) => w.heap[x.1]? = some (.loop l)
  | none => WS w x.1 x.2.2
def RowsOf (w : World) : List RowT → Prop
  | [] => True
  | x :: r => Do w x ∧ RowsOf w r
section rowx
variable {S : Nat → Prop} {w w' : World} {x : RowT}
theorem Do.obj (h : Do w x) : ∃ o, w.heap[x.1]? = some o ∧ ∀ w' : World, w'.heap[x.1]? = some o → Do w' x := by
  obtain ⟨g, t, cs⟩ := x
  cases t with
  | some t => cases t <;> exact ⟨_, h, fun w' h' => h'⟩
  | none =>
    rcases h with ⟨es, c, h1, h2⟩ | ⟨b, s, seen, c, h1, h2⟩ | ⟨C, e, f, h1, h2⟩
    · exact ⟨_, h1, fun w' h' => .inl ⟨es, c, h', h2⟩⟩
    · exact ⟨_, h1, fun w' h' => .inr (.inl ⟨b, s, seen, c, h', h2⟩)⟩
    · exact ⟨_, h1, fun w' h' => .inr (.inr ⟨C, e, f, h', h2⟩)⟩
theorem Do.ne_obj {o : Obj} (h : Do w x) (e : w.heap[x.1]? = some o) (h1 : ∀ c t f, o ≠ .cells c t f) (h2 : ∀ es c, o ≠ .map es c) (h3 : ∀ b s seen c, o ≠ .mapIter b s seen c) (h0 : ∀ l, o ≠ .loop l) : False := by
  obtain ⟨g, t, cs⟩ := x
  cases t with
  | some t =>
    cases t with
    | ty t =>
      have h : w.heap[g]? = some (.cells cs t (0, 0)) := h
      exact h1 _ _ _ (Option.some.inj (e.symm.trans h))
    | loop l =>
      have h : w.heap[g]? = some (.loop l) := h
      exact h0 _ (Option.some.inj (e.symm.trans h))
  | none =>
    rcases h with ⟨es, c, h4, _⟩ | ⟨b, s, seen, c, h4, _⟩ | ⟨C, t', f, h4, _⟩
    · exact h2 _ _ (Option.some.inj (e.symm.trans h4))
    · exact h3 _ _ _ _ (Option.some.inj (e.symm.trans h4))
    · exact h1 _ _ _ (Option.some.inj (e.symm.trans h4))
theorem Do.lt (h : Do w x) : x.1 < w.heap.size := by
 obtain ⟨o, h1, _⟩ := h.obj
 exact (Array.getElem?_eq_some_iff.1 h1).1
theorem Do.same (h : Do w x) (e : w'.heap[x.1]? = w.heap[x.1]?) : Do w' x := by
 obtain ⟨o, h1, h2⟩ := h.obj
 exact h2 w' (e.trans h1)
theorem Do.mod (h : Do w x) (hm : Mod S w w') (hn : ¬ S x.1) : Do w' x := h.same (hm.block x.1 h.lt hn)
theorem Do.below {B : Nat} (h : Do w x) (hb : Below B w w') (hg : x.1 < B) : Do w' x := h.same (hb.block x.1 hg)
theorem Do.old (h : Do w x) (hb : Below w.heap.size w w') : Do w' x := h.below hb h.lt
theorem Do.alloc (h : Do w x) (o : Obj) : Do (w.alloc o) x := h.same (Below.heap_alloc w o x.1 h.lt)
theorem Do.drew (h : Do w x) : Do w.drew x := h.same rfl
theorem Do.mod_ne {g' : Nat} (h : Do w x) (hm : Mod (N5 g') w w') (hn : x.1 ≠ g') : Do w' x := h.mod hm (fun e => hn e)
theorem R6 {x y : MapEntry} (h : QZ x = QZ y) : x = y := by
 obtain ⟨a, b, c⟩ := x
 obtain ⟨a', b', c'⟩ := y
 simp only [QZ, Value.tuple.injEq, Array.mk.injEq, List.cons.injEq, Value.int.injEq, true_and, and_true] at h
 obtain ⟨rfl, rfl, h3⟩ := h
 have h3 : c = c' := by omega
 rw [h3]
theorem KB {α β : Type} {f : α → β} (hf : ∀ {x y}, f x = f y → x = y) {a b : Array α} (h : a.map f = b.map f) : a = b := by
 obtain ⟨a⟩ := a
 obtain ⟨b⟩ := b
 have h : a.map f = b.map f := by simpa using h
 rw [(List.map_inj_right (fun _ _ => hf)).1 h]
theorem DS {g : Nat} {es : Array MapEntry} {c : Nat} : Do w (g, none, Fu es c) ↔ w.heap[g]? = some (.map es c) := by
  constructor
  · rintro (⟨es', c', h, e⟩ | ⟨b, s, seen, c', h, e⟩ | ⟨C, t', f, h, e⟩)
    · have e : Fu es c = Fu es' c' := e
      simp only [Fu, Array.mk.injEq, List.cons.injEq, Value.int.injEq, Value.tuple.injEq, true_and, and_true] at e
      obtain ⟨e1, e2⟩ := e
      have e1 : c = c' := by omega
      have e2 := KB R6 e2
      subst e1; subst e2
      exact h
    · have e : Fu es c = Et b s seen c' := e
      simp [Fu, Et] at e
    · have e : Fu es c = Hh C t' f := e
      simp [Fu, Hh] at e
  · exact fun h => .inl ⟨es, c, h, rfl⟩
theorem Ic {g b s c : Nat} {seen : Array Nat} : Do w (g, none, Et b s seen c) ↔ w.heap[g]? = some (.mapIter (some b) s seen c) := by
  constructor
  · rintro (⟨es', c', h, e⟩ | ⟨b', s', seen', c', h, e⟩ | ⟨C, t', f, h, e⟩)
    · have e : Et b s seen c = Fu es' c' := e
      simp [Fu, Et] at e
    · have e : Et b s seen c = Et b' s' seen' c' := e
      simp only [Et, Array.mk.injEq, List.cons.injEq, Value.int.injEq, Value.tuple.injEq, true_and, and_true] at e
      obtain ⟨e1, e2, e3, e4⟩ := e
      have e1 : b = b' := by omega
      have e2 : s = s' := by omega
      have e4 : c = c' := by omega
      have e3 := KB (f := fun z : Nat => Value.int .i64 (z : Int)) (fun {x y} (h : Value.int .i64 (x : Int) = .int .i64 (y : Int)) => by simp only [Value.int.injEq, true_and] at h; omega) e3
      subst e1; subst e2; subst e3; subst e4
      exact h
    · have e : Et b s seen c = Hh C t' f := e
      simp [Et, Hh] at e
  · exact fun h => .inr (.inl ⟨b, s, seen, c, h, rfl⟩)
theorem Hi {g : Nat} {C : Array Value} {e : TypeId} {f : Nat × Nat} : Do w (g, none, Hh C e f) ↔ w.heap[g]? = some (.cells C e f) := by
  constructor
  · rintro (⟨es', c', h, e'⟩ | ⟨b', s', seen', c', h, e'⟩ | ⟨C', t', f', h, e'⟩)
    · have e' : Hh C e f = Fu es' c' := e'
      simp [Fu, Hh] at e'
    · have e' : Hh C e f = Et b' s' seen' c' := e'
      simp [Et, Hh] at e'
    · have e' : Hh C e f = Hh C' t' f' := e'
      obtain ⟨f1, f2⟩ := f
      obtain ⟨g1, g2⟩ := f'
      simp only [Hh, Array.mk.injEq, List.cons.injEq, Value.int.injEq, Value.tuple.injEq, true_and, and_true] at e'
      obtain ⟨e1, e2, e3, e4⟩ := e'
      have e2 : e = t' := by exact Int.ofNat.inj e2
      have e3 : f1 = g1 := by omega
      have e4 : f2 = g2 := by omega
      subst e1; subst e2; subst e3; subst e4
      exact h
  · exact fun h => .inr (.inr ⟨C, e, f, h, rfl⟩)
end rowx
def Fp (B : Nat) : List RowT → Prop
  | [] => True
  | x :: r => B ≤ x.1 ∧ (∀ y ∈ r, y.1 ≠ x.1) ∧ Fp B r
structure Hp (B : Nat) (w0 w : World) (rs : List RowT) : Prop where
  up : Up B w0 w
  rows : RowsOf w rs
  apart : Fp B rs
section hp
variable {B : Nat} {w0 w w' : World} {rs : List RowT}
theorem RowsOf.at_ : ∀ {rs : List RowT}, RowsOf w rs → ∀ (i : Nat) g (t : TypeId) cs, rs[i]? = some (g, Fa t, cs) → Dy w g t cs
  | [], _, i, g, t, cs, h => by simp at h
  | x :: r, hr, 0, g, t, cs, h => by
    simp only [List.getElem?_cons_zero, Option.some.injEq] at h
    subst h
    exact hr.1
  | x :: r, hr, i + 1, g, t, cs, h => by
    simp only [List.getElem?_cons_succ] at h
    exact RowsOf.at_ hr.2 i g t cs h
theorem RowsOf.map_ : ∀ {rs : List RowT}, RowsOf w rs → (∀ x ∈ rs, Do w x → Do w' x) → RowsOf w' rs
  | [], _, _ => trivial
  | (g, t, cs) :: r, hr, h => ⟨h (g, t, cs) (by simp) hr.1, RowsOf.map_ hr.2 fun x hx => h x (by simp [hx])⟩
theorem RowsOf.mem : ∀ {rs : List RowT}, RowsOf w rs → ∀ x ∈ rs, Do w x
  | [], _, x, h => by simp at h
  | (g, t, cs) :: r, hr, x, h => by
    rcases List.mem_cons.1 h with rfl | h
    · exact hr.1
    · exact RowsOf.mem hr.2 x h
theorem Fp.ge : ∀ {rs : List RowT}, Fp B rs → ∀ x ∈ rs, B ≤ x.1
  | [], _, x, h => by simp at h
  | y :: r, ha, x, h => by
    rcases List.mem_cons.1 h with rfl | h
    · exact ha.1
    · exact Fp.ge ha.2.2 x h
theorem Hp.start (w : World) : Hp w.heap.size w w [] := ⟨Up.refl w, trivial, trivial⟩
theorem Hp.row (h : Hp B w0 w rs) (i : Nat) {g : Nat} {t : TypeId} {cs : Array Value} (hi : rs[i]? = some (g, Fa t, cs)) : Dy w g t cs := h.rows.at_ i g t cs hi
theorem Hp.call (h : Hp B w0 w rs) (hb : Below w.heap.size w w') : Hp B w0 w' rs := ⟨h.up.trans hb, h.rows.map_ fun _ _ r => r.old hb, h.apart⟩
theorem Hp.new (h : Hp B w0 w rs) (t : TypeId) (cs : Array Value) : Hp B w0 (w.alloc (.cells cs t)) ((w.heap.size, Fa t, cs) :: rs) :=
 ⟨h.up.alloc _, ⟨Dy.new w t cs, h.rows.map_ fun _ _ r => r.alloc _⟩, h.up.size, fun y hy => by have := (h.rows.mem y hy).lt; omega, h.apart⟩
def Ex : List RowT → Nat → Array Value → List RowT
  | [], _, _ => []
  | (g, t, _) :: r, 0, c => (g, t, c) :: r
  | x :: r, i + 1, c => x :: Ex r i c
theorem Gc : ∀ {rs : List RowT} {i : Nat} {c : Array Value}, ∀ y ∈ Ex rs i c, ∃ x ∈ rs, x.1 = y.1
  | [], _, _, y, h => by simp [Ex] at h
  | (g, t, c0) :: r, 0, c, y, h => by
    unfold Ex at h
    rcases List.mem_cons.1 h with rfl | h
    · exact ⟨(g, t, c0), by simp, rfl⟩
    · exact ⟨y, by simp [h], rfl⟩
  | x :: r, i + 1, c, y, h => by
    unfold Ex at h
    rcases List.mem_cons.1 h with rfl | h
    · exact ⟨_, by simp, rfl⟩
    · obtain ⟨z, hz, e⟩ := Gc y h
      exact ⟨z, by simp [hz], e⟩
theorem Fp.set : ∀ {rs : List RowT} {i : Nat} {c : Array Value}, Fp B rs → Fp B (Ex rs i c)
  | [], _, _, _ => trivial
  | (g, t, _) :: r, 0, c, h => h
  | x :: r, i + 1, c, h => ⟨h.1, fun y hy => by obtain ⟨z, hz, e⟩ := Gc y hy; rw [← e]; exact h.2.1 z hz, Fp.set h.2.2⟩
theorem Hp.set (h : Hp B w0 w rs) : ∀ (i : Nat) {g : Nat} {t : TypeId} {cs c : Array Value}, rs[i]? = some (g, Fa t, cs) → Mod (N5 g) w w' → Dy w' g t c → Hp B w0 w' (Ex rs i c) := by
  intro i g t cs c hi hm hR
  have hmem : (g, Fa t, cs) ∈ rs := List.mem_of_getElem? hi
  refine ⟨h.up.one hm (h.apart.ge _ hmem), ?_, h.apart.set⟩
  have key : ∀ {rs : List RowT} (i : Nat), RowsOf w rs → Fp B rs → rs[i]? = some (g, Fa t, cs) → RowsOf w' (Ex rs i c) := by
    intro rs
    induction rs with
    | nil => intro i _ _ hi; simp at hi
    | cons x r ih =>
      intro i hr ha hi
      obtain ⟨g', t', cs'⟩ := x
      cases i with
      | zero =>
        simp only [List.getElem?_cons_zero, Option.some.injEq, Prod.mk.injEq] at hi
        obtain ⟨rfl, rfl, rfl⟩ := hi
        exact ⟨hR, hr.2.map_ fun y hy r => r.mod_ne hm (ha.2.1 y hy)⟩
      | succ i =>
        simp only [List.getElem?_cons_succ] at hi
        refine ⟨hr.1.mod_ne hm (fun e => ?_), ih i hr.2 ha.2.2 hi⟩
        exact ha.2.1 _ (List.mem_of_getElem? hi) e.symm
  exact key i h.rows h.apart hi
theorem Hp.drew (h : Hp B w0 w rs) : Hp B w0 w.drew rs := ⟨h.up.drew, h.rows.map_ fun _ _ r => r.drew, h.apart⟩
theorem Hp.sub (h : Hp B w0 w rs) {rs' : List RowT} (h1 : RowsOf w rs → RowsOf w rs') (h2 : Fp B rs → Fp B rs') : Hp B w0 w rs' := ⟨h.up, h1 h.rows, h2 h.apart⟩
end hp
def BU (P : Program) (ops : Array Oper) (Q : Exit → Act → World → Prop) (n : Nat) (env : List (Nat × Value)) (B : Nat) (w0 : World) (rs : List RowT) (l : List Oper) : Prop := ∀ a w, Fr n a env → Hp B w0 w rs → wpList P ops Q l a w
def AL (P : Program) (Q : Exit → Act → World → Prop) (n : Nat) (env : List (Nat × Value)) (B : Nat) (w0 : World) (rs : List RowT) (c : Code) : Prop := ∀ a w, Fr n a env → Hp B w0 w rs → c.wp P Q a w
def CE (Q : Exit → Act → World → Prop) (n : Nat) (env : List (Nat × Value)) (B : Nat) (w0 : World) (rs : List RowT) (e : Exit) : Prop := ∀ a w, Fr n a env → Hp B w0 w rs → Q e a w
def XG : List ((Nat × Nat) × Nat) → Nat → Nat → Option Nat
  | [], _, _ => none
  | ((s, f), k) :: r, S, F => match Nat.beq s S, Nat.beq f F with | true, true => some k | _, _ => XG r S F
def Og (P : Program) (fl : List ((Nat × Nat) × Nat)) : Prop := ∀ S f k, XG fl S f = some k → Bp P S f k
def Q0 (P : Program) : List ((Nat × Nat) × Nat) → Prop
  | [] => True
  | ((s, f), k) :: r => Bp P s f k ∧ Q0 P r
theorem Nt {P : Program} : ∀ {fl : List ((Nat × Nat) × Nat)}, Q0 P fl → Og P fl
  | [], _, S, f, k, h => by cases h
  | ((s, g), j) :: r, ha, S, f, k, h => by
    unfold XG at h
    cases h1 : Nat.beq s S with
    | false => simp only [h1] at h; exact Nt ha.2 S f k h
    | true =>
      cases h2 : Nat.beq g f with
      | false => simp only [h1, h2] at h; exact Nt ha.2 S f k h
      | true =>
        simp only [h1, h2, Option.some.injEq] at h
        have e1 := Nat.eq_of_beq_eq_true h1
        have e2 := Nat.eq_of_beq_eq_true h2
        subst e1; subst e2; subst h
        exact ha.1
def q1 (fl : List ((Nat × Nat) × Nat)) (o : Oper) (env : List (Nat × Value)) : Option Value :=
  match o.op with
  | .move x => evs env x
  | .assign x => evs env x
  | .extract x i => match evs env x with | some (.tuple vs) => vs[i]? | _ => none
  | .pick c a b => match evs env c with | some (.bool true) => evs env a | some (.bool false) => evs env b | _ => none
  | .unOp .not _ x => match evs env x with | some (.bool true) => some (.bool false) | some (.bool false) => some (.bool true) | _ => none
  | .fieldAddr S x f => match evs env x with
    | some (.pointer (some ⟨g, off, none⟩)) => match XG fl S f with | some k => some (.pointer (some ⟨g, off + k, none⟩)) | none => none
    | _ => none
  | _ => none
theorem Ah {P : Program} {fl : List ((Nat × Nat) × Nat)} (hfl : Og P fl) {o : Oper} {n : Nat} {env : List (Nat × Value)} {v : Value} {a : Act} {w : World} (h : q1 fl o env = some v) (hF : Fr n a env) : (execOp a.eval o).run P w = .ok (.value v) w := by
  unfold q1 at h
  split at h
  · exact R4 ‹_› h hF
  · exact Oa ‹_› h hF
  · rename_i x i ho
    cases hx : evs env x with
    | none => simp [hx] at h
    | some u =>
      cases u with
      | tuple vs => simp only [hx] at h; exact Jg ho hx h hF
      | _ => simp [hx] at h
  · rename_i c x y ho
    cases hx : evs env c with
    | none => simp [hx] at h
    | some u =>
      cases u with
      | bool b =>
        cases b with
        | true => simp only [hx] at h; exact ML (c := true) ho hx (by simpa using h) hF
        | false => simp only [hx] at h; exact ML (c := false) ho hx (by simpa using h) hF
      | _ => simp [hx] at h
  · rename_i T x ho
    cases hx : evs env x with
    | none => simp [hx] at h
    | some u =>
      cases u with
      | bool b =>
        cases b with
        | true => simp only [hx, Option.some.injEq] at h; subst h; exact Od ho hx rfl hF
        | false => simp only [hx, Option.some.injEq] at h; subst h; exact Od ho hx rfl hF
      | _ => simp [hx] at h
  · rename_i S x f ho
    cases hx : evs env x with
    | none => simp [hx] at h
    | some u =>
      cases u with
      | pointer p =>
        cases p with
        | none => simp [hx] at h
        | some ad =>
          obtain ⟨g, off, b⟩ := ad
          cases b with
          | some b => simp [hx] at h
          | none =>
            simp only [hx] at h
            cases hf : XG fl S f with
            | none => simp [hf] at h
            | some k =>
              simp only [hf, Option.some.injEq] at h
              subst h
              exact Lk (hfl S f k hf) ho hx hF
      | _ => simp [hx] at h
  · cases h
def Ll (fl : List ((Nat × Nat) × Nat)) (ops : Array Oper) (n : Nat) : List Oper → List (Nat × Value) → Option (List (Nat × Value) × List Oper)
  | [], env => some (env, [])
  | o :: r, env => match wants ops o env with
    | some false => match o.dst with
      | some d => match Nat.blt d n with | true => Ll fl ops n r ((d, undef) :: env) | false => none
      | none => none
    | some true => match q1 fl o env with
      | some v => match o.dst with
        | some d => match Nat.blt d n with | true => Ll fl ops n r ((d, v) :: env) | false => none
        | none => none
      | none => some (env, o :: r)
    | none => some (env, o :: r)
section wl2
variable {P : Program} {ops : Array Oper} {Q : Exit → Act → World → Prop} {n B : Nat} {w0 : World} {rs rs' : List RowT} {env env' : List (Nat × Value)} {l rest : List Oper} {o : Oper} {d : Nat} {fl : List ((Nat × Nat) × Nat)}
theorem Af (hfl : Og P fl) : ∀ {l : List Oper} {env : List (Nat × Value)}, Ll fl ops n l env = some (env', rest) → BU P ops Q n env' B w0 rs rest → BU P ops Q n env B w0 rs l
  | [], env, h, hk => by
    simp only [Ll, Option.some.injEq, Prod.mk.injEq] at h
    obtain ⟨rfl, rfl⟩ := h
    exact hk
  | o :: r, env, h, hk => by
    unfold Ll at h
    cases hw : wants ops o env with
    | none =>
      simp only [hw, Option.some.injEq, Prod.mk.injEq] at h
      obtain ⟨rfl, rfl⟩ := h
      exact hk
    | some b =>
      cases b with
      | false =>
        simp only [hw] at h
        cases hd : o.dst with
        | none => simp [hd] at h
        | some d =>
          simp only [hd] at h
          cases hn : Nat.blt d n with
          | false => simp [hn] at h
          | true =>
            simp only [hn] at h
            exact fun a w hF hH => No hF hw hd (EU hn) fun b hb => Af hfl h hk b w hb hH
      | true =>
        simp only [hw] at h
        cases hq : q1 fl o env with
        | none =>
          simp only [hq, Option.some.injEq, Prod.mk.injEq] at h
          obtain ⟨rfl, rfl⟩ := h
          exact hk
        | some v =>
          simp only [hq] at h
          cases hd : o.dst with
          | none => simp [hd] at h
          | some d =>
            simp only [hd] at h
            cases hn : Nat.blt d n with
            | false => simp [hn] at h
            | true =>
              simp only [hn] at h
              exact fun a w hF hH => R3 hF hw hd (EU hn) v (fun b hb => Ah hfl hq hb) fun b hb => Af hfl h hk b w hb hH
def Wq (ops : Array Oper) (n : Nat) (o : Oper) (env : List (Nat × Value)) : Option Nat := match wants ops o env with
  | some true => match o.dst with
    | some d => match Nat.blt d n with | true => some d | false => none
    | none => none
  | _ => none
theorem Ch (h : Wq ops n o env = some d) : wants ops o env = some true ∧ o.dst = some d ∧ d < n := by
  unfold Wq at h
  cases hw : wants ops o env with
  | none => simp [hw] at h
  | some b =>
    cases b with
    | false => simp [hw] at h
    | true =>
      simp only [hw] at h
      cases hd : o.dst with
      | none => simp [hd] at h
      | some d' =>
        simp only [hd] at h
        cases hn : Nat.blt d' n with
        | false => simp [hn] at h
        | true =>
          simp only [hn, Option.some.injEq] at h
          subst h
          exact ⟨rfl, rfl, EU hn⟩
theorem Aa (h1 : Wq ops n o env = some d) (v : Value) (hrun : ∀ b w, Fr n b env → Hp B w0 w rs → (execOp b.eval o).run P w = .ok (.value v) w) (h : BU P ops Q n ((d, v) :: env) B w0 rs rest) : BU P ops Q n env B w0 rs (o :: rest) :=
 fun a w hF hH => R3 hF (Ch h1).1 (Ch h1).2.1 (Ch h1).2.2 v (fun b hb => hrun b w hb hH) fun b hb => h b w hb hH
theorem AG (h : CE Q n env B w0 rs .normal) : BU P ops Q n env B w0 rs [] := h
theorem Ab {y : Code} (h : AL P Q n env B w0 rs y) : BU P ops (Exit.then (fun a w => y.wp P Q a w) Q) n env B w0 rs [] := h
theorem BU.keep (hs : GG env env') (h : BU P ops Q n env' B w0 rs l) : BU P ops Q n env B w0 rs l := fun a w hF hH => h a w (hF.keep hs) hH
theorem AL.keep {c : Code} (hs : GG env env') (h : AL P Q n env' B w0 rs c) : AL P Q n env B w0 rs c := fun a w hF hH => h a w (hF.keep hs) hH
theorem CE.keep {e : Exit} (hs : GG env env') (h : CE Q n env' B w0 rs e) : CE Q n env B w0 rs e := fun a w hF hH => h a w (hF.keep hs) hH
end wl2
section wc2
variable {P : Program} {Q : Exit → Act → World → Prop} {n B : Nat} {w0 : World} {rs : List RowT} {env : List (Nat × Value)}
theorem Ad {id : Nat} {l : List Oper} {y : Code} (h : BU P l.toArray (Exit.then (fun a w => y.wp P Q a w) Q) n env B w0 rs l) : AL P Q n env B w0 rs (.seq (.region id l.toArray false) y) := fun a w hF hH => wp_seq (wp_region_lit (h a w hF hH))
theorem BB {id : Nat} {l : List Oper} (h : BU P l.toArray Q n env B w0 rs l) : AL P Q n env B w0 rs (.region id l.toArray false) := fun a w hF hH => wp_region_lit (h a w hF hH)
theorem Ar {x y : Code} (h : AL P (Exit.then (fun a w => y.wp P Q a w) Q) n env B w0 rs x) : AL P Q n env B w0 rs (.seq x y) := fun a w hF hH => wp_seq (h a w hF hH)
theorem AE {c : Operand} {x y : Code} (hc : evs env c = some (.bool true)) (h : AL P Q n env B w0 rs x) : AL P Q n env B w0 rs (.cond c x y) := fun a w hF hH => Np hF hc (h a w hF hH)
theorem Au {c : Operand} {x y : Code} (hc : evs env c = some (.bool false)) (h : AL P Q n env B w0 rs y) : AL P Q n env B w0 rs (.cond c x y) := fun a w hF hH => Nq hF hc (h a w hF hH)
theorem Av (h : CE Q n env B w0 rs .normal) : AL P Q n env B w0 rs .skip := fun a w hF hH => wp_skip (h a w hF hH)
theorem AB (h : CE Q n env B w0 rs .ret) : AL P Q n env B w0 rs .ret := fun a w hF hH => wp_ret (h a w hF hH)
theorem AK {id : Nat} {c : Code} (h : AL P (Exit.inBlock id Q) n env B w0 rs c) : AL P Q n env B w0 rs (.block id c) := fun a w hF hH => wp_block (h a w hF hH)
theorem CJ {id : Nat} (h : CE Q n env B w0 rs (.exit id)) : AL P Q n env B w0 rs (.exit id) := fun a w hF hH => wp_exit (h a w hF hH)
theorem AC {y : Code} (h : AL P Q n env B w0 rs y) : CE (Exit.then (fun a w => y.wp P Q a w) Q) n env B w0 rs .normal := h
theorem A6 {id : Nat} (h : CE Q n env B w0 rs .normal) : CE (Exit.inBlock id Q) n env B w0 rs .normal := h
theorem Ek {K : Act → World → Prop} (h : CE Q n env B w0 rs .ret) : CE (Exit.then K Q) n env B w0 rs .ret := h
theorem BH {id : Nat} (h : CE Q n env B w0 rs .ret) : CE (Exit.inBlock id Q) n env B w0 rs .ret := h
theorem Fq {K : Act → World → Prop} {id : Nat} (h : CE Q n env B w0 rs (.exit id)) : CE (Exit.then K Q) n env B w0 rs (.exit id) := h
theorem Bg {id : Nat} (h : CE Q n env B w0 rs .normal) : CE (Exit.inBlock id Q) n env B w0 rs (.exit id) := fun a w hF hH => (if_pos rfl).mpr (h a w hF hH)
theorem E7 {id id' : Nat} (hne : id' ≠ id) (h : CE Q n env B w0 rs (.exit id')) : CE (Exit.inBlock id Q) n env B w0 rs (.exit id') := fun a w hF hH => (if_neg hne).mpr (h a w hF hH)
variable {fn : Func} {R : Ending → World → Prop}
inductive Res2 (P : Program) (env : List (Nat × Value)) (rs : List RowT) : ResultVar → Value → Prop
  | tmp {t : Tmp} {v : Value} (h : look env t = some v) : Res2 P env rs (.tmp t) v
  | cell (i : Nat) {s : Tmp} {T : TypeId} {g off : Nat} {t : TypeId} {cs : Array Value} {v : Value} (hv : KA P T cs off v) (h : look env s = some (.pointer (some ⟨g, off, none⟩))) (hi : rs[i]? = some (g, Fa t, cs)) : Res2 P env rs (.cell s T) v
theorem Res2.res {r : ResultVar} {v : Value} {w : World} (h : Res2 P env rs r v) (hH : Hp B w0 w rs) : Res P env w r v := by
  cases h with
  | tmp h => exact .tmp h
  | cell i hv h hi => exact .cell h hv (hH.row i hi)
theorem AA {r1 : ResultVar} {v1 : Value} (h1 : Res2 P env rs r1 v1) (hR : ∀ w, Hp B w0 w rs → R (.returned v1) w) (hr : fn.results = #[r1]) : CE (bodyPost P fn R) n env B w0 rs .ret := fun _ w hF hH => WP hF hr (h1.res hH) (hR w hH)
theorem Co {r1 r2 : ResultVar} {v1 v2 : Value} (h1 : Res2 P env rs r1 v1) (h2 : Res2 P env rs r2 v2) (hR : ∀ w, Hp B w0 w rs → R (.returned (.tuple #[v1, v2])) w) (hr : fn.results = #[r1, r2]) : CE (bodyPost P fn R) n env B w0 rs .ret := fun _ w hF hH => WQ hF hr (h1.res hH) (h2.res hH) (hR w hH)
theorem JY (hR : ∀ w, Hp B w0 w rs → R (.returned (.tuple #[])) w) (hr : fn.results = #[]) : CE (bodyPost P fn R) n env B w0 rs .ret := fun _ w hF hH => WR hF hr (hR w hH)
theorem D5 (hR : ∀ w, Hp B w0 w rs → R (.returned (.tuple #[])) w) (hr : fn.results = #[]) : CE (bodyPost P fn R) n env B w0 rs .normal := fun _ w hF hH => Tk hF hr (hR w hH)
theorem Gi {f : FuncId} {c : Code} {args : List Value} {w : World} (n : Nat) (hf : P.funcs[f]? = some fn) (hb : fn.body = some c) (hn : fn.ntmps = n) (hs : Nat.ble args.length n = true) (h : AL P (bodyPost P fn R) n (FJ 0 args) w.heap.size w [] c) : Calls P f args.toArray w R := Gp n hf hb hn (Nat.le_of_ble_eq_true hs) fun a hF => h a w hF (Hp.start w)
end wc2
section par2
variable {P : Program} {ops : Array Oper} {Q : Exit → Act → World → Prop} {n B : Nat} {w0 : World} {rs : List RowT} {env env0 : List (Nat × Value)} {jobs : List Job} {o : Oper} {deps : List Nat} {v : Value} {fl : List ((Nat × Nat) × Nat)} {kk : Nat}
def XH (P : Program) (ops : Array Oper) (Q : Exit → Act → World → Prop) (n : Nat) (jobs : List Job) (env0 : List (Nat × Value)) (B : Nat) (w0 : World) (rs : List RowT) (o : Oper) (j : Job) : Prop := ∀ w, Hp B w0 w rs → OB P ops Q n jobs env0 w o j
def Ey (P : Program) (ops : Array Oper) (Q : Exit → Act → World → Prop) (n : Nat) (jobs : List Job) (env0 : List (Nat × Value)) (B : Nat) (w0 : World) (rs : List RowT) : List Oper → List Job → Prop
  | o :: os, j :: js => XH P ops Q n jobs env0 B w0 rs o j ∧ Ey P ops Q n jobs env0 B w0 rs os js
  | _, _ => True
theorem Ey.all : ∀ {os : List Oper} {js : List Job}, Ey P ops Q n jobs env0 B w0 rs os js → ∀ w, Hp B w0 w rs → EQ P ops Q n w.heap.size jobs env0 (XB w) os js
  | [], _, _, _, _ => by unfold EQ; trivial
  | _ :: _, [], _, _, _ => by unfold EQ; trivial
  | _ :: _, _ :: _, h, w, hH => ⟨h.1 w hH, Ey.all h.2 w hH⟩
theorem RowsOf.app {w : World} : ∀ {a b : List RowT}, (∀ x ∈ a, Do w x) → RowsOf w b → RowsOf w (a ++ b)
  | [], _, _, hb => hb
  | (g, t, cs) :: r, _, ha, hb => ⟨ha (g, t, cs) (by simp), RowsOf.app (fun x hx => ha x (by simp [hx])) hb⟩
end par2
section orders2
variable {P : Program} {ops : Array Oper} {Q : Exit → Act → World → Prop} {n f i d B : Nat} {w0 : World} {rs : List RowT} {env env' : List (Nat × Value)} {listed : Array Bool} {o : Oper} {fl : List ((Nat × Nat) × Nat)}
def Oh (P : Program) (ops : Array Oper) (Q : Exit → Act → World → Prop) (n : Nat) (env : List (Nat × Value)) (B : Nat) (w0 : World) (rs : List RowT) (f : Nat) (listed : Array Bool) : Prop := ∀ a w, Fr n a env → Hp B w0 w rs → wpAny P .any ops Q f listed a w
end orders2
end Go.Proofs.YtjcfimmcogkopaaGreatDoor
namespace Go.Proofs.YtjcfimmcogkopaaGreatDoor
open Go.RowKit
def bs (l : List UInt8) : ByteArray := ⟨l.toArray⟩
theorem Jm (l : List UInt8) : (bs l).size = l.length := by simp [bs, ByteArray.size]
theorem Q1 (l : List UInt8) : (bs l).toList = l := by simp [bs, ByteArray.toList_eq]
theorem Q2 (l : List UInt8) : (bs l).data.toList = l := by simp [bs]
theorem WT (a b : List UInt8) : bs a ++ bs b = bs (a ++ b) := ByteArray.mk_append_mk a b
theorem Tp {a b : List UInt8} (h : bs a = bs b) : a = b := by rw [← Q2 a, h, Q2]
section
variable {P : Program} {ops : Array Oper} {Q : Exit → Act → World → Prop} {n B d : Nat} {w0 : World} {rs : List RowT} {env env0 : List (Nat × Value)} {rest : List Oper} {o : Oper} {a : Act} {w : World} {jobs : List Job} {deps : List Nat} {kk : Nat}
theorem Tq {T T' : TypeId} {x y : Operand} {l m : List UInt8} (ho : o.op = .binOp .add T x y T') (hx : evs env x = some (.string (bs l))) (hy : evs env y = some (.string (bs m))) (hs : l.length + m.length ≤ 9223372036854775807) (hF : Fr n a env) : (execOp a.eval o).run P w = .ok (.value (.string (bs (l ++ m)))) w := by
 unfold execOp
 have h : ¬ (((bs l).size + (bs m).size : Nat) : Int) > IntKind.i64.max := by rw [Jm, Jm]; show ¬ _ > (9223372036854775807 : Int); omega
 simp only [ho, hF.evs hx, hF.evs hy]
 simp only [eqGuard, binOp, Op.stringOp, if_neg h, WT]
 simp
theorem MM {T T' : TypeId} {x y : Operand} {l m : List UInt8} {c : Bool} (ho : o.op = .binOp .eql T x y T') (hx : evs env x = some (.string (bs l))) (hy : evs env y = some (.string (bs m))) (hc : (l == m) = c) (hF : Fr n a env) : (execOp a.eval o).run P w = .ok (.value (.bool c)) w := by
 unfold execOp
 subst hc
 simp only [ho, hF.evs hx, hF.evs hy]
 simp [eqGuard, binOp, Op.stringOp, Q1]
theorem EV {t : TypeId} (hu : P.underlying t = some .string) (l : List UInt8) (ty : TypeId) (w : World) (cs : Array Bool) : (builtin .len #[t] ty cs [.string (bs l)].toArray).run P w = .ok (.value (.int .i64 (l.length : Int))) w := by
 rw [Of hu, Jm]
end
end Go.Proofs.YtjcfimmcogkopaaGreatDoor
namespace Go.Proofs.YtjcfimmcogkopaaGreatDoor
open Go.RowKit
section loops
variable {P : Program} {Q : Exit → Act → World → Prop} {n B : Nat} {w0 : World} {rs rs' : List RowT} {env env' : List (Nat × Value)} {c : Code} {α : Type}
theorem RowsOf.drop {w : World} : ∀ {rs : List RowT} (k : Nat), RowsOf w rs → RowsOf w (rs.drop k)
  | _, 0, h => h
  | [], k + 1, _ => trivial
  | (g, t, cs) :: r, k + 1, h => RowsOf.drop (rs := r) k h.2
theorem Fp.drop : ∀ {rs : List RowT} (k : Nat), Fp B rs → Fp B (rs.drop k)
  | _, 0, h => h
  | [], k + 1, _ => trivial
  | x :: r, k + 1, h => Fp.drop (rs := r) k h.2.2
theorem Hp.drop {w : World} (h : Hp B w0 w rs) (k : Nat) : Hp B w0 w (rs.drop k) := h.sub (fun h => h.drop k) (fun h => h.drop k)
theorem AL.at_ (hs : GG env env') (hr : rs = rs') (h : AL P Q n env' B w0 rs' c) : AL P Q n env B w0 rs c := fun a w hF hH => h a w (hF.keep hs) (hr ▸ hH)
def KC (n B : Nat) (w0 : World) (E : α → List (Nat × Value)) (R : α → List RowT) (Inv : α → Prop) (μ : α → Nat) (x : α) : Act → World → Prop := fun a w => ∃ y, Inv y ∧ μ y < μ x ∧ Fr n a (E y) ∧ Hp B w0 w (R y)
theorem CC (E : α → List (Nat × Value)) (R : α → List RowT) (Inv : α → Prop) (μ : α → Nat) (x : α) (hx : Inv x) (hE : GG env (E x)) (hR : rs = R x) (h : ∀ x, Inv x → AL P (Exit.then (KC n B w0 E R Inv μ x) Q) n (E x) B w0 (R x) c) : AL P Q n env B w0 rs (.loop c) := by
  subst hR
  intro a w hF hH
  have key : ∀ m x, μ x < m → Inv x → ∀ a w, Fr n a (E x) → Hp B w0 w (R x) → Code.rounds P c Q m a w := by
    intro m
    induction m with
    | zero => intro x hx; omega
    | succ m ih =>
      intro x hm hx a w hF hH
      refine Code.wp_mono (fun e a' w' q => ?_) (h x hx a w hF hH)
      cases e with
      | normal =>
        obtain ⟨y, hy, hlt, hF', hH'⟩ := q
        exact ih y (by omega) hy a' w' hF' hH'
      | _ => exact q
  exact wp_loop_rounds _ (key _ x (Nat.lt_succ_self _) hx a w (hF.keep hE) hH)
theorem B6 {E : α → List (Nat × Value)} {R : α → List RowT} {Inv : α → Prop} {μ : α → Nat} {x : α} (y : α) (k : Nat) (hy : Inv y) (hμ : μ y < μ x) (hs : GG env (E y)) (hr : rs.drop k = R y) : CE (Exit.then (KC n B w0 E R Inv μ x) Q) n env B w0 rs .normal := fun _ _ hF hH => ⟨y, hy, hμ, hF.keep hs, hr ▸ hH.drop k⟩
end loops
section orders3
variable {P : Program} {ops : Array Oper} {Q : Exit → Act → World → Prop} {n fu i d B : Nat} {w0 : World} {rs : List RowT} {env : List (Nat × Value)} {listed : Array Bool} {o : Oper}
end orders3
section index
variable {P : Program} {n : Nat} {w : World} {env : List (Nat × Value)} {o : Oper}
theorem B4 {a : Act} {x : Operand} {p : Addr} (ho : o.op = .nilCheck x) (hx : evs env x = some (.pointer (some p))) (hF : Fr n a env) : (execOp a.eval o).run P w = .ok (.value (.pointer (some p))) w := by
 unfold execOp
 simp [ho, hF.evs hx]
def Tr (P : Program) (T : TypeId) (i : Int) (k : Nat) : Prop := ∀ g off w, (Instr.indexAt T (.pointer (some ⟨g, off, none⟩)) (.int .i64 i)).run P w = .ok (.pointer (some ⟨g, off + k, none⟩)) w
theorem Ts {a : Act} {T : TypeId} {x y : Operand} {i : Int} {k g off : Nat} (hf : Tr P T i k) (ho : o.op = .indexAddr T x y) (hx : evs env x = some (.pointer (some ⟨g, off, none⟩))) (hy : evs env y = some (.int .i64 i)) (hF : Fr n a env) : (execOp a.eval o).run P w = .ok (.value (.pointer (some ⟨g, off + k, none⟩))) w := by
 unfold execOp
 simp only [ho, hF.evs hx, hF.evs hy, Sem.run_bind, hf g off w, Result.andThen_ok, Sem.run_pure]
end index
end Go.Proofs.YtjcfimmcogkopaaGreatDoor
namespace Go.Proofs.YtjcfimmcogkopaaGreatDoor
open Go.RowKit
section
variable {P : Program} {ops : Array Oper} {Q : Exit → Act → World → Prop} {n B : Nat} {w0 w : World} {rs : List RowT} {env : List (Nat × Value)} {rest : List Oper} {o : Oper} {d : Nat}
theorem WU (l : List UInt8) (i : Nat) : (bs l)[i]? = l[i]? := by
  by_cases h : i < l.length
  · rw [List.getElem?_eq_getElem h]
    have h' : i < (bs l).size := by rw [Jm]; exact h
    rw [getElem?_pos (bs l) i h']
    simp [bs, ByteArray.getElem_eq_getElem_data]
  · rw [List.getElem?_eq_none (by omega)]
    have h' : ¬ i < (bs l).size := by rw [Jm]; exact h
    rw [getElem?_neg (bs l) i h']
theorem Lm {a : Act} {T : TypeId} (hT : P.underlying T = some .string) {x y : Operand} {l : List UInt8} {i : Nat} {b : UInt8} {k : IntKind} (hb : l[i]? = some b) (ho : o.op = .index T x y) (hx : evs env x = some (.string (bs l))) (hy : evs env y = some (.int k (i : Int))) (hF : Fr n a env) : (execOp a.eval o).run P w = .ok (.value (.int .u8 (b.toNat : Int))) w := by
 unfold execOp
 have h0 : (0 : Int) ≤ (i : Int) := by omega
 have hg : (bs l)[i]? = some b := by rw [WU, hb]
 simp [ho, hF.evs hx, hF.evs hy, Instr.index, asIntOf, run_underlying hT, h0, hg]
theorem Bi {a : Act} {T T' : TypeId} {u : TypeDesc} {k k' : IntKind} {p z : Int} {x : Operand} (hs : P.underlying T = some u) (hd : P.underlying T' = some (.int k)) (hz : k.wrap p = z) (ho : o.op = .convert T T' x) (hx : evs env x = some (.int k' p)) (hF : Fr n a env) : (execOp a.eval o).run P w = .ok (.value (.int k z)) w := by
 unfold execOp
 simp [ho, hF.evs hx, convert, run_underlying hs, run_underlying hd, Conv.intToInt, hz]
end
end Go.Proofs.YtjcfimmcogkopaaGreatDoor
namespace Go.Proofs.YtjcfimmcogkopaaGreatDoor
open Go.RowKit
section main
variable {P : Program} {ops : Array Oper} {Q : Exit → Act → World → Prop} {n B : Nat} {jobs : List Job} {env0 : List (Nat × Value)} {Φ : Nat → List Value → World → Prop} {D m : Nat}
end main
section par3
variable {P : Program} {ops : Array Oper} {Q : Exit → Act → World → Prop} {n B : Nat} {w0 : World} {rs : List RowT} {env : List (Nat × Value)}
theorem Oh.keep {f : Nat} {env' : List (Nat × Value)} {listed : Array Bool} (hs : GG env env') (h : Oh P ops Q n env' B w0 rs f listed) : Oh P ops Q n env B w0 rs f listed := fun a w hF hH => h a w (hF.keep hs) hH
end par3
end Go.Proofs.YtjcfimmcogkopaaGreatDoor
namespace Go.Proofs.YtjcfimmcogkopaaGreatDoor
open Go.RowKit
def Id : List Nat → (List Nat → Prop) → Prop
  | [], P => P []
  | x :: xs, P => Id xs P ∧ Id xs fun l => P (x :: l)
theorem Id.filter {c : Nat → Bool} : ∀ {out : List Nat} {P : List Nat → Prop}, Id out P → P (out.filter c)
  | [], _, h => h
  | x :: xs, P, h => by
    cases hc : c x with
    | true => rw [List.filter_cons_of_pos hc]; exact Id.filter (P := fun l => P (x :: l)) h.2
    | false => rw [List.filter_cons_of_neg (by rw [hc]; simp)]; exact Id.filter (P := P) h.1
section par4
variable {P : Program} {ops : Array Oper} {Q : Exit → Act → World → Prop} {n B : Nat} {w0 : World} {rs : List RowT} {env : List (Nat × Value)}
def WV (n : Nat) (B : Nat) (w0 : World) (E : List (Nat × Value)) (R : List RowT) : Exit → Act → World → Prop := fun e a w => e = .normal ∧ Fr n a E ∧ Hp B w0 w R
theorem Q3 {E : List (Nat × Value)} {R : List RowT} (k : Nat) (hs : GG env E) (hr : rs.drop k = R) : CE (WV n B w0 E R) n env B w0 rs .normal := fun _ _ hF hH => ⟨rfl, hF.keep hs, hr ▸ hH.drop k⟩
end par4
end Go.Proofs.YtjcfimmcogkopaaGreatDoor
