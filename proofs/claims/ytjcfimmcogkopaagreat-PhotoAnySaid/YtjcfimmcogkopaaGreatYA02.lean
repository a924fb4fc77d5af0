/-
  Walk · Hp · Bs · Loop · Bytes · ParO · ParE
-/
import Derived.Test.YtjcfimmcogkopaaGreatYA01
import Derived.IntWalk
import Derived.Laws.Concat
import Derived.Lib.SmallJoins
import Derived.LoopN
import Derived.Lib.SlBytesRow
set_option linter.unusedSimpArgs false
set_option linter.unusedVariables false
namespace Go.Proofs.YtjcfimmcogkopaaGreat
open Go.RowKit
def WL (P : Program) (ops : Array Oper) (Q : Exit → Act → World → Prop) (n : Nat) (env : List (Nat × Value)) (w : World) (l : List Oper) : Prop := ∀ a, Fr n a env → wpList P ops Q l a w
def WC (P : Program) (Q : Exit → Act → World → Prop) (n : Nat) (env : List (Nat × Value)) (w : World) (c : Code) : Prop := ∀ a, Fr n a env → c.wp P Q a w
def WE (Q : Exit → Act → World → Prop) (n : Nat) (env : List (Nat × Value)) (w : World) (e : Exit) : Prop := ∀ a, Fr n a env → Q e a w
section wl
variable {P : Program} {ops : Array Oper} {Q : Exit → Act → World → Prop} {n : Nat} {w : World} {env env' : List (Nat × Value)} {rest : List Oper} {o : Oper} {d : Nat}
theorem WL.keep (hs : FQ env env') (h : WL P ops Q n env' w rest) : WL P ops Q n env w rest := fun a hF => h a (hF.keep hs)
theorem WC.keep {c : Code} (hs : FQ env env') (h : WC P Q n env' w c) : WC P Q n env w c := fun a hF => h a (hF.keep hs)
theorem WE.keep {e : Exit} (hs : FQ env env') (h : WE Q n env' w e) : WE Q n env w e := fun a hF => h a (hF.keep hs)
def Nj : List Value → Bool
  | [] => true
  | v :: r => match v.oneCell' with | true => Nj r | false => false
theorem Il : ∀ {l : List Value}, Nj l = true → l.all (·.oneCell') = true
  | [], _ => rfl
  | v :: r, h => by
    unfold Nj at h
    cases hv : v.oneCell' with
    | false => rw [hv] at h; cases h
    | true => rw [hv] at h; have := Il h; simp_all
def Fy (op : BinOp) (a b : Int) : Option Bool := match op with | .eql => some (a == b) | .neq => some (a != b) | .lss => some (decide (a < b)) | .leq => some (decide (a ≤ b)) | .gtr => some (decide (a > b)) | .geq => some (decide (a ≥ b)) | _ => none
def Xm (op : BinOp) (a b : Int) : Option Int := match op with | .add => some (a + b) | .sub => some (a - b) | .mul => some (a * b) | _ => none
theorem Bc {a : Act} {op : BinOp} {T T' : TypeId} {x y : Operand} {k : IntKind} {p q : Int} {c : Bool} (ho : o.op = .binOp op T x y T') (hx : evs env x = some (.int k p)) (hy : evs env y = some (.int k q)) (hc : Fy op p q = some c) (hF : Fr n a env) : (execOp a.eval o).run P w = .ok (.value (.bool c)) w := by
 unfold execOp
 simp only [ho, hF.evs hx, hF.evs hy]
 cases op <;> simp only [Fy, Option.some.injEq, reduceCtorEq] at hc <;> subst hc <;> simp [eqGuard, binOp, Op.intCmp]
theorem AS {a : Act} {op : BinOp} {T T' : TypeId} {x y : Operand} {k : IntKind} {p q z z' : Int} (ho : o.op = .binOp op T x y T') (hx : evs env x = some (.int k p)) (hy : evs env y = some (.int k q)) (hc : Xm op p q = some z) (hz : k.wrap z = z') (hF : Fr n a env) : (execOp a.eval o).run P w = .ok (.value (.int k z')) w := by
 unfold execOp
 subst hz
 simp only [ho, hF.evs hx, hF.evs hy]
 cases op <;> simp only [Xm, Option.some.injEq, reduceCtorEq] at hc <;> subst hc <;> simp [eqGuard, binOp, Op.intArith]
theorem Nk {a : Act} {T : TypeId} {x : Operand} {c c' : Bool} (ho : o.op = .unOp .not T x) (hx : evs env x = some (.bool c)) (hc : (!c) = c') (hF : Fr n a env) : (execOp a.eval o).run P w = .ok (.value (.bool c')) w := by
 unfold execOp
 subst hc
 simp [ho, hF.evs hx, Op.unary]
def Bl (P : Program) (S : TypeId) (f k : Nat) : Prop := ∀ g off w, (Instr.fieldAt S (.pointer (some ⟨g, off, none⟩)) f).run P w = .ok (.pointer (some ⟨g, off + k, none⟩)) w
theorem Kd {a : Act} {S : TypeId} {x : Operand} {f k g off : Nat} (hf : Bl P S f k) (ho : o.op = .fieldAddr S x f) (hx : evs env x = some (.pointer (some ⟨g, off, none⟩))) (hF : Fr n a env) : (execOp a.eval o).run P w = .ok (.value (.pointer (some ⟨g, off + k, none⟩))) w := by
 unfold execOp
 simp only [ho, hF.evs hx, Sem.run_bind, hf g off w, Result.andThen_ok, Sem.run_pure]
def evp (env : List (Nat × Value)) : List (Nat × Operand) → Option (List (Nat × Value))
  | [] => some []
  | (i, x) :: r => match evs env x, evp env r with
    | some v, some l => some ((i, v) :: l)
    | _, _ => none
theorem Fr.evp {a : Act} (h : Fr n a env) : ∀ {xs : List (Nat × Operand)} {vs : List (Nat × Value)}, evp env xs = some vs → (xs.map fun (i, x) => (i, a.eval x)) = vs
  | [], vs, hx => by cases hx; rfl
  | (i, x) :: r, vs, hx => by
    unfold Go.Proofs.YtjcfimmcogkopaaGreat.evp at hx
    cases h1 : Go.Proofs.YtjcfimmcogkopaaGreat.evs env x with
    | none => simp [h1] at hx
    | some v =>
      cases h2 : Go.Proofs.YtjcfimmcogkopaaGreat.evp env r with
      | none => simp [h1, h2] at hx
      | some l =>
        simp only [h1, h2, Option.some.injEq] at hx
        subst hx
        rw [List.map_cons, Fr.evp h h2]
        show (i, a.eval x) :: l = _
        rw [h.evs h1]
theorem Bh {a : Act} {T : TypeId} {ps : Array (Nat × Operand)} {vs : List (Nat × Value)} {cs : Array Value} (ho : o.op = .build T ps) (hx : evp env ps.toList = some vs) (hc : P.built T vs = some cs) (hF : Fr n a env) : (execOp a.eval o).run P w = .ok (.value (.agg cs)) w := by
 unfold execOp
 have h1 : (ps.map fun (i, x) => (i, a.eval x)).toList = vs := by rw [← hF.evp hx]; simp
 simp only [ho, Sem.run_bind, run_build w T _ cs (by rw [h1]; exact hc), Result.andThen_ok, Sem.run_pure]
theorem BT {a : Act} {bi : Builtin} {args : Array Operand} {ats : Array TypeId} {vs : List Value} {v : Value} (ho : o.op = .call { callee := .builtin bi, args := args, argTypes := ats }) (hx : evl env args.toList = some vs) (hr : ∀ cs, (builtin bi ats o.type cs vs.toArray).run P w = .ok (.value v) w) (hF : Fr n a env) : (execOp a.eval o).run P w = .ok (.value v) w := by
 have h1 : args.map a.eval = vs.toArray := by
  have := hF.evl hx
  rw [← this]
  cases args; simp
 unfold execOp
 simp only [ho, resolve, invoke, Sem.run_bind, Sem.run_pure, Result.andThen_ok, h1]
 exact hr _
theorem Nl {k : IntKind} {a b c : Int} (h : (if b < a then b else a) = c) (ats : Array TypeId) (ty : TypeId) (w : World) (cs : Array Bool) : (builtin .min ats ty cs [.int k a, .int k b].toArray).run P w = .ok (.value (.int k c)) w := by
 subst h
 simp [builtin, Builtin.min_, Builtin.min2]
 try (split <;> simp_all)
theorem SE {k : IntKind} {a b c : Int} (h : (if a < b then b else a) = c) (ats : Array TypeId) (ty : TypeId) (w : World) (cs : Array Bool) : (builtin .max ats ty cs [.int k a, .int k b].toArray).run P w = .ok (.value (.int k c)) w := by
 subst h
 simp [builtin, Builtin.max_, Builtin.max2]
 try (split <;> simp_all)
theorem Nm {t : TypeId} (hu : P.underlying t = some .string) (s : ByteArray) (ty : TypeId) (w : World) (cs : Array Bool) : (builtin .len #[t] ty cs [.string s].toArray).run P w = .ok (.value (.int .i64 (s.size : Int))) w := by
 simp [builtin, Builtin.len_, run_underlying hu, goInt]
theorem Eu {t e : TypeId} (hu : P.underlying t = some (.slice e)) (A : Option Addr) (k c : Nat) (ty : TypeId) (w : World) (cs : Array Bool) : (builtin .len #[t] ty cs [.slice A k c].toArray).run P w = .ok (.value (.int .i64 (k : Int))) w := by
 simp [builtin, Builtin.len_, run_underlying hu, goInt]
end wl
section wc
variable {P : Program} {Q : Exit → Act → World → Prop} {n : Nat} {w : World} {env : List (Nat × Value)}
variable {fn : Func} {R : Ending → World → Prop}
end wc
section conv
variable {P : Program} {F : FuncId} {vs : Array Value} {w : World} {v : Value}
end conv
section par
variable {P : Program} {ops : Array Oper} {Q : Exit → Act → World → Prop} {n : Nat} {w : World} {env env0 : List (Nat × Value)} {jobs : List Job} {o : Oper}
abbrev WF (w : World) : Nat → List Value → World → Prop := fun _ _ W => Up w.heap.size w W
theorem WF.row {k : Nat} {σ : List Value} {W : World} {g : Nat} {t : TypeId} {cs : Array Value} (h : WF w k σ W) (hR : CY w g t cs) : CY W g t cs := hR.below h.below hR.lt
abbrev OB (P : Program) (ops : Array Oper) (Q : Exit → Act → World → Prop) (n : Nat) (jobs : List Job) (env0 : List (Nat × Value)) (w : World) (o : Oper) (j : Job) : Prop := Ob P ops Q n w.heap.size jobs env0 (WF w) o j
variable {deps : List Nat} {v : Value} {kk : Nat}
end par
section orders
variable {P : Program} {ops : Array Oper} {Q : Exit → Act → World → Prop} {n f i d : Nat} {w : World} {env env' : List (Nat × Value)} {listed : Array Bool} {o : Oper}
def WA (P : Program) (ops : Array Oper) (Q : Exit → Act → World → Prop) (n : Nat) (env : List (Nat × Value)) (w : World) (f : Nat) (listed : Array Bool) : Prop := ∀ a, Fr n a env → wpAny P .any ops Q f listed a w
def WO (P : Program) (ops : Array Oper) (Q : Exit → Act → World → Prop) (n : Nat) (env : List (Nat × Value)) (w : World) (f : Nat) (listed : Array Bool) (i : Nat) : Prop := ∀ a, Fr n a env → wpOp P ops Q i (wpAny P .any ops Q f (listed.setIfInBounds i true)) a w
theorem WA.keep (hs : FQ env env') (h : WA P ops Q n env' w f listed) : WA P ops Q n env w f listed := fun a hF => h a (hF.keep hs)
theorem AQ (ho : ops[i]? = some o) (hg : wants ops o env = some true) (hd : o.dst = none) {T : TypeId} {x y : Operand} {g off k : Nat} {t : TypeId} {cs : Array Value} {v : Value} (hop : o.op = .store T x y) (hx : evs env x = some (.pointer (some ⟨g, off, none⟩))) (hy : evs env y = some v) (hR : CY w g t cs) (hs : ∀ w, (sizeOf T).run P w = .ok k w) (hk : v.cells.size = k) (hl : off + k ≤ cs.size) (h1 : Nj v.cells.toList = true)
  (h : ∀ w', CY w' g t (over? cs.toList off v.cells.toList).toArray → Mod (Hq g) w w' → WA P ops Q n env w' f (listed.setIfInBounds i true)) : WO P ops Q n env w f listed i := fun a hF => by
 unfold wpOp
 simp only [ho]
 rw [if_pos (hF.wants hg)]
 refine .inl ?_
 obtain ⟨w', hr, hR', hm⟩ := D0 (P := P) g t v.cells.toList 0 cs w off hR (by simp; omega) (fun u hu => (List.all_eq_true.1 (Il h1)) u hu)
 have hrun : (execOp a.eval o).run P w = .ok .skip w' := by
  unfold execOp
  simp [hop, hF.evs hx, hF.evs hy, Instr.storeAt, Instr.sureAddr, storeVar, hs, hk, hr]
 unfold Oper.wp
 rw [hrun, Oper.upon_skip, hd]
 exact h _ (by simpa [over?] using hR') hm _ hF
end orders
end Go.Proofs.YtjcfimmcogkopaaGreat
namespace Go.Proofs.YtjcfimmcogkopaaGreat
open Go.RowKit
inductive RTy
  | ty (t : TypeId)
  | loop (l : Loop)
instance : Coe TypeId RTy := ⟨.ty⟩
instance (n : Nat) : OfNat RTy n := ⟨.ty n⟩
abbrev RowT := Nat × Option RTy × Array Value
abbrev Ed (t : TypeId) : Option RTy := some (.ty t)
instance (n : Nat) : OfNat (Option RTy) n := ⟨some (.ty n)⟩
def Qj (x : MapEntry) : Value := .tuple #[x.key, x.val, .int .i64 (x.born : Int)]
def EH (es : Array MapEntry) (c : Nat) : Array Value := #[.bool true, .int .i64 (c : Int), .tuple (es.map Qj)]
def DH (b since : Nat) (seen : Array Nat) (c : Nat) : Array Value := #[.bool false, .int .i64 (b : Int), .int .i64 (since : Int), .tuple (seen.map fun z : Nat => Value.int .i64 (z : Int)), .int .i64 (c : Int)]
def Ft (C : Array Value) (e : TypeId) (f : Nat × Nat) : Array Value := #[.tuple C, .int .i64 (e : Int), .int .i64 (f.1 : Int), .int .i64 (f.2 : Int)]
def VI (w : World) (g : Nat) (cs : Array Value) : Prop := (∃ es c, w.heap[g]? = some (.map es c) ∧ cs = EH es c) ∨ (∃ b s seen c, w.heap[g]? = some (.mapIter (some b) s seen c) ∧ cs = DH b s seen c) ∨ ∃ C e f, w.heap[g]? = some (.cells C e f) ∧ cs = Ft C e f
def CK (w : World) (x : RowT) : Prop := match x.2.1 with
  | some (.ty t) => CY w x.1 t x.2.2
  | some (.loop l) => w.heap[x.1]? = some (.loop l)
  | none => VI w x.1 x.2.2
def RowsOf (w : World) : List RowT → Prop
  | [] => True
  | x :: r => CK w x ∧ RowsOf w r
section rowx
variable {S : Nat → Prop} {w w' : World} {x : RowT}
theorem CK.obj (h : CK w x) : ∃ o, w.heap[x.1]? = some o ∧ ∀ w' : World, w'.heap[x.1]? = some o → CK w' x := by
  obtain ⟨g, t, cs⟩ := x
  cases t with
  | some t => cases t <;> exact ⟨_, h, fun w' h' => h'⟩
  | none =>
    rcases h with ⟨es, c, h1, h2⟩ | ⟨b, s, seen, c, h1, h2⟩ | ⟨C, e, f, h1, h2⟩
    · exact ⟨_, h1, fun w' h' => .inl ⟨es, c, h', h2⟩⟩
    · exact ⟨_, h1, fun w' h' => .inr (.inl ⟨b, s, seen, c, h', h2⟩)⟩
    · exact ⟨_, h1, fun w' h' => .inr (.inr ⟨C, e, f, h', h2⟩)⟩
theorem CK.ne_obj {o : Obj} (h : CK w x) (e : w.heap[x.1]? = some o) (h1 : ∀ c t f, o ≠ .cells c t f) (h2 : ∀ es c, o ≠ .map es c) (h3 : ∀ b s seen c, o ≠ .mapIter b s seen c) (h0 : ∀ l, o ≠ .loop l) : False := by
  obtain ⟨g, t, cs⟩ := x
  cases t with
  | some t =>
    cases t with
    | ty t =>
      have h : w.heap[g]? = some (.cells cs t (0, 0)) := h
      exact h1 _ _ _ (Option.some.inj (e.symm.trans h))
    | loop l =>
      have h : w.heap[g]? = some (.loop l) := h
      exact h0 _ (Option.some.inj (e.symm.trans h))
  | none =>
    rcases h with ⟨es, c, h4, _⟩ | ⟨b, s, seen, c, h4, _⟩ | ⟨C, t', f, h4, _⟩
    · exact h2 _ _ (Option.some.inj (e.symm.trans h4))
    · exact h3 _ _ _ _ (Option.some.inj (e.symm.trans h4))
    · exact h1 _ _ _ (Option.some.inj (e.symm.trans h4))
theorem CK.lt (h : CK w x) : x.1 < w.heap.size := by
 obtain ⟨o, h1, _⟩ := h.obj
 exact (Array.getElem?_eq_some_iff.1 h1).1
theorem CK.same (h : CK w x) (e : w'.heap[x.1]? = w.heap[x.1]?) : CK w' x := by
 obtain ⟨o, h1, h2⟩ := h.obj
 exact h2 w' (e.trans h1)
theorem CK.mod (h : CK w x) (hm : Mod S w w') (hn : ¬ S x.1) : CK w' x := h.same (hm.block x.1 h.lt hn)
theorem CK.below {B : Nat} (h : CK w x) (hb : Below B w w') (hg : x.1 < B) : CK w' x := h.same (hb.block x.1 hg)
theorem CK.old (h : CK w x) (hb : Below w.heap.size w w') : CK w' x := h.below hb h.lt
theorem CK.alloc (h : CK w x) (o : Obj) : CK (w.alloc o) x := h.same (Below.heap_alloc w o x.1 h.lt)
theorem CK.drew (h : CK w x) : CK w.drew x := h.same rfl
theorem CK.mod_ne {g' : Nat} (h : CK w x) (hm : Mod (Hq g') w w') (hn : x.1 ≠ g') : CK w' x := h.mod hm (fun e => hn e)
theorem Ri {x y : MapEntry} (h : Qj x = Qj y) : x = y := by
 obtain ⟨a, b, c⟩ := x
 obtain ⟨a', b', c'⟩ := y
 simp only [Qj, Value.tuple.injEq, Array.mk.injEq, List.cons.injEq, Value.int.injEq, true_and, and_true] at h
 obtain ⟨rfl, rfl, h3⟩ := h
 have h3 : c = c' := by omega
 rw [h3]
theorem JC {α β : Type} {f : α → β} (hf : ∀ {x y}, f x = f y → x = y) {a b : Array α} (h : a.map f = b.map f) : a = b := by
 obtain ⟨a⟩ := a
 obtain ⟨b⟩ := b
 have h : a.map f = b.map f := by simpa using h
 rw [(List.map_inj_right (fun _ _ => hf)).1 h]
theorem Dq {g : Nat} {es : Array MapEntry} {c : Nat} : CK w (g, none, EH es c) ↔ w.heap[g]? = some (.map es c) := by
  constructor
  · rintro (⟨es', c', h, e⟩ | ⟨b, s, seen, c', h, e⟩ | ⟨C, t', f, h, e⟩)
    · have e : EH es c = EH es' c' := e
      simp only [EH, Array.mk.injEq, List.cons.injEq, Value.int.injEq, Value.tuple.injEq, true_and, and_true] at e
      obtain ⟨e1, e2⟩ := e
      have e1 : c = c' := by omega
      have e2 := JC Ri e2
      subst e1; subst e2
      exact h
    · have e : EH es c = DH b s seen c' := e
      simp [EH, DH] at e
    · have e : EH es c = Ft C t' f := e
      simp [EH, Ft] at e
  · exact fun h => .inl ⟨es, c, h, rfl⟩
theorem GZ {g b s c : Nat} {seen : Array Nat} : CK w (g, none, DH b s seen c) ↔ w.heap[g]? = some (.mapIter (some b) s seen c) := by
  constructor
  · rintro (⟨es', c', h, e⟩ | ⟨b', s', seen', c', h, e⟩ | ⟨C, t', f, h, e⟩)
    · have e : DH b s seen c = EH es' c' := e
      simp [EH, DH] at e
    · have e : DH b s seen c = DH b' s' seen' c' := e
      simp only [DH, Array.mk.injEq, List.cons.injEq, Value.int.injEq, Value.tuple.injEq, true_and, and_true] at e
      obtain ⟨e1, e2, e3, e4⟩ := e
      have e1 : b = b' := by omega
      have e2 : s = s' := by omega
      have e4 : c = c' := by omega
      have e3 := JC (f := fun z : Nat => Value.int .i64 (z : Int)) (fun {x y} (h : Value.int .i64 (x : Int) = .int .i64 (y : Int)) => by simp only [Value.int.injEq, true_and] at h; omega) e3
      subst e1; subst e2; subst e3; subst e4
      exact h
    · have e : DH b s seen c = Ft C t' f := e
      simp [DH, Ft] at e
  · exact fun h => .inr (.inl ⟨b, s, seen, c, h, rfl⟩)
theorem Nn {g : Nat} {C : Array Value} {e : TypeId} {f : Nat × Nat} : CK w (g, none, Ft C e f) ↔ w.heap[g]? = some (.cells C e f) := by
  constructor
  · rintro (⟨es', c', h, e'⟩ | ⟨b', s', seen', c', h, e'⟩ | ⟨C', t', f', h, e'⟩)
    · have e' : Ft C e f = EH es' c' := e'
      simp [EH, Ft] at e'
    · have e' : Ft C e f = DH b' s' seen' c' := e'
      simp [DH, Ft] at e'
    · have e' : Ft C e f = Ft C' t' f' := e'
      obtain ⟨f1, f2⟩ := f
      obtain ⟨g1, g2⟩ := f'
      simp only [Ft, Array.mk.injEq, List.cons.injEq, Value.int.injEq, Value.tuple.injEq, true_and, and_true] at e'
      obtain ⟨e1, e2, e3, e4⟩ := e'
      have e2 : e = t' := by exact Int.ofNat.inj e2
      have e3 : f1 = g1 := by omega
      have e4 : f2 = g2 := by omega
      subst e1; subst e2; subst e3; subst e4
      exact h
  · exact fun h => .inr (.inr ⟨C, e, f, h, rfl⟩)
end rowx
def EM (B : Nat) : List RowT → Prop
  | [] => True
  | x :: r => B ≤ x.1 ∧ (∀ y ∈ r, y.1 ≠ x.1) ∧ EM B r
structure Hp (B : Nat) (w0 w : World) (rs : List RowT) : Prop where
  up : Up B w0 w
  rows : RowsOf w rs
  apart : EM B rs
section hp
variable {B : Nat} {w0 w w' : World} {rs : List RowT}
theorem RowsOf.at_ : ∀ {rs : List RowT}, RowsOf w rs → ∀ (i : Nat) g (t : TypeId) cs, rs[i]? = some (g, Ed t, cs) → CY w g t cs
  | [], _, i, g, t, cs, h => by simp at h
  | x :: r, hr, 0, g, t, cs, h => by
    simp only [List.getElem?_cons_zero, Option.some.injEq] at h
    subst h
    exact hr.1
  | x :: r, hr, i + 1, g, t, cs, h => by
    simp only [List.getElem?_cons_succ] at h
    exact RowsOf.at_ hr.2 i g t cs h
theorem RowsOf.map_ : ∀ {rs : List RowT}, RowsOf w rs → (∀ x ∈ rs, CK w x → CK w' x) → RowsOf w' rs
  | [], _, _ => trivial
  | (g, t, cs) :: r, hr, h => ⟨h (g, t, cs) (by simp) hr.1, RowsOf.map_ hr.2 fun x hx => h x (by simp [hx])⟩
theorem RowsOf.mem : ∀ {rs : List RowT}, RowsOf w rs → ∀ x ∈ rs, CK w x
  | [], _, x, h => by simp at h
  | (g, t, cs) :: r, hr, x, h => by
    rcases List.mem_cons.1 h with rfl | h
    · exact hr.1
    · exact RowsOf.mem hr.2 x h
theorem EM.ge : ∀ {rs : List RowT}, EM B rs → ∀ x ∈ rs, B ≤ x.1
  | [], _, x, h => by simp at h
  | y :: r, ha, x, h => by
    rcases List.mem_cons.1 h with rfl | h
    · exact ha.1
    · exact EM.ge ha.2.2 x h
theorem Hp.start (w : World) : Hp w.heap.size w w [] := ⟨Up.refl w, trivial, trivial⟩
theorem Hp.row (h : Hp B w0 w rs) (i : Nat) {g : Nat} {t : TypeId} {cs : Array Value} (hi : rs[i]? = some (g, Ed t, cs)) : CY w g t cs := h.rows.at_ i g t cs hi
theorem Hp.call (h : Hp B w0 w rs) (hb : Below w.heap.size w w') : Hp B w0 w' rs := ⟨h.up.trans hb, h.rows.map_ fun _ _ r => r.old hb, h.apart⟩
theorem Hp.new (h : Hp B w0 w rs) (t : TypeId) (cs : Array Value) : Hp B w0 (w.alloc (.cells cs t)) ((w.heap.size, Ed t, cs) :: rs) :=
 ⟨h.up.alloc _, ⟨CY.new w t cs, h.rows.map_ fun _ _ r => r.alloc _⟩, h.up.size, fun y hy => by have := (h.rows.mem y hy).lt; omega, h.apart⟩
def D1 : List RowT → Nat → Array Value → List RowT
  | [], _, _ => []
  | (g, t, _) :: r, 0, c => (g, t, c) :: r
  | x :: r, i + 1, c => x :: D1 r i c
theorem Fk : ∀ {rs : List RowT} {i : Nat} {c : Array Value}, ∀ y ∈ D1 rs i c, ∃ x ∈ rs, x.1 = y.1
  | [], _, _, y, h => by simp [D1] at h
  | (g, t, c0) :: r, 0, c, y, h => by
    unfold D1 at h
    rcases List.mem_cons.1 h with rfl | h
    · exact ⟨(g, t, c0), by simp, rfl⟩
    · exact ⟨y, by simp [h], rfl⟩
  | x :: r, i + 1, c, y, h => by
    unfold D1 at h
    rcases List.mem_cons.1 h with rfl | h
    · exact ⟨_, by simp, rfl⟩
    · obtain ⟨z, hz, e⟩ := Fk y h
      exact ⟨z, by simp [hz], e⟩
theorem EM.set : ∀ {rs : List RowT} {i : Nat} {c : Array Value}, EM B rs → EM B (D1 rs i c)
  | [], _, _, _ => trivial
  | (g, t, _) :: r, 0, c, h => h
  | x :: r, i + 1, c, h => ⟨h.1, fun y hy => by obtain ⟨z, hz, e⟩ := Fk y hy; rw [← e]; exact h.2.1 z hz, EM.set h.2.2⟩
theorem Hp.set (h : Hp B w0 w rs) : ∀ (i : Nat) {g : Nat} {t : TypeId} {cs c : Array Value}, rs[i]? = some (g, Ed t, cs) → Mod (Hq g) w w' → CY w' g t c → Hp B w0 w' (D1 rs i c) := by
  intro i g t cs c hi hm hR
  have hmem : (g, Ed t, cs) ∈ rs := List.mem_of_getElem? hi
  refine ⟨h.up.one hm (h.apart.ge _ hmem), ?_, h.apart.set⟩
  have key : ∀ {rs : List RowT} (i : Nat), RowsOf w rs → EM B rs → rs[i]? = some (g, Ed t, cs) → RowsOf w' (D1 rs i c) := by
    intro rs
    induction rs with
    | nil => intro i _ _ hi; simp at hi
    | cons x r ih =>
      intro i hr ha hi
      obtain ⟨g', t', cs'⟩ := x
      cases i with
      | zero =>
        simp only [List.getElem?_cons_zero, Option.some.injEq, Prod.mk.injEq] at hi
        obtain ⟨rfl, rfl, rfl⟩ := hi
        exact ⟨hR, hr.2.map_ fun y hy r => r.mod_ne hm (ha.2.1 y hy)⟩
      | succ i =>
        simp only [List.getElem?_cons_succ] at hi
        refine ⟨hr.1.mod_ne hm (fun e => ?_), ih i hr.2 ha.2.2 hi⟩
        exact ha.2.1 _ (List.mem_of_getElem? hi) e.symm
  exact key i h.rows h.apart hi
theorem Hp.drew (h : Hp B w0 w rs) : Hp B w0 w.drew rs := ⟨h.up.drew, h.rows.map_ fun _ _ r => r.drew, h.apart⟩
theorem Hp.sub (h : Hp B w0 w rs) {rs' : List RowT} (h1 : RowsOf w rs → RowsOf w rs') (h2 : EM B rs → EM B rs') : Hp B w0 w rs' := ⟨h.up, h1 h.rows, h2 h.apart⟩
end hp
def Ce (P : Program) (ops : Array Oper) (Q : Exit → Act → World → Prop) (n : Nat) (env : List (Nat × Value)) (B : Nat) (w0 : World) (rs : List RowT) (l : List Oper) : Prop := ∀ a w, Fr n a env → Hp B w0 w rs → wpList P ops Q l a w
def Bv (P : Program) (Q : Exit → Act → World → Prop) (n : Nat) (env : List (Nat × Value)) (B : Nat) (w0 : World) (rs : List RowT) (c : Code) : Prop := ∀ a w, Fr n a env → Hp B w0 w rs → c.wp P Q a w
def CA (Q : Exit → Act → World → Prop) (n : Nat) (env : List (Nat × Value)) (B : Nat) (w0 : World) (rs : List RowT) (e : Exit) : Prop := ∀ a w, Fr n a env → Hp B w0 w rs → Q e a w
def WG : List ((Nat × Nat) × Nat) → Nat → Nat → Option Nat
  | [], _, _ => none
  | ((s, f), k) :: r, S, F => match Nat.beq s S, Nat.beq f F with | true, true => some k | _, _ => WG r S F
def Ke (P : Program) (fl : List ((Nat × Nat) × Nat)) : Prop := ∀ S f k, WG fl S f = some k → Bl P S f k
def Mn (P : Program) : List ((Nat × Nat) × Nat) → Prop
  | [] => True
  | ((s, f), k) :: r => Bl P s f k ∧ Mn P r
theorem Mo {P : Program} : ∀ {fl : List ((Nat × Nat) × Nat)}, Mn P fl → Ke P fl
  | [], _, S, f, k, h => by cases h
  | ((s, g), j) :: r, ha, S, f, k, h => by
    unfold WG at h
    cases h1 : Nat.beq s S with
    | false => simp only [h1] at h; exact Mo ha.2 S f k h
    | true =>
      cases h2 : Nat.beq g f with
      | false => simp only [h1, h2] at h; exact Mo ha.2 S f k h
      | true =>
        simp only [h1, h2, Option.some.injEq] at h
        have e1 := Nat.eq_of_beq_eq_true h1
        have e2 := Nat.eq_of_beq_eq_true h2
        subst e1; subst e2; subst h
        exact ha.1
def q1 (fl : List ((Nat × Nat) × Nat)) (o : Oper) (env : List (Nat × Value)) : Option Value :=
  match o.op with
  | .move x => evs env x
  | .assign x => evs env x
  | .extract x i => match evs env x with | some (.tuple vs) => vs[i]? | _ => none
  | .pick c a b => match evs env c with | some (.bool true) => evs env a | some (.bool false) => evs env b | _ => none
  | .unOp .not _ x => match evs env x with | some (.bool true) => some (.bool false) | some (.bool false) => some (.bool true) | _ => none
  | .fieldAddr S x f => match evs env x with
    | some (.pointer (some ⟨g, off, none⟩)) => match WG fl S f with | some k => some (.pointer (some ⟨g, off + k, none⟩)) | none => none
    | _ => none
  | _ => none
theorem Ae {P : Program} {fl : List ((Nat × Nat) × Nat)} (hfl : Ke P fl) {o : Oper} {n : Nat} {env : List (Nat × Value)} {v : Value} {a : Act} {w : World} (h : q1 fl o env = some v) (hF : Fr n a env) : (execOp a.eval o).run P w = .ok (.value v) w := by
  unfold q1 at h
  split at h
  · exact Rg ‹_› h hF
  · exact Ng ‹_› h hF
  · rename_i x i ho
    cases hx : evs env x with
    | none => simp [hx] at h
    | some u =>
      cases u with
      | tuple vs => simp only [hx] at h; exact Mj ho hx h hF
      | _ => simp [hx] at h
  · rename_i c x y ho
    cases hx : evs env c with
    | none => simp [hx] at h
    | some u =>
      cases u with
      | bool b =>
        cases b with
        | true => simp only [hx] at h; exact Lt (c := true) ho hx (by simpa using h) hF
        | false => simp only [hx] at h; exact Lt (c := false) ho hx (by simpa using h) hF
      | _ => simp [hx] at h
  · rename_i T x ho
    cases hx : evs env x with
    | none => simp [hx] at h
    | some u =>
      cases u with
      | bool b =>
        cases b with
        | true => simp only [hx, Option.some.injEq] at h; subst h; exact Nk ho hx rfl hF
        | false => simp only [hx, Option.some.injEq] at h; subst h; exact Nk ho hx rfl hF
      | _ => simp [hx] at h
  · rename_i S x f ho
    cases hx : evs env x with
    | none => simp [hx] at h
    | some u =>
      cases u with
      | pointer p =>
        cases p with
        | none => simp [hx] at h
        | some ad =>
          obtain ⟨g, off, b⟩ := ad
          cases b with
          | some b => simp [hx] at h
          | none =>
            simp only [hx] at h
            cases hf : WG fl S f with
            | none => simp [hf] at h
            | some k =>
              simp only [hf, Option.some.injEq] at h
              subst h
              exact Kd (hfl S f k hf) ho hx hF
      | _ => simp [hx] at h
  · cases h
def Kf (fl : List ((Nat × Nat) × Nat)) (ops : Array Oper) (n : Nat) : List Oper → List (Nat × Value) → Option (List (Nat × Value) × List Oper)
  | [], env => some (env, [])
  | o :: r, env => match wants ops o env with
    | some false => match o.dst with
      | some d => match Nat.blt d n with | true => Kf fl ops n r ((d, undef) :: env) | false => none
      | none => none
    | some true => match q1 fl o env with
      | some v => match o.dst with
        | some d => match Nat.blt d n with | true => Kf fl ops n r ((d, v) :: env) | false => none
        | none => none
      | none => some (env, o :: r)
    | none => some (env, o :: r)
section wl2
variable {P : Program} {ops : Array Oper} {Q : Exit → Act → World → Prop} {n B : Nat} {w0 : World} {rs rs' : List RowT} {env env' : List (Nat × Value)} {l rest : List Oper} {o : Oper} {d : Nat} {fl : List ((Nat × Nat) × Nat)}
theorem Af (hfl : Ke P fl) : ∀ {l : List Oper} {env : List (Nat × Value)}, Kf fl ops n l env = some (env', rest) → Ce P ops Q n env' B w0 rs rest → Ce P ops Q n env B w0 rs l
  | [], env, h, hk => by
    simp only [Kf, Option.some.injEq, Prod.mk.injEq] at h
    obtain ⟨rfl, rfl⟩ := h
    exact hk
  | o :: r, env, h, hk => by
    unfold Kf at h
    cases hw : wants ops o env with
    | none =>
      simp only [hw, Option.some.injEq, Prod.mk.injEq] at h
      obtain ⟨rfl, rfl⟩ := h
      exact hk
    | some b =>
      cases b with
      | false =>
        simp only [hw] at h
        cases hd : o.dst with
        | none => simp [hd] at h
        | some d =>
          simp only [hd] at h
          cases hn : Nat.blt d n with
          | false => simp [hn] at h
          | true =>
            simp only [hn] at h
            exact fun a w hF hH => Mi hF hw hd (El hn) fun b hb => Af hfl h hk b w hb hH
      | true =>
        simp only [hw] at h
        cases hq : q1 fl o env with
        | none =>
          simp only [hq, Option.some.injEq, Prod.mk.injEq] at h
          obtain ⟨rfl, rfl⟩ := h
          exact hk
        | some v =>
          simp only [hq] at h
          cases hd : o.dst with
          | none => simp [hd] at h
          | some d =>
            simp only [hd] at h
            cases hn : Nat.blt d n with
            | false => simp [hn] at h
            | true =>
              simp only [hn] at h
              exact fun a w hF hH => Rf hF hw hd (El hn) v (fun b hb => Ae hfl hq hb) fun b hb => Af hfl h hk b w hb hH
def Vq (ops : Array Oper) (n : Nat) (o : Oper) (env : List (Nat × Value)) : Option Nat := match wants ops o env with
  | some true => match o.dst with
    | some d => match Nat.blt d n with | true => some d | false => none
    | none => none
  | _ => none
theorem B8 (h : Vq ops n o env = some d) : wants ops o env = some true ∧ o.dst = some d ∧ d < n := by
  unfold Vq at h
  cases hw : wants ops o env with
  | none => simp [hw] at h
  | some b =>
    cases b with
    | false => simp [hw] at h
    | true =>
      simp only [hw] at h
      cases hd : o.dst with
      | none => simp [hd] at h
      | some d' =>
        simp only [hd] at h
        cases hn : Nat.blt d' n with
        | false => simp [hn] at h
        | true =>
          simp only [hn, Option.some.injEq] at h
          subst h
          exact ⟨rfl, rfl, El hn⟩
theorem Ac (h1 : Vq ops n o env = some d) (v : Value) (hrun : ∀ b w, Fr n b env → Hp B w0 w rs → (execOp b.eval o).run P w = .ok (.value v) w) (h : Ce P ops Q n ((d, v) :: env) B w0 rs rest) : Ce P ops Q n env B w0 rs (o :: rest) :=
 fun a w hF hH => Rf hF (B8 h1).1 (B8 h1).2.1 (B8 h1).2.2 v (fun b hb => hrun b w hb hH) fun b hb => h b w hb hH
def SF (P : Program) (T : TypeId) (u v : Value) (c : Bool) : Prop := ∀ x y w, (do eqGuard .eql T x y u v; binOp .eql T u v : Sem Value).run P w = .ok (.bool c) w
def WK (P : Program) (T : TypeId) (u v : Value) (c : Bool) : Prop := ∀ x y w, (do eqGuard .neq T x y u v; binOp .neq T u v : Sem Value).run P w = .ok (.bool c) w
theorem Im {a : Act} {w : World} {T T' : TypeId} {x y : Operand} {u v : Value} {c : Bool} (he : SF P T u v c) (ho : o.op = .binOp .eql T x y T') (hx : evs env x = some u) (hy : evs env y = some v) (hF : Fr n a env) : (execOp a.eval o).run P w = .ok (.value (.bool c)) w := by
 unfold execOp
 have := he x y w
 simp only [ho, hF.evs hx, hF.evs hy]
 rw [Sem.run_bind, this]
 rfl
theorem No {a : Act} {w : World} {T T' : TypeId} {x y : Operand} {u v : Value} {c : Bool} (he : WK P T u v c) (ho : o.op = .binOp .neq T x y T') (hx : evs env x = some u) (hy : evs env y = some v) (hF : Fr n a env) : (execOp a.eval o).run P w = .ok (.value (.bool c)) w := by
 unfold execOp
 have := he x y w
 simp only [ho, hF.evs hx, hF.evs hy]
 rw [Sem.run_bind, this]
 rfl
theorem Bi (h : CA Q n env B w0 rs .normal) : Ce P ops Q n env B w0 rs [] := h
theorem Ab {y : Code} (h : Bv P Q n env B w0 rs y) : Ce P ops (Exit.then (fun a w => y.wp P Q a w) Q) n env B w0 rs [] := h
theorem Ce.keep (hs : FQ env env') (h : Ce P ops Q n env' B w0 rs l) : Ce P ops Q n env B w0 rs l := fun a w hF hH => h a w (hF.keep hs) hH
theorem Bv.keep {c : Code} (hs : FQ env env') (h : Bv P Q n env' B w0 rs c) : Bv P Q n env B w0 rs c := fun a w hF hH => h a w (hF.keep hs) hH
theorem CA.keep {e : Exit} (hs : FQ env env') (h : CA Q n env' B w0 rs e) : CA Q n env B w0 rs e := fun a w hF hH => h a w (hF.keep hs) hH
end wl2
section wc2
variable {P : Program} {Q : Exit → Act → World → Prop} {n B : Nat} {w0 : World} {rs : List RowT} {env : List (Nat × Value)}
theorem Ad {id : Nat} {l : List Oper} {y : Code} (h : Ce P l.toArray (Exit.then (fun a w => y.wp P Q a w) Q) n env B w0 rs l) : Bv P Q n env B w0 rs (.seq (.region id l.toArray false) y) := fun a w hF hH => wp_seq (wp_region_lit (h a w hF hH))
theorem BV {id : Nat} {l : List Oper} (h : Ce P l.toArray Q n env B w0 rs l) : Bv P Q n env B w0 rs (.region id l.toArray false) := fun a w hF hH => wp_region_lit (h a w hF hH)
theorem Aq {x y : Code} (h : Bv P (Exit.then (fun a w => y.wp P Q a w) Q) n env B w0 rs x) : Bv P Q n env B w0 rs (.seq x y) := fun a w hF hH => wp_seq (h a w hF hH)
theorem AI {c : Operand} {x y : Code} (hc : evs env c = some (.bool true)) (h : Bv P Q n env B w0 rs x) : Bv P Q n env B w0 rs (.cond c x y) := fun a w hF hH => Mk hF hc (h a w hF hH)
theorem Aw {c : Operand} {x y : Code} (hc : evs env c = some (.bool false)) (h : Bv P Q n env B w0 rs y) : Bv P Q n env B w0 rs (.cond c x y) := fun a w hF hH => Ml hF hc (h a w hF hH)
theorem AC (h : CA Q n env B w0 rs .normal) : Bv P Q n env B w0 rs .skip := fun a w hF hH => wp_skip (h a w hF hH)
theorem Av (h : CA Q n env B w0 rs .ret) : Bv P Q n env B w0 rs .ret := fun a w hF hH => wp_ret (h a w hF hH)
theorem Bm {id : Nat} {c : Code} (h : Bv P (Exit.inBlock id Q) n env B w0 rs c) : Bv P Q n env B w0 rs (.block id c) := fun a w hF hH => wp_block (h a w hF hH)
theorem CQ {id : Nat} (h : CA Q n env B w0 rs (.exit id)) : Bv P Q n env B w0 rs (.exit id) := fun a w hF hH => wp_exit (h a w hF hH)
theorem AO {y : Code} (h : Bv P Q n env B w0 rs y) : CA (Exit.then (fun a w => y.wp P Q a w) Q) n env B w0 rs .normal := h
theorem B3 {id : Nat} (h : CA Q n env B w0 rs .normal) : CA (Exit.inBlock id Q) n env B w0 rs .normal := h
theorem C0 {K : Act → World → Prop} (h : CA Q n env B w0 rs .ret) : CA (Exit.then K Q) n env B w0 rs .ret := h
theorem Bw {id : Nat} (h : CA Q n env B w0 rs .ret) : CA (Exit.inBlock id Q) n env B w0 rs .ret := h
theorem FR {K : Act → World → Prop} {id : Nat} (h : CA Q n env B w0 rs (.exit id)) : CA (Exit.then K Q) n env B w0 rs (.exit id) := h
theorem Br {id : Nat} (h : CA Q n env B w0 rs .normal) : CA (Exit.inBlock id Q) n env B w0 rs (.exit id) := fun a w hF hH => (if_pos rfl).mpr (h a w hF hH)
variable {fn : Func} {R : Ending → World → Prop}
inductive Res2 (P : Program) (env : List (Nat × Value)) (rs : List RowT) : ResultVar → Value → Prop
  | tmp {t : Tmp} {v : Value} (h : look env t = some v) : Res2 P env rs (.tmp t) v
  | cell (i : Nat) {s : Tmp} {T : TypeId} {g off : Nat} {t : TypeId} {cs : Array Value} {v : Value} (hv : JB P T cs off v) (h : look env s = some (.pointer (some ⟨g, off, none⟩))) (hi : rs[i]? = some (g, Ed t, cs)) : Res2 P env rs (.cell s T) v
theorem Res2.res {r : ResultVar} {v : Value} {w : World} (h : Res2 P env rs r v) (hH : Hp B w0 w rs) : Res P env w r v := by
  cases h with
  | tmp h => exact .tmp h
  | cell i hv h hi => exact .cell h hv (hH.row i hi)
theorem As {r1 : ResultVar} {v1 : Value} (h1 : Res2 P env rs r1 v1) (hR : ∀ w, Hp B w0 w rs → R (.returned v1) w) (hr : fn.results = #[r1]) : CA (bodyPost P fn R) n env B w0 rs .ret := fun _ w hF hH => VE hF hr (h1.res hH) (hR w hH)
theorem Cr {r1 r2 : ResultVar} {v1 v2 : Value} (h1 : Res2 P env rs r1 v1) (h2 : Res2 P env rs r2 v2) (hR : ∀ w, Hp B w0 w rs → R (.returned (.tuple #[v1, v2])) w) (hr : fn.results = #[r1, r2]) : CA (bodyPost P fn R) n env B w0 rs .ret := fun _ w hF hH => VF hF hr (h1.res hH) (h2.res hH) (hR w hH)
theorem Em {r1 r2 r3 : ResultVar} {v1 v2 v3 : Value} (h1 : Res2 P env rs r1 v1) (h2 : Res2 P env rs r2 v2) (h3 : Res2 P env rs r3 v3) (hR : ∀ w, Hp B w0 w rs → R (.returned (.tuple #[v1, v2, v3])) w) (hr : fn.results = #[r1, r2, r3]) : CA (bodyPost P fn R) n env B w0 rs .ret := fun _ w hF hH => VG hF hr (h1.res hH) (h2.res hH) (h3.res hH) (hR w hH)
theorem Mp (hR : ∀ w, Hp B w0 w rs → R (.returned (.tuple #[])) w) (hr : fn.results = #[]) : CA (bodyPost P fn R) n env B w0 rs .ret := fun _ w hF hH => VH hF hr (hR w hH)
theorem DM (hR : ∀ w, Hp B w0 w rs → R (.returned (.tuple #[])) w) (hr : fn.results = #[]) : CA (bodyPost P fn R) n env B w0 rs .normal := fun _ w hF hH => SD hF hr (hR w hH)
theorem Fz {f : FuncId} {c : Code} {args : List Value} {w : World} (n : Nat) (hf : P.funcs[f]? = some fn) (hb : fn.body = some c) (hn : fn.ntmps = n) (hs : Nat.ble args.length n = true) (h : Bv P (bodyPost P fn R) n (Fs 0 args) w.heap.size w [] c) : Calls P f args.toArray w R := Gl n hf hb hn (Nat.le_of_ble_eq_true hs) fun a hF => h a w hF (Hp.start w)
end wc2
section par2
variable {P : Program} {ops : Array Oper} {Q : Exit → Act → World → Prop} {n B : Nat} {w0 : World} {rs : List RowT} {env env0 : List (Nat × Value)} {jobs : List Job} {o : Oper} {deps : List Nat} {v : Value} {fl : List ((Nat × Nat) × Nat)} {kk : Nat}
def WM (P : Program) (ops : Array Oper) (Q : Exit → Act → World → Prop) (n : Nat) (jobs : List Job) (env0 : List (Nat × Value)) (B : Nat) (w0 : World) (rs : List RowT) (o : Oper) (j : Job) : Prop := ∀ w, Hp B w0 w rs → OB P ops Q n jobs env0 w o j
def D2 (P : Program) (ops : Array Oper) (Q : Exit → Act → World → Prop) (n : Nat) (jobs : List Job) (env0 : List (Nat × Value)) (B : Nat) (w0 : World) (rs : List RowT) : List Oper → List Job → Prop
  | o :: os, j :: js => WM P ops Q n jobs env0 B w0 rs o j ∧ D2 P ops Q n jobs env0 B w0 rs os js
  | _, _ => True
theorem D2.all : ∀ {os : List Oper} {js : List Job}, D2 P ops Q n jobs env0 B w0 rs os js → ∀ w, Hp B w0 w rs → Eh P ops Q n w.heap.size jobs env0 (WF w) os js
  | [], _, _, _, _ => by unfold Eh; trivial
  | _ :: _, [], _, _, _ => by unfold Eh; trivial
  | _ :: _, _ :: _, h, w, hH => ⟨h.1 w hH, D2.all h.2 w hH⟩
theorem RowsOf.app {w : World} : ∀ {a b : List RowT}, (∀ x ∈ a, CK w x) → RowsOf w b → RowsOf w (a ++ b)
  | [], _, _, hb => hb
  | (g, t, cs) :: r, _, ha, hb => ⟨ha (g, t, cs) (by simp), RowsOf.app (fun x hx => ha x (by simp [hx])) hb⟩
end par2
section orders2
variable {P : Program} {ops : Array Oper} {Q : Exit → Act → World → Prop} {n f i d B : Nat} {w0 : World} {rs : List RowT} {env env' : List (Nat × Value)} {listed : Array Bool} {o : Oper} {fl : List ((Nat × Nat) × Nat)}
def Np (P : Program) (ops : Array Oper) (Q : Exit → Act → World → Prop) (n : Nat) (env : List (Nat × Value)) (B : Nat) (w0 : World) (rs : List RowT) (f : Nat) (listed : Array Bool) : Prop := ∀ a w, Fr n a env → Hp B w0 w rs → wpAny P .any ops Q f listed a w
end orders2
end Go.Proofs.YtjcfimmcogkopaaGreat
namespace Go.Proofs.YtjcfimmcogkopaaGreat
open Go.RowKit
def bs (l : List UInt8) : ByteArray := ⟨l.toArray⟩
theorem Uw (l : List UInt8) : (bs l).size = l.length := by simp [bs, ByteArray.size]
theorem Mq (l : List UInt8) : (bs l).toList = l := by simp [bs, ByteArray.toList_eq]
theorem Qk (l : List UInt8) : (bs l).data.toList = l := by simp [bs]
theorem SG {a b : List UInt8} (h : bs a = bs b) : a = b := by rw [← Qk a, h, Qk]
section
variable {P : Program} {ops : Array Oper} {Q : Exit → Act → World → Prop} {n B d : Nat} {w0 : World} {rs : List RowT} {env env0 : List (Nat × Value)} {rest : List Oper} {o : Oper} {a : Act} {w : World} {jobs : List Job} {deps : List Nat} {kk : Nat}
theorem G0 {T T' : TypeId} {x y : Operand} {l m : List UInt8} {c : Bool} (ho : o.op = .binOp .eql T x y T') (hx : evs env x = some (.string (bs l))) (hy : evs env y = some (.string (bs m))) (hc : (l == m) = c) (hF : Fr n a env) : (execOp a.eval o).run P w = .ok (.value (.bool c)) w := by
 unfold execOp
 subst hc
 simp only [ho, hF.evs hx, hF.evs hy]
 simp [eqGuard, binOp, Op.stringOp, Mq]
theorem CS {t : TypeId} (hu : P.underlying t = some .string) (l : List UInt8) (ty : TypeId) (w : World) (cs : Array Bool) : (builtin .len #[t] ty cs [.string (bs l)].toArray).run P w = .ok (.value (.int .i64 (l.length : Int))) w := by
 rw [Nm hu, Uw]
end
end Go.Proofs.YtjcfimmcogkopaaGreat
namespace Go.Proofs.YtjcfimmcogkopaaGreat
open Go.RowKit
section loops
variable {P : Program} {Q : Exit → Act → World → Prop} {n B : Nat} {w0 : World} {rs rs' : List RowT} {env env' : List (Nat × Value)} {c : Code} {α : Type}
theorem RowsOf.drop {w : World} : ∀ {rs : List RowT} (k : Nat), RowsOf w rs → RowsOf w (rs.drop k)
  | _, 0, h => h
  | [], k + 1, _ => trivial
  | (g, t, cs) :: r, k + 1, h => RowsOf.drop (rs := r) k h.2
theorem EM.drop : ∀ {rs : List RowT} (k : Nat), EM B rs → EM B (rs.drop k)
  | _, 0, h => h
  | [], k + 1, _ => trivial
  | x :: r, k + 1, h => EM.drop (rs := r) k h.2.2
theorem Hp.drop {w : World} (h : Hp B w0 w rs) (k : Nat) : Hp B w0 w (rs.drop k) := h.sub (fun h => h.drop k) (fun h => h.drop k)
theorem Bv.less (k : Nat) (h : Bv P Q n env B w0 (rs.drop k) c) : Bv P Q n env B w0 rs c := fun a w hF hH => h a w hF (hH.drop k)
theorem Bv.at_ (hs : FQ env env') (hr : rs = rs') (h : Bv P Q n env' B w0 rs' c) : Bv P Q n env B w0 rs c := fun a w hF hH => h a w (hF.keep hs) (hr ▸ hH)
def JD (n B : Nat) (w0 : World) (E : α → List (Nat × Value)) (R : α → List RowT) (Inv : α → Prop) (μ : α → Nat) (x : α) : Act → World → Prop := fun a w => ∃ y, Inv y ∧ μ y < μ x ∧ Fr n a (E y) ∧ Hp B w0 w (R y)
theorem C9 (E : α → List (Nat × Value)) (R : α → List RowT) (Inv : α → Prop) (μ : α → Nat) (x : α) (hx : Inv x) (hE : FQ env (E x)) (hR : rs = R x) (h : ∀ x, Inv x → Bv P (Exit.then (JD n B w0 E R Inv μ x) Q) n (E x) B w0 (R x) c) : Bv P Q n env B w0 rs (.loop c) := by
  subst hR
  intro a w hF hH
  have key : ∀ m x, μ x < m → Inv x → ∀ a w, Fr n a (E x) → Hp B w0 w (R x) → Code.rounds P c Q m a w := by
    intro m
    induction m with
    | zero => intro x hx; omega
    | succ m ih =>
      intro x hm hx a w hF hH
      refine Code.wp_mono (fun e a' w' q => ?_) (h x hx a w hF hH)
      cases e with
      | normal =>
        obtain ⟨y, hy, hlt, hF', hH'⟩ := q
        exact ih y (by omega) hy a' w' hF' hH'
      | _ => exact q
  exact wp_loop_rounds _ (key _ x (Nat.lt_succ_self _) hx a w (hF.keep hE) hH)
theorem CM {E : α → List (Nat × Value)} {R : α → List RowT} {Inv : α → Prop} {μ : α → Nat} {x : α} (y : α) (k : Nat) (hy : Inv y) (hμ : μ y < μ x) (hs : FQ env (E y)) (hr : rs.drop k = R y) : CA (Exit.then (JD n B w0 E R Inv μ x) Q) n env B w0 rs .normal := fun _ _ hF hH => ⟨y, hy, hμ, hF.keep hs, hr ▸ hH.drop k⟩
end loops
section orders3
variable {P : Program} {ops : Array Oper} {Q : Exit → Act → World → Prop} {n fu i d B : Nat} {w0 : World} {rs : List RowT} {env : List (Nat × Value)} {listed : Array Bool} {o : Oper}
end orders3
section index
variable {P : Program} {n : Nat} {w : World} {env : List (Nat × Value)} {o : Oper}
theorem BQ {a : Act} {x : Operand} {p : Addr} (ho : o.op = .nilCheck x) (hx : evs env x = some (.pointer (some p))) (hF : Fr n a env) : (execOp a.eval o).run P w = .ok (.value (.pointer (some p))) w := by
 unfold execOp
 simp [ho, hF.evs hx]
end index
end Go.Proofs.YtjcfimmcogkopaaGreat
namespace Go.Proofs.YtjcfimmcogkopaaGreat
open Go.RowKit
section
variable {P : Program} {ops : Array Oper} {Q : Exit → Act → World → Prop} {n B : Nat} {w0 w : World} {rs : List RowT} {env : List (Nat × Value)} {rest : List Oper} {o : Oper} {d : Nat}
theorem AR {a : Act} {T T' : TypeId} {u : TypeDesc} {k k' : IntKind} {p z : Int} {x : Operand} (hs : P.underlying T = some u) (hd : P.underlying T' = some (.int k)) (hz : k.wrap p = z) (ho : o.op = .convert T T' x) (hx : evs env x = some (.int k' p)) (hF : Fr n a env) : (execOp a.eval o).run P w = .ok (.value (.int k z)) w := by
 unfold execOp
 simp [ho, hF.evs hx, convert, run_underlying hs, run_underlying hd, Conv.intToInt, hz]
end
end Go.Proofs.YtjcfimmcogkopaaGreat
namespace Go.Proofs.YtjcfimmcogkopaaGreat
open Go.RowKit
section main
variable {P : Program} {ops : Array Oper} {Q : Exit → Act → World → Prop} {n B : Nat} {jobs : List Job} {env0 : List (Nat × Value)} {Φ : Nat → List Value → World → Prop} {D m : Nat}
end main
section par3
variable {P : Program} {ops : Array Oper} {Q : Exit → Act → World → Prop} {n B : Nat} {w0 : World} {rs : List RowT} {env : List (Nat × Value)}
theorem Np.keep {f : Nat} {env' : List (Nat × Value)} {listed : Array Bool} (hs : FQ env env') (h : Np P ops Q n env' B w0 rs f listed) : Np P ops Q n env B w0 rs f listed := fun a w hF hH => h a w (hF.keep hs) hH
end par3
end Go.Proofs.YtjcfimmcogkopaaGreat
namespace Go.Proofs.YtjcfimmcogkopaaGreat
open Go.RowKit
def G1 : List Nat → (List Nat → Prop) → Prop
  | [], P => P []
  | x :: xs, P => G1 xs P ∧ G1 xs fun l => P (x :: l)
theorem G1.filter {c : Nat → Bool} : ∀ {out : List Nat} {P : List Nat → Prop}, G1 out P → P (out.filter c)
  | [], _, h => h
  | x :: xs, P, h => by
    cases hc : c x with
    | true => rw [List.filter_cons_of_pos hc]; exact G1.filter (P := fun l => P (x :: l)) h.2
    | false => rw [List.filter_cons_of_neg (by rw [hc]; simp)]; exact G1.filter (P := P) h.1
section par4
variable {P : Program} {ops : Array Oper} {Q : Exit → Act → World → Prop} {n B : Nat} {w0 : World} {rs : List RowT} {env : List (Nat × Value)}
def SH (n : Nat) (B : Nat) (w0 : World) (E : List (Nat × Value)) (R : List RowT) : Exit → Act → World → Prop := fun e a w => e = .normal ∧ Fr n a E ∧ Hp B w0 w R
theorem Ql {c : Code} (E : List (Nat × Value)) (R : List RowT) (h1 : Bv P (SH n B w0 E R) n env B w0 rs c) (h2 : CA Q n E B w0 R .normal) : Bv P Q n env B w0 rs c := fun a w hF hH => Code.wp_mono (fun e a' w' (h : SH n B w0 E R e a' w') => by obtain ⟨he, hF', hH'⟩ := h; subst he; exact h2 a' w' hF' hH') (h1 a w hF hH)
theorem Lu {E : List (Nat × Value)} {R : List RowT} (k : Nat) (hs : FQ env E) (hr : rs.drop k = R) : CA (SH n B w0 E R) n env B w0 rs .normal := fun _ _ hF hH => ⟨rfl, hF.keep hs, hr ▸ hH.drop k⟩
end par4
end Go.Proofs.YtjcfimmcogkopaaGreat
