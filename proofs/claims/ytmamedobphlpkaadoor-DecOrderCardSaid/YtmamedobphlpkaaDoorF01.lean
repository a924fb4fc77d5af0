/-
  Step
-/
import Derived.Test.YtmamedobphlpkaaDoorE01
set_option linter.unusedSimpArgs false
set_option linter.unusedVariables false

namespace Go.Proofs.YtmamedobphlpkaaDoor
open Go.RowKit

/-! ## What a frame's slots hold -/
def look : List (Nat × Value) → Nat → Option Value
  | [], _ => none
  | (k, v) :: r, s => match Nat.beq k s with | true => some v | false => look r s
def evs (env : List (Nat × Value)) : Operand → Option Value
  | .tmp t => look env t
  | .const v => some v
  | .global g => some (.pointer (some ⟨g, 0, none⟩))
  | .func f => some (.func (.func f) #[] #[])
def evl (env : List (Nat × Value)) : List Operand → Option (List Value)
  | [] => some []
  | x :: r => match evs env x, evl env r with
    | some v, some l => some (v :: l)
    | _, _ => none
/-- is the operation to be carried out? -/
def wants (ops : Array Oper) (o : Oper) (env : List (Nat × Value)) : Option Bool :=
  match o.guard with
  | none => some true
  | some (j, b) => match (ops[j]?).bind (·.dst) with
    | some t => match look env t with
      | some (.bool c) => some (c == b)
      | some (.tuple _) => some false
      | _ => none
    | none => none

structure Fr (n : Nat) (a : Act) (env : List (Nat × Value)) : Prop where
  size : a.tmps.size = n
  get : ∀ s v, look env s = some v → a.tmps[s]? = some v
  defers : a.defers = []

section frames
variable {n : Nat} {a : Act} {env env' : List (Nat × Value)}
theorem look_cons (k : Nat) (v : Value) (r : List (Nat × Value)) (s : Nat) : look ((k, v) :: r) s = if k = s then some v else look r s := by
  show (match Nat.beq k s with | true => some v | false => look r s) = _
  by_cases h : k = s
  · subst h; simp
  · rw [if_neg h]
    cases hb : Nat.beq k s with
    | false => rfl
    | true => exact absurd (Nat.eq_of_beq_eq_true hb) h
theorem Fr.ev (h : Fr n a env) {s : Nat} {v : Value} (hs : look env s = some v) : a.eval (.tmp s) = v := by
  simp [Act.eval, h.get s v hs]
theorem Fr.evs (h : Fr n a env) {x : Operand} {v : Value} (hx : evs env x = some v) : a.eval x = v := by
  cases x with
  | tmp t => exact h.ev hx
  | const u => exact Option.some.inj hx
  | global g => exact Option.some.inj hx
  | func f => exact Option.some.inj hx
theorem Fr.evl (h : Fr n a env) : ∀ {xs : List Operand} {vs : List Value}, evl env xs = some vs → xs.map a.eval = vs
  | [], vs, hx => by cases hx; rfl
  | x :: r, vs, hx => by
    unfold Go.Proofs.YtmamedobphlpkaaDoor.evl at hx
    cases h1 : Go.Proofs.YtmamedobphlpkaaDoor.evs env x with
    | none => simp [h1] at hx
    | some v =>
      cases h2 : Go.Proofs.YtmamedobphlpkaaDoor.evl env r with
      | none => simp [h1, h2] at hx
      | some l =>
        simp only [h1, h2, Option.some.injEq] at hx
        subst hx
        rw [List.map_cons, h.evs h1, Fr.evl h h2]
theorem Fr.put (h : Fr n a env) {d : Nat} (hd : d < n) (v : Value) : Fr n (a.put (some d) v) ((d, v) :: env) := by
  refine ⟨by simp [Act.put, h.size], fun s u hs => ?_, h.defers⟩
  rw [look_cons] at hs
  show (a.tmps.setIfInBounds d v)[s]? = some u
  split at hs
  · rename_i he
    subst he
    cases hs
    rw [Array.getElem?_setIfInBounds_self_of_lt (by rw [h.size]; exact hd)]
  · rename_i he
    rw [Array.getElem?_setIfInBounds_ne he]
    exact h.get s u hs
theorem Fr.sub (h : Fr n a env) (hs : ∀ s v, look env' s = some v → look env s = some v) : Fr n a env' := ⟨h.size, fun s v hv => h.get s v (hs s v hv), h.defers⟩
/-- each slot of env' is known -/
def Sub (env : List (Nat × Value)) : List (Nat × Value) → Prop
  | [] => True
  | (k, v) :: r => look env k = some v ∧ Sub env r
theorem Sub.look {env : List (Nat × Value)} : ∀ {env' : List (Nat × Value)}, Sub env env' → ∀ s v, look env' s = some v → look env s = some v
  | [], _, s, v, h => by cases h
  | (k, u) :: r, hs, s, v, h => by
    rw [look_cons] at h
    split at h
    · rename_i he; subst he; cases h; exact hs.1
    · exact Sub.look hs.2 s v h
theorem Fr.keep (h : Fr n a env) (hs : Sub env env') : Fr n a env' := h.sub hs.look
theorem Fr.app {e1 e2 : List (Nat × Value)} (h1 : Fr n a e1) (h2 : Fr n a e2) : Fr n a (e1 ++ e2) := by
  refine ⟨h1.size, fun s v hs => ?_, h1.defers⟩
  have key : ∀ l : List (Nat × Value), look (l ++ e2) s = some v → look l s = some v ∨ look e2 s = some v := by
    intro l
    induction l with
    | nil => exact fun h => .inr h
    | cons p r ih =>
      obtain ⟨k, u⟩ := p
      intro h
      rw [List.cons_append, look_cons] at h
      rw [look_cons]
      split at h
      · rename_i he; rw [if_pos he]; exact .inl h
      · rename_i he; rw [if_neg he]; exact ih h
  rcases key e1 hs with h | h
  · exact h1.get s v h
  · exact h2.get s v h
theorem Fr.wants {ops : Array Oper} {o : Oper} {b : Bool} (h : Fr n a env) (hg : wants ops o env = some b) : Region.wanted o (yielded ops a.tmps) = b := by
  unfold Go.Proofs.YtmamedobphlpkaaDoor.wants at hg
  unfold Region.wanted
  cases hgd : o.guard with
  | none => rw [hgd] at hg; exact Option.some.inj hg
  | some jb =>
    obtain ⟨j, c⟩ := jb
    simp only [hgd] at hg ⊢
    cases ht : (ops[j]?).bind (·.dst) with
    | none => simp [ht] at hg
    | some t =>
      simp only [ht] at hg
      cases hl : look env t with
      | none => simp [hl] at hg
      | some u =>
        have hu := h.get t u hl
        simp only [hl] at hg
        cases u with
        | bool e =>
          have : e = (e : Bool) := rfl
          simp only [Option.some.injEq] at hg
          unfold yielded
          simp only [ht, Option.bind_some, hu]
          rw [← hg]
          cases e <;> cases c <;> rfl
        | tuple l =>
          simp only [Option.some.injEq] at hg
          unfold yielded
          simp only [ht, Option.bind_some, hu]
          rw [← hg]
          rfl
        | _ => simp at hg
end frames

/-! ## A function's beginning and its end -/
theorem calls_enter {P : Program} {f : FuncId} {fn : Func} {c : Code} {args : Array Value} {w : World} {R : Ending → World → Prop} (n : Nat) (env : List (Nat × Value))
    (hf : P.funcs[f]? = some fn) (hb : fn.body = some c) (hn : fn.ntmps = n) (hs : args.size ≤ n) (hargs : ∀ s v, look env s = some v → args[s]? = some v)
    (h : ∀ a, Fr n a env → c.wp P (bodyPost P fn R) a w) : Calls P f args w R := by
  refine calls_of_wp hf hb (h _ ⟨?_, fun s v hv => ?_, rfl⟩)
  · simp [hn]; omega
  · have := hargs s v hv
    have hlt : s < args.size := (Array.getElem?_eq_some_iff.1 this).1
    simp [Array.getElem?_append, hlt]
    exact Array.getElem?_eq_some_iff.1 this |>.2
/-- the arguments, one a slot -/
def argEnv : Nat → List Value → List (Nat × Value)
  | _, [] => []
  | i, v :: r => (i, v) :: argEnv (i + 1) r
theorem argEnv_look : ∀ (l : List Value) (i s : Nat) (v : Value), look (argEnv i l) s = some v → i ≤ s ∧ l[s - i]? = some v
  | [], i, s, v, h => by cases h
  | u :: r, i, s, v, h => by
    unfold argEnv at h
    rw [look_cons] at h
    split at h
    · rename_i he; subst he; cases h; simp
    · rename_i he
      obtain ⟨h1, h2⟩ := argEnv_look r (i + 1) s v h
      refine ⟨by omega, ?_⟩
      rw [show s - i = (s - (i + 1)) + 1 by omega, List.getElem?_cons_succ]
      exact h2
theorem calls_in {P : Program} {f : FuncId} {fn : Func} {c : Code} {args : List Value} {w : World} {R : Ending → World → Prop} (n : Nat)
    (hf : P.funcs[f]? = some fn) (hb : fn.body = some c) (hn : fn.ntmps = n) (hs : args.length ≤ n)
    (h : ∀ a, Fr n a (argEnv 0 args) → c.wp P (bodyPost P fn R) a w) : Calls P f args.toArray w R :=
  calls_enter n _ hf hb hn (by simpa using hs) (fun s v hv => by
    have := (argEnv_look args 0 s v hv).2
    simpa using this) h

/-! ## Reading memory -/
/-- a variable of type T at place off of a row that holds cs reads as v -/
def Reads (P : Program) (T : TypeId) (cs : Array Value) (off : Nat) (v : Value) : Prop :=
  ∀ (w : World) (g : Nat) (t : TypeId), Row w g t cs → (loadVar T ⟨g, off, none⟩).run P w = .ok v w
def AggOf (P : Program) (T : TypeId) (k : Nat) : Prop := (∀ w, (isAgg T).run P w = .ok true w) ∧ (∀ w, (sizeOf T).run P w = .ok k w)
def OneOf (P : Program) (T : TypeId) : Prop := (∀ w, (isAgg T).run P w = .ok false w) ∧ (∀ w, (sizeOf T).run P w = .ok 1 w)
section reads
variable {P : Program} {T : TypeId} {k : Nat}
theorem aggOf {d : TypeDesc} (hu : P.underlying T = some d) (hd : (match d with | .struct _ | .array _ _ => true | _ => false) = true) (hi : (P.info? T).map (·.size) = some k) : AggOf P T k := by
  constructor
  · intro w
    unfold isAgg
    rw [Sem.run_bind, run_underlying hu w]
    cases d <;> simp_all
  · intro w
    cases hq : P.info? T with
    | none => simp [hq] at hi
    | some i =>
      have hs : i.size = k := by simpa [hq] using hi
      simp [sizeOf, typeInfo, hq, hs]
theorem oneOf {d : TypeDesc} (hu : P.underlying T = some d) (hd : (match d with | .struct _ | .array _ _ => true | _ => false) = false) (hi : (P.info? T).map (·.size) = some 1) : OneOf P T := by
  constructor
  · intro w
    unfold isAgg
    rw [Sem.run_bind, run_underlying hu w]
    cases d <;> simp_all
  · intro w
    cases hq : P.info? T with
    | none => simp [hq] at hi
    | some i =>
      have hs : i.size = 1 := by simpa [hq] using hi
      simp [sizeOf, typeInfo, hq, hs]
theorem reads_sub (hA : AggOf P T k) {cs : Array Value} {off : Nat} (l : List Value) (hl : l.length = k) (hc : ∀ j v, l[j]? = some v → cs[off + j]? = some v) : Reads P T cs off (.agg l.toArray) := by
  intro w g t hR
  have h := run_loadCells_list (P := P) w ⟨g, off, none⟩ l (fun j v hv => by
    have hadd : (⟨g, off, none⟩ : Addr).add j = ⟨g, off + j, none⟩ := by simp [Addr.add]
    rw [hadd, hR.cell]
    exact hc j v hv)
  rw [hl] at h
  simp [loadVar, Sem.run_bind, hA.1, hA.2, h]
theorem reads_all {cs : Array Value} (hA : AggOf P T cs.size) : Reads P T cs 0 (.agg cs) := by
  have := reads_sub hA (cs := cs) (off := 0) cs.toList (by simp) (fun j v hv => by simpa using hv)
  simpa using this
/-- the cells written out: the part is k of them -/
def part? (cs : List Value) (off k : Nat) : Option (List Value) := match cs.drop off |>.take k with | l => match Nat.beq l.length k with | true => some l | false => none
theorem reads_agg (hA : AggOf P T k) {cs : List Value} {off : Nat} {l : List Value} (h : part? cs off k = some l) : Reads P T cs.toArray off (.agg l.toArray) := by
  unfold part? at h
  have hb : ∀ b, Nat.beq ((cs.drop off).take k).length k = b → (match b with | true => some ((cs.drop off).take k) | false => none) = some l → Reads P T cs.toArray off (.agg l.toArray) := by
    intro b hb h
    cases b with
    | false => cases h
    | true =>
      cases h
      have hlen : ((cs.drop off).take k).length = k := Nat.eq_of_beq_eq_true hb
      refine reads_sub hA _ hlen (fun j v hv => ?_)
      have hj : j < k := by
        have := (List.getElem?_eq_some_iff.1 hv).1
        omega
      rw [List.getElem?_take, if_pos hj, List.getElem?_drop] at hv
      simpa using hv
  exact hb _ rfl h
theorem reads_one (hO : OneOf P T) {cs : Array Value} {off : Nat} {v : Value} (h : cs[off]? = some v) : Reads P T cs off v := by
  intro w g t hR
  have hc : w.cell? ⟨g, off, none⟩ = some v := by rw [hR.cell]; exact h
  simp [loadVar, Sem.run_bind, hO.1, run_load, hc]
end reads

/-! ## New blocks, and stores -/
/-- a new block -/
structure Fresh (w w' : World) (g : Nat) (t : TypeId) (cs : Array Value) : Prop where
  eq : w' = w.alloc (.cells cs t)
  at_ : g = w.heap.size
section fresh
variable {B : Nat} {w0 w w' : World} {g x : Nat} {t T : TypeId} {cs c : Array Value}
theorem Fresh.row (h : Fresh w w' g t cs) : Row w' g t cs := by rw [h.eq, h.at_]; exact Row.new w t cs
theorem Fresh.keep (h : Fresh w w' g t cs) (r : Row w x T c) : Row w' x T c := by rw [h.eq]; exact r.alloc _
theorem Fresh.up (h : Fresh w w' g t cs) (u : Up B w0 w) : Up B w0 w' := by rw [h.eq]; exact u.alloc _
theorem Fresh.lt (h : Fresh w w' g t cs) (r : Row w x T c) : x < g := by rw [h.at_]; exact r.lt
theorem Fresh.ge (h : Fresh w w' g t cs) (u : Up B w0 w) : B ≤ g := by rw [h.at_]; exact u.size
theorem Fresh.below (h : Fresh w w' g t cs) : Below w.heap.size w w' := by rw [h.eq]; exact (Below.refl _ _).alloc (Nat.le_refl _) _
theorem Row.old (r : Row w x T c) (hb : Below w.heap.size w w') : Row w' x T c := r.below hb r.lt
theorem Row.mod_ne (r : Row w x T c) {g : Nat} (hm : Mod (One g) w w') (hne : x ≠ g) : Row w' x T c := r.mod hm hne
end fresh

/-! ## Steps within a region whose order is fixed -/
section steps
variable {P : Program} {ops : Array Oper} {Q : Exit → Act → World → Prop} {n : Nat} {a : Act} {w : World} {env : List (Nat × Value)} {rest : List Oper} {o : Oper} {d : Nat}
theorem wpList_on (hF : Fr n a env) (hg : wants ops o env = some true) (h : ∀ K : Act → World → Prop, (∀ a w, wpList P ops Q rest a w → K a w) → o.wp P a w K Q) : wpList P ops Q (o :: rest) a w :=
  wpList_step fun K hK => by rw [if_pos (hF.wants hg)]; exact h K hK
/-- what leaves the world as it is -/
theorem st_q (hF : Fr n a env) (hg : wants ops o env = some true) (hd : o.dst = some d) (hn : d < n) (v : Value)
    (hrun : ∀ b, Fr n b env → (execOp b.eval o).run P w = .ok (.value v) w)
    (h : ∀ b, Fr n b ((d, v) :: env) → wpList P ops Q rest b w) : wpList P ops Q (o :: rest) a w :=
  wpList_on hF hg fun K hK => by
    unfold Oper.wp
    rw [hrun a hF, Oper.upon_value, hd]
    exact hK _ _ (h _ (hF.put hn v))
/-- what is not carried out -/
theorem st_skip (hF : Fr n a env) (hg : wants ops o env = some false) (hd : o.dst = some d) (hn : d < n)
    (h : ∀ b, Fr n b ((d, undef) :: env) → wpList P ops Q rest b w) : wpList P ops Q (o :: rest) a w :=
  wpList_step fun K hK => by
    rw [if_neg (by rw [hF.wants hg]; simp), hd]
    exact hK _ _ (h _ (hF.put hn undef))
theorem exec_move {x : Operand} {v : Value} (ho : o.op = .move x) (hx : evs env x = some v) (hF : Fr n a env) : (execOp a.eval o).run P w = .ok (.value v) w := by
  unfold execOp; simp only [ho, hF.evs hx, Sem.run_pure]
theorem exec_assign {x : Operand} {v : Value} (ho : o.op = .assign x) (hx : evs env x = some v) (hF : Fr n a env) : (execOp a.eval o).run P w = .ok (.value v) w := by
  unfold execOp; simp only [ho, hF.evs hx, Sem.run_pure]
theorem exec_extract {x : Operand} {i : Nat} {vs : Array Value} {v : Value} (ho : o.op = .extract x i) (hx : evs env x = some (.tuple vs)) (hi : vs[i]? = some v) (hF : Fr n a env) : (execOp a.eval o).run P w = .ok (.value v) w := by
  unfold execOp
  simp only [ho, hF.evs hx, Instr.extract, hi, Sem.run_bind, Sem.run_pure, Result.andThen_ok]
theorem exec_pick {x y z : Operand} {c : Bool} {v : Value} (ho : o.op = .pick x y z) (hx : evs env x = some (.bool c)) (hv : evs env (if c then y else z) = some v) (hF : Fr n a env) : (execOp a.eval o).run P w = .ok (.value v) w := by
  unfold execOp
  have h1 := hF.evs hx
  have h2 := hF.evs hv
  simp only [ho, h1, asBool, Sem.run_bind, Sem.run_pure, Result.andThen_ok]
  cases c <;> simp_all
theorem exec_load {T : TypeId} {x : Operand} {g off : Nat} {t : TypeId} {cs : Array Value} {v : Value} (ho : o.op = .load T x) (hx : evs env x = some (.pointer (some ⟨g, off, none⟩))) (hv : Reads P T cs off v) (hR : Row w g t cs) (hF : Fr n a env) : (execOp a.eval o).run P w = .ok (.value v) w := by
  unfold execOp
  simp only [ho, hF.evs hx, Instr.loadAt, Instr.sureAddr, Sem.run_bind, Sem.run_pure, Result.andThen_ok, hv w g t hR]
def Zero (P : Program) (T : TypeId) (zs : Array Value) : Prop := ∀ w, (Instr.alloc T true (.tuple #[])).run P w = .ok (.pointer (some ⟨w.heap.size, 0, none⟩)) (w.alloc (.cells zs T))
theorem zero_of {T : TypeId} {z : Value} {zs : Array Value} (h : (P.info? T).map (·.zero) = some (some z)) (hz : z.cells = zs) : Zero P T zs := by
  intro w
  cases hq : P.info? T with
  | none => simp [hq] at h
  | some i =>
    have hs : i.zero = some z := by simpa [hq] using h
    subst hz
    simp [Instr.alloc, zeroValue, typeInfo, hq, hs, newVar, newRow]
theorem exec_alloc {T : TypeId} {zs : Array Value} (ho : o.op = .alloc T) (hz : Zero P T zs) : (execOp a.eval o).run P w = .ok (.value (.pointer (some ⟨w.heap.size, 0, none⟩))) (w.alloc (.cells zs T)) := by
  unfold execOp
  simp only [ho, Sem.run_bind, Sem.run_pure, hz w, Result.andThen_ok]
theorem st_alloc (hF : Fr n a env) (hg : wants ops o env = some true) (hd : o.dst = some d) (hn : d < n) {T : TypeId} {zs : Array Value} (ho : o.op = .alloc T) (hz : Zero P T zs)
    (h : ∀ b g w', Fr n b ((d, .pointer (some ⟨g, 0, none⟩)) :: env) → Fresh w w' g T zs → wpList P ops Q rest b w') : wpList P ops Q (o :: rest) a w :=
  wpList_on hF hg fun K hK => by
    unfold Oper.wp
    rw [exec_alloc ho hz, Oper.upon_value, hd]
    exact hK _ _ (h _ _ _ (hF.put hn _) ⟨rfl, rfl⟩)
theorem st_box (hF : Fr n a env) (hg : wants ops o env = some true) (hd : o.dst = some d) (hn : d < n) {T : TypeId} {x : Operand} {v : Value} {cs : Array Value} (ho : o.op = .box T x) (hx : evs env x = some v) (hc : v.cells = cs)
    (h : ∀ b g w', Fr n b ((d, .pointer (some ⟨g, 0, none⟩)) :: env) → Fresh w w' g T cs → wpList P ops Q rest b w') : wpList P ops Q (o :: rest) a w :=
  wpList_on hF hg fun K hK => by
    subst hc
    have hrun : (execOp a.eval o).run P w = .ok (.value (.pointer (some ⟨w.heap.size, 0, none⟩))) (w.alloc (.cells v.cells T)) := by
      unfold execOp
      simp [ho, hF.evs hx, Instr.box, newVar, newRow]
    unfold Oper.wp
    rw [hrun, Oper.upon_value, hd]
    exact hK _ _ (h _ _ _ (hF.put hn _) ⟨rfl, rfl⟩)

/-- storing cells from place i on -/
theorem run_storeCells_at (g : Nat) (t : TypeId) : ∀ (vs : List Value) (i : Nat) (cur : Array Value) (w : World) (off : Nat), Row w g t cur → off + i + vs.length ≤ cur.size → (∀ v ∈ vs, v.oneCell' = true) →
    ∃ w', (storeCells ⟨g, off, none⟩ vs i).run P w = .ok () w' ∧ Row w' g t (cur.toList.take (off + i) ++ vs ++ cur.toList.drop (off + i + vs.length)).toArray ∧ Mod (One g) w w'
  | [], i, cur, w, off, hR, hl, _ => by
    refine ⟨w, rfl, ?_, Mod.refl _ _⟩
    simpa [List.take_append_drop] using hR
  | v :: rest, i, cur, w, off, hR, hl, h1 => by
    have hi : off + i < cur.size := by simp at hl; omega
    have hadd : (⟨g, off, none⟩ : Addr).add i = ⟨g, off + i, none⟩ := by simp [Addr.add]
    have hcell : w.cell? ⟨g, off + i, none⟩ = some cur[off + i] := by rw [hR.cell]; simp [hi]
    have hfro := hR.frozen (off + i)
    have hst : (store ((⟨g, off, none⟩ : Addr).add i) v).run P w = .ok () (w.setCell ⟨g, off + i, none⟩ v) := by
      rw [hadd, run_store P w _ v _ (h1 v (by simp)), hcell]
      simp [hfro]
    obtain ⟨w', hr, hR', hm⟩ := run_storeCells_at g t rest (i + 1) (cur.setIfInBounds (off + i) v) (w.setCell ⟨g, off + i, none⟩ v) off (hR.set (off + i) v) (by simp at hl ⊢; omega) (fun x hx => h1 x (by simp [hx]))
    refine ⟨w', ?_, ?_, (Mod.one w g (off + i) v).same hm⟩
    · simp only [storeCells, Sem.run_bind, hst, Result.andThen_ok, hr]
    · have : ((cur.setIfInBounds (off + i) v).toList.take (off + (i + 1)) ++ rest ++ (cur.setIfInBounds (off + i) v).toList.drop (off + (i + 1) + rest.length)) = (cur.toList.take (off + i) ++ (v :: rest) ++ cur.toList.drop (off + i + (v :: rest).length)) := by
        have hlen : (cur.toList.take (off + i)).length = off + i := by simp; omega
        apply List.ext_getElem?
        intro k
        simp only [Array.toList_setIfInBounds, List.getElem?_append, List.length_append, List.length_take, List.length_set, Array.length_toList, List.length_cons, List.getElem?_take, List.getElem?_set, List.getElem?_drop]
        rw [show min (off + (i + 1)) cur.size = off + i + 1 by omega, show min (off + i) cur.size = off + i by omega]
        by_cases hk : k < off + i
        · simp only [show k < off + i + 1 + rest.length by omega, show k < off + i + 1 by omega, show k < off + (i + 1) by omega, hk, show k < off + i + (rest.length + 1) by omega, if_true]
          simp [show ¬ off + i = k by omega]
        · by_cases hk2 : k = off + i
          · subst hk2
            simp [show off + i < off + (i + 1) by omega, hi, show off + i < off + i + 1 + rest.length by omega, show off + i < off + i + (rest.length + 1) by omega]
          · have h3 : ¬ k < off + i + 1 := by omega
            rw [show off + i + (rest.length + 1) = off + i + 1 + rest.length by omega]
            simp only [h3, hk, if_false]
            by_cases hk3 : k < off + i + 1 + rest.length
            · simp only [hk3, if_true]
              rw [show k - (off + i) = (k - (off + i + 1)) + 1 by omega, List.getElem?_cons_succ]
            · simp only [hk3, if_false]
              first | (congr 1 <;> omega) | (rw [if_neg (by omega)]; congr 1 <;> omega)
      rwa [this] at hR'
/-- the cells with a part written over -/
def over? (cs : List Value) (off : Nat) (vs : List Value) : List Value := cs.take off ++ vs ++ cs.drop (off + vs.length)
theorem st_store (hF : Fr n a env) (hg : wants ops o env = some true) (hd : o.dst = none) {T : TypeId} {x y : Operand} {g off k : Nat} {t : TypeId} {cs : Array Value} {v : Value} (ho : o.op = .store T x y)
    (hx : evs env x = some (.pointer (some ⟨g, off, none⟩))) (hy : evs env y = some v) (hR : Row w g t cs) (hs : ∀ w, (sizeOf T).run P w = .ok k w) (hk : v.cells.size = k) (hl : off + k ≤ cs.size) (h1 : v.cells.all (·.oneCell') = true)
    (h : ∀ b w', Fr n b env → Row w' g t (over? cs.toList off v.cells.toList).toArray → Mod (One g) w w' → wpList P ops Q rest b w') : wpList P ops Q (o :: rest) a w :=
  wpList_on hF hg fun K hK => by
    obtain ⟨w', hr, hR', hm⟩ := run_storeCells_at (P := P) g t v.cells.toList 0 cs w off hR (by simp; omega) (fun u hu => (Array.all_eq_true_iff_forall_mem.1 h1) u (by simpa using hu))
    have hrun : (execOp a.eval o).run P w = .ok .skip w' := by
      unfold execOp
      simp [ho, hF.evs hx, hF.evs hy, Instr.storeAt, Instr.sureAddr, storeVar, hs, hk, hr]
    unfold Oper.wp
    rw [hrun, Oper.upon_skip, hd]
    exact hK _ _ (h _ _ hF (by simpa [over?] using hR') hm)

/-- a call of a Go function, met by its contract -/
theorem run_enter {F : FuncId} {fn : Func} {c : Code} (hf : P.funcs[F]? = some fn) (hname : (fn.name == "runtime.NumGoroutine") = false) (hb : fn.body = some c) (args : Array Value) (w : World) :
    (callFunc F args).run P w = .ok (.enter F args) w := by
  have h1 : fn.name ≠ "runtime.NumGoroutine" := by simpa using hname
  simp [callFunc, hf, h1, hb]
def Ent (P : Program) (F : FuncId) : Prop := ∀ args w, (callFunc F args).run P w = .ok (.enter F args) w
theorem ent_of {F : FuncId} {fn : Func} (hf : P.funcs[F]? = some fn) (hname : (fn.name == "runtime.NumGoroutine") = false) (hb : fn.body.isSome = true) : Ent P F := by
  obtain ⟨c, hc⟩ := Option.isSome_iff_exists.1 hb
  exact fun args w => run_enter hf hname hc args w
theorem exec_call {F : FuncId} (hE : Ent P F) {f : Operand} {args : Array Operand} {ats : Array TypeId} {vs : List Value} (ho : o.op = .call { callee := .value f, args := args, argTypes := ats })
    (hf : evs env f = some (.func (.func F) #[] #[])) (hx : evl env args.toList = some vs) (hF : Fr n a env) : (execOp a.eval o).run P w = .ok (.enter F vs.toArray) w := by
  unfold execOp
  have h1 : args.map a.eval = vs.toArray := by
    have := hF.evl hx
    rw [← this]
    cases args; simp
  have h2 := hE vs.toArray w
  simp [ho, resolve, h1, hF.evs hf, Deferred.ofValue, invoke, h2]
theorem st_call (hF : Fr n a env) (hg : wants ops o env = some true) (hd : o.dst = some d) (hn : d < n) {F : FuncId} (hE : Ent P F) {f : Operand} {args : Array Operand} {ats : Array TypeId} {vs : List Value} (ho : o.op = .call { callee := .value f, args := args, argTypes := ats })
    (hf : evs env f = some (.func (.func F) #[] #[])) (hx : evl env args.toList = some vs) {E : Value → World → Prop} (hc : Calls P F vs.toArray w fun e w' => ∃ v, e = .returned v ∧ E v w')
    (h : ∀ b v w', E v w' → Fr n b ((d, v) :: env) → wpList P ops Q rest b w') : wpList P ops Q (o :: rest) a w :=
  wpList_on hF hg fun K hK => by
    unfold Oper.wp
    rw [exec_call hE ho hf hx hF, Oper.upon_enter]
    refine hc.mono ?_
    rintro e w' ⟨v, rfl, he⟩
    rw [hd]
    exact hK _ _ (h _ _ _ he (hF.put hn v))
/-- .. whose result is known -/
theorem st_callv (hF : Fr n a env) (hg : wants ops o env = some true) (hd : o.dst = some d) (hn : d < n) {F : FuncId} (hE : Ent P F) {f : Operand} {args : Array Operand} {ats : Array TypeId} {vs : List Value} (ho : o.op = .call { callee := .value f, args := args, argTypes := ats })
    (hf : evs env f = some (.func (.func F) #[] #[])) (hx : evl env args.toList = some vs) {v : Value} {E : World → Prop} (hc : Calls P F vs.toArray w fun e w' => e = .returned v ∧ E w')
    (h : ∀ b w', E w' → Fr n b ((d, v) :: env) → wpList P ops Q rest b w') : wpList P ops Q (o :: rest) a w :=
  st_call hF hg hd hn hE ho hf hx (E := fun u w' => u = v ∧ E w') (hc.mono fun e w' h => ⟨v, h.1, rfl, h.2⟩) (fun b u w' hu hb => by obtain ⟨rfl, hu⟩ := hu; exact h b w' hu hb)
end steps

/-! ## Code -/
section code
variable {P : Program} {Q : Exit → Act → World → Prop} {n : Nat} {a : Act} {w : World} {env : List (Nat × Value)}
theorem cd_then {c : Operand} {x y : Code} (hF : Fr n a env) (hc : evs env c = some (.bool true)) (h : x.wp P Q a w) : (Code.cond c x y).wp P Q a w := wp_cond (hF.evs hc) h
theorem cd_else {c : Operand} {x y : Code} (hF : Fr n a env) (hc : evs env c = some (.bool false)) (h : y.wp P Q a w) : (Code.cond c x y).wp P Q a w := wp_cond (hF.evs hc) h
end code

/-! ## The results -/
section ends
variable {P : Program} {fn : Func} {R : Ending → World → Prop} {n : Nat} {a : Act} {w : World} {env : List (Nat × Value)}
/-- what a result holds -/
inductive Res (P : Program) (env : List (Nat × Value)) (w : World) : ResultVar → Value → Prop
  | tmp {t : Tmp} {v : Value} (h : look env t = some v) : Res P env w (.tmp t) v
  | cell {s : Tmp} {T : TypeId} {g off : Nat} {t : TypeId} {cs : Array Value} {v : Value} (h : look env s = some (.pointer (some ⟨g, off, none⟩))) (hv : Reads P T cs off v) (hR : Row w g t cs) : Res P env w (.cell s T) v
def resRun (tmps : Array Value) : ResultVar → Sem Value
  | .tmp t => pure (tmps.getD t undef)
  | .cell a t => do loadVar t (← asAddr (tmps.getD a undef))
theorem Res.run {r : ResultVar} {v : Value} (h : Res P env w r v) (hF : Fr n a env) : (resRun a.tmps r).run P w = .ok v w := by
  cases h with
  | tmp h => simp [resRun, hF.get _ _ h]
  | cell h hv hR => simp [resRun, hF.get _ _ h, asAddr, hv w _ _ hR]
theorem results_eq (tmps : Array Value) : results fn tmps = (do let vs ← fn.results.mapM (resRun tmps); pure (if h : vs.size = 1 then vs[0] else .tuple vs)) := by
  unfold results
  congr 1
theorem fin1 {r1 : ResultVar} {v1 : Value} (hF : Fr n a env) (hr : fn.results = #[r1]) (h1 : Res P env w r1 v1) (hR : R (.returned v1) w) : bodyPost P fn R .ret a w :=
  ⟨hF.defers, v1, by rw [results_eq, hr]; simp [h1.run hF], hR⟩
theorem fin2 {r1 r2 : ResultVar} {v1 v2 : Value} (hF : Fr n a env) (hr : fn.results = #[r1, r2]) (h1 : Res P env w r1 v1) (h2 : Res P env w r2 v2) (hR : R (.returned (.tuple #[v1, v2])) w) : bodyPost P fn R .ret a w :=
  ⟨hF.defers, .tuple #[v1, v2], by rw [results_eq, hr]; simp [h1.run hF, h2.run hF], hR⟩
end ends
end Go.Proofs.YtmamedobphlpkaaDoor
