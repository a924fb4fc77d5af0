/-
  Walk
-/
import Derived.Test.YtmamedobphlpkaaDoorB02
import Derived.IntWalk

namespace Go.Proofs.YtmamedobphlpkaaDoor
open Go.RowKit

/-- from any frame that holds env, at world w, the operations l -/
def WL (P : Program) (ops : Array Oper) (Q : Exit → Act → World → Prop) (n : Nat) (env : List (Nat × Value)) (w : World) (l : List Oper) : Prop := ∀ a, Fr n a env → wpList P ops Q l a w
/-- .. the code c -/
def WC (P : Program) (Q : Exit → Act → World → Prop) (n : Nat) (env : List (Nat × Value)) (w : World) (c : Code) : Prop := ∀ a, Fr n a env → c.wp P Q a w
/-- .. the way out e -/
def WE (Q : Exit → Act → World → Prop) (n : Nat) (env : List (Nat × Value)) (w : World) (e : Exit) : Prop := ∀ a, Fr n a env → Q e a w

section wl
variable {P : Program} {ops : Array Oper} {Q : Exit → Act → World → Prop} {n : Nat} {w : World} {env env' : List (Nat × Value)} {rest : List Oper} {o : Oper} {d : Nat}
theorem WL.keep (hs : Sub env env') (h : WL P ops Q n env' w rest) : WL P ops Q n env w rest := fun a hF => h a (hF.keep hs)
theorem WC.keep {c : Code} (hs : Sub env env') (h : WC P Q n env' w c) : WC P Q n env w c := fun a hF => h a (hF.keep hs)
theorem WE.keep {e : Exit} (hs : Sub env env') (h : WE Q n env' w e) : WE Q n env w e := fun a hF => h a (hF.keep hs)
theorem l_q (hg : wants ops o env = some true) (hd : o.dst = some d) (hn : d < n) (v : Value) (hrun : ∀ b, Fr n b env → (execOp b.eval o).run P w = .ok (.value v) w) (h : WL P ops Q n ((d, v) :: env) w rest) : WL P ops Q n env w (o :: rest) :=
  fun _ hF => st_q hF hg hd hn v hrun h
theorem l_skip (hg : wants ops o env = some false) (hd : o.dst = some d) (hn : d < n) (h : WL P ops Q n ((d, undef) :: env) w rest) : WL P ops Q n env w (o :: rest) := fun _ hF => st_skip hF hg hd hn h
theorem l_move (hg : wants ops o env = some true) (hd : o.dst = some d) (hn : d < n) {x : Operand} {v : Value} (ho : o.op = .move x) (hx : evs env x = some v) (h : WL P ops Q n ((d, v) :: env) w rest) : WL P ops Q n env w (o :: rest) := fun _ hF => st_move hF hg hd hn ho hx h
theorem l_assign (hg : wants ops o env = some true) (hd : o.dst = some d) (hn : d < n) {x : Operand} {v : Value} (ho : o.op = .assign x) (hx : evs env x = some v) (h : WL P ops Q n ((d, v) :: env) w rest) : WL P ops Q n env w (o :: rest) := fun _ hF => st_assign hF hg hd hn ho hx h
theorem l_extract (hg : wants ops o env = some true) (hd : o.dst = some d) (hn : d < n) {x : Operand} {i : Nat} {vs : Array Value} {v : Value} (ho : o.op = .extract x i) (hx : evs env x = some (.tuple vs)) (hi : vs[i]? = some v) (h : WL P ops Q n ((d, v) :: env) w rest) : WL P ops Q n env w (o :: rest) := fun _ hF => st_extract hF hg hd hn ho hx hi h
theorem l_pick (hg : wants ops o env = some true) (hd : o.dst = some d) (hn : d < n) {x y z : Operand} {c : Bool} {v : Value} (ho : o.op = .pick x y z) (hx : evs env x = some (.bool c)) (hv : evs env (if c then y else z) = some v) (h : WL P ops Q n ((d, v) :: env) w rest) : WL P ops Q n env w (o :: rest) := fun _ hF => st_pick hF hg hd hn ho hx hv h
theorem l_load (hg : wants ops o env = some true) (hd : o.dst = some d) (hn : d < n) {T : TypeId} {x : Operand} {g off : Nat} {t : TypeId} {cs : Array Value} {v : Value} (ho : o.op = .load T x) (hx : evs env x = some (.pointer (some ⟨g, off, none⟩))) (hR : Row w g t cs) (hv : Reads P T cs off v) (h : WL P ops Q n ((d, v) :: env) w rest) : WL P ops Q n env w (o :: rest) := fun _ hF => st_load hF hg hd hn ho hx hv hR h
theorem l_alloc (hg : wants ops o env = some true) (hd : o.dst = some d) (hn : d < n) {T : TypeId} {zs : Array Value} (ho : o.op = .alloc T) (hz : Zero P T zs) (h : ∀ g w', Fresh w w' g T zs → WL P ops Q n ((d, .pointer (some ⟨g, 0, none⟩)) :: env) w' rest) : WL P ops Q n env w (o :: rest) := fun _ hF => st_alloc hF hg hd hn ho hz fun b g w' hb hN => h g w' hN b hb
theorem l_box (hg : wants ops o env = some true) (hd : o.dst = some d) (hn : d < n) {T : TypeId} {x : Operand} {v : Value} {cs : Array Value} (ho : o.op = .box T x) (hx : evs env x = some v) (hc : v.cells = cs) (h : ∀ g w', Fresh w w' g T cs → WL P ops Q n ((d, .pointer (some ⟨g, 0, none⟩)) :: env) w' rest) : WL P ops Q n env w (o :: rest) := fun _ hF => st_box hF hg hd hn ho hx hc fun b g w' hb hN => h g w' hN b hb
def oneL : List Value → Bool
  | [] => true
  | v :: r => match v.oneCell' with | true => oneL r | false => false
theorem oneL_all : ∀ {l : List Value}, oneL l = true → l.all (·.oneCell') = true
  | [], _ => rfl
  | v :: r, h => by
    unfold oneL at h
    cases hv : v.oneCell' with
    | false => rw [hv] at h; cases h
    | true => rw [hv] at h; have := oneL_all h; simp_all
theorem l_store (hg : wants ops o env = some true) (hd : o.dst = none) {T : TypeId} {x y : Operand} {g off k : Nat} {t : TypeId} {cs : Array Value} {v : Value} (ho : o.op = .store T x y) (hx : evs env x = some (.pointer (some ⟨g, off, none⟩))) (hy : evs env y = some v) (hR : Row w g t cs) (hs : ∀ w, (sizeOf T).run P w = .ok k w) (hk : v.cells.size = k) (hl : off + k ≤ cs.size) (h1 : oneL v.cells.toList = true)
    (h : ∀ w', Row w' g t (over? cs.toList off v.cells.toList).toArray → Mod (One g) w w' → WL P ops Q n env w' rest) : WL P ops Q n env w (o :: rest) := fun _ hF => st_store hF hg hd ho hx hy hR hs hk hl (by rw [← Array.all_toList]; exact oneL_all h1) fun b w' hb hR hM => h w' hR hM b hb
theorem l_call (hg : wants ops o env = some true) (hd : o.dst = some d) (hn : d < n) {F : FuncId} (hE : Ent P F) {f : Operand} {args : Array Operand} {ats : Array TypeId} {vs : List Value} (ho : o.op = .call { callee := .value f, args := args, argTypes := ats }) (hf : evs env f = some (.func (.func F) #[] #[])) (hx : evl env args.toList = some vs) {v : Value} {E : World → Prop} (hc : Calls P F vs.toArray w fun e w' => e = .returned v ∧ E w')
    (h : ∀ w', E w' → WL P ops Q n ((d, v) :: env) w' rest) : WL P ops Q n env w (o :: rest) := fun _ hF => st_callv hF hg hd hn hE ho hf hx hc fun b w' hE hb => h w' hE b hb
theorem l_callx (hg : wants ops o env = some true) (hd : o.dst = some d) (hn : d < n) {F : FuncId} (hE : Ent P F) {f : Operand} {args : Array Operand} {ats : Array TypeId} {vs : List Value} (ho : o.op = .call { callee := .value f, args := args, argTypes := ats }) (hf : evs env f = some (.func (.func F) #[] #[])) (hx : evl env args.toList = some vs) {E : Value → World → Prop} (hc : Calls P F vs.toArray w fun e w' => ∃ v, e = .returned v ∧ E v w')
    (h : ∀ v w', E v w' → WL P ops Q n ((d, v) :: env) w' rest) : WL P ops Q n env w (o :: rest) := fun _ hF => st_call hF hg hd hn hE ho hf hx hc fun b v w' hE hb => h v w' hE b hb
/-- what two whole numbers give when compared -/
def cmpB (op : BinOp) (a b : Int) : Option Bool := match op with | .eql => some (a == b) | .neq => some (a != b) | .lss => some (decide (a < b)) | .leq => some (decide (a ≤ b)) | .gtr => some (decide (a > b)) | .geq => some (decide (a ≥ b)) | _ => none
def arB (op : BinOp) (a b : Int) : Option Int := match op with | .add => some (a + b) | .sub => some (a - b) | .mul => some (a * b) | _ => none
theorem exec_cmp {a : Act} {op : BinOp} {T T' : TypeId} {x y : Operand} {k : IntKind} {p q : Int} {c : Bool} (ho : o.op = .binOp op T x y T') (hx : evs env x = some (.int k p)) (hy : evs env y = some (.int k q)) (hc : cmpB op p q = some c) (hF : Fr n a env) : (execOp a.eval o).run P w = .ok (.value (.bool c)) w := by
  unfold execOp
  simp only [ho, hF.evs hx, hF.evs hy]
  cases op <;> simp only [cmpB, Option.some.injEq, reduceCtorEq] at hc <;> subst hc <;> simp [eqGuard, binOp, Op.intCmp]
theorem exec_ar {a : Act} {op : BinOp} {T T' : TypeId} {x y : Operand} {k : IntKind} {p q z z' : Int} (ho : o.op = .binOp op T x y T') (hx : evs env x = some (.int k p)) (hy : evs env y = some (.int k q)) (hc : arB op p q = some z) (hz : k.wrap z = z') (hF : Fr n a env) : (execOp a.eval o).run P w = .ok (.value (.int k z')) w := by
  unfold execOp
  subst hz
  simp only [ho, hF.evs hx, hF.evs hy]
  cases op <;> simp only [arB, Option.some.injEq, reduceCtorEq] at hc <;> subst hc <;> simp [eqGuard, binOp, Op.intArith]
theorem exec_not {a : Act} {T : TypeId} {x : Operand} {c c' : Bool} (ho : o.op = .unOp .not T x) (hx : evs env x = some (.bool c)) (hc : (!c) = c') (hF : Fr n a env) : (execOp a.eval o).run P w = .ok (.value (.bool c')) w := by
  unfold execOp
  subst hc
  simp [ho, hF.evs hx, Op.unary]
theorem exec_neg {a : Act} {T : TypeId} {x : Operand} {k : IntKind} {p z : Int} (ho : o.op = .unOp .neg T x) (hx : evs env x = some (.int k p)) (hz : k.wrap (0 - p) = z) (hF : Fr n a env) : (execOp a.eval o).run P w = .ok (.value (.int k z)) w := by
  unfold execOp
  subst hz
  simp [ho, hF.evs hx, Op.unary, Op.intArith]
theorem l_cmp (hg : wants ops o env = some true) (hd : o.dst = some d) (hn : d < n) {op : BinOp} {T T' : TypeId} {x y : Operand} {k : IntKind} {p q : Int} {c : Bool} (ho : o.op = .binOp op T x y T') (hx : evs env x = some (.int k p)) (hy : evs env y = some (.int k q)) (hc : cmpB op p q = some c) (h : WL P ops Q n ((d, .bool c) :: env) w rest) : WL P ops Q n env w (o :: rest) := l_q hg hd hn _ (fun _ hb => exec_cmp ho hx hy hc hb) h
theorem l_ar (hg : wants ops o env = some true) (hd : o.dst = some d) (hn : d < n) {op : BinOp} {T T' : TypeId} {x y : Operand} {k : IntKind} {p q z z' : Int} (ho : o.op = .binOp op T x y T') (hx : evs env x = some (.int k p)) (hy : evs env y = some (.int k q)) (hc : arB op p q = some z) (hz : k.wrap z = z') (h : WL P ops Q n ((d, .int k z') :: env) w rest) : WL P ops Q n env w (o :: rest) := l_q hg hd hn _ (fun _ hb => exec_ar ho hx hy hc hz hb) h
theorem l_not (hg : wants ops o env = some true) (hd : o.dst = some d) (hn : d < n) {T : TypeId} {x : Operand} {c c' : Bool} (ho : o.op = .unOp .not T x) (hx : evs env x = some (.bool c)) (hc : (!c) = c') (h : WL P ops Q n ((d, .bool c') :: env) w rest) : WL P ops Q n env w (o :: rest) := l_q hg hd hn _ (fun _ hb => exec_not ho hx hc hb) h
theorem l_neg (hg : wants ops o env = some true) (hd : o.dst = some d) (hn : d < n) {T : TypeId} {x : Operand} {k : IntKind} {p z : Int} (ho : o.op = .unOp .neg T x) (hx : evs env x = some (.int k p)) (hz : k.wrap (0 - p) = z) (h : WL P ops Q n ((d, .int k z) :: env) w rest) : WL P ops Q n env w (o :: rest) := l_q hg hd hn _ (fun _ hb => exec_neg ho hx hz hb) h
/-- a field's place -/
def FieldAt (P : Program) (S : TypeId) (f k : Nat) : Prop := ∀ g off w, (Instr.fieldAt S (.pointer (some ⟨g, off, none⟩)) f).run P w = .ok (.pointer (some ⟨g, off + k, none⟩)) w
theorem exec_field {a : Act} {S : TypeId} {x : Operand} {f k g off : Nat} (hf : FieldAt P S f k) (ho : o.op = .fieldAddr S x f) (hx : evs env x = some (.pointer (some ⟨g, off, none⟩))) (hF : Fr n a env) : (execOp a.eval o).run P w = .ok (.value (.pointer (some ⟨g, off + k, none⟩))) w := by
  unfold execOp
  simp only [ho, hF.evs hx, Sem.run_bind, hf g off w, Result.andThen_ok, Sem.run_pure]
theorem l_field (hg : wants ops o env = some true) (hd : o.dst = some d) (hn : d < n) {S : TypeId} {x : Operand} {f k g off off' : Nat} (hf : FieldAt P S f k) (ho : o.op = .fieldAddr S x f) (hx : evs env x = some (.pointer (some ⟨g, off, none⟩))) (he : off + k = off') (h : WL P ops Q n ((d, .pointer (some ⟨g, off', none⟩)) :: env) w rest) : WL P ops Q n env w (o :: rest) := by
  subst he
  exact l_q hg hd hn _ (fun _ hb => exec_field hf ho hx hb) h
/-- a struct or an array of parts -/
def evp (env : List (Nat × Value)) : List (Nat × Operand) → Option (List (Nat × Value))
  | [] => some []
  | (i, x) :: r => match evs env x, evp env r with
    | some v, some l => some ((i, v) :: l)
    | _, _ => none
theorem Fr.evp {a : Act} (h : Fr n a env) : ∀ {xs : List (Nat × Operand)} {vs : List (Nat × Value)}, evp env xs = some vs → (xs.map fun (i, x) => (i, a.eval x)) = vs
  | [], vs, hx => by cases hx; rfl
  | (i, x) :: r, vs, hx => by
    unfold Go.Proofs.YtmamedobphlpkaaDoor.evp at hx
    cases h1 : Go.Proofs.YtmamedobphlpkaaDoor.evs env x with
    | none => simp [h1] at hx
    | some v =>
      cases h2 : Go.Proofs.YtmamedobphlpkaaDoor.evp env r with
      | none => simp [h1, h2] at hx
      | some l =>
        simp only [h1, h2, Option.some.injEq] at hx
        subst hx
        rw [List.map_cons, Fr.evp h h2]
        show (i, a.eval x) :: l = _
        rw [h.evs h1]
theorem exec_build {a : Act} {T : TypeId} {ps : Array (Nat × Operand)} {vs : List (Nat × Value)} {cs : Array Value} (ho : o.op = .build T ps) (hx : evp env ps.toList = some vs) (hc : P.built T vs = some cs) (hF : Fr n a env) : (execOp a.eval o).run P w = .ok (.value (.agg cs)) w := by
  unfold execOp
  have h1 : (ps.map fun (i, x) => (i, a.eval x)).toList = vs := by rw [← hF.evp hx]; simp
  simp only [ho, Sem.run_bind, run_build w T _ cs (by rw [h1]; exact hc), Result.andThen_ok, Sem.run_pure]
theorem l_build (hg : wants ops o env = some true) (hd : o.dst = some d) (hn : d < n) {T : TypeId} {ps : Array (Nat × Operand)} {vs : List (Nat × Value)} {cs : Array Value} (ho : o.op = .build T ps) (hx : evp env ps.toList = some vs) (hc : P.built T vs = some cs) (h : WL P ops Q n ((d, .agg cs) :: env) w rest) : WL P ops Q n env w (o :: rest) := l_q hg hd hn _ (fun _ hb => exec_build ho hx hc hb) h
theorem exec_builtin2 {a : Act} {bi : Builtin} {args : Array Operand} {ats : Array TypeId} {vs : List Value} {v : Value} (ho : o.op = .call { callee := .builtin bi, args := args, argTypes := ats }) (hx : evl env args.toList = some vs) (hr : ∀ cs, (builtin bi ats o.type cs vs.toArray).run P w = .ok (.value v) w) (hF : Fr n a env) : (execOp a.eval o).run P w = .ok (.value v) w := by
  have h1 : args.map a.eval = vs.toArray := by
    have := hF.evl hx
    rw [← this]
    cases args; simp
  unfold execOp
  simp only [ho, resolve, invoke, Sem.run_bind, Sem.run_pure, Result.andThen_ok, h1]
  exact hr _
theorem l_builtin (hg : wants ops o env = some true) (hd : o.dst = some d) (hn : d < n) {bi : Builtin} {args : Array Operand} {ats : Array TypeId} {vs : List Value} {v : Value} (ho : o.op = .call { callee := .builtin bi, args := args, argTypes := ats }) (hx : evl env args.toList = some vs) (hr : ∀ w cs, (builtin bi ats o.type cs vs.toArray).run P w = .ok (.value v) w) (h : WL P ops Q n ((d, v) :: env) w rest) : WL P ops Q n env w (o :: rest) := l_q hg hd hn _ (fun _ hb => exec_builtin2 ho hx (hr w) hb) h
/-- min and max of two whole numbers -/
theorem run_min2 {k : IntKind} {a b c : Int} (h : (if b < a then b else a) = c) (ats : Array TypeId) (ty : TypeId) (w : World) (cs : Array Bool) : (builtin .min ats ty cs [.int k a, .int k b].toArray).run P w = .ok (.value (.int k c)) w := by
  subst h
  simp [builtin, Builtin.min_, Builtin.min2]
  try (split <;> simp_all)
theorem run_max2 {k : IntKind} {a b c : Int} (h : (if a < b then b else a) = c) (ats : Array TypeId) (ty : TypeId) (w : World) (cs : Array Bool) : (builtin .max ats ty cs [.int k a, .int k b].toArray).run P w = .ok (.value (.int k c)) w := by
  subst h
  simp [builtin, Builtin.max_, Builtin.max2]
  try (split <;> simp_all)
theorem run_len_str {t : TypeId} (hu : P.underlying t = some .string) (s : ByteArray) (ty : TypeId) (w : World) (cs : Array Bool) : (builtin .len #[t] ty cs [.string s].toArray).run P w = .ok (.value (.int .i64 (s.size : Int))) w := by
  simp [builtin, Builtin.len_, run_underlying hu, goInt]
theorem run_len_slice {t e : TypeId} (hu : P.underlying t = some (.slice e)) (A : Option Addr) (k c : Nat) (ty : TypeId) (w : World) (cs : Array Bool) : (builtin .len #[t] ty cs [.slice A k c].toArray).run P w = .ok (.value (.int .i64 (k : Int))) w := by
  simp [builtin, Builtin.len_, run_underlying hu, goInt]
theorem l_nil (h : WE Q n env w .normal) : WL P ops Q n env w [] := h
theorem l_done {y : Code} (h : WC P Q n env w y) : WL P ops (Exit.then (fun a w => y.wp P Q a w) Q) n env w [] := h
end wl

section wc
variable {P : Program} {Q : Exit → Act → World → Prop} {n : Nat} {w : World} {env : List (Nat × Value)}
theorem c_reg {id : Nat} {l : List Oper} {y : Code} (h : WL P l.toArray (Exit.then (fun a w => y.wp P Q a w) Q) n env w l) : WC P Q n env w (.seq (.region id l.toArray false) y) := fun a hF => wp_seq (wp_region_lit (h a hF))
theorem c_reg1 {id : Nat} {l : List Oper} (h : WL P l.toArray Q n env w l) : WC P Q n env w (.region id l.toArray false) := fun a hF => wp_region_lit (h a hF)
theorem c_seq {x y : Code} (h : WC P (Exit.then (fun a w => y.wp P Q a w) Q) n env w x) : WC P Q n env w (.seq x y) := fun a hF => wp_seq (h a hF)
theorem c_then {c : Operand} {x y : Code} (hc : evs env c = some (.bool true)) (h : WC P Q n env w x) : WC P Q n env w (.cond c x y) := fun a hF => cd_then hF hc (h a hF)
theorem c_else {c : Operand} {x y : Code} (hc : evs env c = some (.bool false)) (h : WC P Q n env w y) : WC P Q n env w (.cond c x y) := fun a hF => cd_else hF hc (h a hF)
theorem c_skip (h : WE Q n env w .normal) : WC P Q n env w .skip := fun a hF => wp_skip (h a hF)
theorem c_skip_seq {y : Code} (h : WC P Q n env w y) : WC P Q n env w (.seq .skip y) := fun a hF => wp_seq (wp_skip (h a hF))
theorem c_ret (h : WE Q n env w .ret) : WC P Q n env w .ret := fun a hF => wp_ret (h a hF)
theorem c_block {id : Nat} {c : Code} (h : WC P (Exit.inBlock id Q) n env w c) : WC P Q n env w (.block id c) := fun a hF => wp_block (h a hF)
theorem c_exit {id : Nat} (h : WE Q n env w (.exit id)) : WC P Q n env w (.exit id) := fun a hF => wp_exit (h a hF)
theorem e_to {y : Code} (h : WC P Q n env w y) : WE (Exit.then (fun a w => y.wp P Q a w) Q) n env w .normal := h
theorem e_block {id : Nat} (h : WE Q n env w .normal) : WE (Exit.inBlock id Q) n env w .normal := h
theorem e_then_ret {K : Act → World → Prop} (h : WE Q n env w .ret) : WE (Exit.then K Q) n env w .ret := h
theorem e_block_ret {id : Nat} (h : WE Q n env w .ret) : WE (Exit.inBlock id Q) n env w .ret := h
theorem e_then_exit {K : Act → World → Prop} {id : Nat} (h : WE Q n env w (.exit id)) : WE (Exit.then K Q) n env w (.exit id) := h
theorem e_block_exit {id : Nat} (h : WE Q n env w .normal) : WE (Exit.inBlock id Q) n env w (.exit id) := fun a hF => (if_pos rfl).mpr (h a hF)
theorem e_block_other {id id' : Nat} (hne : id' ≠ id) (h : WE Q n env w (.exit id')) : WE (Exit.inBlock id Q) n env w (.exit id') := fun a hF => (if_neg hne).mpr (h a hF)
variable {fn : Func} {R : Ending → World → Prop}
theorem e_fin1 {r1 : ResultVar} {v1 : Value} (hr : fn.results = #[r1]) (h1 : Res P env w r1 v1) (hR : R (.returned v1) w) : WE (bodyPost P fn R) n env w .ret := fun _ hF => fin1 hF hr h1 hR
theorem e_fin2 {r1 r2 : ResultVar} {v1 v2 : Value} (hr : fn.results = #[r1, r2]) (h1 : Res P env w r1 v1) (h2 : Res P env w r2 v2) (hR : R (.returned (.tuple #[v1, v2])) w) : WE (bodyPost P fn R) n env w .ret := fun _ hF => fin2 hF hr h1 h2 hR
theorem e_fin3 {r1 r2 r3 : ResultVar} {v1 v2 v3 : Value} (hr : fn.results = #[r1, r2, r3]) (h1 : Res P env w r1 v1) (h2 : Res P env w r2 v2) (h3 : Res P env w r3 v3) (hR : R (.returned (.tuple #[v1, v2, v3])) w) : WE (bodyPost P fn R) n env w .ret := fun _ hF => fin3 hF hr h1 h2 h3 hR
theorem e_fin0 (hr : fn.results = #[]) (hR : R (.returned (.tuple #[])) w) : WE (bodyPost P fn R) n env w .ret := fun _ hF => fin0 hF hr hR
theorem e_fin0n (hr : fn.results = #[]) (hR : R (.returned (.tuple #[])) w) : WE (bodyPost P fn R) n env w .normal := fun _ hF => fin0n hF hr hR
theorem c_in {f : FuncId} {c : Code} {args : List Value} (n : Nat) (hf : P.funcs[f]? = some fn) (hb : fn.body = some c) (hn : fn.ntmps = n) (hs : args.length ≤ n) (h : WC P (bodyPost P fn R) n (argEnv 0 args) w c) : Calls P f args.toArray w R := calls_in n hf hb hn hs h
end wc

/-! ## Contracts, what became of the world -/
section conv
variable {P : Program} {F : FuncId} {vs : Array Value} {w : World} {v : Value}
theorem as_same (h : Calls P F vs w fun e w' => e = .returned v ∧ w = w') : Calls P F vs w fun e w' => e = .returned v ∧ Below w.heap.size w w' := h.mono fun _ _ ⟨a, b⟩ => ⟨a, b ▸ Below.refl _ _⟩
theorem as_same' (h : Calls P F vs w fun e w' => e = .returned v ∧ w' = w) : Calls P F vs w fun e w' => e = .returned v ∧ Below w.heap.size w w' := h.mono fun _ _ ⟨a, b⟩ => ⟨a, b ▸ Below.refl _ _⟩
theorem as_drew (h : Calls P F vs w fun e w' => e = .returned v ∧ ∃ n, w' = w.drewN n) : Calls P F vs w fun e w' => e = .returned v ∧ Below w.heap.size w w' := h.mono fun _ _ ⟨a, n, b⟩ => ⟨a, b ▸ ((Up.refl w).drewN n).below⟩
end conv

/-! ## A region that draws its order, whose calls leave what was there -/
section par
variable {P : Program} {ops : Array Oper} {Q : Exit → Act → World → Prop} {n : Nat} {w : World} {env env0 : List (Nat × Value)} {jobs : List Job} {o : Oper}
/-- blocks of w are as they were -/
abbrev UpΦ (w : World) : Nat → List Value → World → Prop := fun _ _ W => Up w.heap.size w W
theorem UpΦ.row {k : Nat} {σ : List Value} {W : World} {g : Nat} {t : TypeId} {cs : Array Value} (h : UpΦ w k σ W) (hR : Row w g t cs) : Row W g t cs := hR.below h.below hR.lt
abbrev OB (P : Program) (ops : Array Oper) (Q : Exit → Act → World → Prop) (n : Nat) (jobs : List Job) (env0 : List (Nat × Value)) (w : World) (o : Oper) (j : Job) : Prop := Ob P ops Q n w.heap.size jobs env0 (UpΦ w) o j
variable {deps : List Nat} {v : Value} {kk : Nat}
theorem ob_q (hg : ∀ σ g, wants ops o (depEnv ops jobs σ g deps ++ env0) = some true) (hrun : ∀ σ g b W, Up w.heap.size w W → Fr n b (depEnv ops jobs σ g deps ++ env0) → (execOp b.eval o).run P W = .ok (.value v) W) : OB P ops Q n jobs env0 w o ⟨.quiet, kk, fun _ => v, deps⟩ :=
  fun σ g b W _ hU hb => ⟨hg σ g, hrun σ g b W hU hb⟩
theorem ob_skip (hg : ∀ σ g, wants ops o (depEnv ops jobs σ g deps ++ env0) = some false) : OB P ops Q n jobs env0 w o ⟨.skip, kk, fun _ => undef, deps⟩ := fun σ g _ => ⟨hg σ g, rfl⟩
theorem ob_alloc {T : TypeId} {zs : Array Value} (ho : o.op = .alloc T) (hz : Zero P T zs) (hg : o.guard = none) : OB P ops Q n jobs env0 w o ⟨.alloc T zs, 0, fun _ => undef, deps⟩ := ⟨ho, hz, hg⟩
theorem ob_move (hg : ∀ σ g, wants ops o (depEnv ops jobs σ g deps ++ env0) = some true) {x : Operand} (ho : o.op = .move x) (hx : ∀ σ g, evs (depEnv ops jobs σ g deps ++ env0) x = some v) : OB P ops Q n jobs env0 w o ⟨.quiet, kk, fun _ => v, deps⟩ := ob_q hg fun σ g _ _ _ hb => exec_move ho (hx σ g) hb
theorem ob_extract (hg : ∀ σ g, wants ops o (depEnv ops jobs σ g deps ++ env0) = some true) {x : Operand} {i : Nat} {vs : Array Value} (ho : o.op = .extract x i) (hx : ∀ σ g, evs (depEnv ops jobs σ g deps ++ env0) x = some (.tuple vs)) (hi : vs[i]? = some v) : OB P ops Q n jobs env0 w o ⟨.quiet, kk, fun _ => v, deps⟩ := ob_q hg fun σ g _ _ _ hb => exec_extract ho (hx σ g) hi hb
theorem ob_pick (hg : ∀ σ g, wants ops o (depEnv ops jobs σ g deps ++ env0) = some true) {x y z : Operand} {c : Bool} (ho : o.op = .pick x y z) (hx : ∀ σ g, evs (depEnv ops jobs σ g deps ++ env0) x = some (.bool c)) (hv : ∀ σ g, evs (depEnv ops jobs σ g deps ++ env0) (if c then y else z) = some v) : OB P ops Q n jobs env0 w o ⟨.quiet, kk, fun _ => v, deps⟩ := ob_q hg fun σ g _ _ _ hb => exec_pick ho (hx σ g) (hv σ g) hb
theorem ob_load (hg : ∀ σ g, wants ops o (depEnv ops jobs σ g deps ++ env0) = some true) {T : TypeId} {x : Operand} {g off : Nat} {t : TypeId} {cs : Array Value} (ho : o.op = .load T x) (hx : ∀ σ g', evs (depEnv ops jobs σ g' deps ++ env0) x = some (.pointer (some ⟨g, off, none⟩))) (hR : Row w g t cs) (hv : Reads P T cs off v) : OB P ops Q n jobs env0 w o ⟨.quiet, kk, fun _ => v, deps⟩ := ob_q hg fun σ g _ _ hU hb => exec_load ho (hx σ g) hv (hR.below hU.below hR.lt) hb
theorem ob_field (hg : ∀ σ g, wants ops o (depEnv ops jobs σ g deps ++ env0) = some true) {S : TypeId} {x : Operand} {f k g off off' : Nat} (hf : FieldAt P S f k) (ho : o.op = .fieldAddr S x f) (hx : ∀ σ g', evs (depEnv ops jobs σ g' deps ++ env0) x = some (.pointer (some ⟨g, off, none⟩))) (he : off + k = off') : OB P ops Q n jobs env0 w o ⟨.quiet, kk, fun _ => .pointer (some ⟨g, off', none⟩), deps⟩ := by
  subst he
  exact ob_q hg fun σ g _ _ _ hb => exec_field hf ho (hx σ g) hb
theorem ob_cmp (hg : ∀ σ g, wants ops o (depEnv ops jobs σ g deps ++ env0) = some true) {op : BinOp} {T T' : TypeId} {x y : Operand} {k : IntKind} {p q : Int} {c : Bool} (ho : o.op = .binOp op T x y T') (hx : ∀ σ g, evs (depEnv ops jobs σ g deps ++ env0) x = some (.int k p)) (hy : ∀ σ g, evs (depEnv ops jobs σ g deps ++ env0) y = some (.int k q)) (hc : cmpB op p q = some c) : OB P ops Q n jobs env0 w o ⟨.quiet, kk, fun _ => .bool c, deps⟩ := ob_q hg fun σ g _ _ _ hb => exec_cmp ho (hx σ g) (hy σ g) hc hb
theorem ob_ar (hg : ∀ σ g, wants ops o (depEnv ops jobs σ g deps ++ env0) = some true) {op : BinOp} {T T' : TypeId} {x y : Operand} {k : IntKind} {p q z z' : Int} (ho : o.op = .binOp op T x y T') (hx : ∀ σ g, evs (depEnv ops jobs σ g deps ++ env0) x = some (.int k p)) (hy : ∀ σ g, evs (depEnv ops jobs σ g deps ++ env0) y = some (.int k q)) (hc : arB op p q = some z) (hz : k.wrap z = z') : OB P ops Q n jobs env0 w o ⟨.quiet, kk, fun _ => .int k z', deps⟩ := ob_q hg fun σ g _ _ _ hb => exec_ar ho (hx σ g) (hy σ g) hc hz hb
theorem ob_not (hg : ∀ σ g, wants ops o (depEnv ops jobs σ g deps ++ env0) = some true) {T : TypeId} {x : Operand} {c c' : Bool} (ho : o.op = .unOp .not T x) (hx : ∀ σ g, evs (depEnv ops jobs σ g deps ++ env0) x = some (.bool c)) (hc : (!c) = c') : OB P ops Q n jobs env0 w o ⟨.quiet, kk, fun _ => .bool c', deps⟩ := ob_q hg fun σ g _ _ _ hb => exec_not ho (hx σ g) hc hb
theorem ob_neg (hg : ∀ σ g, wants ops o (depEnv ops jobs σ g deps ++ env0) = some true) {T : TypeId} {x : Operand} {k : IntKind} {p z : Int} (ho : o.op = .unOp .neg T x) (hx : ∀ σ g, evs (depEnv ops jobs σ g deps ++ env0) x = some (.int k p)) (hz : k.wrap (0 - p) = z) : OB P ops Q n jobs env0 w o ⟨.quiet, kk, fun _ => .int k z, deps⟩ := ob_q hg fun σ g _ _ _ hb => exec_neg ho (hx σ g) hz hb
theorem ob_build (hg : ∀ σ g, wants ops o (depEnv ops jobs σ g deps ++ env0) = some true) {T : TypeId} {ps : Array (Nat × Operand)} {vs : List (Nat × Value)} {cs : Array Value} (ho : o.op = .build T ps) (hx : ∀ σ g, evp (depEnv ops jobs σ g deps ++ env0) ps.toList = some vs) (hc : P.built T vs = some cs) : OB P ops Q n jobs env0 w o ⟨.quiet, kk, fun _ => .agg cs, deps⟩ := ob_q hg fun σ g _ _ _ hb => exec_build ho (hx σ g) hc hb
theorem ob_builtin (hg : ∀ σ g, wants ops o (depEnv ops jobs σ g deps ++ env0) = some true) {bi : Builtin} {args : Array Operand} {ats : Array TypeId} {vs : List Value} (ho : o.op = .call { callee := .builtin bi, args := args, argTypes := ats }) (hx : ∀ σ g, evl (depEnv ops jobs σ g deps ++ env0) args.toList = some vs) (hr : ∀ w cs, (builtin bi ats o.type cs vs.toArray).run P w = .ok (.value v) w) : OB P ops Q n jobs env0 w o ⟨.quiet, kk, fun _ => v, deps⟩ := ob_q hg fun σ g _ W _ hb => exec_builtin2 ho (hx σ g) (hr W) hb
theorem ob_call {k : Nat} (hg : ∀ σ g, wants ops o (depEnv ops jobs σ g deps ++ env0) = some true) {F : FuncId} (hE : Ent P F) {f : Operand} {args : Array Operand} {ats : Array TypeId} {vs : List Value} (ho : o.op = .call { callee := .value f, args := args, argTypes := ats }) (hf : ∀ σ g, evs (depEnv ops jobs σ g deps ++ env0) f = some (.func (.func F) #[] #[])) (hx : ∀ σ g, evl (depEnv ops jobs σ g deps ++ env0) args.toList = some vs)
    (hc : ∀ W, Up w.heap.size w W → Calls P F vs.toArray W fun e w' => e = .returned v ∧ Below W.heap.size W w') : OB P ops Q n jobs env0 w o ⟨.call, k, fun _ => v, deps⟩ :=
  fun σ g b W _ hU _ hb => ⟨hg σ g, fun K hK => by
    unfold Oper.wp
    rw [exec_call hE ho (hf σ g) (hx σ g) hb, Oper.upon_enter]
    refine (hc W hU).mono ?_
    rintro e w' ⟨rfl, hbl⟩
    exact hK _ _ rfl (hU.trans hbl) (Keeps.below hbl)⟩
theorem c_par {id : Nat} {env : List (Nat × Value)} (D m : Nat) (jobs : List Job) (env0 : List (Nat × Value)) (hmix : P.follows .mixedOrders = true) (hok : parOK ops jobs n D m (env0.map (·.1)) = true) (hs : Sub env env0)
    (hOb : AllOb P ops Q n w.heap.size jobs env0 (UpΦ w) ops.toList jobs)
    (hend : ∀ σ g w', Up w.heap.size w w' → (∀ (i : Nat) j T zs, jobs[i]? = some j → j.kind = .alloc T zs → w.heap.size ≤ g i ∧ Row w' (g i) T ((storedAt jobs i).getD zs)) → (∀ (i i' : Nat) j j', jobs[i]? = some j → jobs[i']? = some j' → j.isAlloc = true → j'.isAlloc = true → i ≠ i' → g i ≠ g i') →
      WL P ops Q n (finEnv ops jobs σ g D ++ env0) w' (ops.toList.drop D)) : WC P Q n env w (.region id ops true) := fun a hF =>
  region_par D m jobs env0 w.heap.size (UpΦ w) hmix hok (hF.keep hs) (Up.refl w).drew (Nat.le_refl _) (fun _ _ _ o h => h.alloc o) (fun _ _ _ _ _ h hx hM => h.one hM hx) hOb fun a σ g w' _ hU hF' _ h1 h2 => hend σ g w' hU h1 h2 a hF'
end par

/-! ## A small region, order by order -/
section orders
variable {P : Program} {ops : Array Oper} {Q : Exit → Act → World → Prop} {n f i d : Nat} {w : World} {env env' : List (Nat × Value)} {listed : Array Bool} {o : Oper}
/-- from any frame that holds env, at w, what is not listed yet, in whatever order -/
def WA (P : Program) (ops : Array Oper) (Q : Exit → Act → World → Prop) (n : Nat) (env : List (Nat × Value)) (w : World) (f : Nat) (listed : Array Bool) : Prop := ∀ a, Fr n a env → wpAny P .any ops Q f listed a w
/-- number i comes next -/
def WO (P : Program) (ops : Array Oper) (Q : Exit → Act → World → Prop) (n : Nat) (env : List (Nat × Value)) (w : World) (f : Nat) (listed : Array Bool) (i : Nat) : Prop := ∀ a, Fr n a env → wpOp P ops Q i (wpAny P .any ops Q f (listed.setIfInBounds i true)) a w
theorem c_any {id : Nat} (hmix : P.follows .mixedOrders = true) (h : WA P ops Q n env w.drew ops.size (Array.replicate ops.size false)) : WC P Q n env w (.region id ops true) := fun a hF => wp_region_any hmix (h a hF)
theorem a_ready (rs : List Nat) (hr : Region.ready .any ops listed = rs) (hne : rs ≠ []) (h : ∀ i ∈ rs, WO P ops Q n env w f listed i) : WA P ops Q n env w (f + 1) listed := fun a hF => ⟨fun h0 => absurd (hr ▸ h0) hne, fun i hi => h i (hr ▸ hi) a hF⟩
theorem a_one (i : Nat) (hr : Region.ready .any ops listed = [i]) (h : WO P ops Q n env w f listed i) : WA P ops Q n env w (f + 1) listed := a_ready [i] hr (by simp) (fun j hj => by
  have : j = i := by simpa using hj
  subst this
  exact h)
theorem a_two (i j : Nat) (hr : Region.ready .any ops listed = [i, j]) (h : WO P ops Q n env w f listed i) (h' : WO P ops Q n env w f listed j) : WA P ops Q n env w (f + 1) listed := a_ready [i, j] hr (by simp) (fun k hk => by
  have : k = i ∨ k = j := by simpa using hk
  rcases this with rfl | rfl
  · exact h
  · exact h')
theorem a_three (i j k : Nat) (hr : Region.ready .any ops listed = [i, j, k]) (h : WO P ops Q n env w f listed i) (h' : WO P ops Q n env w f listed j) (h'' : WO P ops Q n env w f listed k) : WA P ops Q n env w (f + 1) listed := a_ready [i, j, k] hr (by simp) (fun x hx => by
  have : x = i ∨ x = j ∨ x = k := by simpa using hx
  rcases this with rfl | rfl | rfl
  · exact h
  · exact h'
  · exact h'')
theorem a_done (hr : Region.ready .any ops listed = []) (h : WE Q n env w .normal) : WA P ops Q n env w f listed := fun a hF => by
  cases f with
  | zero => exact ⟨hr, h a hF⟩
  | succ f => exact ⟨fun _ => h a hF, fun i hi => (by rw [hr] at hi; cases hi)⟩
theorem WA.keep (hs : Sub env env') (h : WA P ops Q n env' w f listed) : WA P ops Q n env w f listed := fun a hF => h a (hF.keep hs)
theorem a_q (ho : ops[i]? = some o) (hg : wants ops o env = some true) (hd : o.dst = some d) (hn : d < n) (v : Value) (hrun : ∀ b, Fr n b env → (execOp b.eval o).run P w = .ok (.value v) w) (h : WA P ops Q n ((d, v) :: env) w f (listed.setIfInBounds i true)) : WO P ops Q n env w f listed i := fun a hF => by
  unfold wpOp
  simp only [ho]
  rw [if_pos (hF.wants hg)]
  refine .inl ?_
  unfold Oper.wp
  rw [hrun a hF, Oper.upon_value, hd]
  exact h _ (hF.put hn v)
theorem a_load (ho : ops[i]? = some o) (hg : wants ops o env = some true) (hd : o.dst = some d) (hn : d < n) {T : TypeId} {x : Operand} {g off : Nat} {t : TypeId} {cs : Array Value} {v : Value} (hop : o.op = .load T x) (hx : evs env x = some (.pointer (some ⟨g, off, none⟩))) (hR : Row w g t cs) (hv : Reads P T cs off v) (h : WA P ops Q n ((d, v) :: env) w f (listed.setIfInBounds i true)) : WO P ops Q n env w f listed i := a_q ho hg hd hn v (fun _ hb => exec_load hop hx hv hR hb) h
theorem a_move (ho : ops[i]? = some o) (hg : wants ops o env = some true) (hd : o.dst = some d) (hn : d < n) {x : Operand} {v : Value} (hop : o.op = .move x) (hx : evs env x = some v) (h : WA P ops Q n ((d, v) :: env) w f (listed.setIfInBounds i true)) : WO P ops Q n env w f listed i := a_q ho hg hd hn v (fun _ hb => exec_move hop hx hb) h
theorem a_assign (ho : ops[i]? = some o) (hg : wants ops o env = some true) (hd : o.dst = some d) (hn : d < n) {x : Operand} {v : Value} (hop : o.op = .assign x) (hx : evs env x = some v) (h : WA P ops Q n ((d, v) :: env) w f (listed.setIfInBounds i true)) : WO P ops Q n env w f listed i := a_q ho hg hd hn v (fun _ hb => exec_assign hop hx hb) h
theorem a_store (ho : ops[i]? = some o) (hg : wants ops o env = some true) (hd : o.dst = none) {T : TypeId} {x y : Operand} {g off k : Nat} {t : TypeId} {cs : Array Value} {v : Value} (hop : o.op = .store T x y) (hx : evs env x = some (.pointer (some ⟨g, off, none⟩))) (hy : evs env y = some v) (hR : Row w g t cs) (hs : ∀ w, (sizeOf T).run P w = .ok k w) (hk : v.cells.size = k) (hl : off + k ≤ cs.size) (h1 : oneL v.cells.toList = true)
    (h : ∀ w', Row w' g t (over? cs.toList off v.cells.toList).toArray → Mod (One g) w w' → WA P ops Q n env w' f (listed.setIfInBounds i true)) : WO P ops Q n env w f listed i := fun a hF => by
  unfold wpOp
  simp only [ho]
  rw [if_pos (hF.wants hg)]
  refine .inl ?_
  obtain ⟨w', hr, hR', hm⟩ := run_storeCells_at (P := P) g t v.cells.toList 0 cs w off hR (by simp; omega) (fun u hu => (List.all_eq_true.1 (oneL_all h1)) u hu)
  have hrun : (execOp a.eval o).run P w = .ok .skip w' := by
    unfold execOp
    simp [hop, hF.evs hx, hF.evs hy, Instr.storeAt, Instr.sureAddr, storeVar, hs, hk, hr]
  unfold Oper.wp
  rw [hrun, Oper.upon_skip, hd]
  exact h _ (by simpa [over?] using hR') hm _ hF
end orders
end Go.Proofs.YtmamedobphlpkaaDoor
