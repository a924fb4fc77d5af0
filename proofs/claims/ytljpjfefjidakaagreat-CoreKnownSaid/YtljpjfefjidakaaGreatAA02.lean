/-
  Rb · Par · Walk · Rc · Hp · Bs
-/
import Derived.Test.YtljpjfefjidakaaGreatAA01
import Derived.TacticsIn
import Derived.Orders
import Derived.IntWalk
import Derived.Laws.Concat
import Derived.Lib.SmallJoins
set_option linter.unusedSimpArgs false
set_option linter.unusedVariables false

namespace Go.Proofs.YtljpjfefjidakaaGreat.Run
noncomputable section
open Go.RowKit

/-! ## The frame -/
abbrev Env := Tr Value
structure FrR (n : Nat) (ρ : Rn) (a : Act) (env : Env) : Prop where
  size : a.tmps.size = n
  get : ∀ s v, env.get s = some v → ∃ u, a.tmps[s]? = some u ∧ VR ρ v u
def evO (env : Env) : Operand → Option Value
  | .tmp t => env.get t
  | .const v => match nb1 v with | true => some v | false => none
  | .func f => some (.func (.func f) ⟨[]⟩ ⟨[]⟩)
  | .global g => some (.pointer (some ⟨g, 0, some 1⟩))
def evL (env : Env) : List Operand → Option (List Value)
  | [] => some []
  | x :: r => match evO env x, evL env r with
    | some v, some l => some (v :: l)
    | _, _ => none
section fr
variable {n : Nat} {ρ ρ' : Rn} {a : Act} {env : Env}
theorem FrR.ev (h : FrR n ρ a env) {x : Operand} {v : Value} (hx : evO env x = some v) : VR ρ v (a.eval x) := by
  cases x with
  | tmp t =>
    obtain ⟨u, h1, h2⟩ := h.get t v hx
    simpa [Act.eval, h1] using h2
  | const c =>
    have hx : (match nb1 c with | true => some c | false => none) = some v := hx
    cases hc : nb1 c with
    | true => rw [hc] at hx; cases hx; exact nb1.self hc
    | false => rw [hc] at hx; cases hx
  | func f => cases hx; exact .func f .nil .nil
  | global g => cases hx; exact .glob g 0
theorem FrR.evL (h : FrR n ρ a env) : ∀ {xs : List Operand} {vs : List Value}, evL env xs = some vs → VRL ρ vs (xs.map a.eval)
  | [], vs, hx => by cases hx; exact .nil
  | x :: r, vs, hx => by
    unfold Run.evL at hx
    cases h1 : evO env x with
    | none => simp [h1] at hx
    | some v =>
      cases h2 : Run.evL env r with
      | none => simp [h1, h2] at hx
      | some l =>
        simp only [h1, h2, Option.some.injEq] at hx
        subst hx
        exact .cons (h.ev h1) (FrR.evL h h2)
theorem FrR.mono (h : FrR n ρ a env) (hl : Le ρ ρ') : FrR n ρ' a env := ⟨h.size, fun s v hs => by obtain ⟨u, h1, h2⟩ := h.get s v hs; exact ⟨u, h1, h2.mono hl⟩⟩
theorem FrR.put (h : FrR n ρ a env) {d : Nat} (hd : d < n) (hin : inT d = true) {v u : Value} (hv : VR ρ v u) : FrR n ρ (a.put (some d) u) (put env d (some v)) := by
  refine ⟨by simp [Act.put, h.size], fun s x hs => ?_⟩
  rw [get_put hin] at hs
  show ∃ y, (a.tmps.setIfInBounds d u)[s]? = some y ∧ _
  split at hs
  · rename_i he
    subst he
    cases hs
    exact ⟨u, by rw [Array.getElem?_setIfInBounds_self_of_lt (by rw [h.size]; exact hd)], hv⟩
  · rename_i he
    rw [Array.getElem?_setIfInBounds_ne (by omega)]
    exact h.get s x hs
end fr

/-! ## Fences -/
def GF (F : Fence) : Prop := F = Fence.wide ∨ ∃ L, F = Fence.wide.inRound L
section fence
variable {P : Program} {Q : Exit → Act → World → Prop} {a : Act} {w : World} {o : Oper} {F : Fence}
/-- an operation that answers a value -/
theorem in_val (hG : GF F) (hd : ∀ c, o.op ≠ .defer c) {K : Act → World → Prop} {u : Value} {w' : World} (h : (execOp a.eval o).run P w = .ok (.value u) w') (hK : K (a.put o.dst u) w') : o.wpIn F 0 P a w K Q := by
  rcases hG with rfl | ⟨L, rfl⟩
  · refine ⟨fun _ _ => trivial, ?_⟩
    have hs : Oper.semAt Fence.wide.round a.eval o = execOp a.eval o := rfl
    rw [hs, h]
    exact hK
  · refine ⟨fun _ _ => trivial, ?_⟩
    rw [Oper.semAt_eq _ _ _ (fun c hc => hd c hc), h]
    exact hK
theorem in_skip (hG : GF F) (hd : ∀ c, o.op ≠ .defer c) {K : Act → World → Prop} {w' : World} (h : (execOp a.eval o).run P w = .ok .skip w') (hK : K (a.put o.dst undef) w') : o.wpIn F 0 P a w K Q := by
  rcases hG with rfl | ⟨L, rfl⟩
  · refine ⟨fun _ _ => trivial, ?_⟩
    have hs : Oper.semAt Fence.wide.round a.eval o = execOp a.eval o := rfl
    rw [hs, h]
    exact hK
  · refine ⟨fun _ _ => trivial, ?_⟩
    rw [Oper.semAt_eq _ _ _ (fun c hc => hd c hc), h]
    exact hK
end fence

/-! ## What an operation comes to -/
structure Out where
  v : Value
  H : Tr AO
  nx : Nat
  wr : List Nat
/-- but for rows wr, and the new ones, all is as it was -/
def Wr (H H' : Tr AO) (nx nx' : Nat) (wr : List Nat) : Prop := ∀ k, k ∉ wr → (k < nx ∨ nx' ≤ k) → H'.get k = H.get k
theorem Wr.refl (H : Tr AO) (a b : Nat) (l : List Nat) : Wr H H a b l := fun _ _ _ => rfl
theorem Wr.put {H : Tr AO} {i : Nat} (hin : inT i = true) (x : Option AO) (a b : Nat) : Wr H (put H i x) a b [i] := fun k hk _ => by rw [get_put hin, if_neg (by simpa using hk)]
theorem Wr.new {H : Tr AO} {nx : Nat} (hin : inT nx = true) (x : Option AO) : Wr H (Run.put H nx x) nx (nx + 1) [] := fun k _ hk => by rw [get_put hin, if_neg (by omega)]
theorem Wr.trans {H H1 H2 : Tr AO} {nx nx1 nx2 : Nat} {l m : List Nat} (h : Wr H H1 nx nx1 l) (h' : Wr H1 H2 nx1 nx2 m) (l1 : nx ≤ nx1) (l2 : nx1 ≤ nx2) : Wr H H2 nx nx2 (l ++ m) := fun k hk hb => by
  rw [List.mem_append, not_or] at hk
  rw [h' k hk.2 (by omega), h k hk.1 (by omega)]
def OpS (P : Program) (o : Oper) (env : Env) (H : Tr AO) (nx : Nat) (outs : List Out) : Prop :=
  (outs ≠ [] ∧ ∀ x ∈ outs, nx ≤ x.nx ∧ Wr H x.H nx x.nx x.wr) ∧ ∀ (n : Nat) (ρ : Rn) (a : Act) (w : World) (M : Nat), FrR n ρ a env → Rep ρ H w → (∀ x ∈ outs, x.nx ≤ M) → Fsh ρ nx M → ∀ (F : Fence), GF F → ∀ (K : Act → World → Prop) (Q : Exit → Act → World → Prop),
    (∀ x ∈ outs, ∀ ρ' w' u, Aft ρ H w nx ρ' x.H w' x.nx → VR ρ' x.v u → K (a.put o.dst u) w') → o.wpIn F 0 P a w K Q
section ops
variable {P : Program} {o : Oper} {env : Env} {H H' : Tr AO} {nx : Nat} {v : Value} {outs : List Out}
/-- the memory stays -/
theorem ops_val (hd : ∀ c, o.op ≠ .defer c) (h : ∀ (n : Nat) (ρ : Rn) (a : Act) (w : World), FrR n ρ a env → Rep ρ H w → ∃ u, VR ρ v u ∧ (execOp a.eval o).run P w = .ok (.value u) w) : OpS P o env H nx [⟨v, H, nx, []⟩] := by
  refine ⟨⟨by simp, fun x hx => ?_⟩, fun n ρ a w M hF hR _ _ F hG K Q hK => ?_⟩
  · have : x = ⟨v, H, nx, []⟩ := by simpa using hx
    subst this; exact ⟨Nat.le_refl _, .refl _ _ _ _⟩
  · obtain ⟨u, h1, h2⟩ := h n ρ a w hF hR
    exact in_val hG hd h2 (hK _ (List.mem_singleton.2 rfl) ρ w u (.refl hR) h1)
/-- one row is turned, or a new one comes -/
theorem ops_one {nx' : Nat} {wr : List Nat} (hd : ∀ c, o.op ≠ .defer c) (hle : nx ≤ nx') (hwr : Wr H H' nx nx' wr) (h : ∀ (n : Nat) (ρ : Rn) (a : Act) (w : World), FrR n ρ a env → Rep ρ H w → Fsh ρ nx nx' → ∃ ρ' u w', Aft ρ H w nx ρ' H' w' nx' ∧ VR ρ' v u ∧ ((execOp a.eval o).run P w = .ok (.value u) w' ∨ (execOp a.eval o).run P w = .ok .skip w' ∧ u = undef)) : OpS P o env H nx [⟨v, H', nx', wr⟩] := by
  refine ⟨⟨by simp, fun x hx => ?_⟩, fun n ρ a w M hF hR hM hS F hG K Q hK => ?_⟩
  · have : x = ⟨v, H', nx', wr⟩ := by simpa using hx
    subst this; exact ⟨hle, hwr⟩
  · have hm := hM ⟨v, H', nx', wr⟩ (by simp)
    obtain ⟨ρ', u, w', h1, h2, h3⟩ := h n ρ a w hF hR (hS.left hm)
    rcases h3 with h3 | ⟨h3, rfl⟩
    · exact in_val hG hd h3 (hK _ (List.mem_singleton.2 rfl) ρ' w' u h1 h2)
    · exact in_skip hG hd h3 (hK _ (List.mem_singleton.2 rfl) ρ' w' _ h1 h2)

/-! ### What asks only the program -/
def runPure {α : Type} (P : Program) : Sem α → Option α
  | .pure a => some a
  | .program k => runPure P (k P)
  | _ => none
theorem runPure_run {α : Type} {P : Program} : ∀ {s : Sem α} {a : α}, runPure P s = some a → ∀ w, s.run P w = .ok a w
  | .pure _, _, h, w => by cases h; rfl
  | .program k, a, h, w => by
    show Sem.run P (k P) w = _
    exact runPure_run (s := k P) h w
  | .load .., _, h, _ | .store .., _, h, _ | .new .., _, h, _ | .shape .., _, h, _ | .freeze .., _, h, _ | .frozen .., _, h, _ | .getObj .., _, h, _ | .setObj .., _, h, _ | .choose .., _, h, _ | .sys .., _, h, _ | .mark .., _, h, _ | .halt .., _, h, _ => by cases h
def self1 (v : Value) : Option Value := match nb1 v with | true => some v | false => none
theorem self1_vr {v u : Value} {ρ : Rn} (h : self1 v = some u) : VR ρ u v ∧ u = v := by
  unfold self1 at h
  split at h
  · rename_i hn; cases h; exact ⟨nb1.self hn, rfl⟩
  · cases h
def pureOf (P : Program) (s : Sem Value) : Option Value := match runPure P s with | some v => self1 v | none => none
theorem pureOf_run {P : Program} {s : Sem Value} {v : Value} (h : pureOf P s = some v) (ρ : Rn) (w : World) : VR ρ v v ∧ s.run P w = .ok v w := by
  unfold pureOf at h
  split at h
  · rename_i x hx
    obtain ⟨h1, h2⟩ := self1_vr (ρ := ρ) h
    subst h2
    exact ⟨h1, runPure_run hx w⟩
  · cases h
def both (v u : Value) : Bool := match nb1 v with | true => nb1 u | false => false
theorem both_l {v u : Value} (h : both v u = true) : nb1 v = true ∧ nb1 u = true := by
  unfold both at h
  split at h
  · exact ⟨by assumption, h⟩
  · cases h
/-- a name for the answer -/
def one (o : Option Value) (H : Tr AO) (nx : Nat) : Option (List Out) := match o with | some v => some [⟨v, H, nx, []⟩] | none => none
theorem one_eq {x : Option Value} {outs : List Out} (h : one x H nx = some outs) : ∃ v, x = some v ∧ outs = [⟨v, H, nx, []⟩] := by
  unfold one at h
  split at h
  · cases h; exact ⟨_, rfl, rfl⟩
  · cases h

theorem s_move {x : Operand} (ho : o.op = .move x ∨ o.op = .assign x) (h : one (evO env x) H nx = some outs) : OpS P o env H nx outs := by
  obtain ⟨v, h1, rfl⟩ := one_eq h
  refine ops_val (fun c hc => by rcases ho with h | h <;> rw [h] at hc <;> cases hc) fun n ρ a w hF hR => ⟨a.eval x, hF.ev h1, ?_⟩
  unfold execOp
  rcases ho with ho | ho <;> simp [ho]
def evPick (env : Env) (c x y : Operand) : Option Value := match evO env c with | some (.bool true) => evO env x | some (.bool false) => evO env y | _ => none
theorem s_pick {c x y : Operand} (ho : o.op = .pick c x y) (h : one (evPick env c x y) H nx = some outs) : OpS P o env H nx outs := by
  obtain ⟨v, h1, rfl⟩ := one_eq h
  refine ops_val (fun c hc => by rw [ho] at hc; cases hc) fun n ρ a w hF hR => ?_
  unfold evPick at h1
  split at h1
  · rename_i hc
    have h2 := hF.ev hc
    cases hce : a.eval c with
    | bool b =>
      rw [hce] at h2; cases h2
      refine ⟨_, hF.ev h1, ?_⟩
      unfold execOp
      simp [ho, hce, asBool]
    | _ => rw [hce] at h2; cases h2
  · rename_i hc
    have h2 := hF.ev hc
    cases hce : a.eval c with
    | bool b =>
      rw [hce] at h2; cases h2
      refine ⟨_, hF.ev h1, ?_⟩
      unfold execOp
      simp [ho, hce, asBool]
    | _ => rw [hce] at h2; cases h2
  · cases h1
def evExtract (env : Env) (x : Operand) (i : Nat) : Option Value := match evO env x with | some (.tuple ⟨vs⟩) => vs[i]? | _ => none
theorem s_extract {x : Operand} {i : Nat} (ho : o.op = .extract x i) (h : one (evExtract env x i) H nx = some outs) : OpS P o env H nx outs := by
  obtain ⟨v, h1, rfl⟩ := one_eq h
  refine ops_val (fun c hc => by rw [ho] at hc; cases hc) fun n ρ a w hF hR => ?_
  unfold evExtract at h1
  split at h1
  · rename_i vs hx
    have h2 := hF.ev hx
    generalize hce : a.eval x = y at h2
    cases h2 with
    | tuple hs =>
      obtain ⟨u, h3, h4⟩ := hs.get i v h1
      refine ⟨u, h4, ?_⟩
      unfold execOp
      simp [ho, hce, Instr.extract, h3]
  · cases h1
/-- operators, of what has no numbers -/
def evBin (P : Program) (env : Env) (op : BinOp) (T : TypeId) (x y : Operand) : Option Value := match evO env x, evO env y with
  | some p, some q => match both p q with
    | true => pureOf P (do eqGuard op T x y p q; binOp op T p q)
    | false => none
  | _, _ => none
theorem s_bin {op : BinOp} {T T' : TypeId} {x y : Operand} (ho : o.op = .binOp op T x y T') (h : one (evBin P env op T x y) H nx = some outs) : OpS P o env H nx outs := by
  obtain ⟨v, h1, rfl⟩ := one_eq h
  refine ops_val (fun c hc => by rw [ho] at hc; cases hc) fun n ρ a w hF hR => ?_
  unfold evBin at h1
  split at h1
  · rename_i p q hp hq
    split at h1
    · rename_i hb
      have h2 := nb1.eq (both_l hb).1 (hF.ev hp)
      have h3 := nb1.eq (both_l hb).2 (hF.ev hq)
      obtain ⟨h4, h5⟩ := pureOf_run h1 ρ w
      refine ⟨v, h4, ?_⟩
      unfold execOp
      simp only [ho, h2, h3]
      rw [Sem.run_bind, h5]
      rfl
    · cases h1
  · cases h1
def evUn (P : Program) (env : Env) (op : UnOp) (x : Operand) : Option Value := match evO env x with
  | some p => match nb1 p with
    | true => pureOf P (Op.unary op p)
    | false => none
  | _ => none
theorem s_un {op : UnOp} {T : TypeId} {x : Operand} (ho : o.op = .unOp op T x) (h : one (evUn P env op x) H nx = some outs) : OpS P o env H nx outs := by
  obtain ⟨v, h1, rfl⟩ := one_eq h
  refine ops_val (fun c hc => by rw [ho] at hc; cases hc) fun n ρ a w hF hR => ?_
  unfold evUn at h1
  split at h1
  · rename_i p hp
    split at h1
    · rename_i hb
      have h2 := nb1.eq hb (hF.ev hp)
      obtain ⟨h4, h5⟩ := pureOf_run h1 ρ w
      refine ⟨v, h4, ?_⟩
      unfold execOp
      simp only [ho, h2]
      rw [Sem.run_bind, h5]
      rfl
    · cases h1
  · cases h1
def evConv (P : Program) (env : Env) (T T' : TypeId) (x : Operand) : Option Value := match evO env x with
  | some p => match nb1 p with
    | true => pureOf P (convert T T' p)
    | false => none
  | _ => none
theorem s_conv {T T' : TypeId} {x : Operand} (ho : o.op = .convert T T' x) (h : one (evConv P env T T' x) H nx = some outs) : OpS P o env H nx outs := by
  obtain ⟨v, h1, rfl⟩ := one_eq h
  refine ops_val (fun c hc => by rw [ho] at hc; cases hc) fun n ρ a w hF hR => ?_
  unfold evConv at h1
  split at h1
  · rename_i p hp
    split at h1
    · rename_i hb
      have h2 := nb1.eq hb (hF.ev hp)
      obtain ⟨h4, h5⟩ := pureOf_run h1 ρ w
      refine ⟨v, h4, ?_⟩
      unfold execOp
      simp only [ho, h2]
      rw [Sem.run_bind, h5]
      rfl
    · cases h1
  · cases h1
def evIndex (P : Program) (env : Env) (T : TypeId) (x y : Operand) : Option Value := match evO env x, evO env y with
  | some p, some q => match both p q with
    | true => pureOf P (Instr.index T p q)
    | false => none
  | _, _ => none
theorem s_index {T : TypeId} {x y : Operand} (ho : o.op = .index T x y) (h : one (evIndex P env T x y) H nx = some outs) : OpS P o env H nx outs := by
  obtain ⟨v, h1, rfl⟩ := one_eq h
  refine ops_val (fun c hc => by rw [ho] at hc; cases hc) fun n ρ a w hF hR => ?_
  unfold evIndex at h1
  split at h1
  · rename_i p q hp hq
    split at h1
    · rename_i hb
      have h2 := nb1.eq (both_l hb).1 (hF.ev hp)
      have h3 := nb1.eq (both_l hb).2 (hF.ev hq)
      obtain ⟨h4, h5⟩ := pureOf_run h1 ρ w
      refine ⟨v, h4, ?_⟩
      unfold execOp
      simp only [ho, h2, h3]
      rw [Sem.run_bind, h5]
      rfl
    · cases h1
  · cases h1
/-! ### Addresses -/
def evNil (env : Env) (x : Operand) : Option Value := match evO env x with
  | some (.pointer (some p)) => some (.pointer (some p))
  | some (.func (.func F) p q) => some (.func (.func F) p q)
  | some (.func (.yield F) p q) => some (.func (.yield F) p q)
  | _ => none
theorem s_nil {x : Operand} (ho : o.op = .nilCheck x) (h : one (evNil env x) H nx = some outs) : OpS P o env H nx outs := by
  obtain ⟨v, h1, rfl⟩ := one_eq h
  refine ops_val (fun c hc => by rw [ho] at hc; cases hc) fun n ρ a w hF hR => ?_
  have key : evO env x = some v ∧ ((∃ p, v = .pointer (some p)) ∨ (∃ F p q, v = .func (.func F) p q) ∨ ∃ F p q, v = .func (.yield F) p q) := by
    unfold evNil at h1
    split at h1
    · rename_i h2; cases h1; exact ⟨h2, .inl ⟨_, rfl⟩⟩
    · rename_i h2; cases h1; exact ⟨h2, .inr (.inl ⟨_, _, _, rfl⟩)⟩
    · rename_i h2; cases h1; exact ⟨h2, .inr (.inr ⟨_, _, _, rfl⟩)⟩
    · cases h1
  have h2 := hF.ev key.1
  generalize hce : a.eval x = y at h2
  refine ⟨y, h2, ?_⟩
  rcases key.2 with ⟨p, rfl⟩ | ⟨G, p, q, rfl⟩ | ⟨G, p, q, rfl⟩
  all_goals
    cases h2 <;> (unfold execOp; simp [ho, hce])
def fieldK (P : Program) (S : TypeId) (f : Nat) : Option Nat := match P.underlying S with
  | some (.struct fs) => match fs.toList[f]? with
    | some fl => match (P.info? fl.type).map (·.size) with
      | some k => match Nat.beq k 0 with | true => none | false => some fl.offset
      | none => none
    | none => none
  | _ => none
theorem fieldK_at {S f k : Nat} (h : fieldK P S f = some k) (g off : Nat) (w : World) : (Instr.fieldAt S (.pointer (some ⟨g, off, none⟩)) f).run P w = .ok (.pointer (some ⟨g, off + k, none⟩)) w := by
  unfold fieldK at h
  split at h
  · rename_i fs hS
    split at h
    · rename_i fl hf
      split at h
      · rename_i z hz
        split at h
        · cases h
        · rename_i hb
          cases h
          have h0 : z ≠ 0 := fun e => by subst e; simp at hb
          have hf' : fs[f]? = some fl := by simpa using hf
          cases hi : P.info? fl.type with
          | none => simp [hi] at hz
          | some i =>
            have hs : i.size = z := by simpa [hi] using hz
            simp [Instr.fieldAt, run_underlying hS, hf', Instr.sureAddr, fieldPlace, sizeOf, typeInfo, hi, hs, h0, Addr.add]
            try (split <;> simp_all)
      · cases h
    · cases h
  · cases h
def evField (P : Program) (env : Env) (S : TypeId) (x : Operand) (f : Nat) : Option Value := match evO env x, fieldK P S f with
  | some (.pointer (some ⟨i, off, none⟩)), some k => some (.pointer (some ⟨i, off + k, none⟩))
  | _, _ => none
theorem s_field {S f : Nat} {x : Operand} (ho : o.op = .fieldAddr S x f) (h : one (evField P env S x f) H nx = some outs) : OpS P o env H nx outs := by
  obtain ⟨v, h1, rfl⟩ := one_eq h
  refine ops_val (fun c hc => by rw [ho] at hc; cases hc) fun n ρ a w hF hR => ?_
  unfold evField at h1
  split at h1
  · rename_i i off k hx hk
    cases h1
    have h2 := hF.ev hx
    generalize hce : a.eval x = y at h2
    cases h2 with
    | ptr hg =>
      refine ⟨_, .ptr hg, ?_⟩
      unfold execOp
      simp [ho, hce, fieldK_at hk]
  · cases h1
end ops
end
end Go.Proofs.YtljpjfefjidakaaGreat.Run

namespace Go.Proofs.YtljpjfefjidakaaGreat
open Go.RowKit

inductive Kind
  | quiet
  | skip
  | call
  | alloc (T : TypeId) (zs : Array Value)
  | store (t : Nat) (c : Array Value)
/-- One operation: its kind; how many calls' results its value leans on (a call: its own too); its value; on whose values it leans. -/
structure Job where
  kind : Kind
  k : Nat
  f : List Value → Value
  deps : List Nat
def Job.isCall (j : Job) : Bool := match j.kind with | .call => true | _ => false
def Job.target (j : Job) : Option (Nat × Array Value) := match j.kind with | .store t c => some (t, c) | _ => none
def Job.val (j : Job) (i : Nat) (σ : List Value) (g : Nat → Nat) : Value := match j.kind with | .alloc _ _ => .pointer (some ⟨g i, 0, none⟩) | _ => j.f (σ.take j.k)

def dstOf (ops : Array Oper) (i : Nat) : Option Nat := (ops[i]?).bind (·.dst)
def depEnv (ops : Array Oper) (jobs : List Job) (σ : List Value) (g : Nat → Nat) : List Nat → List (Nat × Value)
  | [] => []
  | j :: r => match dstOf ops j, jobs[j]? with
    | some d, some J => (d, J.val j σ g) :: depEnv ops jobs σ g r
    | _, _ => depEnv ops jobs σ g r
/-- rows from B on are kept -/
def AnyAl (jobs : List Job) : Prop := ∃ (i : Nat) (J : Job) (T : TypeId) (zs : Array Value), jobs[i]? = some J ∧ J.kind = .alloc T zs
def Keeps (jobs : List Job) (B : Nat) (w w' : World) : Prop := w.heap.size ≤ w'.heap.size ∧ (AnyAl jobs → ∀ x T c, B ≤ x → Row w x T c → Row w' x T c)
theorem Keeps.below {jobs : List Job} {B : Nat} {w w' : World} (h : Below w.heap.size w w') : Keeps jobs B w w' := ⟨h.size, fun _ _ _ _ _ r => r.old h⟩
theorem Keeps.same {jobs : List Job} {B : Nat} {w : World} : Keeps jobs B w w := ⟨Nat.le_refl _, fun _ _ _ _ _ r => r⟩

section
variable (P : Program) (ops : Array Oper) (Q : Exit → Act → World → Prop) (n B : Nat) (jobs : List Job) (env0 : List (Nat × Value)) (Φ : Nat → List Value → World → Prop)
/-- what is to be shown of one operation -/
def Ob (o : Oper) (j : Job) : Prop :=
  match j.kind with
  | .quiet => ∀ (σ : List Value) (g : Nat → Nat) (b : Act) (w : World), j.k ≤ σ.length → Φ σ.length σ w → Fr n b (depEnv ops jobs σ g j.deps ++ env0) →
      (wants ops o (depEnv ops jobs σ g j.deps ++ env0) = some true ∧ (execOp b.eval o).run P w = .ok (.value (j.f (σ.take j.k))) w) ∨ (wants ops o (depEnv ops jobs σ g j.deps ++ env0) = some false ∧ j.f (σ.take j.k) = undef)
  | .skip => ∀ (σ : List Value) (g : Nat → Nat), j.k ≤ σ.length → wants ops o (depEnv ops jobs σ g j.deps ++ env0) = some false ∧ j.f (σ.take j.k) = undef
  | .call => ∀ (σ : List Value) (g : Nat → Nat) (b : Act) (w : World), σ.length + 1 = j.k → Φ σ.length σ w → B ≤ w.heap.size → Fr n b (depEnv ops jobs σ g j.deps ++ env0) →
      (wants ops o (depEnv ops jobs σ g j.deps ++ env0) = some true ∧ ∀ K : Act → World → Prop, (∀ v w', j.f (σ ++ [v]) = v → Φ (σ.length + 1) (σ ++ [v]) w' → Keeps jobs B w w' → K (b.put o.dst v) w') → o.wp P b w K Q) ∨
        (wants ops o (depEnv ops jobs σ g j.deps ++ env0) = some false ∧ j.f (σ ++ [undef]) = undef ∧ Φ (σ.length + 1) (σ ++ [undef]) w)
  | .alloc T zs => o.op = .alloc T ∧ Zero P T zs ∧ o.guard = none
  | .store t c => ∀ (σ : List Value) (g : Nat → Nat) (b : Act) (w : World) J T zs, j.k ≤ σ.length → Φ σ.length σ w → Fr n b (depEnv ops jobs σ g j.deps ++ env0) → jobs[t]? = some J → J.kind = .alloc T zs → Row w (g t) T zs →
      wants ops o (depEnv ops jobs σ g j.deps ++ env0) = some true ∧ ∃ w', (execOp b.eval o).run P w = .ok .skip w' ∧ Row w' (g t) T c ∧ Mod (One (g t)) w w'
def AllOb : List Oper → List Job → Prop
  | o :: os, j :: js => Ob P ops Q n B jobs env0 Φ o j ∧ AllOb os js
  | _, _ => True
end
section
variable {P : Program} {ops : Array Oper} {Q : Exit → Act → World → Prop} {n B : Nat} {jobs : List Job} {env0 : List (Nat × Value)} {Φ : Nat → List Value → World → Prop}
theorem AllOb.cons {o : Oper} {os : List Oper} {j : Job} {js : List Job} (h : Ob P ops Q n B jobs env0 Φ o j) (hs : AllOb P ops Q n B jobs env0 Φ os js) : AllOb P ops Q n B jobs env0 Φ (o :: os) (j :: js) := ⟨h, hs⟩
theorem AllOb.nil {os : List Oper} : AllOb P ops Q n B jobs env0 Φ os [] := by cases os <;> trivial
theorem AllOb.at_ : ∀ {os : List Oper} {js : List Job}, AllOb P ops Q n B jobs env0 Φ os js → ∀ (i : Nat) (o : Oper) (j : Job), os[i]? = some o → js[i]? = some j → Ob P ops Q n B jobs env0 Φ o j
  | [], _, _, i, o, j, h, _ => by simp at h
  | _ :: _, [], _, i, o, j, _, h => by simp at h
  | o' :: os, j' :: js, h, 0, o, j, h1, h2 => by
    simp only [List.getElem?_cons_zero, Option.some.injEq] at h1 h2
    subst h1; subst h2
    exact h.1
  | o' :: os, j' :: js, h, i + 1, o, j, h1, h2 => by
    simp only [List.getElem?_cons_succ] at h1 h2
    exact AllOb.at_ h.2 i o j h1 h2

def unl (listed : Array Bool) : Nat → Nat
  | 0 => 0
  | k + 1 => unl listed k + (if listed.getD k true = false then 1 else 0)
theorem unl_set_ge (listed : Array Bool) (i : Nat) : ∀ k, k ≤ i → unl (listed.setIfInBounds i true) k = unl listed k
  | 0, _ => rfl
  | k + 1, h => by
    unfold unl
    rw [unl_set_ge listed i k (by omega)]
    simp [Array.getElem?_setIfInBounds, show ¬ i = k by omega]
theorem unl_set (listed : Array Bool) (i : Nat) (hi : listed.getD i true = false) : ∀ k, i < k → unl (listed.setIfInBounds i true) k + 1 = unl listed k
  | 0, h => by omega
  | k + 1, h => by
    unfold unl
    have hlt : i < listed.size := by
      rcases Nat.lt_or_ge i listed.size with h' | h'
      · exact h'
      · simp [Array.getElem?_eq_none h'] at hi
    by_cases hk : i = k
    · subst hk
      rw [unl_set_ge listed i i (Nat.le_refl _), if_pos hi]
      simp [Array.getElem?_setIfInBounds, hlt]
    · have := unl_set listed i hi k (by omega)
      rw [← this]
      simp [Array.getElem?_setIfInBounds, hk]
      omega
theorem unl_all (listed : Array Bool) (D : Nat) (h1 : ∀ i, i < D → listed.getD i true = true) (h2 : ∀ i, D ≤ i → i < listed.size → listed.getD i true = false) : ∀ k, k ≤ listed.size → unl listed k = k - D
  | 0, _ => by simp [unl]
  | k + 1, h => by
    unfold unl
    rw [unl_all listed D h1 h2 k (by omega)]
    by_cases hk : k < D
    · rw [if_neg (by rw [h1 k hk]; simp)]; omega
    · rw [if_pos (h2 k (by omega) (by omega))]; omega
theorem getD_set (listed : Array Bool) (i k : Nat) (hi : i < listed.size) : (listed.setIfInBounds i true).getD k true = if k = i then true else listed.getD k true := by
  by_cases h : k = i
  · subst h; simp [hi]
  · simp [Array.getElem?_setIfInBounds, h, Ne.symm h]

section main
variable {D m : Nat}
end main
end
end Go.Proofs.YtljpjfefjidakaaGreat

namespace Go.Proofs.YtljpjfefjidakaaGreat
open Go.RowKit

/-- from any frame that holds env, at world w, the operations l -/
def WL (P : Program) (ops : Array Oper) (Q : Exit → Act → World → Prop) (n : Nat) (env : List (Nat × Value)) (w : World) (l : List Oper) : Prop := ∀ a, Fr n a env → wpList P ops Q l a w
/-- .. the code c -/
def WC (P : Program) (Q : Exit → Act → World → Prop) (n : Nat) (env : List (Nat × Value)) (w : World) (c : Code) : Prop := ∀ a, Fr n a env → c.wp P Q a w
/-- .. the way out e -/
def WE (Q : Exit → Act → World → Prop) (n : Nat) (env : List (Nat × Value)) (w : World) (e : Exit) : Prop := ∀ a, Fr n a env → Q e a w

section wl
variable {P : Program} {ops : Array Oper} {Q : Exit → Act → World → Prop} {n : Nat} {w : World} {env env' : List (Nat × Value)} {rest : List Oper} {o : Oper} {d : Nat}
theorem WL.keep (hs : Sub env env') (h : WL P ops Q n env' w rest) : WL P ops Q n env w rest := fun a hF => h a (hF.keep hs)
theorem WC.keep {c : Code} (hs : Sub env env') (h : WC P Q n env' w c) : WC P Q n env w c := fun a hF => h a (hF.keep hs)
theorem WE.keep {e : Exit} (hs : Sub env env') (h : WE Q n env' w e) : WE Q n env w e := fun a hF => h a (hF.keep hs)
def oneL : List Value → Bool
  | [] => true
  | v :: r => match v.oneCell' with | true => oneL r | false => false
end wl

section wc
variable {P : Program} {Q : Exit → Act → World → Prop} {n : Nat} {w : World} {env : List (Nat × Value)}
variable {fn : Func} {R : Ending → World → Prop}
end wc

/-! ## Contracts, what became of the world -/
section conv
variable {P : Program} {F : FuncId} {vs : Array Value} {w : World} {v : Value}
end conv

/-! ## A region that draws its order, whose calls leave what was there -/
section par
variable {P : Program} {ops : Array Oper} {Q : Exit → Act → World → Prop} {n : Nat} {w : World} {env env0 : List (Nat × Value)} {jobs : List Job} {o : Oper}
/-- blocks of w are as they were -/
abbrev UpΦ (w : World) : Nat → List Value → World → Prop := fun _ _ W => Up w.heap.size w W
theorem UpΦ.row {k : Nat} {σ : List Value} {W : World} {g : Nat} {t : TypeId} {cs : Array Value} (h : UpΦ w k σ W) (hR : Row w g t cs) : Row W g t cs := hR.below h.below hR.lt
abbrev OB (P : Program) (ops : Array Oper) (Q : Exit → Act → World → Prop) (n : Nat) (jobs : List Job) (env0 : List (Nat × Value)) (w : World) (o : Oper) (j : Job) : Prop := Ob P ops Q n w.heap.size jobs env0 (UpΦ w) o j
variable {deps : List Nat} {v : Value} {kk : Nat}
end par

/-! ## A small region, order by order -/
section orders
variable {P : Program} {ops : Array Oper} {Q : Exit → Act → World → Prop} {n f i d : Nat} {w : World} {env env' : List (Nat × Value)} {listed : Array Bool} {o : Oper}
/-- from any frame that holds env, at w, what is not listed yet, in whatever order -/
def WA (P : Program) (ops : Array Oper) (Q : Exit → Act → World → Prop) (n : Nat) (env : List (Nat × Value)) (w : World) (f : Nat) (listed : Array Bool) : Prop := ∀ a, Fr n a env → wpAny P .any ops Q f listed a w
theorem WA.keep (hs : Sub env env') (h : WA P ops Q n env' w f listed) : WA P ops Q n env w f listed := fun a hF => h a (hF.keep hs)
end orders
end Go.Proofs.YtljpjfefjidakaaGreat

namespace Go.Proofs.YtljpjfefjidakaaGreat.Run
noncomputable section
open Go.RowKit

/-! ## Rows, read and written -/
section rowf
variable {w : World} {g : Nat} {t : TypeId} {ds : List Value}
theorem RowF.cell (h : RowF w g t ds) (i : Nat) : w.cell? ⟨g, i, none⟩ = ds[i]? := by
  obtain ⟨fz, h1, _⟩ := h
  simp [World.cell?, h1]
theorem RowF.frozen (h : RowF w g t ds) {i : Nat} (hi : i < ds.length) : w.frozen? ⟨g, i, none⟩ = false := by
  obtain ⟨⟨lo, hi'⟩, h1, h2⟩ := h
  simp only [World.frozen?, h1]
  rcases h2 with h2 | h2
  · cases h2; simp
  · have : ¬ lo ≤ i := by simp only at h2; omega
    simp [this]
theorem RowF.lt (h : RowF w g t ds) : g < w.heap.size := by obtain ⟨fz, h1, _⟩ := h; exact (Array.getElem?_eq_some_iff.1 h1).1
theorem RowF.set (h : RowF w g t ds) (i : Nat) (u : Value) : RowF (w.setCell ⟨g, i, none⟩ u) g t (ds.set i u) := by
  obtain ⟨fz, h1, h2⟩ := h
  refine ⟨fz, ?_, by simpa using h2⟩
  simp [World.setCell, Array.getElem?_modify, h1]
theorem RowF.new (w : World) (t : TypeId) (ds : List Value) : RowF (w.alloc (.cells ⟨ds⟩ t)) w.heap.size t ds := ⟨(0, 0), heap_alloc_new w _, .inl rfl⟩
end rowf
theorem VR.oneCell {ρ : Rn} {v u : Value} (h : VR ρ v u) : u.oneCell' = v.oneCell' := by cases h <;> rfl
theorem oneL_vr {ρ : Rn} : ∀ {a b : List Value}, VRL ρ a b → oneL a = true → ∀ v ∈ b, v.oneCell' = true
  | _, _, .nil, _, v, hv => by simp at hv
  | x :: a, y :: b, .cons h hs, ho, v, hv => by
    unfold oneL at ho
    cases hx : x.oneCell' with
    | false => rw [hx] at ho; cases ho
    | true =>
      rw [hx] at ho
      rcases List.mem_cons.1 hv with rfl | hv
      · rw [h.oneCell]; exact hx
      · exact oneL_vr hs ho v hv
/-- written over -/
def ovr : List Value → Nat → List Value → List Value
  | cs, _, [] => cs
  | cs, off, v :: r => ovr (cs.set off v) (off + 1) r
theorem ovr_len : ∀ (vs cs : List Value) (off : Nat), (ovr cs off vs).length = cs.length
  | [], _, _ => rfl
  | v :: r, cs, off => by unfold ovr; rw [ovr_len r]; simp
theorem ovr_vr {ρ : Rn} : ∀ {vs us : List Value}, VRL ρ vs us → ∀ {cs ds : List Value} (off : Nat), VRL ρ cs ds → VRL ρ (ovr cs off vs) (ovr ds off us)
  | _, _, .nil, _, _, _, h => h
  | _, _, .cons h hs, _, _, off, h' => ovr_vr hs (off + 1) (h'.set off h)
theorem ovr_app : ∀ (vs : List Value) (ds zs : List Value) (off : Nat), off + vs.length ≤ ds.length → ovr (ds ++ zs) off vs = ovr ds off vs ++ zs
  | [], _, _, _, _ => rfl
  | v :: r, ds, zs, off, h => by
    unfold ovr
    have h0 : off < ds.length := by simp at h; omega
    rw [List.set_append_left _ _ h0]
    exact ovr_app r _ zs (off + 1) (by simp at h ⊢; omega)
theorem run_storeF {P : Program} (g : Nat) (t : TypeId) (off : Nat) : ∀ (vs : List Value) (i : Nat) (cur : List Value) (w : World), RowF w g t cur → off + i + vs.length ≤ cur.length → (∀ v ∈ vs, v.oneCell' = true) →
    ∃ w', (storeCells ⟨g, off, none⟩ vs i).run P w = .ok () w' ∧ RowF w' g t (ovr cur (off + i) vs) ∧ Mod (One g) w w'
  | [], i, cur, w, hR, hl, _ => ⟨w, rfl, hR, Mod.refl _ _⟩
  | v :: rest, i, cur, w, hR, hl, h1 => by
    have hi : off + i < cur.length := by simp at hl; omega
    have hadd : (⟨g, off, none⟩ : Addr).add i = ⟨g, off + i, none⟩ := by simp [Addr.add]
    have hcell : w.cell? ⟨g, off + i, none⟩ = some cur[off + i] := by rw [hR.cell]; simp [hi]
    have hfro := hR.frozen hi
    have hst : (store ((⟨g, off, none⟩ : Addr).add i) v).run P w = .ok () (w.setCell ⟨g, off + i, none⟩ v) := by
      rw [hadd, run_store P w _ v _ (h1 v (by simp)), hcell]
      simp [hfro]
    obtain ⟨w', hr, hR', hm⟩ := run_storeF (P := P) g t off rest (i + 1) (cur.set (off + i) v) (w.setCell ⟨g, off + i, none⟩ v) (hR.set (off + i) v) (by simp at hl ⊢; omega) (fun x hx => h1 x (by simp [hx]))
    refine ⟨w', ?_, hR', (Mod.one w g (off + i) v).same hm⟩
    simp only [storeCells, Sem.run_bind, hst, Result.andThen_ok, hr]
theorem run_loadF {P : Program} {w : World} {g off : Nat} {t : TypeId} {ds : List Value} (hR : RowF w g t ds) (k : Nat) (hk : off + k ≤ ds.length) : (loadCells ⟨g, off, none⟩ k).run P w = .ok ⟨(ds.drop off).take k⟩ w := by
  have h := run_loadCells_list (P := P) w ⟨g, off, none⟩ ((ds.drop off).take k) (fun j v hv => by
    rw [Addr.add_lit, hR.cell]
    rw [List.getElem?_take] at hv
    split at hv
    · rwa [List.getElem?_drop] at hv
    · cases hv)
  have hl : ((ds.drop off).take k).length = k := by simp; omega
  rw [hl] at h
  exact h

/-! ## Types -/
def isA (d : TypeDesc) : Bool := match d with | .struct _ | .array _ _ => true | _ => false
def szT (P : Program) (T : TypeId) : Option Nat := (P.info? T).map (·.size)
theorem szT_run {P : Program} {T : TypeId} {k : Nat} (h : szT P T = some k) (w : World) : (sizeOf T).run P w = .ok k w := by
  unfold szT at h
  cases hi : P.info? T with
  | none => simp [hi] at h
  | some i =>
    have hs : i.size = k := by simpa [hi] using h
    simp [sizeOf, typeInfo, hi, hs]
/-- some: so many cells; none: one -/
def aggk (P : Program) (T : TypeId) : Option (Option Nat) := match P.underlying T with
  | some d => match isA d with
    | true => match szT P T with | some k => some (some k) | none => none
    | false => match szT P T with | some k => (match Nat.beq k 1 with | true => some none | false => none) | none => none
  | none => none
theorem aggk_some {P : Program} {T : TypeId} {k : Nat} (h : aggk P T = some (some k)) : AggOf P T k := by
  unfold aggk at h
  split at h
  · rename_i d hd
    split at h
    · rename_i hA
      split at h
      · rename_i k' hk; cases h
        exact aggOf hd (by cases d <;> simp_all [isA]) hk
      · cases h
    · split at h
      · split at h <;> cases h
      · cases h
  · cases h
theorem aggk_none {P : Program} {T : TypeId} (h : aggk P T = some none) : OneOf P T := by
  unfold aggk at h
  split at h
  · rename_i d hd
    split at h
    · split at h <;> cases h
    · rename_i hA
      split at h
      · rename_i k hk
        split at h
        · rename_i hb
          have : k = 1 := Nat.eq_of_beq_eq_true hb
          subst this
          exact oneOf hd (by cases d <;> simp_all [isA]) hk
        · cases h
      · cases h
  · cases h
def rdV (P : Program) (T : TypeId) (cs : List Value) (off : Nat) : Option Value := match aggk P T with
  | some (some k) => match Nat.ble (off + k) cs.length with | true => some (.agg ⟨(cs.drop off).take k⟩) | false => none
  | some none => cs[off]?
  | none => none
theorem rdV_run {P : Program} {ρ : Rn} {T : TypeId} {cs ds zs : List Value} {off : Nat} {v : Value} (h : rdV P T cs off = some v) (hv : VRL ρ cs ds) {w : World} {g : Nat} {t : TypeId} (hR : RowF w g t (ds ++ zs)) : ∃ u, VR ρ v u ∧ (loadVar T ⟨g, off, none⟩).run P w = .ok u w := by
  unfold rdV at h
  split at h
  · rename_i k hk
    split at h
    · rename_i hb
      cases h
      have hle := Nat.le_of_ble_eq_true hb
      have hl := hv.length
      have hA := aggk_some hk
      refine ⟨_, .agg ((hv.drop off).take k), ?_⟩
      have h1 := run_loadF (P := P) hR k (off := off) (by simp; omega)
      have h2 : ((ds ++ zs).drop off).take k = (ds.drop off).take k := by
        rw [List.drop_append_of_le_length (by omega), List.take_append_of_le_length (by simp; omega)]
      rw [h2] at h1
      simp [loadVar, Sem.run_bind, hA.1, hA.2, h1]
    · cases h
  · rename_i hk
    have hO := aggk_none hk
    obtain ⟨u, h1, h2⟩ := hv.get off v h
    have hc : w.cell? ⟨g, off, none⟩ = some u := by
      rw [hR.cell, List.getElem?_append_left (List.getElem?_eq_some_iff.1 h1).1]; exact h1
    refine ⟨u, h2, ?_⟩
    simp [loadVar, Sem.run_bind, hO.1, run_load, hc]
  · cases h
/-- the zero of a type -/
def zeroT (P : Program) (T : TypeId) : Option (List Value) := match (P.info? T).map (·.zero) with
  | some (some z) => match z.cells.toList.all nb with | true => some z.cells.toList | false => none
  | _ => none
theorem zeroT_at {P : Program} {T : TypeId} {zs : List Value} (h : zeroT P T = some zs) : zs.all nb = true ∧ ∃ z : Value, (P.info? T).map (·.zero) = some (some z) ∧ z.cells.toList = zs := by
  unfold zeroT at h
  split at h
  · rename_i z hz
    split at h
    · rename_i ha; cases h; exact ⟨ha, z, hz, rfl⟩
    · cases h
  · cases h

section ops
variable {P : Program} {o : Oper} {env : Env} {H H' : Tr AO} {nx : Nat} {v : Value} {outs : List Out}
def rowAt (H : Tr AO) (i : Nat) : Option (TypeId × Option Nat × List Value) := match H.get i with | some (.cells t ex cs) => some (t, ex, cs) | _ => none
theorem rowAt_get {H : Tr AO} {i : Nat} {t : TypeId} {ex : Option Nat} {cs : List Value} (h : rowAt H i = some (t, ex, cs)) : H.get i = some (.cells t ex cs) := by
  unfold rowAt at h
  split at h
  · rename_i h1; cases h; exact h1
  · cases h
theorem Rep.row {ρ : Rn} {w : World} (hR : Rep ρ H w) {i : Nat} {t : TypeId} {ex : Option Nat} {cs : List Value} (h : rowAt H i = some (t, ex, cs)) : ∃ g c ds zs, ρ i = some (g, c) ∧ VRL ρ cs ds ∧ RowF w g t (ds ++ zs) ∧ exOK ex cs.length zs.length c := by
  obtain ⟨g, c, h1, ds, zs, h2, h3, h4⟩ := hR.ok i _ (rowAt_get h)
  exact ⟨g, c, ds, zs, h1, h2, h3, h4⟩
def evLoad (P : Program) (env : Env) (H : Tr AO) (T : TypeId) (x : Operand) : Option Value := match evO env x with
  | some (.pointer (some ⟨i, off, none⟩)) => match rowAt H i with
    | some (_, _, cs) => rdV P T cs off
    | none => none
  | _ => none
theorem s_load {T : TypeId} {x : Operand} (ho : o.op = .load T x) (h : one (evLoad P env H T x) H nx = some outs) : OpS P o env H nx outs := by
  obtain ⟨v, h1, rfl⟩ := one_eq h
  refine ops_val (fun c hc => by rw [ho] at hc; cases hc) fun n ρ a w hF hR => ?_
  unfold evLoad at h1
  split at h1
  · rename_i i off hx
    split at h1
    · rename_i t ex cs hr
      have h2 := hF.ev hx
      generalize hce : a.eval x = y at h2
      cases h2 with
      | ptr hg =>
        obtain ⟨g', c', ds, zs, h3, h4, h5, _⟩ := hR.row hr
        rw [hg] at h3; cases h3
        obtain ⟨u, h6, h7⟩ := rdV_run h1 h4 h5
        refine ⟨u, h6, ?_⟩
        unfold execOp
        simp only [ho, hce, Instr.loadAt, Instr.sureAddr, Sem.run_bind, Sem.run_pure, Result.andThen_ok, h7]
    · cases h1
  · cases h1
def evStore (P : Program) (env : Env) (H : Tr AO) (T : TypeId) (x y : Operand) : Option (Nat × Tr AO) := match evO env x, evO env y, szT P T with
  | some (.pointer (some ⟨i, off, none⟩)), some v, some k => match rowAt H i with
    | some (t, ex, cs) => match Nat.beq v.cells.toList.length k && Nat.ble (off + k) cs.length && oneL v.cells.toList && inT i with
      | true => some (i, put H i (some (.cells t ex (ovr cs off v.cells.toList))))
      | false => none
    | none => none
  | _, _, _ => none
theorem s_store {T : TypeId} {x y : Operand} (ho : o.op = .store T x y) {H' : Tr AO} {i0 : Nat} (h : evStore P env H T x y = some (i0, H')) : OpS P o env H nx [⟨undef, H', nx, [i0]⟩] := by
  have hwr : Wr H H' nx nx [i0] := by
    unfold evStore at h
    split at h
    · split at h
      · split at h
        · rename_i hb; cases h; simp only [Bool.and_eq_true] at hb; exact .put hb.2 _ _ _
        · cases h
      · cases h
    · cases h
  refine ops_one (fun c hc => by rw [ho] at hc; cases hc) (Nat.le_refl _) hwr fun n ρ a w hF hR _ => ?_
  unfold evStore at h
  split at h
  · rename_i i off v k hx hy hk
    split at h
    · rename_i t ex cs hr
      split at h
      · rename_i hb
        cases h
        simp only [Bool.and_eq_true] at hb
        obtain ⟨⟨⟨hb1, hb2⟩, hb3⟩, hb4⟩ := hb
        have hlen := Nat.eq_of_beq_eq_true hb1
        have hle := Nat.le_of_ble_eq_true hb2
        have h2 := hF.ev hx
        generalize hce : a.eval x = y' at h2
        cases h2 with
        | ptr hg =>
          rename_i g c
          obtain ⟨g', c', ds, zs, h3, h4, h5, h6⟩ := hR.row hr
          rw [hg] at h3; cases h3
          have hu := (hF.ev hy).cells
          generalize hv' : a.eval y = u at hu
          have hul := hu.length
          have hdl := h4.length
          obtain ⟨w', hrun, hrow, hm⟩ := run_storeF (P := P) g t off u.cells.toList 0 (ds ++ zs) w h5 (by rw [List.length_append, hul, hlen]; omega) (oneL_vr hu hb3)
          refine ⟨ρ, undef, w', Aft.turn hR (rowAt_get hr) hg hb4 hm ⟨ovr ds off u.cells.toList, zs, ovr_vr hu off h4, ?_, by rw [ovr_len]; exact h6⟩, .undef, .inr ⟨?_, rfl⟩⟩
          · rw [← ovr_app _ _ _ _ (by omega)]; exact hrow
          · unfold execOp
            have hsz : u.cells.size = k := by rw [← hlen, ← hul]; simp
            simp [ho, hce, hv', Instr.storeAt, Instr.sureAddr, storeVar, szT_run hk, hsz, hrun]
      · cases h
    · cases h
  · cases h
def newP (nx : Nat) : Value := .pointer (some ⟨nx, 0, none⟩)
def evNew (H : Tr AO) (nx : Nat) (T : TypeId) (cs : List Value) : Option (List Out) := match inT nx with
  | true => some [⟨newP nx, put H nx (some (.cells T none cs)), nx + 1, []⟩]
  | false => none
theorem s_new {T : TypeId} {cs : List Value} (hd : ∀ c, o.op ≠ .defer c) (h : evNew H nx T cs = some outs) (hrun : ∀ (n : Nat) (ρ : Rn) (a : Act) (w : World), FrR n ρ a env → ∃ ds, VRL ρ cs ds ∧ (execOp a.eval o).run P w = .ok (.value (.pointer (some ⟨w.heap.size, 0, none⟩))) (w.alloc (.cells ⟨ds⟩ T))) : OpS P o env H nx outs := by
  unfold evNew at h
  split at h
  · rename_i hn
    cases h
    refine ops_one hd (Nat.le_succ _) (.new hn _) fun n ρ a w hF hR hS => ?_
    obtain ⟨ds, h1, h2⟩ := hrun n ρ a w hF
    refine ⟨upd ρ nx w.heap.size 0, _, _, Aft.new hR hS hn (.cells ⟨ds⟩ T) 0 _ ⟨ds, [], h1.mono (upd_le (hS nx (Nat.le_refl _) (by omega))), by rw [List.append_nil]; exact RowF.new w T ds, rfl⟩, .ptr (c := 0) (upd_same _ _ _ _), .inl h2⟩
  · cases h
def evAlloc (P : Program) (H : Tr AO) (nx : Nat) (T : TypeId) : Option (List Out) := match zeroT P T with | some zs => evNew H nx T zs | none => none
theorem s_alloc {T : TypeId} (ho : o.op = .alloc T) (h : evAlloc P H nx T = some outs) : OpS P o env H nx outs := by
  unfold evAlloc at h
  split at h
  · rename_i zs hz
    obtain ⟨h1, z, h2, h3⟩ := zeroT_at hz
    refine s_new (fun c hc => by rw [ho] at hc; cases hc) h fun n ρ a w hF => ⟨zs, nb.selfs h1, ?_⟩
    have := exec_alloc (P := P) (a := a) (w := w) ho (zero_of h2 (zs := ⟨zs⟩) (by rw [← h3]))
    exact this
  · cases h
def evBox (env : Env) (H : Tr AO) (nx : Nat) (T : TypeId) (x : Operand) : Option (List Out) := match evO env x with | some v => evNew H nx T v.cells.toList | none => none
theorem s_box {T : TypeId} {x : Operand} (ho : o.op = .box T x) (h : evBox env H nx T x = some outs) : OpS P o env H nx outs := by
  unfold evBox at h
  split at h
  · rename_i v hx
    refine s_new (fun c hc => by rw [ho] at hc; cases hc) h fun n ρ a w hF => ⟨(a.eval x).cells.toList, (hF.ev hx).cells, ?_⟩
    unfold execOp
    simp [ho, Instr.box, newVar, newRow]
  · cases h
/-! ### Structs and arrays built -/
def fillL (place : Nat → Option (Nat × Nat)) : List Value → List (Nat × Value) → Option (List Value)
  | cs, [] => some cs
  | cs, (i, v) :: r => match place i with
    | none => none
    | some (off, size) => match Nat.beq v.cells.toList.length size && Nat.ble (off + size) cs.length with
      | true => fillL place (ovr cs off v.cells.toList) r
      | false => none
theorem foldl_ovr : ∀ (vs : List Value) (cs : Array Value) (off k : Nat), (vs.zipIdx k).foldl (fun (c : Array Value) (p : Value × Nat) => c.setIfInBounds (off + p.2) p.1) cs = ⟨ovr cs.toList (off + k) vs⟩
  | [], cs, off, k => rfl
  | v :: r, cs, off, k => by
    rw [List.zipIdx_cons, List.foldl_cons, foldl_ovr r _ off (k + 1)]
    show _ = (⟨ovr (cs.toList.set (off + k) v) (off + k + 1) r⟩ : Array Value)
    rw [Array.toList_setIfInBounds, Nat.add_assoc]
inductive PRL (ρ : Rn) : List (Nat × Value) → List (Nat × Value) → Prop
  | nil : PRL ρ [] []
  | cons {i : Nat} {v u : Value} {a b : List (Nat × Value)} (h : VR ρ v u) (hs : PRL ρ a b) : PRL ρ ((i, v) :: a) ((i, u) :: b)
theorem fillL_run {ρ : Rn} {place : Nat → Option (Nat × Nat)} : ∀ {ps qs : List (Nat × Value)}, PRL ρ ps qs → ∀ {cs ds r : List Value}, VRL ρ cs ds → fillL place cs ps = some r → ∃ r', Instr.fill place ⟨ds⟩ qs = some ⟨r'⟩ ∧ VRL ρ r r'
  | _, _, .nil, cs, ds, r, hv, h => by cases h; exact ⟨ds, rfl, hv⟩
  | (i, v) :: ps, (_, u) :: qs, .cons hu hs, cs, ds, r, hv, h => by
    unfold fillL at h
    cases hp : place i with
    | none => simp [hp] at h
    | some q =>
      obtain ⟨off, size⟩ := q
      simp only [hp] at h
      split at h
      · rename_i hb
        simp only [Bool.and_eq_true] at hb
        have h1 := Nat.eq_of_beq_eq_true hb.1
        have h2 := Nat.le_of_ble_eq_true hb.2
        have hc := hu.cells
        have h3 := hc.length
        have h4 := hv.length
        simp only [Array.length_toList] at h1 h3
        obtain ⟨r', h5, h6⟩ := fillL_run hs (ovr_vr hc off hv) h
        refine ⟨r', ?_, h6⟩
        unfold Instr.fill
        simp only [hp]
        rw [if_neg (by simp; omega)]
        have := foldl_ovr u.cells.toList ⟨ds⟩ off 0
        rw [← h5]
        congr 1
        rw [← Array.foldl_toList, Array.toList_zipIdx]
        exact this
      · cases h
def places (P : Program) : List Field → Option (List (Nat × Nat))
  | [] => some []
  | f :: r => match szT P f.type, places P r with | some k, some l => some ((f.offset, k) :: l) | _, _ => none
theorem places_run {P : Program} : ∀ {fs : List Field} {l : List (Nat × Nat)}, places P fs = some l → ∀ w, (fs.mapM (m := Sem) fun f => Prod.mk f.offset <$> sizeOf f.type).run P w = .ok l w
  | [], l, h, w => by cases h; rfl
  | f :: r, l, h, w => by
    unfold places at h
    split at h
    · rename_i k l' h1 h2
      cases h
      have ih := places_run h2 w
      simp only [List.mapM_cons, Sem.run_bind, Sem.run_map, szT_run h1, ih, Result.andThen_ok]
      rfl
    · cases h
def evParts (env : Env) : List (Nat × Operand) → Option (List (Nat × Value))
  | [] => some []
  | (i, x) :: r => match evO env x, evParts env r with | some v, some l => some ((i, v) :: l) | _, _ => none
theorem evParts_vr {n : Nat} {ρ : Rn} {a : Act} (hF : FrR n ρ a env) : ∀ {ps : List (Nat × Operand)} {l : List (Nat × Value)}, evParts env ps = some l → PRL ρ l (ps.map fun p => (p.1, a.eval p.2))
  | [], l, h => by cases h; exact .nil
  | (i, x) :: r, l, h => by
    unfold evParts at h
    split at h
    · rename_i v l' h1 h2
      cases h
      exact .cons (hF.ev h1) (evParts_vr hF h2)
    · cases h
def evBuild (P : Program) (env : Env) (T : TypeId) (ps : Array (Nat × Operand)) : Option Value := match zeroT P T, evParts env ps.toList, P.underlying T with
  | some zs, some l, some (.struct fs) => match places P fs.toList with
    | some pl => match fillL (pl[·]?) zs l with | some r => some (.agg ⟨r⟩) | none => none
    | none => none
  | some zs, some l, some (.array _ e) => match szT P e with
    | some k => match fillL (fun i => some (i * k, k)) zs l with | some r => some (.agg ⟨r⟩) | none => none
    | none => none
  | _, _, _ => none
theorem run_zero {T : TypeId} {z : Value} (h : (P.info? T).map (·.zero) = some (some z)) (w : World) : (zeroValue T).run P w = .ok z w := by
  cases hq : P.info? T with
  | none => simp [hq] at h
  | some i =>
    have hs : i.zero = some z := by simpa [hq] using h
    simp [zeroValue, typeInfo, hq, hs]
theorem s_build {T : TypeId} {ps : Array (Nat × Operand)} (ho : o.op = .build T ps) (h : one (evBuild P env T ps) H nx = some outs) : OpS P o env H nx outs := by
  obtain ⟨v, h1, rfl⟩ := one_eq h
  refine ops_val (fun c hc => by rw [ho] at hc; cases hc) fun n ρ a w hF hR => ?_
  unfold evBuild at h1
  have hparts : ∀ l, evParts env ps.toList = some l → PRL ρ l (ps.map fun p => (p.1, a.eval p.2)).toList := fun l hl => by
    have := evParts_vr hF hl
    simpa using this
  split at h1
  · rename_i zs l fs hz hl hu
    obtain ⟨h2, z, h3, h4⟩ := zeroT_at hz
    split at h1
    · rename_i pl hpl
      split at h1
      · rename_i r hr
        cases h1
        obtain ⟨r', h5, h6⟩ := fillL_run (hparts l hl) (nb.selfs (ρ := ρ) h2) hr
        refine ⟨_, .agg h6, ?_⟩
        have hz' : z.cells = ⟨zs⟩ := by rw [← h4]
        have hpl' : (fs.mapM fun f => (do pure (f.offset, ← sizeOf f.type) : Sem (Nat × Nat))).run P w = .ok ⟨pl⟩ w := by
          rw [Array.mapM_eq_mapM_toList]
          simp [places_run hpl w]
        have hpl2 : (fun i : Nat => (⟨pl⟩ : Array (Nat × Nat))[i]?) = fun i : Nat => pl[i]? := by funext i; simp
        unfold execOp
        simp only [ho, Instr.build, Sem.run_bind, run_zero h3, Result.andThen_ok, run_underlying hu, hpl', hz', hpl2]
        have h5' : Instr.fill (fun i => pl[i]?) ⟨zs⟩ (ps.map fun p => (p.1, a.eval p.2)).toList = some ⟨r'⟩ := h5
        simp only [h5']
        rfl
      · cases h1
    · cases h1
  · rename_i zs l n' e hz hl hu
    obtain ⟨h2, z, h3, h4⟩ := zeroT_at hz
    split at h1
    · rename_i k hk
      split at h1
      · rename_i r hr
        cases h1
        obtain ⟨r', h5, h6⟩ := fillL_run (hparts l hl) (nb.selfs (ρ := ρ) h2) hr
        refine ⟨_, .agg h6, ?_⟩
        have hz' : z.cells = ⟨zs⟩ := by rw [← h4]
        unfold execOp
        simp only [ho, Instr.build, Sem.run_bind, run_zero h3, Result.andThen_ok, run_underlying hu, szT_run hk, hz']
        have h5' : Instr.fill (fun i => some (i * k, k)) ⟨zs⟩ (ps.map fun p => (p.1, a.eval p.2)).toList = some ⟨r'⟩ := h5
        simp only [h5']
        rfl
      · cases h1
    · cases h1
  · cases h1
end ops
end
end Go.Proofs.YtljpjfefjidakaaGreat.Run

namespace Go.Proofs.YtljpjfefjidakaaGreat
open Go.RowKit

/-! ## The rows that a call has made -/
/-- what a row is of: cells of a type, or a loop's record -/
inductive RTy
  | ty (t : TypeId)
  | loop (l : Loop)
instance : Coe TypeId RTy := ⟨.ty⟩
instance (n : Nat) : OfNat RTy n := ⟨.ty n⟩
abbrev RowT := Nat × Option RTy × Array Value
abbrev tyR (t : TypeId) : Option RTy := some (.ty t)
instance (n : Nat) : OfNat (Option RTy) n := ⟨some (.ty n)⟩
/-- a map's entry, a map and what a range over one has seen, as values -/
def codeE (x : MapEntry) : Value := .tuple #[x.key, x.val, .int .i64 (x.born : Int)]
def mapC (es : Array MapEntry) (c : Nat) : Array Value := #[.bool true, .int .i64 (c : Int), .tuple (es.map codeE)]
def iterC (b since : Nat) (seen : Array Nat) (c : Nat) : Array Value := #[.bool false, .int .i64 (b : Int), .int .i64 (since : Int), .tuple (seen.map fun z : Nat => Value.int .i64 (z : Int)), .int .i64 (c : Int)]
/-- cells of which some are frozen -/
def litC (C : Array Value) (e : TypeId) (f : Nat × Nat) : Array Value := #[.tuple C, .int .i64 (e : Int), .int .i64 (f.1 : Int), .int .i64 (f.2 : Int)]
/-- block g is a map, or a range over one, or cells of which some are frozen -/
def ObjRow (w : World) (g : Nat) (cs : Array Value) : Prop := (∃ es c, w.heap[g]? = some (.map es c) ∧ cs = mapC es c) ∨ (∃ b s seen c, w.heap[g]? = some (.mapIter (some b) s seen c) ∧ cs = iterC b s seen c) ∨ ∃ C e f, w.heap[g]? = some (.cells C e f) ∧ cs = litC C e f
/-- what a row says of the world: cells of a type, or (without a type) a map -/
def RowX (w : World) (x : RowT) : Prop := match x.2.1 with
  | some (.ty t) => Row w x.1 t x.2.2
  | some (.loop l) => w.heap[x.1]? = some (.loop l)
  | none => ObjRow w x.1 x.2.2
def RowsOf (w : World) : List RowT → Prop
  | [] => True
  | x :: r => RowX w x ∧ RowsOf w r
section rowx
variable {S : Nat → Prop} {w w' : World} {x : RowT}
theorem RowX.obj (h : RowX w x) : ∃ o, w.heap[x.1]? = some o ∧ ∀ w' : World, w'.heap[x.1]? = some o → RowX w' x := by
  obtain ⟨g, t, cs⟩ := x
  cases t with
  | some t => cases t <;> exact ⟨_, h, fun w' h' => h'⟩
  | none =>
    rcases h with ⟨es, c, h1, h2⟩ | ⟨b, s, seen, c, h1, h2⟩ | ⟨C, e, f, h1, h2⟩
    · exact ⟨_, h1, fun w' h' => .inl ⟨es, c, h', h2⟩⟩
    · exact ⟨_, h1, fun w' h' => .inr (.inl ⟨b, s, seen, c, h', h2⟩)⟩
    · exact ⟨_, h1, fun w' h' => .inr (.inr ⟨C, e, f, h', h2⟩)⟩
theorem RowX.lt (h : RowX w x) : x.1 < w.heap.size := by
  obtain ⟨o, h1, _⟩ := h.obj
  exact (Array.getElem?_eq_some_iff.1 h1).1
theorem RowX.same (h : RowX w x) (e : w'.heap[x.1]? = w.heap[x.1]?) : RowX w' x := by
  obtain ⟨o, h1, h2⟩ := h.obj
  exact h2 w' (e.trans h1)
theorem RowX.mod (h : RowX w x) (hm : Mod S w w') (hn : ¬ S x.1) : RowX w' x := h.same (hm.block x.1 h.lt hn)
theorem RowX.below {B : Nat} (h : RowX w x) (hb : Below B w w') (hg : x.1 < B) : RowX w' x := h.same (hb.block x.1 hg)
theorem RowX.old (h : RowX w x) (hb : Below w.heap.size w w') : RowX w' x := h.below hb h.lt
theorem RowX.alloc (h : RowX w x) (o : Obj) : RowX (w.alloc o) x := h.same (Below.heap_alloc w o x.1 h.lt)
theorem RowX.drew (h : RowX w x) : RowX w.drew x := h.same rfl
theorem RowX.mod_ne {g' : Nat} (h : RowX w x) (hm : Mod (One g') w w') (hn : x.1 ≠ g') : RowX w' x := h.mod hm (fun e => hn e)
end rowx
def Apart (B : Nat) : List RowT → Prop
  | [] => True
  | x :: r => B ≤ x.1 ∧ (∀ y ∈ r, y.1 ≠ x.1) ∧ Apart B r
/-- what stood before the call is as it was; of its own rows these are known -/
structure Hp (B : Nat) (w0 w : World) (rs : List RowT) : Prop where
  up : Up B w0 w
  rows : RowsOf w rs
  apart : Apart B rs
section hp
variable {B : Nat} {w0 w w' : World} {rs : List RowT}
theorem RowsOf.at_ : ∀ {rs : List RowT}, RowsOf w rs → ∀ (i : Nat) g (t : TypeId) cs, rs[i]? = some (g, tyR t, cs) → Row w g t cs
  | [], _, i, g, t, cs, h => by simp at h
  | x :: r, hr, 0, g, t, cs, h => by
    simp only [List.getElem?_cons_zero, Option.some.injEq] at h
    subst h
    exact hr.1
  | x :: r, hr, i + 1, g, t, cs, h => by
    simp only [List.getElem?_cons_succ] at h
    exact RowsOf.at_ hr.2 i g t cs h
theorem RowsOf.map_ : ∀ {rs : List RowT}, RowsOf w rs → (∀ x ∈ rs, RowX w x → RowX w' x) → RowsOf w' rs
  | [], _, _ => trivial
  | (g, t, cs) :: r, hr, h => ⟨h (g, t, cs) (by simp) hr.1, RowsOf.map_ hr.2 fun x hx => h x (by simp [hx])⟩
theorem RowsOf.mem : ∀ {rs : List RowT}, RowsOf w rs → ∀ x ∈ rs, RowX w x
  | [], _, x, h => by simp at h
  | (g, t, cs) :: r, hr, x, h => by
    rcases List.mem_cons.1 h with rfl | h
    · exact hr.1
    · exact RowsOf.mem hr.2 x h
theorem Apart.ge : ∀ {rs : List RowT}, Apart B rs → ∀ x ∈ rs, B ≤ x.1
  | [], _, x, h => by simp at h
  | y :: r, ha, x, h => by
    rcases List.mem_cons.1 h with rfl | h
    · exact ha.1
    · exact Apart.ge ha.2.2 x h
theorem Hp.row (h : Hp B w0 w rs) (i : Nat) {g : Nat} {t : TypeId} {cs : Array Value} (hi : rs[i]? = some (g, tyR t, cs)) : Row w g t cs := h.rows.at_ i g t cs hi
theorem Hp.call (h : Hp B w0 w rs) (hb : Below w.heap.size w w') : Hp B w0 w' rs := ⟨h.up.trans hb, h.rows.map_ fun _ _ r => r.old hb, h.apart⟩
theorem Hp.new (h : Hp B w0 w rs) (t : TypeId) (cs : Array Value) : Hp B w0 (w.alloc (.cells cs t)) ((w.heap.size, tyR t, cs) :: rs) :=
  ⟨h.up.alloc _, ⟨Row.new w t cs, h.rows.map_ fun _ _ r => r.alloc _⟩, h.up.size, fun y hy => by have := (h.rows.mem y hy).lt; omega, h.apart⟩
/-- row i holds other cells now -/
def setRowT : List RowT → Nat → Array Value → List RowT
  | [], _, _ => []
  | (g, t, _) :: r, 0, c => (g, t, c) :: r
  | x :: r, i + 1, c => x :: setRowT r i c
theorem setRowT_mem : ∀ {rs : List RowT} {i : Nat} {c : Array Value}, ∀ y ∈ setRowT rs i c, ∃ x ∈ rs, x.1 = y.1
  | [], _, _, y, h => by simp [setRowT] at h
  | (g, t, c0) :: r, 0, c, y, h => by
    unfold setRowT at h
    rcases List.mem_cons.1 h with rfl | h
    · exact ⟨(g, t, c0), by simp, rfl⟩
    · exact ⟨y, by simp [h], rfl⟩
  | x :: r, i + 1, c, y, h => by
    unfold setRowT at h
    rcases List.mem_cons.1 h with rfl | h
    · exact ⟨_, by simp, rfl⟩
    · obtain ⟨z, hz, e⟩ := setRowT_mem y h
      exact ⟨z, by simp [hz], e⟩
theorem Apart.set : ∀ {rs : List RowT} {i : Nat} {c : Array Value}, Apart B rs → Apart B (setRowT rs i c)
  | [], _, _, _ => trivial
  | (g, t, _) :: r, 0, c, h => h
  | x :: r, i + 1, c, h => ⟨h.1, fun y hy => by obtain ⟨z, hz, e⟩ := setRowT_mem y hy; rw [← e]; exact h.2.1 z hz, Apart.set h.2.2⟩
theorem Hp.set (h : Hp B w0 w rs) : ∀ (i : Nat) {g : Nat} {t : TypeId} {cs c : Array Value}, rs[i]? = some (g, tyR t, cs) → Mod (One g) w w' → Row w' g t c → Hp B w0 w' (setRowT rs i c) := by
  intro i g t cs c hi hm hR
  have hmem : (g, tyR t, cs) ∈ rs := List.mem_of_getElem? hi
  refine ⟨h.up.one hm (h.apart.ge _ hmem), ?_, h.apart.set⟩
  have key : ∀ {rs : List RowT} (i : Nat), RowsOf w rs → Apart B rs → rs[i]? = some (g, tyR t, cs) → RowsOf w' (setRowT rs i c) := by
    intro rs
    induction rs with
    | nil => intro i _ _ hi; simp at hi
    | cons x r ih =>
      intro i hr ha hi
      obtain ⟨g', t', cs'⟩ := x
      cases i with
      | zero =>
        simp only [List.getElem?_cons_zero, Option.some.injEq, Prod.mk.injEq] at hi
        obtain ⟨rfl, rfl, rfl⟩ := hi
        exact ⟨hR, hr.2.map_ fun y hy r => r.mod_ne hm (ha.2.1 y hy)⟩
      | succ i =>
        simp only [List.getElem?_cons_succ] at hi
        refine ⟨hr.1.mod_ne hm (fun e => ?_), ih i hr.2 ha.2.2 hi⟩
        exact ha.2.1 _ (List.mem_of_getElem? hi) e.symm
  exact key i h.rows h.apart hi
theorem Hp.drew (h : Hp B w0 w rs) : Hp B w0 w.drew rs := ⟨h.up.drew, h.rows.map_ fun _ _ r => r.drew, h.apart⟩
theorem Hp.sub (h : Hp B w0 w rs) {rs' : List RowT} (h1 : RowsOf w rs → RowsOf w rs') (h2 : Apart B rs → Apart B rs') : Hp B w0 w rs' := ⟨h.up, h1 h.rows, h2 h.apart⟩
end hp

/-- from any frame that holds env and any world with the rows rs, the operations l -/
def WL2 (P : Program) (ops : Array Oper) (Q : Exit → Act → World → Prop) (n : Nat) (env : List (Nat × Value)) (B : Nat) (w0 : World) (rs : List RowT) (l : List Oper) : Prop := ∀ a w, Fr n a env → Hp B w0 w rs → wpList P ops Q l a w
def WC2 (P : Program) (Q : Exit → Act → World → Prop) (n : Nat) (env : List (Nat × Value)) (B : Nat) (w0 : World) (rs : List RowT) (c : Code) : Prop := ∀ a w, Fr n a env → Hp B w0 w rs → c.wp P Q a w
def WE2 (Q : Exit → Act → World → Prop) (n : Nat) (env : List (Nat × Value)) (B : Nat) (w0 : World) (rs : List RowT) (e : Exit) : Prop := ∀ a w, Fr n a env → Hp B w0 w rs → Q e a w

/-! ## What needs no memory, as much of it as stands in a row -/
def fld : List ((Nat × Nat) × Nat) → Nat → Nat → Option Nat
  | [], _, _ => none
  | ((s, f), k) :: r, S, F => match Nat.beq s S, Nat.beq f F with | true, true => some k | _, _ => fld r S F
def q1 (fl : List ((Nat × Nat) × Nat)) (o : Oper) (env : List (Nat × Value)) : Option Value :=
  match o.op with
  | .move x => evs env x
  | .assign x => evs env x
  | .extract x i => match evs env x with | some (.tuple vs) => vs[i]? | _ => none
  | .pick c a b => match evs env c with | some (.bool true) => evs env a | some (.bool false) => evs env b | _ => none
  | .unOp .not _ x => match evs env x with | some (.bool true) => some (.bool false) | some (.bool false) => some (.bool true) | _ => none
  | .fieldAddr S x f => match evs env x with
    | some (.pointer (some ⟨g, off, none⟩)) => match fld fl S f with | some k => some (.pointer (some ⟨g, off + k, none⟩)) | none => none
    | _ => none
  | _ => none
section wl2
variable {P : Program} {ops : Array Oper} {Q : Exit → Act → World → Prop} {n B : Nat} {w0 : World} {rs rs' : List RowT} {env env' : List (Nat × Value)} {l rest : List Oper} {o : Oper} {d : Nat} {fl : List ((Nat × Nat) × Nat)}
theorem WL2.keep (hs : Sub env env') (h : WL2 P ops Q n env' B w0 rs l) : WL2 P ops Q n env B w0 rs l := fun a w hF hH => h a w (hF.keep hs) hH
theorem WC2.keep {c : Code} (hs : Sub env env') (h : WC2 P Q n env' B w0 rs c) : WC2 P Q n env B w0 rs c := fun a w hF hH => h a w (hF.keep hs) hH
theorem WE2.keep {e : Exit} (hs : Sub env env') (h : WE2 Q n env' B w0 rs e) : WE2 Q n env B w0 rs e := fun a w hF hH => h a w (hF.keep hs) hH
end wl2

section wc2
variable {P : Program} {Q : Exit → Act → World → Prop} {n B : Nat} {w0 : World} {rs : List RowT} {env : List (Nat × Value)}
variable {fn : Func} {R : Ending → World → Prop}
end wc2

/-! ## A region that draws its order -/
section par2
variable {P : Program} {ops : Array Oper} {Q : Exit → Act → World → Prop} {n B : Nat} {w0 : World} {rs : List RowT} {env env0 : List (Nat × Value)} {jobs : List Job} {o : Oper} {deps : List Nat} {v : Value} {fl : List ((Nat × Nat) × Nat)} {kk : Nat}
def OB2 (P : Program) (ops : Array Oper) (Q : Exit → Act → World → Prop) (n : Nat) (jobs : List Job) (env0 : List (Nat × Value)) (B : Nat) (w0 : World) (rs : List RowT) (o : Oper) (j : Job) : Prop := ∀ w, Hp B w0 w rs → OB P ops Q n jobs env0 w o j
def AllOB2 (P : Program) (ops : Array Oper) (Q : Exit → Act → World → Prop) (n : Nat) (jobs : List Job) (env0 : List (Nat × Value)) (B : Nat) (w0 : World) (rs : List RowT) : List Oper → List Job → Prop
  | o :: os, j :: js => OB2 P ops Q n jobs env0 B w0 rs o j ∧ AllOB2 P ops Q n jobs env0 B w0 rs os js
  | _, _ => True
theorem AllOB2.all : ∀ {os : List Oper} {js : List Job}, AllOB2 P ops Q n jobs env0 B w0 rs os js → ∀ w, Hp B w0 w rs → AllOb P ops Q n w.heap.size jobs env0 (UpΦ w) os js
  | [], _, _, _, _ => by unfold AllOb; trivial
  | _ :: _, [], _, _, _ => by unfold AllOb; trivial
  | _ :: _, _ :: _, h, w, hH => ⟨h.1 w hH, AllOB2.all h.2 w hH⟩
theorem RowsOf.app {w : World} : ∀ {a b : List RowT}, (∀ x ∈ a, RowX w x) → RowsOf w b → RowsOf w (a ++ b)
  | [], _, _, hb => hb
  | (g, t, cs) :: r, _, ha, hb => ⟨ha (g, t, cs) (by simp), RowsOf.app (fun x hx => ha x (by simp [hx])) hb⟩
end par2

/-! ## A small region, order by order -/
section orders2
variable {P : Program} {ops : Array Oper} {Q : Exit → Act → World → Prop} {n f i d B : Nat} {w0 : World} {rs : List RowT} {env env' : List (Nat × Value)} {listed : Array Bool} {o : Oper} {fl : List ((Nat × Nat) × Nat)}
end orders2
end Go.Proofs.YtljpjfefjidakaaGreat

namespace Go.Proofs.YtljpjfefjidakaaGreat
open Go.RowKit
/-- a string of these bytes -/
def bs (l : List UInt8) : ByteArray := ⟨l.toArray⟩
theorem bs_size (l : List UInt8) : (bs l).size = l.length := by simp [bs, ByteArray.size]
theorem bs_list (l : List UInt8) : (bs l).toList = l := by simp [bs, ByteArray.toList_eq]
theorem bs_of (s : ByteArray) : s = bs s.data.toList := by cases s; simp [bs]
theorem bs_cat (a b : List UInt8) : bs a ++ bs b = bs (a ++ b) := ByteArray.mk_append_mk a b
theorem bs_cut (l : List UInt8) (i j : Nat) : (bs l).extract i j = bs ((l.take j).drop i) := by
  rw [bs_of ((bs l).extract i j)]
  congr 1
  simp [bs, ByteArray.data_extract, List.drop_take]
section
variable {P : Program} {ops : Array Oper} {Q : Exit → Act → World → Prop} {n B d : Nat} {w0 : World} {rs : List RowT} {env env0 : List (Nat × Value)} {rest : List Oper} {o : Oper} {a : Act} {w : World} {jobs : List Job} {deps : List Nat} {kk : Nat}
end
end Go.Proofs.YtljpjfefjidakaaGreat
