/-
  Rb
-/
import Derived.Test.YtmcdjniebkfagaaAA01
import Derived.TacticsIn
set_option linter.unusedSimpArgs false
set_option linter.unusedVariables false

namespace Go.Proofs.Ytmcdjniebkfagaa.Run
noncomputable section
open Go.RowKit

/-! ## The frame -/
abbrev Env := Tr Value
structure FrR (n : Nat) (ρ : Rn) (a : Act) (env : Env) : Prop where
  size : a.tmps.size = n
  get : ∀ s v, env.get s = some v → ∃ u, a.tmps[s]? = some u ∧ VR ρ v u
def evO (env : Env) : Operand → Option Value
  | .tmp t => env.get t
  | .const v => match nb1 v with | true => some v | false => none
  | .func f => some (.func (.func f) ⟨[]⟩ ⟨[]⟩)
  | .global g => some (.pointer (some ⟨g, 0, some 1⟩))
def evL (env : Env) : List Operand → Option (List Value)
  | [] => some []
  | x :: r => match evO env x, evL env r with
    | some v, some l => some (v :: l)
    | _, _ => none
section fr
variable {n : Nat} {ρ ρ' : Rn} {a : Act} {env : Env}
theorem FrR.ev (h : FrR n ρ a env) {x : Operand} {v : Value} (hx : evO env x = some v) : VR ρ v (a.eval x) := by
  cases x with
  | tmp t =>
    obtain ⟨u, h1, h2⟩ := h.get t v hx
    simpa [Act.eval, h1] using h2
  | const c =>
    have hx : (match nb1 c with | true => some c | false => none) = some v := hx
    cases hc : nb1 c with
    | true => rw [hc] at hx; cases hx; exact nb1.self hc
    | false => rw [hc] at hx; cases hx
  | func f => cases hx; exact .func f .nil .nil
  | global g => cases hx; exact .glob g 0
theorem FrR.evL (h : FrR n ρ a env) : ∀ {xs : List Operand} {vs : List Value}, evL env xs = some vs → VRL ρ vs (xs.map a.eval)
  | [], vs, hx => by cases hx; exact .nil
  | x :: r, vs, hx => by
    unfold Run.evL at hx
    cases h1 : evO env x with
    | none => simp [h1] at hx
    | some v =>
      cases h2 : Run.evL env r with
      | none => simp [h1, h2] at hx
      | some l =>
        simp only [h1, h2, Option.some.injEq] at hx
        subst hx
        exact .cons (h.ev h1) (FrR.evL h h2)
theorem FrR.mono (h : FrR n ρ a env) (hl : Le ρ ρ') : FrR n ρ' a env := ⟨h.size, fun s v hs => by obtain ⟨u, h1, h2⟩ := h.get s v hs; exact ⟨u, h1, h2.mono hl⟩⟩
theorem FrR.put (h : FrR n ρ a env) {d : Nat} (hd : d < n) (hin : inT d = true) {v u : Value} (hv : VR ρ v u) : FrR n ρ (a.put (some d) u) (put env d (some v)) := by
  refine ⟨by simp [Act.put, h.size], fun s x hs => ?_⟩
  rw [get_put hin] at hs
  show ∃ y, (a.tmps.setIfInBounds d u)[s]? = some y ∧ _
  split at hs
  · rename_i he
    subst he
    cases hs
    exact ⟨u, by rw [Array.getElem?_setIfInBounds_self_of_lt (by rw [h.size]; exact hd)], hv⟩
  · rename_i he
    rw [Array.getElem?_setIfInBounds_ne (by omega)]
    exact h.get s x hs
end fr

/-! ## Fences -/
def GF (F : Fence) : Prop := F = Fence.wide ∨ ∃ L, F = Fence.wide.inRound L
def OnQ (K : Act → World → Prop) (Q : Exit → Act → World → Prop) : Exit → Act → World → Prop
  | .normal, a, w => K a w
  | .ret, a, w => Q .ret a w
  | .exit id, a, w => Q (.exit id) a w
  | .goto t, a, w => Q (.goto t) a w
  | .panic c, a, w => Q (.panic c) a w
  | .outgrown, a, w => Q .outgrown a w
section fence
variable {P : Program} {Q : Exit → Act → World → Prop} {a : Act} {w : World} {o : Oper} {F : Fence}
/-- an operation that answers a value -/
theorem in_val (hG : GF F) (hd : ∀ c, o.op ≠ .defer c) {K : Act → World → Prop} {u : Value} {w' : World} (h : (execOp a.eval o).run P w = .ok (.value u) w') (hK : K (a.put o.dst u) w') : o.wpIn F 0 P a w K Q := by
  rcases hG with rfl | ⟨L, rfl⟩
  · refine ⟨fun _ _ => trivial, ?_⟩
    have hs : Oper.semAt Fence.wide.round a.eval o = execOp a.eval o := rfl
    rw [hs, h]
    exact hK
  · refine ⟨fun _ _ => trivial, ?_⟩
    rw [Oper.semAt_eq _ _ _ (fun c hc => hd c hc), h]
    exact hK
theorem in_skip (hG : GF F) (hd : ∀ c, o.op ≠ .defer c) {K : Act → World → Prop} {w' : World} (h : (execOp a.eval o).run P w = .ok .skip w') (hK : K (a.put o.dst undef) w') : o.wpIn F 0 P a w K Q := by
  rcases hG with rfl | ⟨L, rfl⟩
  · refine ⟨fun _ _ => trivial, ?_⟩
    have hs : Oper.semAt Fence.wide.round a.eval o = execOp a.eval o := rfl
    rw [hs, h]
    exact hK
  · refine ⟨fun _ _ => trivial, ?_⟩
    rw [Oper.semAt_eq _ _ _ (fun c hc => hd c hc), h]
    exact hK
end fence

/-! ## What an operation comes to -/
structure Out where
  v : Value
  H : Tr AO
  nx : Nat
  wr : List Nat
/-- but for rows wr, and the new ones, all is as it was -/
def Wr (H H' : Tr AO) (nx nx' : Nat) (wr : List Nat) : Prop := ∀ k, k ∉ wr → (k < nx ∨ nx' ≤ k) → H'.get k = H.get k
theorem Wr.refl (H : Tr AO) (a b : Nat) (l : List Nat) : Wr H H a b l := fun _ _ _ => rfl
theorem Wr.put {H : Tr AO} {i : Nat} (hin : inT i = true) (x : Option AO) (a b : Nat) : Wr H (put H i x) a b [i] := fun k hk _ => by rw [get_put hin, if_neg (by simpa using hk)]
theorem Wr.new {H : Tr AO} {nx : Nat} (hin : inT nx = true) (x : Option AO) : Wr H (Run.put H nx x) nx (nx + 1) [] := fun k _ hk => by rw [get_put hin, if_neg (by omega)]
theorem Wr.trans {H H1 H2 : Tr AO} {nx nx1 nx2 : Nat} {l m : List Nat} (h : Wr H H1 nx nx1 l) (h' : Wr H1 H2 nx1 nx2 m) (l1 : nx ≤ nx1) (l2 : nx1 ≤ nx2) : Wr H H2 nx nx2 (l ++ m) := fun k hk hb => by
  rw [List.mem_append, not_or] at hk
  rw [h' k hk.2 (by omega), h k hk.1 (by omega)]
def OpS (P : Program) (o : Oper) (env : Env) (H : Tr AO) (nx : Nat) (outs : List Out) : Prop :=
  (outs ≠ [] ∧ ∀ x ∈ outs, nx ≤ x.nx ∧ Wr H x.H nx x.nx x.wr) ∧ ∀ (n : Nat) (ρ : Rn) (a : Act) (w : World) (M : Nat), FrR n ρ a env → Rep ρ H w → (∀ x ∈ outs, x.nx ≤ M) → Fsh ρ nx M → ∀ (F : Fence), GF F → ∀ (K : Act → World → Prop) (Q : Exit → Act → World → Prop),
    (∀ x ∈ outs, ∀ ρ' w' u, Aft ρ H w nx ρ' x.H w' x.nx → VR ρ' x.v u → K (a.put o.dst u) w') → o.wpIn F 0 P a w K Q
section ops
variable {P : Program} {o : Oper} {env : Env} {H H' : Tr AO} {nx : Nat} {v : Value} {outs : List Out}
/-- the memory stays -/
theorem ops_val (hd : ∀ c, o.op ≠ .defer c) (h : ∀ (n : Nat) (ρ : Rn) (a : Act) (w : World), FrR n ρ a env → Rep ρ H w → ∃ u, VR ρ v u ∧ (execOp a.eval o).run P w = .ok (.value u) w) : OpS P o env H nx [⟨v, H, nx, []⟩] := by
  refine ⟨⟨by simp, fun x hx => ?_⟩, fun n ρ a w M hF hR _ _ F hG K Q hK => ?_⟩
  · have : x = ⟨v, H, nx, []⟩ := by simpa using hx
    subst this; exact ⟨Nat.le_refl _, .refl _ _ _ _⟩
  · obtain ⟨u, h1, h2⟩ := h n ρ a w hF hR
    exact in_val hG hd h2 (hK _ (List.mem_singleton.2 rfl) ρ w u (.refl hR) h1)
/-- one row is turned, or a new one comes -/
theorem ops_one {nx' : Nat} {wr : List Nat} (hd : ∀ c, o.op ≠ .defer c) (hle : nx ≤ nx') (hwr : Wr H H' nx nx' wr) (h : ∀ (n : Nat) (ρ : Rn) (a : Act) (w : World), FrR n ρ a env → Rep ρ H w → Fsh ρ nx nx' → ∃ ρ' u w', Aft ρ H w nx ρ' H' w' nx' ∧ VR ρ' v u ∧ ((execOp a.eval o).run P w = .ok (.value u) w' ∨ (execOp a.eval o).run P w = .ok .skip w' ∧ u = undef)) : OpS P o env H nx [⟨v, H', nx', wr⟩] := by
  refine ⟨⟨by simp, fun x hx => ?_⟩, fun n ρ a w M hF hR hM hS F hG K Q hK => ?_⟩
  · have : x = ⟨v, H', nx', wr⟩ := by simpa using hx
    subst this; exact ⟨hle, hwr⟩
  · have hm := hM ⟨v, H', nx', wr⟩ (by simp)
    obtain ⟨ρ', u, w', h1, h2, h3⟩ := h n ρ a w hF hR (hS.left hm)
    rcases h3 with h3 | ⟨h3, rfl⟩
    · exact in_val hG hd h3 (hK _ (List.mem_singleton.2 rfl) ρ' w' u h1 h2)
    · exact in_skip hG hd h3 (hK _ (List.mem_singleton.2 rfl) ρ' w' _ h1 h2)

/-! ### What asks only the program -/
def runPure {α : Type} (P : Program) : Sem α → Option α
  | .pure a => some a
  | .program k => runPure P (k P)
  | _ => none
theorem runPure_run {α : Type} {P : Program} : ∀ {s : Sem α} {a : α}, runPure P s = some a → ∀ w, s.run P w = .ok a w
  | .pure _, _, h, w => by cases h; rfl
  | .program k, a, h, w => by
    show Sem.run P (k P) w = _
    exact runPure_run (s := k P) h w
  | .load .., _, h, _ | .store .., _, h, _ | .new .., _, h, _ | .shape .., _, h, _ | .freeze .., _, h, _ | .frozen .., _, h, _ | .getObj .., _, h, _ | .setObj .., _, h, _ | .choose .., _, h, _ | .sys .., _, h, _ | .mark .., _, h, _ | .halt .., _, h, _ => by cases h
def self1 (v : Value) : Option Value := match nb1 v with | true => some v | false => none
theorem self1_vr {v u : Value} {ρ : Rn} (h : self1 v = some u) : VR ρ u v ∧ u = v := by
  unfold self1 at h
  split at h
  · rename_i hn; cases h; exact ⟨nb1.self hn, rfl⟩
  · cases h
def pureOf (P : Program) (s : Sem Value) : Option Value := match runPure P s with | some v => self1 v | none => none
theorem pureOf_run {P : Program} {s : Sem Value} {v : Value} (h : pureOf P s = some v) (ρ : Rn) (w : World) : VR ρ v v ∧ s.run P w = .ok v w := by
  unfold pureOf at h
  split at h
  · rename_i x hx
    obtain ⟨h1, h2⟩ := self1_vr (ρ := ρ) h
    subst h2
    exact ⟨h1, runPure_run hx w⟩
  · cases h
def both (v u : Value) : Bool := match nb1 v with | true => nb1 u | false => false
theorem both_l {v u : Value} (h : both v u = true) : nb1 v = true ∧ nb1 u = true := by
  unfold both at h
  split at h
  · exact ⟨by assumption, h⟩
  · cases h
/-- a name for the answer -/
def one (o : Option Value) (H : Tr AO) (nx : Nat) : Option (List Out) := match o with | some v => some [⟨v, H, nx, []⟩] | none => none
theorem one_eq {x : Option Value} {outs : List Out} (h : one x H nx = some outs) : ∃ v, x = some v ∧ outs = [⟨v, H, nx, []⟩] := by
  unfold one at h
  split at h
  · cases h; exact ⟨_, rfl, rfl⟩
  · cases h

theorem s_move {x : Operand} (ho : o.op = .move x ∨ o.op = .assign x) (h : one (evO env x) H nx = some outs) : OpS P o env H nx outs := by
  obtain ⟨v, h1, rfl⟩ := one_eq h
  refine ops_val (fun c hc => by rcases ho with h | h <;> rw [h] at hc <;> cases hc) fun n ρ a w hF hR => ⟨a.eval x, hF.ev h1, ?_⟩
  unfold execOp
  rcases ho with ho | ho <;> simp [ho]
def evPick (env : Env) (c x y : Operand) : Option Value := match evO env c with | some (.bool true) => evO env x | some (.bool false) => evO env y | _ => none
theorem s_pick {c x y : Operand} (ho : o.op = .pick c x y) (h : one (evPick env c x y) H nx = some outs) : OpS P o env H nx outs := by
  obtain ⟨v, h1, rfl⟩ := one_eq h
  refine ops_val (fun c hc => by rw [ho] at hc; cases hc) fun n ρ a w hF hR => ?_
  unfold evPick at h1
  split at h1
  · rename_i hc
    have h2 := hF.ev hc
    cases hce : a.eval c with
    | bool b =>
      rw [hce] at h2; cases h2
      refine ⟨_, hF.ev h1, ?_⟩
      unfold execOp
      simp [ho, hce, asBool]
    | _ => rw [hce] at h2; cases h2
  · rename_i hc
    have h2 := hF.ev hc
    cases hce : a.eval c with
    | bool b =>
      rw [hce] at h2; cases h2
      refine ⟨_, hF.ev h1, ?_⟩
      unfold execOp
      simp [ho, hce, asBool]
    | _ => rw [hce] at h2; cases h2
  · cases h1
def evExtract (env : Env) (x : Operand) (i : Nat) : Option Value := match evO env x with | some (.tuple ⟨vs⟩) => vs[i]? | _ => none
theorem s_extract {x : Operand} {i : Nat} (ho : o.op = .extract x i) (h : one (evExtract env x i) H nx = some outs) : OpS P o env H nx outs := by
  obtain ⟨v, h1, rfl⟩ := one_eq h
  refine ops_val (fun c hc => by rw [ho] at hc; cases hc) fun n ρ a w hF hR => ?_
  unfold evExtract at h1
  split at h1
  · rename_i vs hx
    have h2 := hF.ev hx
    generalize hce : a.eval x = y at h2
    cases h2 with
    | tuple hs =>
      obtain ⟨u, h3, h4⟩ := hs.get i v h1
      refine ⟨u, h4, ?_⟩
      unfold execOp
      simp [ho, hce, Instr.extract, h3]
  · cases h1
/-- operators, of what has no numbers -/
def evBin (P : Program) (env : Env) (op : BinOp) (T : TypeId) (x y : Operand) : Option Value := match evO env x, evO env y with
  | some p, some q => match both p q with
    | true => pureOf P (do eqGuard op T x y p q; binOp op T p q)
    | false => none
  | _, _ => none
theorem s_bin {op : BinOp} {T T' : TypeId} {x y : Operand} (ho : o.op = .binOp op T x y T') (h : one (evBin P env op T x y) H nx = some outs) : OpS P o env H nx outs := by
  obtain ⟨v, h1, rfl⟩ := one_eq h
  refine ops_val (fun c hc => by rw [ho] at hc; cases hc) fun n ρ a w hF hR => ?_
  unfold evBin at h1
  split at h1
  · rename_i p q hp hq
    split at h1
    · rename_i hb
      have h2 := nb1.eq (both_l hb).1 (hF.ev hp)
      have h3 := nb1.eq (both_l hb).2 (hF.ev hq)
      obtain ⟨h4, h5⟩ := pureOf_run h1 ρ w
      refine ⟨v, h4, ?_⟩
      unfold execOp
      simp only [ho, h2, h3]
      rw [Sem.run_bind, h5]
      rfl
    · cases h1
  · cases h1
def evUn (P : Program) (env : Env) (op : UnOp) (x : Operand) : Option Value := match evO env x with
  | some p => match nb1 p with
    | true => pureOf P (Op.unary op p)
    | false => none
  | _ => none
theorem s_un {op : UnOp} {T : TypeId} {x : Operand} (ho : o.op = .unOp op T x) (h : one (evUn P env op x) H nx = some outs) : OpS P o env H nx outs := by
  obtain ⟨v, h1, rfl⟩ := one_eq h
  refine ops_val (fun c hc => by rw [ho] at hc; cases hc) fun n ρ a w hF hR => ?_
  unfold evUn at h1
  split at h1
  · rename_i p hp
    split at h1
    · rename_i hb
      have h2 := nb1.eq hb (hF.ev hp)
      obtain ⟨h4, h5⟩ := pureOf_run h1 ρ w
      refine ⟨v, h4, ?_⟩
      unfold execOp
      simp only [ho, h2]
      rw [Sem.run_bind, h5]
      rfl
    · cases h1
  · cases h1
def evConv (P : Program) (env : Env) (T T' : TypeId) (x : Operand) : Option Value := match evO env x with
  | some p => match nb1 p with
    | true => pureOf P (convert T T' p)
    | false => none
  | _ => none
theorem s_conv {T T' : TypeId} {x : Operand} (ho : o.op = .convert T T' x) (h : one (evConv P env T T' x) H nx = some outs) : OpS P o env H nx outs := by
  obtain ⟨v, h1, rfl⟩ := one_eq h
  refine ops_val (fun c hc => by rw [ho] at hc; cases hc) fun n ρ a w hF hR => ?_
  unfold evConv at h1
  split at h1
  · rename_i p hp
    split at h1
    · rename_i hb
      have h2 := nb1.eq hb (hF.ev hp)
      obtain ⟨h4, h5⟩ := pureOf_run h1 ρ w
      refine ⟨v, h4, ?_⟩
      unfold execOp
      simp only [ho, h2]
      rw [Sem.run_bind, h5]
      rfl
    · cases h1
  · cases h1
def evIndex (P : Program) (env : Env) (T : TypeId) (x y : Operand) : Option Value := match evO env x, evO env y with
  | some p, some q => match both p q with
    | true => pureOf P (Instr.index T p q)
    | false => none
  | _, _ => none
theorem s_index {T : TypeId} {x y : Operand} (ho : o.op = .index T x y) (h : one (evIndex P env T x y) H nx = some outs) : OpS P o env H nx outs := by
  obtain ⟨v, h1, rfl⟩ := one_eq h
  refine ops_val (fun c hc => by rw [ho] at hc; cases hc) fun n ρ a w hF hR => ?_
  unfold evIndex at h1
  split at h1
  · rename_i p q hp hq
    split at h1
    · rename_i hb
      have h2 := nb1.eq (both_l hb).1 (hF.ev hp)
      have h3 := nb1.eq (both_l hb).2 (hF.ev hq)
      obtain ⟨h4, h5⟩ := pureOf_run h1 ρ w
      refine ⟨v, h4, ?_⟩
      unfold execOp
      simp only [ho, h2, h3]
      rw [Sem.run_bind, h5]
      rfl
    · cases h1
  · cases h1
/-! ### Addresses -/
def evNil (env : Env) (x : Operand) : Option Value := match evO env x with
  | some (.pointer (some p)) => some (.pointer (some p))
  | some (.func (.func F) p q) => some (.func (.func F) p q)
  | some (.func (.yield F) p q) => some (.func (.yield F) p q)
  | _ => none
theorem s_nil {x : Operand} (ho : o.op = .nilCheck x) (h : one (evNil env x) H nx = some outs) : OpS P o env H nx outs := by
  obtain ⟨v, h1, rfl⟩ := one_eq h
  refine ops_val (fun c hc => by rw [ho] at hc; cases hc) fun n ρ a w hF hR => ?_
  have key : evO env x = some v ∧ ((∃ p, v = .pointer (some p)) ∨ (∃ F p q, v = .func (.func F) p q) ∨ ∃ F p q, v = .func (.yield F) p q) := by
    unfold evNil at h1
    split at h1
    · rename_i h2; cases h1; exact ⟨h2, .inl ⟨_, rfl⟩⟩
    · rename_i h2; cases h1; exact ⟨h2, .inr (.inl ⟨_, _, _, rfl⟩)⟩
    · rename_i h2; cases h1; exact ⟨h2, .inr (.inr ⟨_, _, _, rfl⟩)⟩
    · cases h1
  have h2 := hF.ev key.1
  generalize hce : a.eval x = y at h2
  refine ⟨y, h2, ?_⟩
  rcases key.2 with ⟨p, rfl⟩ | ⟨G, p, q, rfl⟩ | ⟨G, p, q, rfl⟩
  all_goals
    cases h2 <;> (unfold execOp; simp [ho, hce])
def fieldK (P : Program) (S : TypeId) (f : Nat) : Option Nat := match P.underlying S with
  | some (.struct fs) => match fs.toList[f]? with
    | some fl => match (P.info? fl.type).map (·.size) with
      | some k => match Nat.beq k 0 with | true => none | false => some fl.offset
      | none => none
    | none => none
  | _ => none
theorem fieldK_at {S f k : Nat} (h : fieldK P S f = some k) (g off : Nat) (w : World) : (Instr.fieldAt S (.pointer (some ⟨g, off, none⟩)) f).run P w = .ok (.pointer (some ⟨g, off + k, none⟩)) w := by
  unfold fieldK at h
  split at h
  · rename_i fs hS
    split at h
    · rename_i fl hf
      split at h
      · rename_i z hz
        split at h
        · cases h
        · rename_i hb
          cases h
          have h0 : z ≠ 0 := fun e => by subst e; simp at hb
          have hf' : fs[f]? = some fl := by simpa using hf
          cases hi : P.info? fl.type with
          | none => simp [hi] at hz
          | some i =>
            have hs : i.size = z := by simpa [hi] using hz
            simp [Instr.fieldAt, run_underlying hS, hf', Instr.sureAddr, fieldPlace, sizeOf, typeInfo, hi, hs, h0, Addr.add]
            try (split <;> simp_all)
      · cases h
    · cases h
  · cases h
def evField (P : Program) (env : Env) (S : TypeId) (x : Operand) (f : Nat) : Option Value := match evO env x, fieldK P S f with
  | some (.pointer (some ⟨i, off, none⟩)), some k => some (.pointer (some ⟨i, off + k, none⟩))
  | _, _ => none
theorem s_field {S f : Nat} {x : Operand} (ho : o.op = .fieldAddr S x f) (h : one (evField P env S x f) H nx = some outs) : OpS P o env H nx outs := by
  obtain ⟨v, h1, rfl⟩ := one_eq h
  refine ops_val (fun c hc => by rw [ho] at hc; cases hc) fun n ρ a w hF hR => ?_
  unfold evField at h1
  split at h1
  · rename_i i off k hx hk
    cases h1
    have h2 := hF.ev hx
    generalize hce : a.eval x = y at h2
    cases h2 with
    | ptr hg =>
      refine ⟨_, .ptr hg, ?_⟩
      unfold execOp
      simp [ho, hce, fieldK_at hk]
  · cases h1
end ops
end
end Go.Proofs.Ytmcdjniebkfagaa.Run
