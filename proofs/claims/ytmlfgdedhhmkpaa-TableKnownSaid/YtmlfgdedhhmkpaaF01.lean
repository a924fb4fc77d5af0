/-
  Und · Rec · Yld · Rnd · Rng · Tail
-/
import Derived.Test.YtmlfgdedhhmkpaaD01
import Derived.TacticsIn
import Derived.RangeFuncIn
import Derived.RangeFuncRecord
import Derived.RangeFuncLeaves
set_option linter.unusedSimpArgs false
set_option linter.unusedVariables false

namespace Go.Proofs.Ytmlfgdedhhmkpaa.Sep
open Go.RowKit
open Go.Proofs.Ytmlfgdedhhmkpaa.Mem (Dist Blk Chg)
def DoesU {X : Type} (u : World) (P : Program) (F : FuncId) (args : Array Value) (pre : List Ass) (val : X → Value) (post : X → List Ass) : Prop :=
  ∀ w rs, Below u.heap.size u w → (∀ x ∈ rs, u.heap.size ≤ x.1) → Parts pre rs → RowsOf w rs → Dist rs → Calls P F args w fun e w' => ∃ x, e = .returned (val x) ∧ ∃ rs', Parts (post x) rs' ∧ Chg w w' rs rs'
section
variable {P : Program} {B : Nat → Prop} {u w0 w w' : World} {os : List Ass}
theorem Hp.give2 (h : Hp B w0 w os) (ids : List Nat) (hn : ids.Nodup) : ∃ x, (∀ r ∈ x, r.1 < w0.heap.size → B r.1) ∧ Parts (selA ids os) x ∧ RowsOf w x ∧ Dist x ∧ ∀ (post : List Ass) (y : List RowT) (w' : World), Parts post y → Chg w w' x y → Hp B w0 w' (post ++ rstA ids os) := by
  obtain ⟨rs, h1, h2⟩ := h.perm (perm_sel (os := os) hn).symm
  obtain ⟨a, b, e, h3, h4⟩ := h1.split
  subst e
  have hd := dist_iff.1 h2.apart
  rw [List.map_append] at hd
  exact ⟨a, fun r hr => h2.own r (by simp [hr]), h3, rows_iff.2 fun z hz => h2.rows.mem z (by simp [hz]), dist_iff.2 (List.nodup_append.1 hd).1, fun post y w' hy hch => ⟨y ++ b, hy.app h4, hp_chg h2 hch⟩⟩
theorem DoesU.pad {X : Type} {F : FuncId} {args : Array Value} {pre : List Ass} {val : X → Value} {post : X → List Ass} (h : DoesU u P F args pre val post) (k : Nat) : DoesU u P F args (pre ++ List.replicate k emp) val post := fun w rs hu hs h1 h2 h3 => by
  obtain ⟨a, b, e, ha, hb⟩ := h1.split
  have := parts_emp.1 hb
  subst this
  rw [List.append_nil] at e
  subst e
  exact h w _ hu hs ha h2 h3
theorem DoesU.calls {X : Type} {F : FuncId} {vs : List Value} {pre : List Ass} {val : X → Value} {post : X → List Ass} (hU : Below u.heap.size u w0) (hS : ∀ k, B k → u.heap.size ≤ k) (ids : List Nat) (hc : DoesU u P F vs.toArray pre val post) (hp : selA ids os = pre) (hn : ids.Nodup) (h : Hp B w0 w os) : Calls P F vs.toArray w fun e w' => ∃ x, e = .returned (val x) ∧ Hp B w0 w' (post x ++ rstA ids os) := by
  subst hp
  have hm : Below u.heap.size w0 w := h.up.below hU.size hS
  obtain ⟨x, h0, h1, h2, h3, h4⟩ := h.give2 ids hn
  refine (hc w x (hU.trans hm) (fun r hr => ?_) h1 h2 h3).mono fun e w' ⟨v, he, y, hy, hch⟩ => ⟨v, he, h4 _ y w' hy hch⟩
  by_cases hlt : r.1 < w0.heap.size
  · exact hS _ (h0 r hr hlt)
  · have := hU.size
    omega
variable {Q : Exit → Act → World → Prop} {n : Nat} {env : List (Nat × Value)} {o : Oper}
end
end Go.Proofs.Ytmlfgdedhhmkpaa.Sep

namespace Go.Proofs.Ytmlfgdedhhmkpaa.Sep
open Go.RowKit
open Go.Proofs.Ytmlfgdedhhmkpaa.Mem (Dist Blk Chg)
def DoesL {X : Type} (L : Nat) (ob : Obj) (P : Program) (F : FuncId) (args : Array Value) (pre : List Ass) (val : X → Value) (post : X → List Ass) : Prop :=
  ∀ w rs, w.heap[L]? = some ob → (∀ x ∈ rs, x.1 ≠ L) → Parts pre rs → RowsOf w rs → Dist rs → Calls P F args w fun e w' => ∃ x, e = .returned (val x) ∧ ∃ rs', Parts (post x) rs' ∧ Chg w w' rs rs'
section
variable {P : Program} {B : Nat → Prop} {L : Nat} {ob : Obj} {w0 w w' : World} {os : List Ass}
theorem DoesL.pad {X : Type} {F : FuncId} {args : Array Value} {pre : List Ass} {val : X → Value} {post : X → List Ass} (h : DoesL L ob P F args pre val post) (k : Nat) : DoesL L ob P F args (pre ++ List.replicate k emp) val post := fun w rs hu hs h1 h2 h3 => by
  obtain ⟨a, b, e, ha, hb⟩ := h1.split
  have := parts_emp.1 hb
  subst this
  rw [List.append_nil] at e
  subst e
  exact h w _ hu hs ha h2 h3
theorem DoesL.calls {X : Type} {F : FuncId} {vs : List Value} {pre : List Ass} {val : X → Value} {post : X → List Ass} (hU : w0.heap[L]? = some ob) (hS : ∀ k, B k → k ≠ L) (ids : List Nat) (hc : DoesL L ob P F vs.toArray pre val post) (hp : selA ids os = pre) (hn : ids.Nodup) (h : Hp B w0 w os) : Calls P F vs.toArray w fun e w' => ∃ x, e = .returned (val x) ∧ Hp B w0 w' (post x ++ rstA ids os) := by
  subst hp
  have hL : L < w0.heap.size := (Array.getElem?_eq_some_iff.1 hU).1
  have hm : w.heap[L]? = some ob := (h.up.block L hL (fun hb => hS L hb rfl)).trans hU
  obtain ⟨x, h0, h1, h2, h3, h4⟩ := h.give2 ids hn
  refine (hc w x hm (fun r hr => ?_) h1 h2 h3).mono fun e w' ⟨v, he, y, hy, hch⟩ => ⟨v, he, h4 _ y w' hy hch⟩
  by_cases hlt : r.1 < w0.heap.size
  · exact hS _ (h0 r hr hlt)
  · omega
variable {Q : Exit → Act → World → Prop} {n : Nat} {env : List (Nat × Value)} {o : Oper}
theorem a_doesL {X : Type} {F : FuncId} {f : Operand} {args : Array Operand} {ats : Array TypeId} {vs : List Value} {pre : List Ass} {val : X → Value} {post : X → List Ass} {os' : X → List Ass} (hU : w0.heap[L]? = some ob) (hS : ∀ k, B k → k ≠ L) (ids : List Nat) (pads : Nat) (hE : Ent P F) (hc : DoesL L ob P F vs.toArray pre val post) (hp : selA ids os = pre ++ List.replicate pads emp) (hn : nodupB ids = true) (hb : (ids.all fun i => Nat.blt i os.length) = true) (he : ∀ x, (post x).drop ids.length ++ replA ids (padTo ids.length (post x)) os = os' x) (ho : o.op = .call { callee := .value f, args := args, argTypes := ats }) (hf : evs env f = some (.func (.func F) #[] #[])) (hx : evl env args.toList = some vs) :
    Acts P Q n env B w0 os o val os' := fun b w hH hb' K hK => by
  unfold Oper.wp
  rw [exec_call hE ho hf hx hb', Oper.upon_enter]
  refine (DoesL.calls hU hS ids (hc.pad pads) hp (nodupB_iff hn) hH).mono ?_
  rintro e w' ⟨x, rfl, hq⟩
  refine hK x w' (he x ▸ Hp.imp hq fun rs h => ?_)
  obtain ⟨a, c, e, ha, hc'⟩ := h.split
  obtain ⟨a', p, ha'⟩ := padTo_parts (k := ids.length) ha
  have h2 := Parts.app ha' hc'
  rw [List.append_assoc] at h2
  obtain ⟨r2, p2, h3⟩ := h2.perm ((repl_perm (xs := post x) (nodupB_iff hn) hb).append_left _)
  exact ⟨r2, e ▸ (p.append_right c).trans p2, h3⟩
theorem d_insL {X : Type} {fn : Func} {f : FuncId} {c : Code} {args : List Value} {pre : List Ass} {val : X → Value} {post : X → List Ass} (n : Nat) (hf : P.funcs[f]? = some fn) (hb : fn.body = some c) (hn : fn.ntmps = n) (hs : Nat.ble args.length n = true)
    (h : ∀ (w : World) (rs : List RowT), w.heap[L]? = some ob → (∀ k, Blk rs k → k ≠ L) → WC2 P (bodyPost P fn fun e w' => ∃ x, e = .returned (val x) ∧ ∃ rs', Parts (post x) rs' ∧ Chg w w' rs rs') n (argEnv 0 args) (Blk rs) w pre c) : DoesL L ob P f args.toArray pre val post :=
  fun w rs hU hS h1 h2 h3 => calls_in n hf hb hn (Nat.le_of_ble_eq_true hs) fun a hF => h w rs hU (fun k ⟨x, hx, e⟩ => e ▸ hS x hx) a w hF (Hp.given h1 h2 h3)
end
end Go.Proofs.Ytmlfgdedhhmkpaa.Sep

namespace Go.Proofs.Ytmlfgdedhhmkpaa.Sep
open Go.RowKit
open Go.Proofs.Ytmlfgdedhhmkpaa.Mem (Dist Blk Chg)
section
variable {P : Program} {ops : Array Oper} {Q : Exit → Act → World → Prop} {a : Act} {w : World} {o : Oper}
/-- on at the end, else as Q -/
def OnQ (K : Act → World → Prop) (Q : Exit → Act → World → Prop) : Exit → Act → World → Prop
  | .normal, a, w => K a w
  | .ret, a, w => Q .ret a w
  | .exit id, a, w => Q (.exit id) a w
  | .goto t, a, w => Q (.goto t) a w
  | .panic c, a, w => Q (.panic c) a w
  | .outgrown, a, w => Q .outgrown a w
theorem op_in {m : Nat} {K K' J : Act → World → Prop} (h : o.wp P a w K (OnQ J Q)) (hK : ∀ a w, K a w → K' a w) : o.wpIn Fence.wide m P a w K' Q := by
  refine ⟨fun _ _ => trivial, ?_⟩
  have hs : Oper.semAt Fence.wide.round a.eval o = execOp a.eval o := rfl
  rw [hs]
  unfold Oper.wp at h
  generalize (execOp a.eval o).run P w = r at h ⊢
  cases r with
  | ok nx w' =>
    cases nx with
    | value v => exact hK _ _ h
    | skip => exact hK _ _ h
    | defer d => exact hK _ _ h
    | enter f args =>
      refine ⟨fun h => (by cases h), callsIn_wide.2 (Calls.mono h ?_)⟩
      rintro (v | c | _) w'' h
      · exact hK _ _ h
      · exact h
      · exact h
    | row r args =>
      refine ⟨fun h => (by cases h), fun c cs _ => ?_⟩
      obtain ⟨v, w'', h1, h2⟩ := h c cs
      exact ⟨v, w'', hK _ _ h1, stepsIn_wide.2 h2⟩
    | _ => exact h.elim
  | halt e w' =>
    cases e with
    | panic v => exact h
    | _ => exact h.elim
theorem list_in {m : Nat} {rest : List Oper} (hn : ¬ LetsOut Q) : ∀ {pre : List Oper} {a : Act} {w : World}, wpList P ops (OnQ (wpListIn Fence.wide m P ops Q rest) Q) pre a w → wpListIn Fence.wide m P ops Q (pre ++ rest) a w
  | [], a, w, h => h
  | o :: r, a, w, h => by
    unfold wpList at h
    show if Region.wanted o (yielded ops a.tmps) then _ else _
    split at h
    · rename_i hw
      rw [if_pos hw]
      rcases h with h | ⟨_, x, y, h⟩
      · exact op_in h fun a w h => list_in hn h
      · exact absurd ⟨x, y, h⟩ hn
    · rename_i hw
      rw [if_neg hw]
      exact ⟨fun _ _ => trivial, list_in hn h⟩
end
section
variable {P : Program} {ops : Array Oper} {Q : Exit → Act → World → Prop} {n d L : Nat} {B : Nat → Prop} {w0 : World} {env : List (Nat × Value)} {os os' : List Ass} {o : Oper} {rest : List Oper} {r : Loop}
/-- what a round does that goes on -/
def DoesR (L : Nat) (ob : Obj) (P : Program) (fn : FuncId) (tmps : Array Value) (assign body : Code) (pre post : List Ass) : Prop :=
  ∀ w rs, w.heap[L]? = some ob → (∀ x ∈ rs, x.1 ≠ L) → Parts pre rs → RowsOf w rs → Dist rs → RoundIn Fence.wide 0 P L fn tmps assign body w fun e w' => e = .returned (.bool true) ∧ ∃ rs', Parts post rs' ∧ Chg w w' rs rs'
theorem exec_yield {act : Act} {w : World} {f : Operand} {args : Array Operand} {ats : Array TypeId} {vs : List Value} (hr : w.heap[L]? = some (.loop r)) (hs : vs.length = r.params.size) (ho : o.op = .call { callee := .value f, args := args, argTypes := ats }) (hf : evs env f = some (.func (.yield L) #[] #[])) (hx : evl env args.toList = some vs) (hF : Fr n act env) :
    (execOp act.eval o).run P w = .ok (.round L r.fn ((r.params.zip vs.toArray).foldl (fun tmps (t, a) => tmps.setIfInBounds t a) r.tmps) r.assign r.body) w := by
  have h1 : args.map act.eval = vs.toArray := by
    have := hF.evl hx
    rw [← this]
    cases args; simp
  have h2 := run_yield (P := P) (args := vs.toArray) hr (by simpa using hs)
  rw [← h2]
  unfold execOp
  simp [ho, resolve, h1, hF.evs hf, Deferred.ofValue, invoke]
theorem i_yield (hU : w0.heap[L]? = some (.loop r)) (hS : ∀ k, B k → k ≠ L) {f : Operand} {args : Array Operand} {ats : Array TypeId} {vs : List Value} {pre post : List Ass} (ids : List Nat) (hc : DoesR L (.loop r) P r.fn ((r.params.zip vs.toArray).foldl (fun tmps (t, a) => tmps.setIfInBounds t a) r.tmps) r.assign r.body pre post) (hsz : vs.length = r.params.size)
    (h1 : at1 ops n o env = some d) (ho : o.op = .call { callee := .value f, args := args, argTypes := ats }) (hf : evs env f = some (.func (.yield L) #[] #[])) (hx : evl env args.toList = some vs) (hp : selA ids os = pre) (hn : nodupB ids = true) (he : post ++ rstA ids os = os')
    (h : ∀ a w, Fr n a ((d, .bool true) :: env) → Hp B w0 w os' → wpListIn Fence.wide 0 P ops Q rest a w) : ∀ a w, Fr n a env → Hp B w0 w os → wpListIn Fence.wide 0 P ops Q (o :: rest) a w := by
  intro a w hF hH
  have hL : L < w0.heap.size := (Array.getElem?_eq_some_iff.1 hU).1
  have hm : w.heap[L]? = some (.loop r) := (hH.up.block L hL (fun hb => hS L hb rfl)).trans hU
  show if Region.wanted o (yielded ops a.tmps) then _ else _
  rw [if_pos (hF.wants (at1_parts h1).1)]
  refine ⟨fun _ _ => trivial, ?_⟩
  have hs : Oper.semAt Fence.wide.round a.eval o = execOp a.eval o := rfl
  rw [hs, exec_yield hm hsz ho hf hx hF, Oper.uponIn_round]
  refine ⟨fun h => (by cases h), ?_⟩
  subst hp
  obtain ⟨x, h0, h2, h3, h4, h5⟩ := hH.give2 ids (nodupB_iff hn)
  refine (hc w x hm (fun z hz => ?_) h2 h3 h4).mono ?_
  · by_cases hlt : z.1 < w0.heap.size
    · exact hS _ (h0 z hz hlt)
    · omega
  · rintro e w' ⟨rfl, y, hy, hch⟩
    have h6 := h5 _ y w' hy hch
    rw [he] at h6
    show wpListIn Fence.wide 0 P ops Q rest (a.put o.dst (.bool true)) w'
    rw [(at1_parts h1).2.1]
    exact h _ _ (hF.put (at1_parts h1).2.2 _) h6
/-- the region: what is ahead of the round, the round, what is behind it -/
theorem d_regY {id : Nat} {l : List Oper} {y : Code} (k : Nat) (hn : ¬ LetsOut Q) (h : WL2 P l.toArray (OnQ (wpListIn Fence.wide 0 P l.toArray (Exit.then (fun a w => y.wp P Q a w) Q) (l.drop k)) (Exit.then (fun a w => y.wp P Q a w) Q)) n env B w0 os (l.take k)) : WC2 P Q n env B w0 os (.seq (.region id l.toArray false) y) := fun a w hF hH => wp_seq (by
  refine (wpIn_wide (n := 0)).1 (wpIn_region_lit ?_)
  have hn' : ¬ LetsOut (Exit.then (fun a w => y.wp P Q a w) Q) := hn
  have := list_in (m := 0) hn' (h a w hF hH)
  rwa [List.take_append_drop] at this)
/-- the round's place is come to -/
theorem f_yield {K : Act → World → Prop} {Q' : Exit → Act → World → Prop} (h : ∀ a w, Fr n a env → Hp B w0 w os → K a w) : WE2 (OnQ K Q') n env B w0 os .normal := h
/-- behind the round -/
theorem onQ_same : OnQ (fun a w => Q .normal a w) Q = Q := by
  funext e a w
  cases e <;> rfl
theorem i_rest (hn : ¬ LetsOut Q) (h : WL2 P ops Q n env B w0 os rest) : ∀ a w, Fr n a env → Hp B w0 w os → wpListIn Fence.wide 0 P ops Q rest a w := fun a w hF hH => by
  have h1 := h a w hF hH
  rw [← onQ_same (Q := Q)] at h1
  have := list_in (m := 0) (rest := []) hn h1
  rwa [List.append_nil] at this
theorem exec_fnil_eqlY {T T' : TypeId} {x y : Operand} {l : Nat} {f c : Array Value} {pt rt : Array TypeId} {b : Bool} {act : Act} {w : World} (hT : P.underlying T = some (.func pt rt b)) (ho : o.op = .binOp .eql T x y T') (hx : evs env x = some (.func (.yield l) f c)) (hy : evs env y = some .nilFunc) (hF : Fr n act env) : (execOp act.eval o).run P w = .ok (.value (.bool false)) w := by
  have h1 : (Op.equal T (.func (.yield l) f c) .nilFunc).run P w = .ok false w := by
    show (Op.equalIn (9999 + 1) T (.func (.yield l) f c) .nilFunc).run P w = _
    unfold Op.equalIn
    simp [run_underlying hT]
  unfold execOp
  simp only [ho, hF.evs hx, hF.evs hy]
  simp [eqGuard, binOp, h1]
end
end Go.Proofs.Ytmlfgdedhhmkpaa.Sep

namespace Go.Proofs.Ytmlfgdedhhmkpaa.Sep
open Go.RowKit
open Go.Proofs.Ytmlfgdedhhmkpaa.Mem (Dist Blk Chg)
def noDefer (o : Oper) : Bool := match o.op with | .defer _ => false | _ => true
section
variable {P : Program} {ops : Array Oper} {Q : Exit → Act → World → Prop} {a : Act} {w w' : World} {o : Oper} {L n d : Nat} {env : List (Nat × Value)} {B : Nat → Prop} {w0 : World} {os : List Ass}
theorem op_inR {m : Nat} {K K' : Act → World → Prop} (hd : noDefer o = true) (h : o.wp P a w K Q) (hK : ∀ a w, K a w → K' a w) : o.wpIn (Fence.wide.inRound L) m P a w K' Q := by
  refine ⟨fun _ _ => trivial, ?_⟩
  rw [Oper.semAt_eq _ _ _ (fun c hc => by simp [noDefer, hc] at hd)]
  have h1 := (op_in (m := m) (J := fun a w => Q .normal a w) (Q := Q) (K := K) (K' := K') (by rw [onQ_same]; exact h) hK).2
  have hs : Oper.semAt Fence.wide.round a.eval o = execOp a.eval o := rfl
  rw [hs] at h1
  exact h1
theorem list_inR {m : Nat} (hn : ¬ LetsOut Q) : ∀ {l : List Oper} {a : Act} {w : World}, l.all noDefer = true → wpList P ops Q l a w → wpListIn (Fence.wide.inRound L) m P ops Q l a w
  | [], a, w, _, h => h
  | o :: r, a, w, hd, h => by
    rw [List.all_cons, Bool.and_eq_true] at hd
    unfold wpList at h
    show if Region.wanted o (yielded ops a.tmps) then _ else _
    split at h
    · rename_i hw
      rw [if_pos hw]
      rcases h with h | ⟨_, x, y, h⟩
      · exact op_inR hd.1 h fun a w h => list_inR hn hd.2 h
      · exact absurd ⟨x, y, h⟩ hn
    · rename_i hw
      rw [if_neg hw]
      exact ⟨fun _ _ => trivial, list_inR hn hd.2 h⟩
/-- code, in a round's frame -/
def WCR (L : Nat) (P : Program) (Q : Exit → Act → World → Prop) (n : Nat) (env : List (Nat × Value)) (B : Nat → Prop) (w0 : World) (os : List Ass) (c : Code) : Prop := ∀ a w, Fr n a env → Hp B w0 w os → c.wpIn (Fence.wide.inRound L) 0 P Q a w
theorem r_seq {x y : Code} (h : WCR L P (Exit.then (fun a w => y.wpIn (Fence.wide.inRound L) 0 P Q a w) Q) n env B w0 os x) : WCR L P Q n env B w0 os (.seq x y) := fun a w hF hH => wpIn_seq (h a w hF hH)
theorem r_block {id : Nat} {c : Code} (h : WCR L P (Exit.inBlock id Q) n env B w0 os c) : WCR L P Q n env B w0 os (.block id c) := fun a w hF hH => wpIn_block (h a w hF hH)
theorem r_reg {id : Nat} {l : List Oper} (hd : l.all noDefer = true) (hn : ¬ LetsOut Q) (h : WL2 P l.toArray Q n env B w0 os l) : WCR L P Q n env B w0 os (.region id l.toArray false) := fun a w hF hH => wpIn_region_lit (list_inR hn hd (h a w hF hH))
theorem r_else {c : Operand} {x y : Code} (hc : evs env c = some (.bool false)) (h : WCR L P Q n env B w0 os y) : WCR L P Q n env B w0 os (.cond c x y) := fun a w hF hH => wpIn_cond_false (hF.evs hc) (h a w hF hH)
theorem r_skip (h : WE2 Q n env B w0 os .normal) : WCR L P Q n env B w0 os .skip := fun a w hF hH => wpIn_skip (h a w hF hH)
theorem r_to {y : Code} {K : Exit → Act → World → Prop} (h : WCR L P Q n env B w0 os y) : WE2 (Exit.then (fun a w => y.wpIn (Fence.wide.inRound L) 0 P Q a w) K) n env B w0 os .normal := h
/-- one quiet operation, and no world turned -/
theorem r_one {id : Nat} {v : Value} (h1 : at1 [o].toArray n o env = some d) (hd : noDefer o = true) (he : ∀ a, Fr n a env → (execOp a.eval o).run P w = .ok (.value v) w) (h : ∀ a, Fr n a ((d, v) :: env) → Q .normal a w) : ∀ a, Fr n a env → (Code.region id [o].toArray false).wpIn (Fence.wide.inRound L) 0 P Q a w := fun a hF => wpIn_region_lit (by
  show if Region.wanted o (yielded [o].toArray a.tmps) then _ else _
  rw [if_pos (hF.wants (at1_parts h1).1)]
  refine ⟨fun _ _ => trivial, ?_⟩
  rw [Oper.semAt_eq _ _ _ (fun c hc => by simp [noDefer, hc] at hd), he a hF, Oper.uponIn_value]
  show Q .normal (a.put o.dst v) w
  rw [(at1_parts h1).2.1]
  exact h _ (hF.put (at1_parts h1).2.2 _))
/-- what the body tells where it goes on -/
def BodyQ (w0 : World) (rs : List RowT) (post : List Ass) : Exit → Act → World → Prop
  | .normal, _, w => ∃ rs', Parts post rs' ∧ Chg w0 w rs rs'
  | _, _, _ => False
theorem putObj_at {w : World} {l : Nat} {o : Obj} (h : l < w.heap.size) : (w.putObj l o).heap[l]? = some o := World.putObj_heap_same h
/-- THE ROUND -/
theorem doesR_of {r : Loop} {fn : FuncId} {tmps : Array Value} {assign body : Code} {pre post : List Ass} {env1 : List (Nat × Value)} (hst : r.state = .ready) (hpe : r.pending = none) (hfr : Fr n { tmps := tmps, defers := [] } env)
    (hassign : ∀ (K : Act → World → Prop) w, (∀ a, Fr n a env1 → K a w) → ∀ a, Fr n a env → assign.wpIn (Fence.wide.inRound L) 0 P (Exit.then K (fun _ _ _ => False)) a w)
    (hbody : ∀ w0 rs, WCR L P (BodyQ w0 rs post) n env1 (Blk rs) w0 pre body) : DoesR L (.loop r) P fn tmps assign body pre post := by
  intro w rs hL hne h1 h2 h3
  have hlt : L < w.heap.size := (Array.getElem?_eq_some_iff.1 hL).1
  refine roundIn_of_wpIn trivial (hassign _ w (fun a1 hF1 => ⟨_, run_beginRound hL hst, ?_⟩) _ hfr)
  have hrows : RowsOf (w.putObj L (.loop { r with state := .busy })) rs := rows_iff.2 fun x hx => by
    have := rows_iff.1 h2 x hx
    exact (World.putObj_heap_other (hne x hx)).trans this
  refine wpIn_mono (hbody _ rs a1 _ hF1 (Hp.given h1 hrows h3)) ?_
  rintro e a2 w3 hq
  cases e with
  | normal =>
    obtain ⟨rs', hp, hc⟩ := hq
    have hnb : ¬ Blk rs L := fun ⟨x, hx, e⟩ => hne x hx e
    have hsz : L < (w.putObj L (.loop { r with state := .busy })).heap.size := (Array.getElem?_eq_some_iff.1 (putObj_at (o := .loop { r with state := .busy }) hlt)).1
    have hL3 : w3.heap[L]? = some (.loop { r with state := .busy }) := (hc.mod.block L hsz hnb).trans (putObj_at hlt)
    have hend := run_endRound (P := P) none hL3
    have hlt3 : L < w3.heap.size := (Array.getElem?_eq_some_iff.1 hL3).1
    refine ⟨_, _, hend, rfl, rs', hp, ?_⟩
    have hne' : ∀ x ∈ rs', x.1 ≠ L := fun x hx e => by
      have h4 := rows_iff.1 hc.rows x hx
      unfold Row at h4
      rw [e, hL3] at h4
      cases h4
    refine ⟨⟨?_, ?_, ?_, ?_, fun k hk hnk => ?_⟩, rows_iff.2 fun x hx => (World.putObj_heap_other (hne' x hx)).trans (rows_iff.1 hc.rows x hx), hc.dist, fun x hx hx2 => hc.from_ x hx (by simpa [World.putObj] using hx2)⟩
    · exact hc.mod.os
    · exact hc.mod.tape
    · exact hc.mod.output
    · have := hc.mod.size
      simpa [World.putObj] using this
    · by_cases hk2 : k = L
      · subst hk2
        rw [putObj_at hlt3, hL]
        cases r
        simp_all
      · rw [World.putObj_heap_other hk2, hc.mod.block k (by simpa [World.putObj] using hk) hnk, World.putObj_heap_other hk2]
  | _ => exact hq.elim
end
end Go.Proofs.Ytmlfgdedhhmkpaa.Sep

namespace Go.Proofs.Ytmlfgdedhhmkpaa.Sep
open Go.RowKit
open Go.Proofs.Ytmlfgdedhhmkpaa.Mem (Dist Blk Chg below0)
section
variable {P : Program} {Q : Exit → Act → World → Prop} {n : Nat} {env : List (Nat × Value)} {w0 : World} {os os' : List Ass}
/-- where the statement has ended: the mark's block is open, and what was there before the function is as it was -/
structure Ranged (w0 w : World) (D : Nat) (rs : List RowT) : Prop where
  open_ : w.heap[D]? = some (.deferred (some []))
  new : w0.heap.size ≤ D
  rows : ∀ x ∈ rs, w0.heap.size ≤ x.1
  below : Below w0.heap.size w0 w
theorem wp_range {g : Operand} {ps : Array Tmp} {assign body : Code} {gf : FuncId} {caps : List Value} {pre post : List Ass} (ids : List Nat) (hg : evs env g = some (.func (.func gf) #[] caps.toArray)) (hE : Ent P gf)
    (hcall : ∀ (L : Nat) (fn : FuncId) (tm : Array Value), Fr n { tmps := tm, defers := [] } env → ∀ r : Loop, r.state = .ready → r.pending = none → r.tmps = tm → r.params = ps → r.assign = assign → r.body = body → DoesL L (.loop r) P gf (([.func (.yield L) #[] #[]] : List Value) ++ caps).toArray pre (fun _ : Unit => .tuple #[]) (fun _ : Unit => post))
    (hsel : selA ids os = pre) (hn : nodupB ids = true) (he : post ++ rstA ids os = os')
    (hy : ∀ (D : Nat) (a : Act) (w : World) (rs : List RowT), Ranged w0 w D rs → a.defers = [{ target := .collected D, args := #[] }] → Fr n { a with defers := [] } env → Parts os' rs → RowsOf w rs → Dist rs → Q .normal a w) :
    WC2 P Q n env Nil w0 os (.rangeFunc g ps assign body) := by
  intro a w hF hH
  refine (wpIn_wide (n := 0)).1 (wpIn_rangeFunc fun fn _ => ?_)
  obtain ⟨r, hr⟩ : ∃ r : Loop, r = { state := .ready, pending := none, fn, tmps := a.tmps, params := ps, assign, body, defers := w.heap.size } := ⟨_, rfl⟩
  obtain ⟨W1, hW1⟩ : ∃ W1, (w.alloc (.deferred (some []))).alloc (.loop r) = W1 := ⟨_, rfl⟩
  have hs0 : (w.alloc (.deferred (some []))).heap.size = w.heap.size + 1 := by simp
  have hL1 : W1.heap[w.heap.size + 1]? = some (.loop r) := by
    rw [← hW1]; have := World.alloc_heap_new (w.alloc (.deferred (some []))) (.loop r); rwa [hs0] at this
  have hD1 : W1.heap[w.heap.size]? = some (.deferred (some [])) := by
    rw [← hW1]; exact (Below.heap_alloc _ _ _ (by simp)).trans (World.alloc_heap_new w _)
  have hb1 : Below w.heap.size w W1 := by
    rw [← hW1]; exact ((Below.refl _ w).alloc (Nat.le_refl _) _).alloc (by simp) _
  obtain ⟨rs, hp, hm⟩ := hH.call hb1
  have hnL : ∀ k, Blk rs k → k ≠ w.heap.size + 1 := fun k ⟨x, hx, e⟩ e2 => by
    have h4 := rows_iff.1 hm.rows x hx
    unfold Row at h4
    rw [e, e2, hL1] at h4
    cases h4
  have hnD : ¬ Blk rs w.heap.size := fun ⟨x, hx, e⟩ => by
    have h4 := rows_iff.1 hm.rows x hx
    unfold Row at h4
    rw [e, hD1] at h4
    cases h4
  have hrow : ∀ x ∈ rs, w0.heap.size ≤ x.1 := fun x hx => Nat.le_of_not_lt fun hlt => (hm.own x hx hlt).elim
  have hF0 : Fr n { tmps := a.tmps, defers := [] } env := ⟨hF.size, hF.get, rfl⟩
  have hc := hcall (w.heap.size + 1) fn a.tmps hF0 r (by rw [hr]) (by rw [hr]) (by rw [hr]) (by rw [hr]) (by rw [hr]) (by rw [hr])
  have hcalls := DoesL.calls (w0 := W1) (w := W1) hL1 hnL ids hc hsel (nodupB_iff hn) (Hp.given hp hm.rows hm.apart)
  have hw0 : w0.heap.size ≤ w.heap.size := hH.up.size
  refine ⟨w.heap.size + 1, [{ target := .collected w.heap.size, args := #[] }], W1, { target := .fn (.func gf) caps.toArray, args := #[.func (.yield (w.heap.size + 1)) #[] #[]] }, W1, gf, (([.func (.yield (w.heap.size + 1)) #[] #[]] : List Value) ++ caps).toArray, W1, ?_, ?_, fun _ _ => trivial, ?_, fun h => (by cases h), ?_⟩
  · rw [← hW1, hr]; exact run_enterLoop_outer _ _ _ _ _
  · have h1 := hF.evs hg
    simp [resolve, h1, Deferred.ofValue]
    rfl
  · have h2 := hE (([.func (.yield (w.heap.size + 1)) #[] #[]] : List Value) ++ caps).toArray W1
    simp [invoke]
    simpa using h2
  · refine callsIn_wide.2 (hcalls.mono ?_)
    rintro e w' ⟨_, rfl, hq⟩
    have hL2 : w'.heap[w.heap.size + 1]? = some (.loop r) := (hq.up.block _ (Array.getElem?_eq_some_iff.1 hL1).1 (fun h => hnL _ h rfl)).trans hL1
    have hD2 : w'.heap[w.heap.size]? = some (.deferred (some [])) := (hq.up.block _ (Array.getElem?_eq_some_iff.1 hD1).1 hnD).trans hD1
    have hend := run_endLoop (P := P) hL2 (by rw [hr]; simp)
    refine ⟨none, _, by rw [hend, hr], ?_⟩
    obtain ⟨rs', hp', hm'⟩ := hq
    rw [he] at hp'
    have hne : ∀ x ∈ rs', x.1 ≠ w.heap.size + 1 := fun x hx e => by
      have h4 := rows_iff.1 hm'.rows x hx
      unfold Row at h4
      rw [e, hL2] at h4
      cases h4
    have hbw : Below w0.heap.size w0 W1 := (below0 hH.up).trans (hb1.mono hw0)
    refine hy w.heap.size _ _ rs' ⟨?_, hw0, fun x hx => ?_, ?_⟩ (by rw [hF.defers]; rfl) hF0 hp' (rows_iff.2 fun x hx => (World.putObj_heap_other (hne x hx)).trans (rows_iff.1 hm'.rows x hx)) hm'.apart
    · exact (World.putObj_heap_other (by omega)).trans hD2
    · by_cases hlt : x.1 < W1.heap.size
      · obtain ⟨y, hy1, hy2⟩ := hm'.own x hx hlt
        exact hy2 ▸ hrow y hy1
      · have := hbw.size; omega
    · have h5 : Below w0.heap.size W1 w' := hm'.up.below hbw.size (fun k ⟨x, hx, e⟩ => e ▸ hrow x hx)
      have h6 := hbw.trans h5
      exact ⟨h6.os, h6.tape, h6.output, by simpa [World.putObj] using h6.size, fun k hk => (World.putObj_heap_other (by omega)).trans (h6.block k hk)⟩
end
end Go.Proofs.Ytmlfgdedhhmkpaa.Sep

namespace Go.Proofs.Ytmlfgdedhhmkpaa.Sep
open Go.RowKit
open Go.Proofs.Ytmlfgdedhhmkpaa.Mem (Dist Blk Chg below0)
section
variable {P : Program} {Q : Exit → Act → World → Prop} {ops : Array Oper} {o : Oper} {rest : List Oper} {n d D : Nat} {env : List (Nat × Value)} {B : Nat → Prop} {w0 w : World} {os : List Ass}
/-- code, behind a range -/
def WCT (D : Nat) (P : Program) (Q : Exit → Act → World → Prop) (n : Nat) (env : List (Nat × Value)) (B : Nat → Prop) (w0 : World) (os : List Ass) (c : Code) : Prop := ∀ a w, a.defers = [{ target := .collected D, args := #[] }] → Fr n { a with defers := [] } env → Hp B w0 w os → c.wp P Q a w
def WLT (D : Nat) (P : Program) (ops : Array Oper) (Q : Exit → Act → World → Prop) (n : Nat) (env : List (Nat × Value)) (B : Nat → Prop) (w0 : World) (os : List Ass) (l : List Oper) : Prop := ∀ a w, a.defers = [{ target := .collected D, args := #[] }] → Fr n { a with defers := [] } env → Hp B w0 w os → wpList P ops Q l a w
theorem t_reg {id : Nat} {l : List Oper} {y : Code} (h : WLT D P l.toArray (Exit.then (fun a w => y.wp P Q a w) Q) n env B w0 os l) : WCT D P Q n env B w0 os (.seq (.region id l.toArray false) y) := fun a w hD hF hH => wp_seq (wp_region_lit (h a w hD hF hH))
theorem t_done {y : Code} (h : WCT D P Q n env B w0 os y) : WLT D P ops (Exit.then (fun a w => y.wp P Q a w) Q) n env B w0 os [] := h
theorem WLT.keep {env' : List (Nat × Value)} {l : List Oper} (hs : Sub env env') (h : WLT D P ops Q n env' B w0 os l) : WLT D P ops Q n env B w0 os l := fun a w hD hF hH => h a w hD (hF.keep hs) hH
theorem WCT.keep {env' : List (Nat × Value)} {c : Code} (hs : Sub env env') (h : WCT D P Q n env' B w0 os c) : WCT D P Q n env B w0 os c := fun a w hD hF hH => h a w hD (hF.keep hs) hH
theorem eval_of (a : Act) : a.eval = ({ a with defers := [] } : Act).eval := by
  funext x
  cases x <;> rfl
theorem put_of (a : Act) (d : Option Nat) (v : Value) : { a.put d v with defers := [] } = ({ a with defers := [] } : Act).put d v := by cases d <;> rfl
theorem put_defers (a : Act) (d : Option Nat) (v : Value) : (a.put d v).defers = a.defers := by cases d <;> rfl
theorem t_val (h1 : at1 ops n o env = some d) (v : Value) (he : ∀ b w, Fr n b env → Hp B w0 w os → (execOp b.eval o).run P w = .ok (.value v) w) (h : WLT D P ops Q n ((d, v) :: env) B w0 os rest) : WLT D P ops Q n env B w0 os (o :: rest) := fun a w hD hF hH =>
  wpList_step fun K hK => by
    have hw : Region.wanted o (yielded ops a.tmps) = true := hF.wants (at1_parts h1).1
    rw [if_pos hw]
    unfold Oper.wp
    rw [eval_of, he _ w hF hH, Oper.upon_value]
    refine hK _ _ (h _ _ ((put_defers _ _ _).trans hD) ?_ hH)
    rw [put_of, (at1_parts h1).2.1]
    exact hF.put (at1_parts h1).2.2 _
theorem t_does {X : Type} {F : FuncId} {f : Operand} {args : Array Operand} {ats : Array TypeId} {vs : List Value} {pre : List Ass} {val : X → Value} {post : X → List Ass} {os' : X → List Ass} (ids : List Nat) (hE : Ent P F) (hc : Does P F vs.toArray pre val post) (hp : selA ids os = pre) (hn : nodupB ids = true) (he : ∀ x, post x ++ rstA ids os = os' x) (ho : o.op = .call { callee := .value f, args := args, argTypes := ats }) (hf : evs env f = some (.func (.func F) #[] #[])) (hx : evl env args.toList = some vs)
    (h1 : at1 ops n o env = some d) (h : ∀ x, WLT D P ops Q n ((d, val x) :: env) B w0 (os' x) rest) : WLT D P ops Q n env B w0 os (o :: rest) := fun a w hD hF hH =>
  wpList_step fun K hK => by
    have hw : Region.wanted o (yielded ops a.tmps) = true := hF.wants (at1_parts h1).1
    rw [if_pos hw]
    unfold Oper.wp
    rw [eval_of, exec_call hE ho hf hx hF, Oper.upon_enter]
    refine (Does.calls ids hc hp (nodupB_iff hn) hH).mono ?_
    rintro e w' ⟨x, rfl, hq⟩
    rw [he x] at hq
    refine hK _ _ (h x _ _ ((put_defers _ _ _).trans hD) ?_ hq)
    rw [put_of, (at1_parts h1).2.1]
    exact hF.put (at1_parts h1).2.2 _
theorem t_store (i : Nat) {T : TypeId} {x y : Operand} {g off k : Nat} {t : TypeId} {cs : Array Value} {v : Value} (c : Array Value) (hs : ∀ w, (sizeOf T).run P w = .ok k w) (hk : v.cells.size = k) (hl : Nat.ble (off + k) cs.size = true) (hone : oneL v.cells.toList = true) (hc : (over? cs.toList off v.cells.toList).toArray = c) (hg : wants ops o env = some true) (hd : o.dst = none) (ho : o.op = .store T x y)
    (hx : evs env x = some (.pointer (some ⟨g, off, none⟩))) (hy : evs env y = some v) (hi : os[i]? = some (cell g t cs)) (h : WLT D P ops Q n env B w0 (os.set i (cell g t c)) rest) : WLT D P ops Q n env B w0 os (o :: rest) := fun a w hD hF hH =>
  wpList_step fun K hK => by
    have hw : Region.wanted o (yielded ops a.tmps) = true := hF.wants hg
    rw [if_pos hw]
    obtain ⟨w', hr, hR', hm⟩ := run_storeCells_at (P := P) g t v.cells.toList 0 cs w off (hH.row i hi) (by have := Nat.le_of_ble_eq_true hl; simp; omega) (fun u hu => (List.all_eq_true.1 (oneL_all hone)) u hu)
    have hrun : (execOp ({ a with defers := [] } : Act).eval o).run P w = .ok .skip w' := by
      unfold execOp
      simp [ho, hF.evs hx, hF.evs hy, Instr.storeAt, Instr.sureAddr, storeVar, hs, hk, hr]
    have hR2 : Row w' g t c := by rw [← hc]; simpa [over?] using hR'
    unfold Oper.wp
    rw [eval_of, hrun, Oper.upon_skip, hd]
    exact hK _ _ (h a w' hD hF (hH.set i hi hm hR2))
/-- behind the statement -/
theorem t_start {id : Nat} {y : Code} {a : Act} {rs : List RowT} {os2 : List Ass} (hD : a.defers = [{ target := .collected D, args := #[] }]) (hF : Fr n { a with defers := [] } env) (hp : Parts os rs) (hr : RowsOf w rs) (hd : Dist rs) (hi : ∀ rs, Parts os rs → ∃ rs', rs.Perm rs' ∧ Parts os2 rs') (h : WCT D P Q n env (Blk rs) w os2 y) : Exit.inBlock id (Exit.then (fun a w => y.wp P Q a w) Q) .normal a w := h a w hD hF (Hp.imp (Hp.given hp hr hd) hi)
/-- the end: the mark's block is shut -/
theorem t_ret {fn : Func} {R : Ending → World → Prop} {r1 : ResultVar} {v1 : Value} {rs : List RowT} {u : World} (hO : Ranged u w D rs) (hrs : RowsOf w rs) (h1 : Res2 P env os r1 v1) (hr : fn.results = #[r1]) (hR : ∀ w', Below u.heap.size u w' → R (.returned v1) w') : WCT D P (bodyPostM Fence.wide 0 P fn R) n env (Blk rs) w os .ret := fun a w' hD hF hH => wp_ret (by
  have hlt : D < w.heap.size := (Array.getElem?_eq_some_iff.1 hO.open_).1
  have hnb : ¬ Blk rs D := fun ⟨x, hx, e⟩ => by
    have h4 := rows_iff.1 hrs x hx
    unfold Row at h4
    rw [e, hO.open_] at h4
    cases h4
  have hD2 : w'.heap[D]? = some (.deferred (some [])) := (hH.up.block D hlt hnb).trans hO.open_
  show LeavesInM Fence.wide 0 P fn a.tmps R a.defers .returning w'
  rw [hD]
  refine ⟨by simp, .inl ⟨D, w'.putObj D (.deferred none), rfl, run_takeDeferred hD2, v1, ?_, ?_⟩⟩
  · have hH2 : ∃ B, Hp B (w'.putObj D (.deferred none)) (w'.putObj D (.deferred none)) os := by
      obtain ⟨rs2, hp2, hm2⟩ := hH
      have hrows : RowsOf (w'.putObj D (.deferred none)) rs2 := rows_iff.2 fun x hx => by
        have h4 := rows_iff.1 hm2.rows x hx
        refine (World.putObj_heap_other (fun e => ?_)).trans h4
        unfold Row at h4
        rw [e, hD2] at h4
        cases h4
      exact ⟨_, Hp.given hp2 hrows hm2.apart⟩
    obtain ⟨B2, hH2⟩ := hH2
    rw [results_eq, hr]
    have h5 := (res_of h1 hH2).run hF
    simp [h5]
  · have h6 : Below u.heap.size w w' := hH.up.below hO.below.size (fun k ⟨x, hx, e⟩ => e ▸ hO.rows x hx)
    have h7 := hO.below.trans h6
    have hnew := hO.new
    exact hR _ ⟨h7.os, h7.tape, h7.output, by simpa [World.putObj] using h7.size, fun k hk => (World.putObj_heap_other (by omega)).trans (h7.block k hk)⟩)
theorem d_inM {f : FuncId} {fn : Func} {c : Code} {w : World} {R : Ending → World → Prop} (n : Nat) (hf : P.funcs[f]? = some fn) (hb : fn.body = some c) (hn : fn.ntmps = n) (h : WC2 P (bodyPostM Fence.wide 0 P fn R) n [] Nil w [] c) : Calls P f #[] w R :=
  (callsIn_wide (n := 0)).1 (callsIn_of_wp_marks hf hb trivial (wpIn_wide.2 (h _ _ ⟨by simp [hn], fun s v h => (by cases h), rfl⟩ (Hp.start w))))
end
end Go.Proofs.Ytmlfgdedhhmkpaa.Sep
