/-
  Fnv
-/
import Derived.Test.YtnebloeideodmaaND03
import Derived.TacticsIn
import Derived.RangeFuncIn
import Derived.RangeFuncRecord
import Derived.RangeFuncLeaves
import Derived.RangeFuncNested
import Derived.OrdersIn
set_option linter.unusedSimpArgs false
set_option linter.unusedVariables false

namespace Go.Proofs.Ytnebloeideodmaa.Sep
open Go.RowKit
open Go.Proofs.Ytnebloeideodmaa.Mem (Dist Blk Chg below0)

/-! ## A loop's record -/
def recT (L : Nat) (r : Loop) : Ass := fun rs => rs = [(L, some (.loop r), #[])]
theorem putObj_at {w : World} {l : Nat} {o : Obj} (h : l < w.heap.size) : (w.putObj l o).heap[l]? = some o := World.putObj_heap_same h
theorem no_row_mark {w : World} {k : Nat} {l : Option (List Deferred)} (h : w.heap[k]? = some (.deferred l)) : ∀ x : RowT, x.1 = k → ¬ RowX w x := fun x e h4 => h4.ne_obj (by rw [e]; exact h) (by simp) (by simp) (by simp) (by simp)
section
variable {B : Nat → Prop} {w0 w w' : World} {os os' : List Ass} {L : Nat} {r r' : Loop} {rs : List RowT}
theorem recT.at_ (h : recT L r rs) (hr : RowsOf w rs) : w.heap[L]? = some (.loop r) := by
  unfold recT at h
  subst h
  exact hr.1
theorem Hp.rec_ (h : Hp B w0 w os) (i : Nat) (hi : os[i]? = some (recT L r)) : w.heap[L]? = some (.loop r) := by
  obtain ⟨x, h1, h2⟩ := h.thing i hi
  exact h1.at_ h2
theorem chg_rec (h : w.heap[L]? = some (.loop r)) : Chg w (w.putObj L (.loop r')) [(L, some (.loop r), #[])] [(L, some (.loop r'), #[])] := by
  have hlt : L < w.heap.size := (Array.getElem?_eq_some_iff.1 h).1
  refine ⟨⟨rfl, rfl, rfl, by simp [World.putObj], fun k _ hk => World.putObj_heap_other (fun e => hk ⟨_, List.mem_singleton.2 rfl, e.symm⟩)⟩, ⟨putObj_at hlt, trivial⟩, ⟨(fun _ h => by cases h), trivial⟩, fun x hx _ => ?_⟩
  have : x = (L, some (.loop r'), #[]) := by simpa using hx
  subst this
  exact ⟨_, List.mem_singleton.2 rfl, rfl⟩
theorem Hp.recSet (h : Hp B w0 w os) (i : Nat) (hi : os[i]? = some (recT L r)) : Hp B w0 (w.putObj L (.loop r')) (os.set i (recT L r')) :=
  h.turn i hi fun x hx hr _ => ⟨_, rfl, by
    have h1 := hx.at_ hr
    unfold recT at hx
    subst hx
    exact chg_rec h1⟩
theorem mem_newRow (h : Mem.Hp B w0 w rs) (o : Obj) {k : Option RTy} {cs : Array Value} (hx : RowX (w.alloc o) (w.heap.size, k, cs)) : Mem.Hp B w0 (w.alloc o) ((w.heap.size, k, cs) :: rs) :=
  ⟨h.up.alloc _, ⟨hx, h.rows.map_ fun _ _ r => r.alloc _⟩, ⟨fun y hy => by have := (h.rows.mem y hy).lt; show y.1 ≠ w.heap.size; omega, h.apart⟩, fun x hx hlt => by
    rcases List.mem_cons.1 hx with rfl | hx
    · have := h.up.size; exact absurd hlt (by show ¬ w.heap.size < w0.heap.size; omega)
    · exact h.own x hx hlt⟩
theorem Hp.recNew (h : Hp B w0 w os) (r : Loop) : Hp B w0 (w.alloc (.loop r)) (recT w.heap.size r :: os) := by
  obtain ⟨rs, h1, h2⟩ := h
  exact ⟨(w.heap.size, some (.loop r), #[]) :: rs, ⟨[_], rs, rfl, rfl, h1⟩, mem_newRow h2 _ (World.alloc_heap_new w _)⟩
theorem Hp.left (h : Hp B w0 w (os' ++ os)) : Hp B w0 w os := by
  have := h.drop os'.length
  rwa [List.drop_left] at this
end

/-! ## A function value, called -/
/-- what comes of calling the function value f -/
def CallsV (P : Program) (f : Value) (vs : List Value) (w : World) (R : Ending → World → Prop) : Prop :=
  (∃ F caps, f = .func (.func F) #[] (List.toArray caps) ∧ Ent P F ∧ Calls P F (vs ++ caps).toArray w R) ∨
  ∃ L r, f = .func (.yield L) #[] #[] ∧ w.heap[L]? = some (.loop r) ∧ vs.length = r.params.size ∧ RoundIn Fence.wide 0 P L r.fn ((r.params.zip vs.toArray).foldl (fun tmps (t, a) => tmps.setIfInBounds t a) r.tmps) r.assign r.body w R
theorem CallsV.mono {P : Program} {f : Value} {vs : List Value} {w : World} {R R' : Ending → World → Prop} (h : CallsV P f vs w R) (hr : ∀ e w', R e w' → R' e w') : CallsV P f vs w R' :=
  h.imp (fun ⟨F, caps, h1, h2, h3⟩ => ⟨F, caps, h1, h2, h3.mono hr⟩) (fun ⟨L, r, h1, h2, h3, h4⟩ => ⟨L, r, h1, h2, h3, h4.mono hr⟩)
def DoesF {X : Type} (P : Program) (f : Value) (vs : List Value) (pre : List Ass) (val : X → Value) (post : X → List Ass) : Prop :=
  ∀ w rs, Parts pre rs → RowsOf w rs → Dist rs → CallsV P f vs w fun e w' => ∃ x, e = .returned (val x) ∧ ∃ rs', Parts (post x) rs' ∧ Chg w w' rs rs'
theorem DoesF.imp {X : Type} {P : Program} {f : Value} {vs : List Value} {pre pre' : List Ass} {val : X → Value} {post : X → List Ass} (h : DoesF P f vs pre val post) (hi : ∀ rs, Parts pre' rs → ∃ rs', rs.Perm rs' ∧ Parts pre rs') : DoesF P f vs pre' val post := fun w rs h1 h2 h3 => by
  obtain ⟨rs', p, h4⟩ := hi rs h1
  refine (h w rs' h4 (rows_iff.2 fun z hz => h2.mem z (p.mem_iff.2 hz)) (dist_iff.2 ((p.map _).nodup_iff.1 (dist_iff.1 h3)))).mono ?_
  rintro e w' ⟨x, he, y, hy, hc⟩
  exact ⟨x, he, y, hy, chg_perm hc p.symm⟩
theorem DoesF.to {X Y : Type} {P : Program} {f : Value} {vs : List Value} {pre : List Ass} {val : X → Value} {post : X → List Ass} {val' : Y → Value} {post' : Y → List Ass} (h : DoesF P f vs pre val post) (hi : ∀ x, ∃ y, val x = val' y ∧ ∀ rs, Parts (post x) rs → ∃ rs', rs.Perm rs' ∧ Parts (post' y) rs') : DoesF P f vs pre val' post' := fun w rs h1 h2 h3 => by
  refine (h w rs h1 h2 h3).mono ?_
  rintro e w' ⟨x, he, y, hy, hc⟩
  obtain ⟨x', h4, h5⟩ := hi x
  obtain ⟨rs', p, h6⟩ := h5 y hy
  exact ⟨x', by rw [he, h4], rs', h6, chg_perm' hc p⟩
theorem DoesF.frame {X : Type} {P : Program} {f : Value} {vs : List Value} {pre more : List Ass} {val : X → Value} {post : X → List Ass} (h : DoesF P f vs pre val post) : DoesF P f vs (pre ++ more) val (fun x => post x ++ more) := fun w rs h1 h2 h3 => by
  obtain ⟨a, b, e, ha, hb⟩ := h1.split
  subst e
  have hd := dist_iff.1 h3
  rw [List.map_append] at hd
  have hh : Mem.Hp (Blk (a ++ b)) w w (a ++ b) := Mem.Hp.given h2 h3
  refine (h w a ha (rows_iff.2 fun z hz => h2.mem z (by simp [hz])) (dist_iff.2 (List.nodup_append.1 hd).1)).mono ?_
  rintro e w' ⟨x, he, y, hy, hc⟩
  have := hp_chg hh hc
  exact ⟨x, he, y ++ b, hy.app hb, this.up, this.rows, this.apart, fun z hz hlt => this.own z hz hlt⟩

/-! ## Fences: a function's frame, a round's frame -/
def GF (F : Fence) : Prop := F = Fence.wide ∨ ∃ L, F = Fence.wide.inRound L
theorem gf_w : GF Fence.wide := .inl rfl
theorem gf_r {L : Nat} : GF (Fence.wide.inRound L) := .inr ⟨L, rfl⟩
def noDefer (o : Oper) : Bool := match o.op with | .defer _ => false | _ => true
/-- on at the end, else as Q -/
def OnQ (K : Act → World → Prop) (Q : Exit → Act → World → Prop) : Exit → Act → World → Prop
  | .normal, a, w => K a w
  | .ret, a, w => Q .ret a w
  | .exit id, a, w => Q (.exit id) a w
  | .goto t, a, w => Q (.goto t) a w
  | .panic c, a, w => Q (.panic c) a w
  | .outgrown, a, w => Q .outgrown a w
theorem onQ_same {Q : Exit → Act → World → Prop} : OnQ (fun a w => Q .normal a w) Q = Q := by
  funext e a w
  cases e <;> rfl
section
variable {P : Program} {ops : Array Oper} {Q : Exit → Act → World → Prop} {a : Act} {w : World} {o : Oper} {F : Fence} {n d : Nat} {env : List (Nat × Value)}
theorem op_in {m : Nat} {K K' J : Act → World → Prop} (h : o.wp P a w K (OnQ J Q)) (hK : ∀ a w, K a w → K' a w) : o.wpIn Fence.wide m P a w K' Q := by
  refine ⟨fun _ _ => trivial, ?_⟩
  have hs : Oper.semAt Fence.wide.round a.eval o = execOp a.eval o := rfl
  rw [hs]
  unfold Oper.wp at h
  generalize (execOp a.eval o).run P w = r at h ⊢
  cases r with
  | ok nx w' =>
    cases nx with
    | value v => exact hK _ _ h
    | skip => exact hK _ _ h
    | defer d => exact hK _ _ h
    | enter f args =>
      refine ⟨fun h => (by cases h), callsIn_wide.2 (Calls.mono h ?_)⟩
      rintro (v | c | _) w'' h
      · exact hK _ _ h
      · exact h
      · exact h
    | row r args =>
      refine ⟨fun h => (by cases h), fun c cs _ => ?_⟩
      obtain ⟨v, w'', h1, h2⟩ := h c cs
      exact ⟨v, w'', hK _ _ h1, stepsIn_wide.2 h2⟩
    | _ => exact h.elim
  | halt e w' =>
    cases e with
    | panic v => exact h
    | _ => exact h.elim
theorem op_inG {m : Nat} {K K' J : Act → World → Prop} (hG : GF F) (hd : noDefer o = true) (h : o.wp P a w K (OnQ J Q)) (hK : ∀ a w, K a w → K' a w) : o.wpIn F m P a w K' Q := by
  rcases hG with rfl | ⟨L, rfl⟩
  · exact op_in h hK
  · refine ⟨fun _ _ => trivial, ?_⟩
    rw [Oper.semAt_eq _ _ _ (fun c hc => by simp [noDefer, hc] at hd)]
    have h1 := (op_in (m := m) h hK).2
    have hs : Oper.semAt Fence.wide.round a.eval o = execOp a.eval o := rfl
    rw [hs] at h1
    exact h1
theorem op_inQ {m : Nat} {K K' : Act → World → Prop} (hG : GF F) (hd : noDefer o = true) (h : o.wp P a w K Q) (hK : ∀ a w, K a w → K' a w) : o.wpIn F m P a w K' Q := op_inG (J := fun a w => Q .normal a w) hG hd (by rw [onQ_same]; exact h) hK
theorem list_inG {m : Nat} {rest : List Oper} (hG : GF F) (hn : ¬ LetsOut Q) : ∀ {pre : List Oper} {a : Act} {w : World}, pre.all noDefer = true → wpList P ops (OnQ (wpListIn F m P ops Q rest) Q) pre a w → wpListIn F m P ops Q (pre ++ rest) a w
  | [], a, w, _, h => h
  | o :: r, a, w, hd, h => by
    rw [List.all_cons, Bool.and_eq_true] at hd
    unfold wpList at h
    show if Region.wanted o (yielded ops a.tmps) then _ else _
    split at h
    · rename_i hw
      rw [if_pos hw]
      rcases h with h | ⟨_, x, y, h⟩
      · exact op_inG hG hd.1 h fun a w h => list_inG hG hn hd.2 h
      · exact absurd ⟨x, y, h⟩ hn
    · rename_i hw
      rw [if_neg hw]
      refine ⟨fun _ _ => ?_, list_inG hG hn hd.2 h⟩
      rcases hG with rfl | ⟨L, rfl⟩ <;> trivial
theorem exec_yield {act : Act} {L : Nat} {r : Loop} {f : Operand} {args : Array Operand} {ats : Array TypeId} {vs : List Value} (hr : w.heap[L]? = some (.loop r)) (hs : vs.length = r.params.size) (ho : o.op = .call { callee := .value f, args := args, argTypes := ats }) (hf : evs env f = some (.func (.yield L) #[] #[])) (hx : evl env args.toList = some vs) (hF : Fr n act env) :
    (execOp act.eval o).run P w = .ok (.round L r.fn ((r.params.zip vs.toArray).foldl (fun tmps (t, a) => tmps.setIfInBounds t a) r.tmps) r.assign r.body) w := by
  have h1 : args.map act.eval = vs.toArray := by
    have := hF.evl hx
    rw [← this]
    cases args; simp
  have h2 := run_yield (P := P) (args := vs.toArray) hr (by simpa using hs)
  rw [← h2]
  unfold execOp
  simp [ho, resolve, h1, hF.evs hf, Deferred.ofValue, invoke]
/-- the call of a function value -/
theorem op_call {f : Operand} {args : Array Operand} {ats : Array TypeId} {fv : Value} {vs : List Value} {K : Act → World → Prop} (hG : GF F) (ho : o.op = .call { callee := .value f, args := args, argTypes := ats }) (hf : evs env f = some fv) (hx : evl env args.toList = some vs) (hF : Fr n a env)
    (h : CallsV P fv vs w fun e w' => ∃ v, e = .returned v ∧ K (a.put o.dst v) w') : o.wpIn F 0 P a w K Q := by
  have key : o.uponIn Fence.wide 0 P a K Q ((execOp a.eval o).run P w) := by
    rcases h with ⟨F', caps, rfl, hE, h⟩ | ⟨L, r, rfl, hL, hs, h⟩
    · rw [exec_callc hE ho hf hx hF]
      refine ⟨fun h => (by cases h), callsIn_wide.2 (h.mono ?_)⟩
      rintro e w' ⟨v, rfl, h⟩
      exact h
    · rw [exec_yield hL hs ho hf hx hF, Oper.uponIn_round]
      refine ⟨fun h => (by cases h), h.mono ?_⟩
      rintro e w' ⟨v, rfl, h⟩
      exact h
  rcases hG with rfl | ⟨L, rfl⟩
  · exact ⟨fun _ _ => trivial, key⟩
  · refine ⟨fun _ _ => trivial, ?_⟩
    rw [Oper.semAt_eq _ _ _ (fun c hc => by rw [ho] at hc; cases hc)]
    exact key
end

/-! ## Operations, of which some call function values -/
def WLI (F : Fence) (P : Program) (ops : Array Oper) (Q : Exit → Act → World → Prop) (n : Nat) (env : List (Nat × Value)) (B : Nat → Prop) (w0 : World) (os : List Ass) (l : List Oper) : Prop := ∀ a w, Fr n a env → Hp B w0 w os → wpListIn F 0 P ops Q l a w
section
variable {P : Program} {ops : Array Oper} {Q : Exit → Act → World → Prop} {n d : Nat} {env env' : List (Nat × Value)} {B : Nat → Prop} {w0 w : World} {os os' : List Ass} {o : Oper} {rest : List Oper} {F : Fence} {a : Act}
/-- a function value is called -/
theorem i_does {X : Type} {f : Operand} {args : Array Operand} {ats : Array TypeId} {fv : Value} {vs : List Value} {pre : List Ass} {val : X → Value} {post : X → List Ass} {os' : X → List Ass} (hG : GF F) (ids : List Nat) (hc : DoesF P fv vs pre val post)
    (h1 : at1 ops n o env = some d) (ho : o.op = .call { callee := .value f, args := args, argTypes := ats }) (hf : evs env f = some fv) (hx : evl env args.toList = some vs) (hp : selA ids os = pre) (hn : nodupB ids = true) (he : ∀ x, post x ++ rstA ids os = os' x)
    (h : ∀ x, WLI F P ops Q n ((d, val x) :: env) B w0 (os' x) rest) : WLI F P ops Q n env B w0 os (o :: rest) := fun a w hF hH => by
  show if Region.wanted o (yielded ops a.tmps) then _ else _
  rw [if_pos (hF.wants (at1_parts h1).1)]
  subst hp
  obtain ⟨x, h2, h3, h4, h5⟩ := hH.give ids (nodupB_iff hn)
  refine op_call hG ho hf hx hF ((hc w x h2 h3 h4).mono ?_)
  rintro e w' ⟨y, rfl, z, hz, hch⟩
  refine ⟨_, rfl, ?_⟩
  have h6 := h5 _ z w' hz hch
  rw [he y] at h6
  rw [(at1_parts h1).2.1]
  exact h y _ _ (hF.put (at1_parts h1).2.2 _) h6
/-- behind it, what calls none -/
theorem i_rest (hG : GF F) (hn : ¬ LetsOut Q) (hd : rest.all noDefer = true) (h : WL2 P ops Q n env B w0 os rest) : WLI F P ops Q n env B w0 os rest := fun a w hF hH => by
  have h1 := h a w hF hH
  rw [← onQ_same (Q := Q)] at h1
  have := list_inG (m := 0) (rest := []) hG hn hd h1
  rwa [List.append_nil] at this
/-- ahead of it, what calls none -/
theorem i_pre {l : List Oper} (hG : GF F) (k : Nat) (hn : ¬ LetsOut Q) (hd : (l.take k).all noDefer = true) (h : WL2 P ops (OnQ (wpListIn F 0 P ops Q (l.drop k)) Q) n env B w0 os (l.take k)) : WLI F P ops Q n env B w0 os l := fun a w hF hH => by
  have := list_inG (m := 0) hG hn hd (h a w hF hH)
  rwa [List.take_append_drop] at this
theorem i_to {l : List Oper} {Q' : Exit → Act → World → Prop} (h : WLI F P ops Q n env B w0 os l) : WL2 P ops (OnQ (wpListIn F 0 P ops Q l) Q') n env B w0 os [] := h
theorem WLI.leave {l : List Oper} {os' : List Ass} (ids : List Nat) (hn : nodupB ids = true) (he : rstA ids os = os') (h : WLI F P ops Q n env B w0 os' l) : WLI F P ops Q n env B w0 os l := fun a w hF hH => h a w hF (by
  have := (hH.perm (perm_sel (os := os) (nodupB_iff hn)).symm).drop (selA ids os).length
  rw [List.drop_left] at this
  exact he ▸ this)
theorem WLI.keep {l : List Oper} (hs : Sub env env') (h : WLI F P ops Q n env' B w0 os l) : WLI F P ops Q n env B w0 os l := fun a w hF hH => h a w (hF.keep hs) hH
end

/-! ## A region that draws its order, the last of whose operations call function values -/
section
variable {P : Program} {ops : Array Oper} {Q : Exit → Act → World → Prop} {n D m : Nat} {jobs : List JobS} {env0 : List (Nat × Value)} {B : Nat → Prop} {w0 : World} {S : List (Option Value) → List Ass} {F : Fence}
theorem any_listI {D : Nat} (hr : ∀ t, D ≤ t → t < ops.size → Region.ready .any ops (firstK t ops.size) = [t]) : ∀ (f t : Nat) (a : Act) (w : World), f + t = ops.size → D ≤ t → wpListIn F 0 P ops Q (ops.toList.drop t) a w → wpAnyIn F 0 P .any ops Q f (firstK t ops.size) a w
  | 0, t, a, w, ht, hD, h => by
    have e : t = ops.size := by omega
    rw [e] at h ⊢
    rw [List.drop_eq_nil_of_le (by simp)] at h
    refine ⟨?_, h⟩
    unfold Region.ready
    rw [List.filter_eq_nil_iff]
    intro i hi
    have hi' : i < ops.size := by simpa using hi
    rw [firstK_get hi']
    simp [hi']
  | f + 1, t, a, w, ht, hD, h => by
    have hlt : t < ops.size := by omega
    have hrt := hr t hD hlt
    refine ⟨fun h0 => (by rw [hrt] at h0; cases h0), fun i hi => ?_⟩
    rw [hrt] at hi
    have : i = t := by simpa using hi
    subst this
    have hset : (firstK i ops.size).setIfInBounds i true = firstK (i + 1) ops.size := by
      refine eq_firstK (by simp [firstK_size (Nat.le_of_lt hlt)]) (by omega) (fun k hk => ?_) (fun k hk hkN => ?_)
      · rw [getD_set _ _ _ (by rw [firstK_size (Nat.le_of_lt hlt)]; exact hlt)]
        split
        · rfl
        · rw [firstK_get (by omega)]; simp; omega
      · rw [getD_set _ _ _ (by rw [firstK_size (Nat.le_of_lt hlt)]; exact hlt), if_neg (by omega), firstK_get hkN]
        simp; omega
    rw [hset]
    have hcons : ops.toList.drop i = ops[i] :: ops.toList.drop (i + 1) := by
      rw [List.drop_eq_getElem_cons (by simpa using hlt)]
      simp
    rw [hcons] at h
    unfold wpOpIn
    simp only [Array.getElem?_eq_getElem hlt]
    unfold wpListIn at h
    split
    · rename_i hw
      rw [if_pos hw] at h
      exact Oper.wpIn_mono (fun a w hh => any_listI hr f (i + 1) a w (by omega) (by omega) hh) h
    · rename_i hw
      rw [if_neg hw] at h
      exact ⟨h.1, any_listI hr f (i + 1) _ _ (by omega) (by omega) h.2⟩
theorem all_imp : ∀ {p : List (Option Bool)} {C C' : List (Option Value) → Prop}, (∀ ρ, C ρ → C' ρ) → AllP p C → AllP p C'
  | [], _, _, h, hp => h _ hp
  | some true :: ps, _, _, h, hp => fun v => all_imp (p := ps) (fun ρ => h _) (hp v)
  | some false :: ps, _, _, h, hp => all_imp (p := ps) (fun ρ => h _) hp
  | none :: ps, _, _, h, hp => fun r => all_imp (p := ps) (fun ρ => h _) (hp r)
theorem all_drop {l : List Oper} (h : l.all noDefer = true) (k : Nat) : (l.drop k).all noDefer = true := List.all_eq_true.2 fun x hx => List.all_eq_true.1 h x (List.mem_of_mem_drop hx)
theorem par_mainI (hG : GF F) (hdd : ops.toList.all noDefer = true) (hDN : D ≤ ops.size) (hlen : jobs.length = D) (hJ : ∀ i, i < D → ∃ o j, ops[i]? = some o ∧ jobs[i]? = some j ∧ JobOKS ops jobs n D m (env0.map (·.1)) i o j)
    (hlate : ∀ i, D ≤ i → i < ops.size → (∀ j, j < D → j ∈ clos ops D (preds ops i)) ∨ ∃ j, D ≤ j ∧ j < ops.size ∧ edge ops i j = true)
    (hOb : AllObS P ops Q n jobs env0 B w0 S ops.toList jobs) 
    (hend : ∀ a ρ w, InvS ops n jobs env0 B w0 S D m (firstK D ops.size) a ρ w → wpAnyIn F 0 P .any ops Q (ops.size - D) (firstK D ops.size) a w) :
    ∀ (f : Nat) (listed : Array Bool) (a : Act) (ρ : List (Option Value)) (w : World), unl listed ops.size = f → InvS ops n jobs env0 B w0 S D m listed a ρ w → wpAnyIn F 0 P .any ops Q f listed a w := by
  have hjD : ∀ (i' : Nat) J, jobs[i']? = some J → i' < D := fun i' J h => by rw [← hlen]; exact (List.getElem?_eq_some_iff.1 h).1
  have fin : ∀ (f : Nat) (listed : Array Bool) (a : Act) (ρ : List (Option Value)) (w : World), unl listed ops.size = f → InvS ops n jobs env0 B w0 S D m listed a ρ w → (∀ i, i < D → listed.getD i true = true) → wpAnyIn F 0 P .any ops Q f listed a w := by
    intro f listed a ρ w hf hI hall
    have he := eq_firstK hI.size hDN hall hI.late
    have hun := unl_all listed D hall (fun i h1 h2 => hI.late i h1 (by rw [← hI.size]; exact h2)) ops.size (by rw [hI.size]; exact Nat.le_refl _)
    rw [hun] at hf
    subst hf
    rw [he] at hI ⊢
    exact hend a ρ w hI
  intro f
  induction f with
  | zero =>
    intro listed a ρ w hf hI
    refine fin 0 listed a ρ w hf hI (fun i hi => ?_)
    cases hc : listed.getD i true with
    | true => rfl
    | false =>
      have := unl_set listed i hc ops.size (by omega)
      omega
  | succ f ih =>
    intro listed a ρ w hf hI
    by_cases hall : ∀ i, i < D → listed.getD i true = true
    · exact fin (f + 1) listed a ρ w hf hI hall
    have hex : ∃ i, i < D ∧ listed.getD i true = false := by
      apply Classical.byContradiction
      intro hno
      apply hall
      intro i hi
      cases hc : listed.getD i true with
      | true => rfl
      | false => exact absurd ⟨i, hi, hc⟩ hno
    have hready : ∃ i, i ∈ Region.ready .any ops listed := by
      obtain ⟨i0, hi0, hu0⟩ := hex
      have key : ∀ k i, i ≤ k → i < D → listed.getD i true = false → ∃ i, i ∈ Region.ready .any ops listed := by
        intro k
        induction k with
        | zero =>
          intro i hik hi hu
          obtain ⟨o, j, ho, hj, hok⟩ := hJ i hi
          exact ⟨i, mem_ready.2 ⟨hu, o, ho, fun e he hb => by have := hok.edges e he hb; omega⟩⟩
        | succ k ihk =>
          intro i hik hi hu
          obtain ⟨o, j, ho, hj, hok⟩ := hJ i hi
          by_cases hr : ∀ e ∈ o.after, Region.binds .any e = true → listed.getD e.on false = true
          · exact ⟨i, mem_ready.2 ⟨hu, o, ho, hr⟩⟩
          · have : ∃ e ∈ o.after, Region.binds .any e = true ∧ listed.getD e.on false = false := by
              apply Classical.byContradiction
              intro hno
              apply hr
              intro e he hb
              cases hc : listed.getD e.on false with
              | true => rfl
              | false => exact absurd ⟨e, he, hb, hc⟩ hno
            obtain ⟨e, he, hb, hc⟩ := this
            have hlt := hok.edges e he hb
            have hin : e.on < listed.size := by rw [hI.size]; omega
            refine ihk e.on (by omega) (by omega) ?_
            simpa [hin] using hc
      exact key i0 i0 (Nat.le_refl _) hi0 hu0
    refine ⟨fun h0 => (by obtain ⟨i, hi⟩ := hready; rw [h0] at hi; simp at hi), fun i hi => ?_⟩
    have hun : listed.getD i true = false := (mem_ready.1 hi).1
    have hiN : i < ops.size := by
      obtain ⟨_, o, ho, _⟩ := mem_ready.1 hi
      exact (Array.getElem?_eq_some_iff.1 ho).1
    have hlt : ∀ e, e < ops.size → listed.getD e false = listed.getD e true := fun e he => by
      have : e < listed.size := by rw [hI.size]; exact he
      simp [this]
    have hdepl : ∀ e, edge ops i e = true → e < ops.size → listed.getD e true = true := fun e he heN => by
      rw [← hlt e heN]; exact ready_listed hi he
    have hiD : i < D := by
      apply Classical.byContradiction
      intro hge
      rcases hlate i (by omega) hiN with h | ⟨j, hjD', hjN, he⟩
      · obtain ⟨k, hk, hku⟩ := hex
        have := clos_listed (D := D) (ops := ops) hDN hI.closed D (preds ops i) (Nat.le_refl _) (fun e he heN => hdepl e (preds_edge he) heN) k (h k hk) (by omega)
        rw [hku] at this
        cases this
      · have h1 := hdepl j he hjN
        rw [hI.late j hjD' hjN] at h1
        cases h1
    obtain ⟨o, j, ho, hj, hok⟩ := hJ i hiD
    have hob := hOb.at_ i o j (by simpa using ho) hj
    have hFr : Fr n a (depEnvS ops jobs ρ j.deps ++ env0) := Fr.app (fr_depS hI j.deps (fun e he => hdepl e (hok.deps e he).2 (by have := (hok.deps e he).1; omega))) hI.fr
    have hf' : unl (listed.setIfInBounds i true) ops.size = f := by
      have := unl_set listed i hun ops.size hiN
      omega
    have hm_of : ∀ q, patAt j.pat q ≠ none → q < m := by
      intro q hq
      rw [← hok.len]
      revert hq
      generalize j.pat = l
      intro hq
      apply Classical.byContradiction
      intro hge
      apply hq
      have : ∀ (l : List (Option Bool)) (q : Nat), l.length ≤ q → patAt l q = none := by
        intro l
        induction l with
        | nil => intro q _; rfl
        | cons x r ih =>
          intro q h
          cases q with
          | zero => simp at h
          | succ q => exact ih q (by simpa using h)
      exact this l q (by omega)
    have hfit : FitsP j.pat ρ := by
      refine fits_of (by rw [hI.len, hok.len]) (fun q hq => ?_) (fun q hq => ?_)
      · obtain ⟨p, J, h1, _, h3, h4⟩ := pat_listed hJ hDN hI.closed (hm_of q (by rw [hq]; simp)) i i j (Nat.le_refl _) hiD hj hq hdepl
        exact hI.yes p J q h1 h3 h4
      · obtain ⟨qi, hk, hor⟩ := hok.f q (hm_of q (by rw [hq]; simp)) hq
        rcases hor with rfl | ⟨J, hJm, hJk, hJp⟩
        · exact hI.no i j qi hj hk hun
        · obtain ⟨p, hp⟩ := List.getElem?_of_mem hJm
          refine hI.no p J q hp hJk ?_
          cases hl : listed.getD p true with
          | false => rfl
          | true =>
            obtain ⟨o', J', ho', hJ', hok'⟩ := hJ p (hjD p J hp)
            obtain ⟨p', J2, h1, _, h3, h4⟩ := pat_listed hJ hDN hI.closed (hok.act qi hk).1 p p J (Nat.le_refl _) (hjD p J hp) hp hJp (fun e he heN => hI.closed p e (hjD p J hp) hl he heN)
            by_cases hpi : p' = i
            · subst hpi; rw [hun] at h4; cases h4
            · exact absurd h3 ((hok.act qi hk).2.2 p' J2 (hjD p' J2 h1) hpi h1)
    have hnd : noDefer o = true := List.all_eq_true.1 hdd o (Array.mem_toList_iff.2 (Array.mem_of_getElem? ho))
    unfold wpOpIn
    simp only [ho]
    cases hk : j.kind with
    | quiet =>
      unfold ObS at hob
      simp only [hk] at hob
      obtain ⟨hw, hrun⟩ := hob.fit hfit
      rw [if_pos (hFr.wants hw)]
      refine op_inQ (K := wpAnyIn F 0 P .any ops Q f (listed.setIfInBounds i true)) hG hnd ?_ (fun _ _ h => h)
      unfold Oper.wp
      rw [hrun a w hI.hp hFr, Oper.upon_value]
      exact ih _ _ ρ w hf' (inv_putS hI hiD hDN hlen ho hj hok hun hdepl (fun _ => by simp [JobS.val, hk]) (fun _ _ _ _ _ => rfl) hI.len (fun q h => by simp [JobS.actOf, hk] at h) (fun _ _ _ _ _ _ => rfl) hI.hp)
    | skip =>
      unfold ObS at hob
      simp only [hk] at hob
      obtain ⟨hw, hv⟩ := hob.fit hfit
      rw [if_neg (by rw [hFr.wants hw]; simp)]
      refine ⟨fun _ _ => by rcases hG with rfl | ⟨L, rfl⟩ <;> trivial, ?_⟩
      exact ih _ _ ρ w hf' (inv_putS hI hiD hDN hlen ho hj hok hun hdepl (fun _ => by simp [JobS.val, hk, hv]) (fun _ _ _ _ _ => rfl) hI.len (fun q h => by simp [JobS.actOf, hk] at h) (fun _ _ _ _ _ _ => rfl) hI.hp)
    | act q =>
      unfold ObS at hob
      simp only [hk] at hob
      obtain ⟨hw, hrun⟩ := hob.fit hfit
      rw [if_pos (hFr.wants hw)]
      have hka : j.actOf = some q := by simp [JobS.actOf, hk]
      obtain ⟨hqm, hqf, huniq⟩ := hok.act q hka
      refine op_inQ (K := wpAnyIn F 0 P .any ops Q f (listed.setIfInBounds i true)) hG hnd (hrun a w hI.hp hFr _ fun v w' hp => ?_) (fun _ _ h => h)
      have hql : q < ρ.length := by rw [hI.len]; exact hqm
      refine ih _ _ (setq ρ q v) w' hf' (inv_putS hI hiD hDN hlen ho hj hok hun hdepl (fun _ => ?_) (fun i' J hJ' hne hl => ?_) (by rw [setq_len]; exact hI.len) (fun q' h => ?_) (fun i' J q' hJ' hk' hne => ?_) hp)
      · unfold JobS.val
        simp only [hk]
        exact atq_of (by rw [setq_at, if_pos rfl, if_pos hql])
      · -- what is listed does not lean on it
        have hnt : patAt J.pat q ≠ some true := fun hp => by
          obtain ⟨p', J2, h1, h2, h3, h4⟩ := pat_listed hJ hDN hI.closed hqm i' i' J (Nat.le_refl _) (hjD i' J hJ') hJ' hp (fun e he heN => hI.closed i' e (hjD i' J hJ') hl he heN)
          by_cases hpi : p' = i
          · subst hpi; rw [hun] at h4; cases h4
          · exact huniq p' J2 (hjD p' J2 h1) hpi h1 h3
        unfold JobS.val
        cases hk2 : J.kind with
        | act q2 =>
          have : q2 ≠ q := fun e => by subst e; exact huniq i' J (hjD i' J hJ') hne hJ' (by simp [JobS.actOf, hk2])
          exact atq_set this
        | actv q2 => simp only [mask_set hnt]
        | quiet => simp only [mask_set hnt]
        | skip => simp only [mask_set hnt]
      · rw [hka] at h; cases h
        exact ⟨v, by rw [setq_at, if_pos rfl, if_pos hql]⟩
      · rw [setq_at, if_neg (fun e => by subst e; exact huniq i' J (hjD i' J hJ') hne hJ' hk')]
    | actv q =>
      unfold ObS at hob
      simp only [hk] at hob
      obtain ⟨hw, hrun⟩ := hob.fit hfit
      rw [if_pos (hFr.wants hw)]
      have hka : j.actOf = some q := by simp [JobS.actOf, hk]
      obtain ⟨hqm, hqf, huniq⟩ := hok.act q hka
      refine op_inQ (K := wpAnyIn F 0 P .any ops Q f (listed.setIfInBounds i true)) hG hnd (hrun a w hI.hp hFr _ fun v w' hp => ?_) (fun _ _ h => h)
      have hql : q < ρ.length := by rw [hI.len]; exact hqm
      refine ih _ _ (setq ρ q v) w' hf' (inv_putS hI hiD hDN hlen ho hj hok hun hdepl (fun _ => ?_) (fun i' J hJ' hne hl => ?_) (by rw [setq_len]; exact hI.len) (fun q' h => ?_) (fun i' J q' hJ' hk' hne => ?_) hp)
      · unfold JobS.val
        simp only [hk]
        rw [mask_set (by rw [hqf]; simp)]
      · -- what is listed does not lean on it
        have hnt : patAt J.pat q ≠ some true := fun hp => by
          obtain ⟨p', J2, h1, h2, h3, h4⟩ := pat_listed hJ hDN hI.closed hqm i' i' J (Nat.le_refl _) (hjD i' J hJ') hJ' hp (fun e he heN => hI.closed i' e (hjD i' J hJ') hl he heN)
          by_cases hpi : p' = i
          · subst hpi; rw [hun] at h4; cases h4
          · exact huniq p' J2 (hjD p' J2 h1) hpi h1 h3
        unfold JobS.val
        cases hk2 : J.kind with
        | act q2 =>
          have : q2 ≠ q := fun e => by subst e; exact huniq i' J (hjD i' J hJ') hne hJ' (by simp [JobS.actOf, hk2])
          exact atq_set this
        | actv q2 => simp only [mask_set hnt]
        | quiet => simp only [mask_set hnt]
        | skip => simp only [mask_set hnt]
      · rw [hka] at h; cases h
        exact ⟨v, by rw [setq_at, if_pos rfl, if_pos hql]⟩
      · rw [setq_at, if_neg (fun e => by subst e; exact huniq i' J (hjD i' J hJ') hne hJ' hk')]
/-- THE REGION -/
theorem par_I {env : List (Nat × Value)} {os : List Ass} (hG : GF F) (D m : Nat) (jobs : List JobS) (env0 : List (Nat × Value)) (S : List (Option Value) → List Ass) (hdd : ops.toList.all noDefer = true) (hok : parOKS ops jobs n D m (env0.map (·.1)) = true) (hs : Sub env env0) (hS : os = S (List.replicate m none))
    (hOb : AllObS P ops Q n jobs env0 B w0 S ops.toList jobs)
    (hend : AllP (List.replicate m (some true)) fun ρ => WLI F P ops Q n (finEnvS ops jobs ρ D ++ env0) B w0 (S ρ) (ops.toList.drop D)) (a : Act) (w : World) (hF : Fr n a env) (hH : Hp B w0 w os) : wpAnyIn F 0 P .any ops Q ops.size (Array.replicate ops.size false) a w := by
  obtain ⟨hDN, hlen, hJ, hlate, hr, hm⟩ := parOKS_parts hok
  have hz : ∀ i, i < ops.size → (Array.replicate ops.size false).getD i true = false := fun i hi => by simp [hi]
  have hjN : ∀ (i : Nat) j, jobs[i]? = some j → i < ops.size := fun i j h => by have := (List.getElem?_eq_some_iff.1 h).1; omega
  have hinit : InvS ops n jobs env0 B w0 S D m (Array.replicate ops.size false) a (List.replicate m none) w := by
    refine ⟨by simp, fun i _ hi => hz i hi, fun i e hi hl => ?_, hF.keep hs, by simp, fun i j q hj _ hl => ?_, fun i j q hj hk _ => ?_, fun i j d hj _ hl => ?_, by rw [← hS]; exact hH⟩
    · rw [hz i (by omega)] at hl; cases hl
    · rw [hz i (hjN i j hj)] at hl; cases hl
    · obtain ⟨o, j', ho, hj', hok'⟩ := jobOKS_iff (hJ i (by rw [← hlen]; exact (List.getElem?_eq_some_iff.1 hj).1))
      rw [hj] at hj'; cases hj'
      have := (hok'.act q hk).1
      simp [this]
    · rw [hz i (hjN i j hj)] at hl; cases hl
  have hunl : unl (Array.replicate ops.size false) ops.size = ops.size := by
    have := unl_all (Array.replicate ops.size false) 0 (fun i h => by omega) (fun i _ h => hz i (by simpa using h)) ops.size (by simp)
    simpa using this
  refine par_mainI hG hdd hDN hlen (fun i hi => jobOKS_iff (hJ i hi)) hlate hOb (fun a ρ w hI => ?_) ops.size _ a _ w hunl hinit
  refine any_listI hr (ops.size - D) D a w (by omega) (Nat.le_refl _) ?_
  have hl : ∀ i, i < D → (firstK D ops.size).getD i true = true := fun i hi => by rw [firstK_get (by omega)]; simpa using hi
  have hjD : ∀ (i : Nat) j, jobs[i]? = some j → i < D := fun i j h => by rw [← hlen]; exact (List.getElem?_eq_some_iff.1 h).1
  have hfit : FitsP (List.replicate m (some true)) ρ := fits_of (by rw [hI.len]; simp) (fun q hq => by
    obtain ⟨p, J, hp, hk⟩ := hm q (patAt_rep m q hq)
    exact hI.yes p J q hp hk (hl p (hjD p J hp))) (fun q hq => absurd hq (patAt_repF m q))
  exact hend.fit hfit a w (Fr.app (fr_depS hI _ (fun e he => hl e (by simpa using he))) hI.fr) hI.hp
end

/-! ## Regions that call function values, in a function's frame -/
section
variable {P : Program} {ops : Array Oper} {Q : Exit → Act → World → Prop} {n d : Nat} {env env' : List (Nat × Value)} {B : Nat → Prop} {w0 w : World} {os os' : List Ass} {o : Oper} {L : Nat} {a : Act}
theorem d_regI {id : Nat} {l : List Oper} (h : WLI Fence.wide P l.toArray Q n env B w0 os l) : WC2 P Q n env B w0 os (.region id l.toArray false) := fun a w hF hH => (wpIn_wide (n := 0)).1 (wpIn_region_lit (h a w hF hH))
/-! ## Code in a round's frame -/
def WCR (L : Nat) (P : Program) (Q : Exit → Act → World → Prop) (n : Nat) (env : List (Nat × Value)) (B : Nat → Prop) (w0 : World) (os : List Ass) (c : Code) : Prop := ∀ a w, Fr n a env → Hp B w0 w os → c.wpIn (Fence.wide.inRound L) 0 P Q a w
theorem r_block {id : Nat} {c : Code} (h : WCR L P (Exit.inBlock id Q) n env B w0 os c) : WCR L P Q n env B w0 os (.block id c) := fun a w hF hH => wpIn_block (h a w hF hH)
theorem r_seq {x y : Code} (h : WCR L P (Exit.then (fun a w => y.wpIn (Fence.wide.inRound L) 0 P Q a w) Q) n env B w0 os x) : WCR L P Q n env B w0 os (.seq x y) := fun a w hF hH => wpIn_seq (h a w hF hH)
theorem r_reg {id : Nat} {l : List Oper} (hd : l.all noDefer = true) (hn : ¬ LetsOut Q) (h : WL2 P l.toArray Q n env B w0 os l) : WCR L P Q n env B w0 os (.region id l.toArray false) := fun a w hF hH => wpIn_region_lit (i_rest gf_r hn hd h a w hF hH)
theorem r_parS {id : Nat} (hn : ¬ LetsOut Q) (D m : Nat) (jobs : List JobS) (env0 : List (Nat × Value)) (S : List (Option Value) → List Ass) (hmix : P.follows .mixedOrders = true) (hdd : ops.toList.all noDefer = true) (hok : parOKS ops jobs n D m (env0.map (·.1)) = true) (hs : Sub env env0) (hS : os = S (List.replicate m none))
    (hOb : AllObS P ops Q n jobs env0 B w0 S ops.toList jobs)
    (hend : AllP (List.replicate m (some true)) fun ρ => WL2 P ops Q n (finEnvS ops jobs ρ D ++ env0) B w0 (S ρ) (ops.toList.drop D)) : WCR L P Q n env B w0 os (.region id ops true) := fun a w hF hH => wpIn_region_any hmix (par_I gf_r D m jobs env0 S hdd hok hs hS hOb (all_imp (fun ρ h => i_rest gf_r hn (all_drop hdd D) h) hend) a w.drew hF hH.drew)
theorem r_else {c : Operand} {x y : Code} (hc : evs env c = some (.bool false)) (h : WCR L P Q n env B w0 os y) : WCR L P Q n env B w0 os (.cond c x y) := fun a w hF hH => wpIn_cond_false (hF.evs hc) (h a w hF hH)
theorem r_then {c : Operand} {x y : Code} (hc : evs env c = some (.bool true)) (h : WCR L P Q n env B w0 os x) : WCR L P Q n env B w0 os (.cond c x y) := fun a w hF hH => wpIn_cond_true (hF.evs hc) (h a w hF hH)
theorem r_skip (h : WE2 Q n env B w0 os .normal) : WCR L P Q n env B w0 os .skip := fun a w hF hH => wpIn_skip (h a w hF hH)
theorem r_to {y : Code} {K : Exit → Act → World → Prop} (h : WCR L P Q n env B w0 os y) : WE2 (Exit.then (fun a w => y.wpIn (Fence.wide.inRound L) 0 P Q a w) K) n env B w0 os .normal := h
theorem WCR.keep {c : Code} (hs : Sub env env') (h : WCR L P Q n env' B w0 os c) : WCR L P Q n env B w0 os c := fun a w hF hH => h a w (hF.keep hs) hH
theorem WCR.via {X : Type} {c : Code} (os' : X → List Ass) (hi : ∀ rs, Parts os rs → ∃ x, ∃ rs', rs.Perm rs' ∧ Parts (os' x) rs') (h : ∀ x, WCR L P Q n env B w0 (os' x) c) : WCR L P Q n env B w0 os c := fun a w hF ⟨rs, h1, h2⟩ => by
  obtain ⟨x, rs', p, h3⟩ := hi rs h1
  exact h x a w hF ⟨rs', h3, hp_perm h2 p⟩
theorem WCR.mid {c : Code} (os' : List Ass) (hp : os.Perm os') (h : WCR L P Q n env B w0 os' c) : WCR L P Q n env B w0 os c := fun a w hF hH => h a w hF (hH.perm hp)
theorem WCR.fact {c : Code} {p : Prop} {o : Ass} (i : Nat) (hi : os[i]? = some o) (hp : ∀ rs, o rs → p) (h : p → WCR L P Q n env B w0 os c) : WCR L P Q n env B w0 os c := fun a w hF hH => h (thing_is i hi hp hH) a w hF hH
theorem r_open {c : Code} {α : Type} {A : α → List Ass} {t : Ass} {os' : α → List Ass} (i : Nat) (hi : os[i]? = some t) (ho : ∀ rs, t rs → ∃ x, Parts (A x) rs) (he : ∀ x, A x ++ rstA [i] os = os' x) (h : ∀ x, WCR L P Q n env B w0 (os' x) c) : WCR L P Q n env B w0 os c := WCR.via _ (open_ex hi ho) fun x => he x ▸ h x
theorem WCR.leave {c : Code} {os' : List Ass} (ids : List Nat) (hn : nodupB ids = true) (he : rstA ids os = os') (h : WCR L P Q n env B w0 os' c) : WCR L P Q n env B w0 os c := fun a w hF hH => h a w hF (by
  have := (hH.perm (perm_sel (os := os) (nodupB_iff hn)).symm).drop (selA ids os).length
  rw [List.drop_left] at this
  exact he ▸ this)
theorem r_emps {c : Code} (k : Nat) {os' : List Ass} (he : List.replicate k emp ++ os = os') (h : WCR L P Q n env B w0 os' c) : WCR L P Q n env B w0 os c := WCR.via (fun _ : Unit => os') (fun rs hp => ⟨(), rs, .refl _, he ▸ (Parts.app (parts_emp.2 rfl) hp : Parts _ ([] ++ rs))⟩) fun _ => h
theorem hp_open {α : Type} {A : α → List Ass} {t : Ass} (i : Nat) (hi : os[i]? = some t) (ho : ∀ rs, t rs → ∃ x, Parts (A x) rs) (h : Hp B w0 w os) : ∃ x, Hp B w0 w (A x ++ rstA [i] os) := by
  obtain ⟨rs, h1, h2⟩ := h
  obtain ⟨x, rs', p, h3⟩ := open_ex hi ho rs h1
  exact ⟨x, rs', h3, hp_perm h2 p⟩
end

/-! ## Rounds -/
def jumpOf : Exit → Option Code
  | .normal => none
  | .ret => some .ret
  | .exit id => some (.exit id)
  | .goto t => some (.goto t)
  | _ => none
def okX : Exit → Bool
  | .normal => true
  | .ret => true
  | .exit _ => true
  | _ => false
def goesOn : Exit → Bool
  | .normal => true
  | _ => false
def busyR (r : Loop) : Loop := { r with state := .busy }
/-- a record, behind a round that was left by e -/
def finR : Exit → Loop → Loop
  | .normal, r => r
  | e, r => { r with state := .done, pending := jumpOf e }
def BodyX (e : Exit) (w0 : World) (rs : List RowT) (post : List Ass) : Exit → Act → World → Prop := fun e' _ w => e' = e ∧ ∃ rs', Parts post rs' ∧ Chg w0 w rs rs'
section
variable {P : Program} {Q : Exit → Act → World → Prop} {n : Nat} {env : List (Nat × Value)} {B : Nat → Prop} {w0 w w' : World} {os os' : List Ass} {L : Nat} {r : Loop}
theorem r_tell {rs : List RowT} {post : List Ass} {e : Exit} (ids : List Nat) (hn : nodupB ids = true) (hp : selA ids os = post) : WE2 (BodyX e w0 rs post) n env (Blk rs) w0 os e := fun a w _ hH => ⟨rfl, by
  obtain ⟨y, h1, h2⟩ := hH.tell ids (nodupB_iff hn)
  rw [hp] at h1
  exact ⟨y, h1, h2⟩⟩
theorem chg_hp {rs rs' : List RowT} (h : Chg w w' rs rs') : Mem.Hp (Blk rs) w w' rs' := ⟨h.mod, h.rows, h.dist, fun x hx hlt => by
  obtain ⟨y, hy, e⟩ := h.from_ x hx hlt
  exact ⟨y, hy, e⟩⟩
theorem hp_ofChg {rs rs' : List RowT} (h : Mem.Hp (Blk rs) w w' rs') : Chg w w' rs rs' := ⟨h.up, h.rows, h.apart, fun z hz hlt => h.own z hz hlt⟩
/-- behind the assignments at a round's head -/
def BeginX (P : Program) (e : Exit) (L : Nat) (r : Loop) (w0 : World) (rs : List RowT) (post : List Ass) : Exit → Act → World → Prop
  | .normal, a, w => ∃ w2, (Instr.beginRound L).run P w = .ok () w2 ∧ r.body.wpIn (Fence.wide.inRound L) 0 P (BodyX e w0 rs (recT L (busyR r) :: post)) a w2
  | _, _, _ => False
theorem r_begin {rs : List RowT} {post : List Ass} {e : Exit} (i : Nat) (hi : os[i]? = some (recT L r)) (hst : r.state = .ready) (h : WCR L P (BodyX e w0 rs (recT L (busyR r) :: post)) n env (Blk rs) w0 (os.set i (recT L (busyR r))) r.body) : WE2 (BeginX P e L r w0 rs post) n env (Blk rs) w0 os .normal := fun a _ hF hH => ⟨_, run_beginRound (hH.rec_ i hi) hst, h a _ hF (hH.recSet i hi)⟩
/-- THE ROUND -/
theorem doesF_round {vs : List Value} {pre post : List Ass} (e : Exit) (hpe : r.pending = none) (hst : r.state = .ready) (hps : vs.length = r.params.size) (hfr : Fr n { tmps := (r.params.zip vs.toArray).foldl (fun tmps (t, a) => tmps.setIfInBounds t a) r.tmps, defers := [] } env)
    (hround : ∀ w0 rs, WCR L P (BeginX P e L r w0 rs post) n env (Blk rs) w0 (recT L r :: pre) r.assign) (he : okX e = true := by rfl) :
    DoesF P (.func (.yield L) #[] #[]) vs (recT L r :: pre) (fun _ : Unit => .bool (goesOn e)) (fun _ => recT L (finR e r) :: post) := by
  intro w rs h1 h2 h3
  have hL : w.heap[L]? = some (.loop r) := by
    obtain ⟨a0, b, e0, ha, hb⟩ := h1
    exact ha.at_ (rows_iff.2 fun x hx => h2.mem x (by rw [e0]; simp [hx]))
  refine .inr ⟨L, r, rfl, hL, hps, roundIn_of_wpIn trivial (wpIn_mono (hround w rs _ w hfr (Hp.given h1 h2 h3)) ?_)⟩
  rintro e1 a1 w1 hq
  cases e1 with
  | normal =>
    obtain ⟨w2, hb, hbody⟩ := hq
    refine ⟨w2, hb, wpIn_mono hbody ?_⟩
    rintro e' a2 w3 ⟨rfl, rs', hp, hc⟩
    obtain ⟨a3, b3, e3, h5, h6⟩ := hp
    have h7 := chg_hp hc
    have hL3 : w3.heap[L]? = some (.loop (busyR r)) := h5.at_ (rows_iff.2 fun x hx => h7.rows.mem x (by rw [e3]; simp [hx]))
    unfold recT at h5
    subst h5
    subst e3
    have key : ∀ (jump : Option Code) (r' : Loop), { busyR r with state := if jump.isNone then .ready else .done, pending := jump } = r' → ∃ v w', (Instr.endRound L jump).run P w3 = .ok v w' ∧ (∃ _ : Unit, Ending.returned v = .returned (.bool jump.isNone) ∧ ∃ rs', Parts (recT L r' :: post) rs' ∧ Chg w w' rs rs') := fun jump r' hr' => by
      refine ⟨_, _, run_endRound (P := P) jump hL3, (), rfl, _, ⟨_, b3, rfl, rfl, h6⟩, hp_ofChg (hp_chg h7 ?_)⟩
      have := chg_rec (r' := r') hL3
      rw [← hr'] at this ⊢
      exact this
    cases e' with
    | normal => exact key none r (by unfold busyR; cases r; simp_all)
    | ret => exact key (some .ret) _ rfl
    | exit id => exact key (some (.exit id)) _ rfl
    | _ => cases he
  | _ => exact hq.elim
/-- a record, and what a ranging has made of what it was told -/
def recI (L : Nat) (r : Loop) (X : Ass) : Ass := fun rs => Parts [recT L r, X] rs
theorem recI_split {X : Ass} {A : List Ass} {rs : List RowT} (h : Parts (recI L r X :: A) rs) : Parts (recT L r :: X :: A) rs := by
  obtain ⟨a, b, e, ⟨a1, b1, e1, h1, c1, d1, e2, h2, h3⟩, hb⟩ := h
  unfold Parts at h3
  subst h3
  rw [List.append_nil] at e2
  subst e2; subst e1; subst e
  exact ⟨a1, b1 ++ b, by rw [List.append_assoc], h1, b1, b, rfl, h2, hb⟩
theorem recI_join {X : Ass} {A : List Ass} {rs : List RowT} (h : Parts (recT L r :: X :: A) rs) : Parts (recI L r X :: A) rs := by
  obtain ⟨a, b, e, h1, c, d, e1, h2, h3⟩ := h
  subst e1; subst e
  exact ⟨a ++ c, d, by rw [List.append_assoc], ⟨a, c, rfl, h1, c, [], by simp, h2, rfl⟩, h3⟩
theorem it_in {F : FuncId} {args : Array Value} {r' : Loop} {X Y : Ass} {A A' : List Ass} {v : Value} (h : Does P F args (recI L r X :: A) (fun _ : Unit => v) (fun _ => recI L r' Y :: A')) : Does P F args (recT L r :: X :: A) (fun _ : Unit => v) (fun _ => recT L r' :: Y :: A') := fun w rs h1 h2 h3 => (h w rs (recI_join h1) h2 h3).mono fun _ _ ⟨x, he, y, hy, hc⟩ => ⟨x, he, y, recI_split hy, hc⟩
theorem rd_in {f : Value} {vs : List Value} {r' : Loop} {X Y : Ass} {A A' : List Ass} {v : Value} (h : DoesF P f vs (recT L r :: X :: A) (fun _ : Unit => v) (fun _ => recT L r' :: Y :: A')) : DoesF P f vs (recI L r X :: A) (fun _ : Unit => v) (fun _ => recI L r' Y :: A') := fun w rs h1 h2 h3 => (h w rs (recI_split h1) h2 h3).mono fun _ _ ⟨x, he, y, hy, hc⟩ => ⟨x, he, y, recI_join hy, hc⟩
/-- a call, of a function that is given some of the things -/
theorem Does.calls2 {X : Type} {F : FuncId} {args : Array Value} {pre rest : List Ass} {val : X → Value} {post : X → List Ass} (hc : Does P F args pre val post) (h : Hp B w0 w (pre ++ rest)) : Calls P F args w fun (e : Ending) (w' : World) => ∃ x, e = .returned (val x) ∧ (∀ (k : Nat) (l : Option (List Deferred)), w.heap[k]? = some (Obj.deferred l) → w'.heap[k]? = some (Obj.deferred l)) ∧ Hp B w0 w' (post x ++ rest) := by
  obtain ⟨rs, h1, h2⟩ := h
  obtain ⟨a, b, e, ha, hb⟩ := h1.split
  subst e
  have hd := dist_iff.1 h2.apart
  rw [List.map_append] at hd
  have hra : RowsOf w a := rows_iff.2 fun z hz => h2.rows.mem z (by simp [hz])
  refine (hc w a ha hra (dist_iff.2 (List.nodup_append.1 hd).1)).mono ?_
  rintro e w' ⟨x, he, y, hy, hch⟩
  refine ⟨x, he, fun k l hk => ?_, y ++ b, hy.app hb, hp_chg h2 hch⟩
  refine (hch.mod.block k (Array.getElem?_eq_some_iff.1 hk).1 ?_).trans hk
  rintro ⟨z, hz, e⟩
  exact no_row_mark hk z e (hra.mem z hz)

/-! ## The statement -/
abbrev markD (D : Nat) : Deferred := { target := .collected D, args := #[] }
theorem fin_state {e : Exit} (he : okX e = true) (hst : r.state = .ready) : (finR e r).state ≠ .busy := by
  cases e with
  | normal => show r.state ≠ _; rw [hst]; simp
  | ret => simp [finR]
  | exit id => simp [finR]
  | _ => cases he
theorem fin_pending {e : Exit} (he : okX e = true) (hpe : r.pending = none) : (finR e r).pending = jumpOf e := by
  cases e with
  | normal => exact hpe
  | ret => rfl
  | exit id => rfl
  | _ => cases he
theorem wpIn_jump {F : Fence} {e : Exit} {a : Act} (he : okX e = true) (h : Q e a w) : (match jumpOf e with | none => Q .normal a w | some c => c.wpIn F 0 P Q a w) := by
  cases e with
  | normal => exact h
  | ret => exact wpIn_ret h
  | exit id => exact wpIn_exit h
  | _ => cases he
/-- in a function's frame -/
theorem wp_rangeF {g : Operand} {ps : Array Tmp} {assign body : Code} {gf : FuncId} {caps : List Value} {pre post : List Ass} (e : Exit) (ids : List Nat) (hg : evs env g = some (.func (.func gf) #[] caps.toArray)) (hE : Ent P gf)
    (hcall : ∀ (L : Nat) (fn : FuncId) (tm : Array Value), Fr n { tmps := tm, defers := [] } env → ∀ r : Loop, r.state = .ready → r.pending = none → r.tmps = tm → r.params = ps → r.assign = assign → r.body = body → Does P gf (([.func (.yield L) #[] #[]] : List Value) ++ caps).toArray (recT L r :: pre) (fun _ : Unit => .tuple #[]) (fun _ : Unit => recT L (finR e r) :: post))
    (hsel : selA ids os = pre) (hn : nodupB ids = true) (he : post ++ rstA ids os = os')
    (hy : ∀ (D : Nat) (a : Act) (w : World), w.heap[D]? = some (.deferred (some [])) → w0.heap.size ≤ D → a.defers = [markD D] → Fr n { a with defers := [] } env → Hp B w0 w os' → Q e a w) (hx : okX e = true := by rfl) :
    WC2 P Q n env B w0 os (.rangeFunc g ps assign body) := by
  intro a w hF hH
  refine (wpIn_wide (n := 0)).1 (wpIn_rangeFunc fun fn _ => ?_)
  obtain ⟨r, hr⟩ : ∃ r : Loop, r = { state := .ready, pending := none, fn, tmps := a.tmps, params := ps, assign, body, defers := w.heap.size } := ⟨_, rfl⟩
  obtain ⟨W0, hW0⟩ : ∃ W0, w.alloc (.deferred (some [])) = W0 := ⟨_, rfl⟩
  have hs0 : W0.heap.size = w.heap.size + 1 := by rw [← hW0]; simp
  have hw0 : w0.heap.size ≤ w.heap.size := hH.up.size
  have hH0 : Hp B w0 W0 os := hH.call (by rw [← hW0]; exact (Below.refl _ w).alloc (Nat.le_refl _) _)
  have hH1 := hH0.recNew r
  obtain ⟨W1, hW1⟩ : ∃ W1, W0.alloc (.loop r) = W1 := ⟨_, rfl⟩
  rw [hs0, hW1] at hH1
  have hD1 : W1.heap[w.heap.size]? = some (.deferred (some [])) := by
    rw [← hW1, ← hW0]; exact (Below.heap_alloc _ _ _ (by simp)).trans (World.alloc_heap_new w _)
  have hF0 : Fr n { tmps := a.tmps, defers := [] } env := ⟨hF.size, hF.get, rfl⟩
  have hc := hcall (w.heap.size + 1) fn a.tmps hF0 r (by rw [hr]) (by rw [hr]) (by rw [hr]) (by rw [hr]) (by rw [hr]) (by rw [hr])
  subst hsel
  have hH2 : Hp B w0 W1 ((recT (w.heap.size + 1) r :: selA ids os) ++ rstA ids os) := hH1.perm ((perm_sel (os := os) (nodupB_iff hn)).symm.cons _)
  refine ⟨w.heap.size + 1, [markD w.heap.size], W1, { target := .fn (.func gf) caps.toArray, args := #[.func (.yield (w.heap.size + 1)) #[] #[]] }, W1, gf, (([.func (.yield (w.heap.size + 1)) #[] #[]] : List Value) ++ caps).toArray, W1, ?_, ?_, fun _ _ => trivial, ?_, fun h => (by cases h), ?_⟩
  · rw [← hW1, ← hW0, hr]; exact run_enterLoop_outer _ _ _ _ _
  · have h1 := hF.evs hg
    simp [resolve, h1, Deferred.ofValue]
    rfl
  · have h2 := hE (([.func (.yield (w.heap.size + 1)) #[] #[]] : List Value) ++ caps).toArray W1
    simp [invoke]
    simpa using h2
  · refine callsIn_wide.2 ((hc.calls2 hH2).mono ?_)
    rintro e' w' ⟨_, rfl, hdef, hq⟩
    have hL2 : w'.heap[w.heap.size + 1]? = some (.loop (finR e r)) := hq.rec_ 0 rfl
    have hend : (Instr.endLoop (w.heap.size + 1)).run P w' = .ok (jumpOf e) (w'.putObj (w.heap.size + 1) (.loop { finR e r with state := .exhausted })) := by
      rw [← fin_pending (e := e) hx (show r.pending = none by rw [hr])]
      exact run_endLoop (P := P) hL2 (fin_state hx (by rw [hr]))
    refine ⟨_, _, hend, wpIn_jump hx ?_⟩
    have h6 := (hq.recSet (r' := { finR e r with state := .exhausted }) 0 rfl).drop 1
    refine hy w.heap.size _ _ ((World.putObj_heap_other (by omega)).trans (hdef _ _ hD1)) hw0 (by rw [hF.defers]; rfl) hF0 ?_
    rw [← he]
    exact h6
/-! ## A function that ranges, and its end -/
variable {D : Nat} {a : Act}
theorem hp_putMark {k : Nat} {o' : Obj} {l : Option (List Deferred)} (h : Hp B w0 w os) (hk : w0.heap.size ≤ k) (ho : w.heap[k]? = some (.deferred l)) : Hp B w0 (w.putObj k o') os := by
  obtain ⟨rs, h1, h2⟩ := h
  have hne : ∀ x ∈ rs, x.1 ≠ k := fun x hx e => no_row_mark ho x e (rows_iff.1 h2.rows x hx)
  refine ⟨rs, h1, ⟨h2.up.os, h2.up.tape, h2.up.output, by simpa [World.putObj] using h2.up.size, fun j hj hnb => ?_⟩, rows_iff.2 fun x hx => (rows_iff.1 h2.rows x hx).same (World.putObj_heap_other (hne x hx)), h2.apart, fun x hx hlt => h2.own x hx (by simpa [World.putObj] using hlt)⟩
  rw [World.putObj_heap_other (by omega)]
  exact h2.up.block j hj hnb
theorem d_insM {X : Type} {fn : Func} {f : FuncId} {c : Code} {args : List Value} {pre : List Ass} {val : X → Value} {post : X → List Ass} (n : Nat) (hf : P.funcs[f]? = some fn) (hb : fn.body = some c) (hn : fn.ntmps = n) (hs : Nat.ble args.length n = true)
    (h : ∀ (w : World) (rs : List RowT), WC2 P (bodyPostM Fence.wide 0 P fn fun e w' => ∃ x, e = .returned (val x) ∧ ∃ rs', Parts (post x) rs' ∧ Chg w w' rs rs') n (argEnv 0 args) (Blk rs) w pre c) : Does P f args.toArray pre val post :=
  fun w rs h1 h2 h3 => (callsIn_wide (n := 0)).1 (callsIn_of_wp_marks hf hb trivial (wpIn_wide.2 (h w rs _ w (by
    have hs' := Nat.le_of_ble_eq_true hs
    refine ⟨by simp [hn]; omega, fun s v hv => ?_, rfl⟩
    have := (argEnv_look args 0 s v hv).2
    simp only [Nat.sub_zero] at this
    have hlt := (List.getElem?_eq_some_iff.1 this).1
    rw [Array.getElem?_append_left (by simpa using hlt)]
    simpa using this) (Hp.given h1 h2 h3))))
theorem eval_of (a : Act) : a.eval = ({ a with defers := [] } : Act).eval := by
  funext x
  cases x <;> rfl
theorem put_of (a : Act) (d : Option Nat) (v : Value) : { a.put d v with defers := [] } = ({ a with defers := [] } : Act).put d v := by cases d <;> rfl
theorem put_defers (a : Act) (d : Option Nat) (v : Value) : (a.put d v).defers = a.defers := by cases d <;> rfl
theorem leaves_mark {fn : Func} {R : Ending → World → Prop} {v : Value} (hd : a.defers = [markD D]) (hD : w.heap[D]? = some (.deferred (some []))) (h0 : w0.heap.size ≤ D) (hH : Hp B w0 w os) (hv : ∀ w', Hp B w0 w' os → (results fn a.tmps).run P w' = .ok v w') (hR : ∀ w', Hp B w0 w' os → R (.returned v) w') : LeavesInM Fence.wide 0 P fn a.tmps R a.defers .returning w := by
  rw [hd]
  have h2 : Hp B w0 (w.putObj D (.deferred none)) os := hp_putMark hH h0 hD
  exact ⟨by simp, .inl ⟨D, w.putObj D (.deferred none), rfl, run_takeDeferred hD, v, hv _ h2, hR _ h2⟩⟩
theorem m_fin0 {fn : Func} {R : Ending → World → Prop} {e : Exit} (hr : fn.results = #[]) (hR : ∀ w', Hp B w0 w' os → R (.returned (.tuple #[])) w') (he : e = .normal ∨ e = .ret) : ∀ (D : Nat) (a : Act) (w : World), w.heap[D]? = some (.deferred (some [])) → w0.heap.size ≤ D → a.defers = [markD D] → Fr n { a with defers := [] } env → Hp B w0 w os → bodyPostM Fence.wide 0 P fn R e a w := fun D a w hD h0 hd _ hH => by
  have h := leaves_mark (P := P) (fn := fn) (R := R) (v := .tuple #[]) hd hD h0 hH (fun w' _ => by rw [results_eq, hr]; simp) hR
  rcases he with rfl | rfl <;> exact h
theorem m_fin1 {fn : Func} {R : Ending → World → Prop} {r1 : ResultVar} {v1 : Value} (h1 : Res2 P env os r1 v1) (hr : fn.results = #[r1]) (hR : ∀ w', Hp B w0 w' os → R (.returned v1) w') (D : Nat) (a : Act) (w : World) (hD : w.heap[D]? = some (.deferred (some []))) (h0 : w0.heap.size ≤ D) (hd : a.defers = [markD D]) (hF : Fr n { a with defers := [] } env) (hH : Hp B w0 w os) : bodyPostM Fence.wide 0 P fn R .ret a w :=
  leaves_mark (P := P) (fn := fn) (R := R) hd hD h0 hH (fun w' hH' => by
    have e1 := (res_of h1 hH').run hF
    rw [results_eq, hr]
    simp [e1]) hR
theorem m_fin2 {fn : Func} {R : Ending → World → Prop} {r1 r2 : ResultVar} {v1 v2 : Value} (h1 : Res2 P env os r1 v1) (h2 : Res2 P env os r2 v2) (hr : fn.results = #[r1, r2]) (hR : ∀ w', Hp B w0 w' os → R (.returned (.tuple #[v1, v2])) w') (D : Nat) (a : Act) (w : World) (hD : w.heap[D]? = some (.deferred (some []))) (h0 : w0.heap.size ≤ D) (hd : a.defers = [markD D]) (hF : Fr n { a with defers := [] } env) (hH : Hp B w0 w os) : bodyPostM Fence.wide 0 P fn R .ret a w :=
  leaves_mark (P := P) (fn := fn) (R := R) hd hD h0 hH (fun w' hH' => by
    have e1 := (res_of h1 hH').run hF
    have e2 := (res_of h2 hH').run hF
    rw [results_eq, hr]
    simp [e1, e2]) hR
/-- code behind a range, in a function's frame: the mark stands among its deferred calls -/
def WCT (D : Nat) (P : Program) (Q : Exit → Act → World → Prop) (n : Nat) (env : List (Nat × Value)) (B : Nat → Prop) (w0 : World) (os : List Ass) (c : Code) : Prop := ∀ a w, w.heap[D]? = some (.deferred (some [])) → w0.heap.size ≤ D → a.defers = [markD D] → Fr n { a with defers := [] } env → Hp B w0 w os → c.wp P Q a w
def WLT (D : Nat) (P : Program) (ops : Array Oper) (Q : Exit → Act → World → Prop) (n : Nat) (env : List (Nat × Value)) (B : Nat → Prop) (w0 : World) (os : List Ass) (l : List Oper) : Prop := ∀ a w, w.heap[D]? = some (.deferred (some [])) → w0.heap.size ≤ D → a.defers = [markD D] → Fr n { a with defers := [] } env → Hp B w0 w os → wpList P ops Q l a w
variable {ops : Array Oper} {o : Oper} {rest : List Oper} {d : Nat}
theorem t_reg {id : Nat} {l : List Oper} {y : Code} (h : WLT D P l.toArray (Exit.then (fun a w => y.wp P Q a w) Q) n env B w0 os l) : WCT D P Q n env B w0 os (.seq (.region id l.toArray false) y) := fun a w hD h0 hd hF hH => wp_seq (wp_region_lit (h a w hD h0 hd hF hH))
theorem t_done {y : Code} (h : WCT D P Q n env B w0 os y) : WLT D P ops (Exit.then (fun a w => y.wp P Q a w) Q) n env B w0 os [] := h
theorem t_val (h1 : at1 ops n o env = some d) (v : Value) (he : ∀ b w, Fr n b env → Hp B w0 w os → (execOp b.eval o).run P w = .ok (.value v) w) (h : WLT D P ops Q n ((d, v) :: env) B w0 os rest) : WLT D P ops Q n env B w0 os (o :: rest) := fun a w hD h0 hd hF hH =>
  wpList_step fun K hK => by
    have hw : Region.wanted o (yielded ops a.tmps) = true := hF.wants (at1_parts h1).1
    rw [if_pos hw]
    unfold Oper.wp
    rw [eval_of, he _ w hF hH, Oper.upon_value]
    refine hK _ _ (h _ _ hD h0 ((put_defers _ _ _).trans hd) ?_ hH)
    rw [put_of, (at1_parts h1).2.1]
    exact hF.put (at1_parts h1).2.2 _
theorem t_ret (h : ∀ (a : Act) (w : World), w.heap[D]? = some (.deferred (some [])) → w0.heap.size ≤ D → a.defers = [markD D] → Fr n { a with defers := [] } env → Hp B w0 w os → Q .ret a w) : WCT D P Q n env B w0 os .ret := fun a w hD h0 hd hF hH => wp_ret (h a w hD h0 hd hF hH)
theorem WCT.keep {env' : List (Nat × Value)} {c : Code} (hs : Sub env env') (h : WCT D P Q n env' B w0 os c) : WCT D P Q n env B w0 os c := fun a w hD h0 hd hF hH => h a w hD h0 hd (hF.keep hs) hH
end

end Go.Proofs.Ytnebloeideodmaa.Sep
