/-
  Fnv
-/
import Derived.Test.YtnebloeideodmaaPD04
import Derived.TacticsIn
import Derived.RangeFuncIn
import Derived.RangeFuncRecord
import Derived.RangeFuncLeaves
import Derived.RangeFuncNested
import Derived.OrdersIn
set_option linter.unusedSimpArgs false
set_option linter.unusedVariables false
namespace Go.Proofs.Ytnebloeideodmaa.Sep
open Go.RowKit
open Go.Proofs.Ytnebloeideodmaa.Mem (AM BA Chg Aq)
def Ch (L : Nat) (r : Loop) : Ass := fun rs => rs = [(L, some (.loop r), #[])]
theorem PB {w : World} {l : Nat} {o : Obj} (h : l < w.heap.size) : (w.putObj l o).heap[l]? = some o := World.putObj_heap_same h
theorem FX {w : World} {k : Nat} {l : Option (List Deferred)} (h : w.heap[k]? = some (.deferred l)) : ∀ x : RowT, x.1 = k → ¬ Ci w x := fun x e h4 => h4.ne_obj (by rw [e]; exact h) (by simp) (by simp) (by simp) (by simp)
section
variable {B : Nat → Prop} {w0 w w' : World} {os os' : List Ass} {L : Nat} {r r' : Loop} {rs : List RowT}
theorem Ch.at_ (h : Ch L r rs) (hr : RowsOf w rs) : w.heap[L]? = some (.loop r) := by
 unfold Ch at h
 subst h
 exact hr.1
theorem Hp.rec_ (h : Hp B w0 w os) (i : Nat) (hi : os[i]? = some (Ch L r)) : w.heap[L]? = some (.loop r) := by
 obtain ⟨x, h1, h2⟩ := h.thing i hi
 exact h1.at_ h2
theorem OH (h : w.heap[L]? = some (.loop r)) : Chg w (w.putObj L (.loop r')) [(L, some (.loop r), #[])] [(L, some (.loop r'), #[])] := by
 have hlt : L < w.heap.size := (Array.getElem?_eq_some_iff.1 h).1
 refine ⟨⟨rfl, rfl, rfl, by simp [World.putObj], fun k _ hk => World.putObj_heap_other (fun e => hk ⟨_, List.mem_singleton.2 rfl, e.symm⟩)⟩, ⟨PB hlt, trivial⟩, ⟨(fun _ h => by cases h), trivial⟩, fun x hx _ => ?_⟩
 have : x = (L, some (.loop r'), #[]) := by simpa using hx
 subst this
 exact ⟨_, List.mem_singleton.2 rfl, rfl⟩
theorem Hp.recSet (h : Hp B w0 w os) (i : Nat) (hi : os[i]? = some (Ch L r)) : Hp B w0 (w.putObj L (.loop r')) (os.set i (Ch L r')) :=
 h.turn i hi fun x hx hr _ => ⟨_, rfl, by
  have h1 := hx.at_ hr
  unfold Ch at hx
  subst hx
  exact OH h1⟩
theorem No (h : Mem.Hp B w0 w rs) (o : Obj) {k : Option RTy} {cs : Array Value} (hx : Ci (w.alloc o) (w.heap.size, k, cs)) : Mem.Hp B w0 (w.alloc o) ((w.heap.size, k, cs) :: rs) :=
  ⟨h.up.alloc _, ⟨hx, h.rows.map_ fun _ _ r => r.alloc _⟩, ⟨fun y hy => by have := (h.rows.mem y hy).lt; show y.1 ≠ w.heap.size; omega, h.apart⟩, fun x hx hlt => by
    rcases List.mem_cons.1 hx with rfl | hx
    · have := h.up.size; exact absurd hlt (by show ¬ w.heap.size < w0.heap.size; omega)
    · exact h.own x hx hlt⟩
theorem Hp.recNew (h : Hp B w0 w os) (r : Loop) : Hp B w0 (w.alloc (.loop r)) (Ch w.heap.size r :: os) := by
 obtain ⟨rs, h1, h2⟩ := h
 exact ⟨(w.heap.size, some (.loop r), #[]) :: rs, ⟨[_], rs, rfl, rfl, h1⟩, No h2 _ (World.alloc_heap_new w _)⟩
theorem Hp.left (h : Hp B w0 w (os' ++ os)) : Hp B w0 w os := by
 have := h.drop os'.length
 rwa [List.drop_left] at this
end
def Ek (P : Program) (f : Value) (vs : List Value) (w : World) (R : Ending → World → Prop) : Prop :=
  (∃ F caps, f = .func (.func F) #[] (List.toArray caps) ∧ Qm P F ∧ Calls P F (vs ++ caps).toArray w R) ∨
  ∃ L r, f = .func (.yield L) #[] #[] ∧ w.heap[L]? = some (.loop r) ∧ vs.length = r.params.size ∧ RoundIn Fence.wide 0 P L r.fn ((r.params.zip vs.toArray).foldl (fun tmps (t, a) => tmps.setIfInBounds t a) r.tmps) r.assign r.body w R
theorem Ek.mono {P : Program} {f : Value} {vs : List Value} {w : World} {R R' : Ending → World → Prop} (h : Ek P f vs w R) (hr : ∀ e w', R e w' → R' e w') : Ek P f vs w R' :=
 h.imp (fun ⟨F, caps, h1, h2, h3⟩ => ⟨F, caps, h1, h2, h3.mono hr⟩) (fun ⟨L, r, h1, h2, h3, h4⟩ => ⟨L, r, h1, h2, h3, h4.mono hr⟩)
def EK {X : Type} (P : Program) (f : Value) (vs : List Value) (pre : List Ass) (val : X → Value) (post : X → List Ass) : Prop :=
  ∀ w rs, Am pre rs → RowsOf w rs → AM rs → Ek P f vs w fun e w' => ∃ x, e = .returned (val x) ∧ ∃ rs', Am (post x) rs' ∧ Chg w w' rs rs'
theorem EK.imp {X : Type} {P : Program} {f : Value} {vs : List Value} {pre pre' : List Ass} {val : X → Value} {post : X → List Ass} (h : EK P f vs pre val post) (hi : ∀ rs, Am pre' rs → ∃ rs', rs.Perm rs' ∧ Am pre rs') : EK P f vs pre' val post := fun w rs h1 h2 h3 => by
 obtain ⟨rs', p, h4⟩ := hi rs h1
 refine (h w rs' h4 (AT.2 fun z hz => h2.mem z (p.mem_iff.2 hz)) (AS.2 ((p.map _).nodup_iff.1 (AS.1 h3)))).mono ?_
 rintro e w' ⟨x, he, y, hy, hc⟩
 exact ⟨x, he, y, hy, LM hc p.symm⟩
theorem EK.to {X Y : Type} {P : Program} {f : Value} {vs : List Value} {pre : List Ass} {val : X → Value} {post : X → List Ass} {val' : Y → Value} {post' : Y → List Ass} (h : EK P f vs pre val post) (hi : ∀ x, ∃ y, val x = val' y ∧ ∀ rs, Am (post x) rs → ∃ rs', rs.Perm rs' ∧ Am (post' y) rs') : EK P f vs pre val' post' := fun w rs h1 h2 h3 => by
 refine (h w rs h1 h2 h3).mono ?_
 rintro e w' ⟨x, he, y, hy, hc⟩
 obtain ⟨x', h4, h5⟩ := hi x
 obtain ⟨rs', p, h6⟩ := h5 y hy
 exact ⟨x', by rw [he, h4], rs', h6, JM hc p⟩
theorem EK.frame {X : Type} {P : Program} {f : Value} {vs : List Value} {pre more : List Ass} {val : X → Value} {post : X → List Ass} (h : EK P f vs pre val post) : EK P f vs (pre ++ more) val (fun x => post x ++ more) := fun w rs h1 h2 h3 => by
 obtain ⟨a, b, e, ha, hb⟩ := h1.split
 subst e
 have hd := AS.1 h3
 rw [List.map_append] at hd
 have hh : Mem.Hp (BA (a ++ b)) w w (a ++ b) := Mem.Hp.given h2 h3
 refine (h w a ha (AT.2 fun z hz => h2.mem z (by simp [hz])) (AS.2 (List.nodup_append.1 hd).1)).mono ?_
 rintro e w' ⟨x, he, y, hy, hc⟩
 have := D4 hh hc
 exact ⟨x, he, y ++ b, hy.app hb, this.up, this.rows, this.apart, fun z hz hlt => this.own z hz hlt⟩
def GF (F : Fence) : Prop := F = Fence.wide ∨ ∃ L, F = Fence.wide.inRound L
theorem UL : GF Fence.wide := .inl rfl
theorem UM {L : Nat} : GF (Fence.wide.inRound L) := .inr ⟨L, rfl⟩
def CQ (o : Oper) : Bool := match o.op with | .defer _ => false | _ => true
def T5 (K : Act → World → Prop) (Q : Exit → Act → World → Prop) : Exit → Act → World → Prop
  | .normal, a, w => K a w
  | .ret, a, w => Q .ret a w
  | .exit id, a, w => Q (.exit id) a w
  | .goto t, a, w => Q (.goto t) a w
  | .panic c, a, w => Q (.panic c) a w
  | .outgrown, a, w => Q .outgrown a w
theorem L2 {Q : Exit → Act → World → Prop} : T5 (fun a w => Q .normal a w) Q = Q := by
 funext e a w
 cases e <;> rfl
section
variable {P : Program} {ops : Array Oper} {Q : Exit → Act → World → Prop} {a : Act} {w : World} {o : Oper} {F : Fence} {n d : Nat} {env : List (Nat × Value)}
theorem TU {m : Nat} {K K' J : Act → World → Prop} (h : o.wp P a w K (T5 J Q)) (hK : ∀ a w, K a w → K' a w) : o.wpIn Fence.wide m P a w K' Q := by
  refine ⟨fun _ _ => trivial, ?_⟩
  have hs : Oper.semAt Fence.wide.round a.eval o = execOp a.eval o := rfl
  rw [hs]
  unfold Oper.wp at h
  generalize (execOp a.eval o).run P w = r at h ⊢
  cases r with
  | ok nx w' =>
    cases nx with
    | value v => exact hK _ _ h
    | skip => exact hK _ _ h
    | defer d => exact hK _ _ h
    | enter f args =>
      refine ⟨fun h => (by cases h), callsIn_wide.2 (Calls.mono h ?_)⟩
      rintro (v | c | _) w'' h
      · exact hK _ _ h
      · exact h
      · exact h
    | row r args =>
      refine ⟨fun h => (by cases h), fun c cs _ => ?_⟩
      obtain ⟨v, w'', h1, h2⟩ := h c cs
      exact ⟨v, w'', hK _ _ h1, stepsIn_wide.2 h2⟩
    | _ => exact h.elim
  | halt e w' =>
    cases e with
    | panic v => exact h
    | _ => exact h.elim
theorem RA {m : Nat} {K K' J : Act → World → Prop} (hG : GF F) (hd : CQ o = true) (h : o.wp P a w K (T5 J Q)) (hK : ∀ a w, K a w → K' a w) : o.wpIn F m P a w K' Q := by
  rcases hG with rfl | ⟨L, rfl⟩
  · exact TU h hK
  · refine ⟨fun _ _ => trivial, ?_⟩
    rw [Oper.semAt_eq _ _ _ (fun c hc => by simp [CQ, hc] at hd)]
    have h1 := (TU (m := m) h hK).2
    have hs : Oper.semAt Fence.wide.round a.eval o = execOp a.eval o := rfl
    rw [hs] at h1
    exact h1
theorem Np {m : Nat} {K K' : Act → World → Prop} (hG : GF F) (hd : CQ o = true) (h : o.wp P a w K Q) (hK : ∀ a w, K a w → K' a w) : o.wpIn F m P a w K' Q := RA (J := fun a w => Q .normal a w) hG hd (by rw [L2]; exact h) hK
theorem He {m : Nat} {rest : List Oper} (hG : GF F) (hn : ¬ LetsOut Q) : ∀ {pre : List Oper} {a : Act} {w : World}, pre.all CQ = true → wpList P ops (T5 (wpListIn F m P ops Q rest) Q) pre a w → wpListIn F m P ops Q (pre ++ rest) a w
  | [], a, w, _, h => h
  | o :: r, a, w, hd, h => by
    rw [List.all_cons, Bool.and_eq_true] at hd
    unfold wpList at h
    show if Region.wanted o (yielded ops a.tmps) then _ else _
    split at h
    · rename_i hw
      rw [if_pos hw]
      rcases h with h | ⟨_, x, y, h⟩
      · exact RA hG hd.1 h fun a w h => He hG hn hd.2 h
      · exact absurd ⟨x, y, h⟩ hn
    · rename_i hw
      rw [if_neg hw]
      refine ⟨fun _ _ => ?_, He hG hn hd.2 h⟩
      rcases hG with rfl | ⟨L, rfl⟩ <;> trivial
theorem Nq {act : Act} {L : Nat} {r : Loop} {f : Operand} {args : Array Operand} {ats : Array TypeId} {vs : List Value} (hr : w.heap[L]? = some (.loop r)) (hs : vs.length = r.params.size) (ho : o.op = .call { callee := .value f, args := args, argTypes := ats }) (hf : evs env f = some (.func (.yield L) #[] #[])) (hx : evl env args.toList = some vs) (hF : Fr n act env) :
  (execOp act.eval o).run P w = .ok (.round L r.fn ((r.params.zip vs.toArray).foldl (fun tmps (t, a) => tmps.setIfInBounds t a) r.tmps) r.assign r.body) w := by
 have h1 : args.map act.eval = vs.toArray := by
  have := hF.evl hx
  rw [← this]
  cases args; simp
 have h2 := run_yield (P := P) (args := vs.toArray) hr (by simpa using hs)
 rw [← h2]
 unfold execOp
 simp [ho, resolve, h1, hF.evs hf, Deferred.ofValue, invoke]
theorem Kq {f : Operand} {args : Array Operand} {ats : Array TypeId} {fv : Value} {vs : List Value} {K : Act → World → Prop} (hG : GF F) (ho : o.op = .call { callee := .value f, args := args, argTypes := ats }) (hf : evs env f = some fv) (hx : evl env args.toList = some vs) (hF : Fr n a env)
    (h : Ek P fv vs w fun e w' => ∃ v, e = .returned v ∧ K (a.put o.dst v) w') : o.wpIn F 0 P a w K Q := by
  have key : o.uponIn Fence.wide 0 P a K Q ((execOp a.eval o).run P w) := by
    rcases h with ⟨F', caps, rfl, hE, h⟩ | ⟨L, r, rfl, hL, hs, h⟩
    · rw [Nb hE ho hf hx hF]
      refine ⟨fun h => (by cases h), callsIn_wide.2 (h.mono ?_)⟩
      rintro e w' ⟨v, rfl, h⟩
      exact h
    · rw [Nq hL hs ho hf hx hF, Oper.uponIn_round]
      refine ⟨fun h => (by cases h), h.mono ?_⟩
      rintro e w' ⟨v, rfl, h⟩
      exact h
  rcases hG with rfl | ⟨L, rfl⟩
  · exact ⟨fun _ _ => trivial, key⟩
  · refine ⟨fun _ _ => trivial, ?_⟩
    rw [Oper.semAt_eq _ _ _ (fun c hc => by rw [ho] at hc; cases hc)]
    exact key
end
def PC (F : Fence) (P : Program) (ops : Array Oper) (Q : Exit → Act → World → Prop) (n : Nat) (env : List (Nat × Value)) (B : Nat → Prop) (w0 : World) (os : List Ass) (l : List Oper) : Prop := ∀ a w, Fr n a env → Hp B w0 w os → wpListIn F 0 P ops Q l a w
section
variable {P : Program} {ops : Array Oper} {Q : Exit → Act → World → Prop} {n d : Nat} {env env' : List (Nat × Value)} {B : Nat → Prop} {w0 w : World} {os os' : List Ass} {o : Oper} {rest : List Oper} {F : Fence} {a : Act}
theorem UN {X : Type} {f : Operand} {args : Array Operand} {ats : Array TypeId} {fv : Value} {vs : List Value} {pre : List Ass} {val : X → Value} {post : X → List Ass} {os' : X → List Ass} (hG : GF F) (ids : List Nat) (hc : EK P fv vs pre val post)
  (h1 : SS ops n o env = some d) (ho : o.op = .call { callee := .value f, args := args, argTypes := ats }) (hf : evs env f = some fv) (hx : evl env args.toList = some vs) (hp : Du ids os = pre) (hn : Cq ids = true) (he : ∀ x, post x ++ CO ids os = os' x)
  (h : ∀ x, PC F P ops Q n ((d, val x) :: env) B w0 (os' x) rest) : PC F P ops Q n env B w0 os (o :: rest) := fun a w hF hH => by
 show if Region.wanted o (yielded ops a.tmps) then _ else _
 rw [if_pos (hF.wants (Bm h1).1)]
 subst hp
 obtain ⟨x, h2, h3, h4, h5⟩ := hH.give ids (Bt hn)
 refine Kq hG ho hf hx hF ((hc w x h2 h3 h4).mono ?_)
 rintro e w' ⟨y, rfl, z, hz, hch⟩
 refine ⟨_, rfl, ?_⟩
 have h6 := h5 _ z w' hz hch
 rw [he y] at h6
 rw [(Bm h1).2.1]
 exact h y _ _ (hF.put (Bm h1).2.2 _) h6
theorem Nr (hG : GF F) (hn : ¬ LetsOut Q) (hd : rest.all CQ = true) (h : BM P ops Q n env B w0 os rest) : PC F P ops Q n env B w0 os rest := fun a w hF hH => by
 have h1 := h a w hF hH
 rw [← L2 (Q := Q)] at h1
 have := He (m := 0) (rest := []) hG hn hd h1
 rwa [List.append_nil] at this
theorem Wo {l : List Oper} (hG : GF F) (k : Nat) (hn : ¬ LetsOut Q) (hd : (l.take k).all CQ = true) (h : BM P ops (T5 (wpListIn F 0 P ops Q (l.drop k)) Q) n env B w0 os (l.take k)) : PC F P ops Q n env B w0 os l := fun a w hF hH => by
 have := He (m := 0) hG hn hd (h a w hF hH)
 rwa [List.take_append_drop] at this
theorem W4 {l : List Oper} {Q' : Exit → Act → World → Prop} (h : PC F P ops Q n env B w0 os l) : BM P ops (T5 (wpListIn F 0 P ops Q l) Q') n env B w0 os [] := h
theorem PC.leave {l : List Oper} {os' : List Ass} (ids : List Nat) (hn : Cq ids = true) (he : CO ids os = os') (h : PC F P ops Q n env B w0 os' l) : PC F P ops Q n env B w0 os l := fun a w hF hH => h a w hF (by
 have := (hH.perm (Ck (os := os) (Bt hn)).symm).drop (Du ids os).length
 rw [List.drop_left] at this
 exact he ▸ this)
theorem PC.keep {l : List Oper} (hs : Dy env env') (h : PC F P ops Q n env' B w0 os l) : PC F P ops Q n env B w0 os l := fun a w hF hH => h a w (hF.keep hs) hH
end
section
variable {P : Program} {ops : Array Oper} {Q : Exit → Act → World → Prop} {n D m : Nat} {jobs : List JobS} {env0 : List (Nat × Value)} {B : Nat → Prop} {w0 : World} {S : List (Option Value) → List Ass} {F : Fence}
theorem HJ {D : Nat} (hr : ∀ t, D ≤ t → t < ops.size → Region.ready .any ops (B0 t ops.size) = [t]) : ∀ (f t : Nat) (a : Act) (w : World), f + t = ops.size → D ≤ t → wpListIn F 0 P ops Q (ops.toList.drop t) a w → wpAnyIn F 0 P .any ops Q f (B0 t ops.size) a w
  | 0, t, a, w, ht, hD, h => by
    have e : t = ops.size := by omega
    rw [e] at h ⊢
    rw [List.drop_eq_nil_of_le (by simp)] at h
    refine ⟨?_, h⟩
    unfold Region.ready
    rw [List.filter_eq_nil_iff]
    intro i hi
    have hi' : i < ops.size := by simpa using hi
    rw [Cp hi']
    simp [hi']
  | f + 1, t, a, w, ht, hD, h => by
    have hlt : t < ops.size := by omega
    have hrt := hr t hD hlt
    refine ⟨fun h0 => (by rw [hrt] at h0; cases h0), fun i hi => ?_⟩
    rw [hrt] at hi
    have : i = t := by simpa using hi
    subst this
    have hset : (B0 i ops.size).setIfInBounds i true = B0 (i + 1) ops.size := by
      refine Gf (by simp [CG (Nat.le_of_lt hlt)]) (by omega) (fun k hk => ?_) (fun k hk hkN => ?_)
      · rw [DM _ _ _ (by rw [CG (Nat.le_of_lt hlt)]; exact hlt)]
        split
        · rfl
        · rw [Cp (by omega)]; simp; omega
      · rw [DM _ _ _ (by rw [CG (Nat.le_of_lt hlt)]; exact hlt), if_neg (by omega), Cp hkN]
        simp; omega
    rw [hset]
    have hcons : ops.toList.drop i = ops[i] :: ops.toList.drop (i + 1) := by
      rw [List.drop_eq_getElem_cons (by simpa using hlt)]
      simp
    rw [hcons] at h
    unfold wpOpIn
    simp only [Array.getElem?_eq_getElem hlt]
    unfold wpListIn at h
    split
    · rename_i hw
      rw [if_pos hw] at h
      exact Oper.wpIn_mono (fun a w hh => HJ hr f (i + 1) a w (by omega) (by omega) hh) h
    · rename_i hw
      rw [if_neg hw] at h
      exact ⟨h.1, HJ hr f (i + 1) _ _ (by omega) (by omega) h.2⟩
theorem If : ∀ {p : List (Option Bool)} {C C' : List (Option Value) → Prop}, (∀ ρ, C ρ → C' ρ) → FP p C → FP p C'
  | [], _, _, h, hp => h _ hp
  | some true :: ps, _, _, h, hp => fun v => If (p := ps) (fun ρ => h _) (hp v)
  | some false :: ps, _, _, h, hp => If (p := ps) (fun ρ => h _) hp
  | none :: ps, _, _, h, hp => fun r => If (p := ps) (fun ρ => h _) (hp r)
theorem RB {l : List Oper} (h : l.all CQ = true) (k : Nat) : (l.drop k).all CQ = true := List.all_eq_true.2 fun x hx => List.all_eq_true.1 h x (List.mem_of_mem_drop hx)
theorem PD (hG : GF F) (hdd : ops.toList.all CQ = true) (hDN : D ≤ ops.size) (hlen : jobs.length = D) (hJ : ∀ i, i < D → ∃ o j, ops[i]? = some o ∧ jobs[i]? = some j ∧ JobOKS ops jobs n D m (env0.map (·.1)) i o j)
    (hlate : ∀ i, D ≤ i → i < ops.size → (∀ j, j < D → j ∈ Nd ops D (Hb ops i)) ∨ ∃ j, D ≤ j ∧ j < ops.size ∧ E5 ops i j = true)
    (hOb : D5 P ops Q n jobs env0 B w0 S ops.toList jobs) 
    (hend : ∀ a ρ w, InvS ops n jobs env0 B w0 S D m (B0 D ops.size) a ρ w → wpAnyIn F 0 P .any ops Q (ops.size - D) (B0 D ops.size) a w) :
    ∀ (f : Nat) (listed : Array Bool) (a : Act) (ρ : List (Option Value)) (w : World), Ik listed ops.size = f → InvS ops n jobs env0 B w0 S D m listed a ρ w → wpAnyIn F 0 P .any ops Q f listed a w := by
  have hjD : ∀ (i' : Nat) J, jobs[i']? = some J → i' < D := fun i' J h => by rw [← hlen]; exact (List.getElem?_eq_some_iff.1 h).1
  have fin : ∀ (f : Nat) (listed : Array Bool) (a : Act) (ρ : List (Option Value)) (w : World), Ik listed ops.size = f → InvS ops n jobs env0 B w0 S D m listed a ρ w → (∀ i, i < D → listed.getD i true = true) → wpAnyIn F 0 P .any ops Q f listed a w := by
    intro f listed a ρ w hf hI hall
    have he := Gf hI.size hDN hall hI.late
    have hun := Ge listed D hall (fun i h1 h2 => hI.late i h1 (by rw [← hI.size]; exact h2)) ops.size (by rw [hI.size]; exact Nat.le_refl _)
    rw [hun] at hf
    subst hf
    rw [he] at hI ⊢
    exact hend a ρ w hI
  intro f
  induction f with
  | zero =>
    intro listed a ρ w hf hI
    refine fin 0 listed a ρ w hf hI (fun i hi => ?_)
    cases hc : listed.getD i true with
    | true => rfl
    | false =>
      have := E6 listed i hc ops.size (by omega)
      omega
  | succ f ih =>
    intro listed a ρ w hf hI
    by_cases hall : ∀ i, i < D → listed.getD i true = true
    · exact fin (f + 1) listed a ρ w hf hI hall
    have hex : ∃ i, i < D ∧ listed.getD i true = false := by
      apply Classical.byContradiction
      intro hno
      apply hall
      intro i hi
      cases hc : listed.getD i true with
      | true => rfl
      | false => exact absurd ⟨i, hi, hc⟩ hno
    have hready : ∃ i, i ∈ Region.ready .any ops listed := by
      obtain ⟨i0, hi0, hu0⟩ := hex
      have key : ∀ k i, i ≤ k → i < D → listed.getD i true = false → ∃ i, i ∈ Region.ready .any ops listed := by
        intro k
        induction k with
        | zero =>
          intro i hik hi hu
          obtain ⟨o, j, ho, hj, hok⟩ := hJ i hi
          exact ⟨i, mem_ready.2 ⟨hu, o, ho, fun e he hb => by have := hok.edges e he hb; omega⟩⟩
        | succ k ihk =>
          intro i hik hi hu
          obtain ⟨o, j, ho, hj, hok⟩ := hJ i hi
          by_cases hr : ∀ e ∈ o.after, Region.binds .any e = true → listed.getD e.on false = true
          · exact ⟨i, mem_ready.2 ⟨hu, o, ho, hr⟩⟩
          · have : ∃ e ∈ o.after, Region.binds .any e = true ∧ listed.getD e.on false = false := by
              apply Classical.byContradiction
              intro hno
              apply hr
              intro e he hb
              cases hc : listed.getD e.on false with
              | true => rfl
              | false => exact absurd ⟨e, he, hb, hc⟩ hno
            obtain ⟨e, he, hb, hc⟩ := this
            have hlt := hok.edges e he hb
            have hin : e.on < listed.size := by rw [hI.size]; omega
            refine ihk e.on (by omega) (by omega) ?_
            simpa [hin] using hc
      exact key i0 i0 (Nat.le_refl _) hi0 hu0
    refine ⟨fun h0 => (by obtain ⟨i, hi⟩ := hready; rw [h0] at hi; simp at hi), fun i hi => ?_⟩
    have hun : listed.getD i true = false := (mem_ready.1 hi).1
    have hiN : i < ops.size := by
      obtain ⟨_, o, ho, _⟩ := mem_ready.1 hi
      exact (Array.getElem?_eq_some_iff.1 ho).1
    have hlt : ∀ e, e < ops.size → listed.getD e false = listed.getD e true := fun e he => by
      have : e < listed.size := by rw [hI.size]; exact he
      simp [this]
    have hdepl : ∀ e, E5 ops i e = true → e < ops.size → listed.getD e true = true := fun e he heN => by
      rw [← hlt e heN]; exact G0 hi he
    have hiD : i < D := by
      apply Classical.byContradiction
      intro hge
      rcases hlate i (by omega) hiN with h | ⟨j, hjD', hjN, he⟩
      · obtain ⟨k, hk, hku⟩ := hex
        have := FR (D := D) (ops := ops) hDN hI.closed D (Hb ops i) (Nat.le_refl _) (fun e he heN => hdepl e (GQ he) heN) k (h k hk) (by omega)
        rw [hku] at this
        cases this
      · have h1 := hdepl j he hjN
        rw [hI.late j hjD' hjN] at h1
        cases h1
    obtain ⟨o, j, ho, hj, hok⟩ := hJ i hiD
    have hob := hOb.at_ i o j (by simpa using ho) hj
    have hFr : Fr n a (CA ops jobs ρ j.deps ++ env0) := Fr.app (Hc hI j.deps (fun e he => hdepl e (hok.deps e he).2 (by have := (hok.deps e he).1; omega))) hI.fr
    have hf' : Ik (listed.setIfInBounds i true) ops.size = f := by
      have := E6 listed i hun ops.size hiN
      omega
    have hm_of : ∀ q, Cd j.pat q ≠ none → q < m := by
      intro q hq
      rw [← hok.len]
      revert hq
      generalize j.pat = l
      intro hq
      apply Classical.byContradiction
      intro hge
      apply hq
      have : ∀ (l : List (Option Bool)) (q : Nat), l.length ≤ q → Cd l q = none := by
        intro l
        induction l with
        | nil => intro q _; rfl
        | cons x r ih =>
          intro q h
          cases q with
          | zero => simp at h
          | succ q => exact ih q (by simpa using h)
      exact this l q (by omega)
    have hfit : IS j.pat ρ := by
      refine G9 (by rw [hI.len, hok.len]) (fun q hq => ?_) (fun q hq => ?_)
      · obtain ⟨p, J, h1, _, h3, h4⟩ := CI hJ hDN hI.closed (hm_of q (by rw [hq]; simp)) i i j (Nat.le_refl _) hiD hj hq hdepl
        exact hI.yes p J q h1 h3 h4
      · obtain ⟨qi, hk, hor⟩ := hok.f q (hm_of q (by rw [hq]; simp)) hq
        rcases hor with rfl | ⟨J, hJm, hJk, hJp⟩
        · exact hI.no i j qi hj hk hun
        · obtain ⟨p, hp⟩ := List.getElem?_of_mem hJm
          refine hI.no p J q hp hJk ?_
          cases hl : listed.getD p true with
          | false => rfl
          | true =>
            obtain ⟨o', J', ho', hJ', hok'⟩ := hJ p (hjD p J hp)
            obtain ⟨p', J2, h1, _, h3, h4⟩ := CI hJ hDN hI.closed (hok.act qi hk).1 p p J (Nat.le_refl _) (hjD p J hp) hp hJp (fun e he heN => hI.closed p e (hjD p J hp) hl he heN)
            by_cases hpi : p' = i
            · subst hpi; rw [hun] at h4; cases h4
            · exact absurd h3 ((hok.act qi hk).2.2 p' J2 (hjD p' J2 h1) hpi h1)
    have hnd : CQ o = true := List.all_eq_true.1 hdd o (Array.mem_toList_iff.2 (Array.mem_of_getElem? ho))
    unfold wpOpIn
    simp only [ho]
    cases hk : j.kind with
    | quiet =>
      unfold Rr at hob
      simp only [hk] at hob
      obtain ⟨hw, hrun⟩ := hob.fit hfit
      rw [if_pos (hFr.wants hw)]
      refine Np (K := wpAnyIn F 0 P .any ops Q f (listed.setIfInBounds i true)) hG hnd ?_ (fun _ _ h => h)
      unfold Oper.wp
      rw [hrun a w hI.hp hFr, Oper.upon_value]
      exact ih _ _ ρ w hf' (DU hI hiD hDN hlen ho hj hok hun hdepl (fun _ => by simp [JobS.val, hk]) (fun _ _ _ _ _ => rfl) hI.len (fun q h => by simp [JobS.actOf, hk] at h) (fun _ _ _ _ _ _ => rfl) hI.hp)
    | skip =>
      unfold Rr at hob
      simp only [hk] at hob
      obtain ⟨hw, hv⟩ := hob.fit hfit
      rw [if_neg (by rw [hFr.wants hw]; simp)]
      refine ⟨fun _ _ => by rcases hG with rfl | ⟨L, rfl⟩ <;> trivial, ?_⟩
      exact ih _ _ ρ w hf' (DU hI hiD hDN hlen ho hj hok hun hdepl (fun _ => by simp [JobS.val, hk, hv]) (fun _ _ _ _ _ => rfl) hI.len (fun q h => by simp [JobS.actOf, hk] at h) (fun _ _ _ _ _ _ => rfl) hI.hp)
    | act q =>
      unfold Rr at hob
      simp only [hk] at hob
      obtain ⟨hw, hrun⟩ := hob.fit hfit
      rw [if_pos (hFr.wants hw)]
      have hka : j.actOf = some q := by simp [JobS.actOf, hk]
      obtain ⟨hqm, hqf, huniq⟩ := hok.act q hka
      refine Np (K := wpAnyIn F 0 P .any ops Q f (listed.setIfInBounds i true)) hG hnd (hrun a w hI.hp hFr _ fun v w' hp => ?_) (fun _ _ h => h)
      have hql : q < ρ.length := by rw [hI.len]; exact hqm
      refine ih _ _ (FO ρ q v) w' hf' (DU hI hiD hDN hlen ho hj hok hun hdepl (fun _ => ?_) (fun i' J hJ' hne hl => ?_) (by rw [FQ]; exact hI.len) (fun q' h => ?_) (fun i' J q' hJ' hk' hne => ?_) hp)
      · unfold JobS.val
        simp only [hk]
        exact Nc (by rw [Dk, if_pos rfl, if_pos hql])
      · -- what is listed does not lean on it
        have hnt : Cd J.pat q ≠ some true := fun hp => by
          obtain ⟨p', J2, h1, h2, h3, h4⟩ := CI hJ hDN hI.closed hqm i' i' J (Nat.le_refl _) (hjD i' J hJ') hJ' hp (fun e he heN => hI.closed i' e (hjD i' J hJ') hl he heN)
          by_cases hpi : p' = i
          · subst hpi; rw [hun] at h4; cases h4
          · exact huniq p' J2 (hjD p' J2 h1) hpi h1 h3
        unfold JobS.val
        cases hk2 : J.kind with
        | act q2 =>
          have : q2 ≠ q := fun e => by subst e; exact huniq i' J (hjD i' J hJ') hne hJ' (by simp [JobS.actOf, hk2])
          exact Ha this
        | actv q2 => simp only [B2 hnt]
        | quiet => simp only [B2 hnt]
        | skip => simp only [B2 hnt]
      · rw [hka] at h; cases h
        exact ⟨v, by rw [Dk, if_pos rfl, if_pos hql]⟩
      · rw [Dk, if_neg (fun e => by subst e; exact huniq i' J (hjD i' J hJ') hne hJ' hk')]
    | actv q =>
      unfold Rr at hob
      simp only [hk] at hob
      obtain ⟨hw, hrun⟩ := hob.fit hfit
      rw [if_pos (hFr.wants hw)]
      have hka : j.actOf = some q := by simp [JobS.actOf, hk]
      obtain ⟨hqm, hqf, huniq⟩ := hok.act q hka
      refine Np (K := wpAnyIn F 0 P .any ops Q f (listed.setIfInBounds i true)) hG hnd (hrun a w hI.hp hFr _ fun v w' hp => ?_) (fun _ _ h => h)
      have hql : q < ρ.length := by rw [hI.len]; exact hqm
      refine ih _ _ (FO ρ q v) w' hf' (DU hI hiD hDN hlen ho hj hok hun hdepl (fun _ => ?_) (fun i' J hJ' hne hl => ?_) (by rw [FQ]; exact hI.len) (fun q' h => ?_) (fun i' J q' hJ' hk' hne => ?_) hp)
      · unfold JobS.val
        simp only [hk]
        rw [B2 (by rw [hqf]; simp)]
      · -- what is listed does not lean on it
        have hnt : Cd J.pat q ≠ some true := fun hp => by
          obtain ⟨p', J2, h1, h2, h3, h4⟩ := CI hJ hDN hI.closed hqm i' i' J (Nat.le_refl _) (hjD i' J hJ') hJ' hp (fun e he heN => hI.closed i' e (hjD i' J hJ') hl he heN)
          by_cases hpi : p' = i
          · subst hpi; rw [hun] at h4; cases h4
          · exact huniq p' J2 (hjD p' J2 h1) hpi h1 h3
        unfold JobS.val
        cases hk2 : J.kind with
        | act q2 =>
          have : q2 ≠ q := fun e => by subst e; exact huniq i' J (hjD i' J hJ') hne hJ' (by simp [JobS.actOf, hk2])
          exact Ha this
        | actv q2 => simp only [B2 hnt]
        | quiet => simp only [B2 hnt]
        | skip => simp only [B2 hnt]
      · rw [hka] at h; cases h
        exact ⟨v, by rw [Dk, if_pos rfl, if_pos hql]⟩
      · rw [Dk, if_neg (fun e => by subst e; exact huniq i' J (hjD i' J hJ') hne hJ' hk')]
theorem Wp {env : List (Nat × Value)} {os : List Ass} (hG : GF F) (D m : Nat) (jobs : List JobS) (env0 : List (Nat × Value)) (S : List (Option Value) → List Ass) (hdd : ops.toList.all CQ = true) (hok : IT ops jobs n D m (env0.map (·.1)) = true) (hs : Dy env env0) (hS : os = S (List.replicate m none))
    (hOb : D5 P ops Q n jobs env0 B w0 S ops.toList jobs)
    (hend : FP (List.replicate m (some true)) fun ρ => PC F P ops Q n (KL ops jobs ρ D ++ env0) B w0 (S ρ) (ops.toList.drop D)) (a : Act) (w : World) (hF : Fr n a env) (hH : Hp B w0 w os) : wpAnyIn F 0 P .any ops Q ops.size (Array.replicate ops.size false) a w := by
  obtain ⟨hDN, hlen, hJ, hlate, hr, hm⟩ := Hd hok
  have hz : ∀ i, i < ops.size → (Array.replicate ops.size false).getD i true = false := fun i hi => by simp [hi]
  have hjN : ∀ (i : Nat) j, jobs[i]? = some j → i < ops.size := fun i j h => by have := (List.getElem?_eq_some_iff.1 h).1; omega
  have hinit : InvS ops n jobs env0 B w0 S D m (Array.replicate ops.size false) a (List.replicate m none) w := by
    refine ⟨by simp, fun i _ hi => hz i hi, fun i e hi hl => ?_, hF.keep hs, by simp, fun i j q hj _ hl => ?_, fun i j q hj hk _ => ?_, fun i j d hj _ hl => ?_, by rw [← hS]; exact hH⟩
    · rw [hz i (by omega)] at hl; cases hl
    · rw [hz i (hjN i j hj)] at hl; cases hl
    · obtain ⟨o, j', ho, hj', hok'⟩ := Fh (hJ i (by rw [← hlen]; exact (List.getElem?_eq_some_iff.1 hj).1))
      rw [hj] at hj'; cases hj'
      have := (hok'.act q hk).1
      simp [this]
    · rw [hz i (hjN i j hj)] at hl; cases hl
  have hunl : Ik (Array.replicate ops.size false) ops.size = ops.size := by
    have := Ge (Array.replicate ops.size false) 0 (fun i h => by omega) (fun i _ h => hz i (by simpa using h)) ops.size (by simp)
    simpa using this
  refine PD hG hdd hDN hlen (fun i hi => Fh (hJ i hi)) hlate hOb (fun a ρ w hI => ?_) ops.size _ a _ w hunl hinit
  refine HJ hr (ops.size - D) D a w (by omega) (Nat.le_refl _) ?_
  have hl : ∀ i, i < D → (B0 D ops.size).getD i true = true := fun i hi => by rw [Cp (by omega)]; simpa using hi
  have hjD : ∀ (i : Nat) j, jobs[i]? = some j → i < D := fun i j h => by rw [← hlen]; exact (List.getElem?_eq_some_iff.1 h).1
  have hfit : IS (List.replicate m (some true)) ρ := G9 (by rw [hI.len]; simp) (fun q hq => by
    obtain ⟨p, J, hp, hk⟩ := hm q (HE m q hq)
    exact hI.yes p J q hp hk (hl p (hjD p J hp))) (fun q hq => absurd hq (GR m q))
  exact hend.fit hfit a w (Fr.app (Hc hI _ (fun e he => hl e (by simpa using he))) hI.fr) hI.hp
end
section
variable {P : Program} {ops : Array Oper} {Q : Exit → Act → World → Prop} {n d : Nat} {env env' : List (Nat × Value)} {B : Nat → Prop} {w0 w : World} {os os' : List Ass} {o : Oper} {L : Nat} {a : Act}
theorem UO {id : Nat} {l : List Oper} (h : PC Fence.wide P l.toArray Q n env B w0 os l) : AY P Q n env B w0 os (.region id l.toArray false) := fun a w hF hH => (wpIn_wide (n := 0)).1 (wpIn_region_lit (h a w hF hH))
def Fi (L : Nat) (P : Program) (Q : Exit → Act → World → Prop) (n : Nat) (env : List (Nat × Value)) (B : Nat → Prop) (w0 : World) (os : List Ass) (c : Code) : Prop := ∀ a w, Fr n a env → Hp B w0 w os → c.wpIn (Fence.wide.inRound L) 0 P Q a w
theorem KO {id : Nat} {c : Code} (h : Fi L P (Exit.inBlock id Q) n env B w0 os c) : Fi L P Q n env B w0 os (.block id c) := fun a w hF hH => wpIn_block (h a w hF hH)
theorem TV {x y : Code} (h : Fi L P (Exit.then (fun a w => y.wpIn (Fence.wide.inRound L) 0 P Q a w) Q) n env B w0 os x) : Fi L P Q n env B w0 os (.seq x y) := fun a w hF hH => wpIn_seq (h a w hF hH)
theorem JT {id : Nat} {l : List Oper} (hd : l.all CQ = true) (hn : ¬ LetsOut Q) (h : BM P l.toArray Q n env B w0 os l) : Fi L P Q n env B w0 os (.region id l.toArray false) := fun a w hF hH => wpIn_region_lit (Nr UM hn hd h a w hF hH)
theorem RD {id : Nat} (hn : ¬ LetsOut Q) (D m : Nat) (jobs : List JobS) (env0 : List (Nat × Value)) (S : List (Option Value) → List Ass) (hmix : P.follows .mixedOrders = true) (hdd : ops.toList.all CQ = true) (hok : IT ops jobs n D m (env0.map (·.1)) = true) (hs : Dy env env0) (hS : os = S (List.replicate m none))
    (hOb : D5 P ops Q n jobs env0 B w0 S ops.toList jobs)
    (hend : FP (List.replicate m (some true)) fun ρ => BM P ops Q n (KL ops jobs ρ D ++ env0) B w0 (S ρ) (ops.toList.drop D)) : Fi L P Q n env B w0 os (.region id ops true) := fun a w hF hH => wpIn_region_any hmix (Wp UM D m jobs env0 S hdd hok hs hS hOb (If (fun ρ h => Nr UM hn (RB hdd D) h) hend) a w.drew hF hH.drew)
theorem UP {c : Operand} {x y : Code} (hc : evs env c = some (.bool false)) (h : Fi L P Q n env B w0 os y) : Fi L P Q n env B w0 os (.cond c x y) := fun a w hF hH => wpIn_cond_false (hF.evs hc) (h a w hF hH)
theorem UQ {c : Operand} {x y : Code} (hc : evs env c = some (.bool true)) (h : Fi L P Q n env B w0 os x) : Fi L P Q n env B w0 os (.cond c x y) := fun a w hF hH => wpIn_cond_true (hF.evs hc) (h a w hF hH)
theorem UR (h : BW Q n env B w0 os .normal) : Fi L P Q n env B w0 os .skip := fun a w hF hH => wpIn_skip (h a w hF hH)
theorem Wq {y : Code} {K : Exit → Act → World → Prop} (h : Fi L P Q n env B w0 os y) : BW (Exit.then (fun a w => y.wpIn (Fence.wide.inRound L) 0 P Q a w) K) n env B w0 os .normal := h
theorem Fi.keep {c : Code} (hs : Dy env env') (h : Fi L P Q n env' B w0 os c) : Fi L P Q n env B w0 os c := fun a w hF hH => h a w (hF.keep hs) hH
theorem Fi.via {X : Type} {c : Code} (os' : X → List Ass) (hi : ∀ rs, Am os rs → ∃ x, ∃ rs', rs.Perm rs' ∧ Am (os' x) rs') (h : ∀ x, Fi L P Q n env B w0 (os' x) c) : Fi L P Q n env B w0 os c := fun a w hF ⟨rs, h1, h2⟩ => by
 obtain ⟨x, rs', p, h3⟩ := hi rs h1
 exact h x a w hF ⟨rs', h3, B8 h2 p⟩
theorem Fi.mid {c : Code} (os' : List Ass) (hp : os.Perm os') (h : Fi L P Q n env B w0 os' c) : Fi L P Q n env B w0 os c := fun a w hF hH => h a w hF (hH.perm hp)
theorem Fi.fact {c : Code} {p : Prop} {o : Ass} (i : Nat) (hi : os[i]? = some o) (hp : ∀ rs, o rs → p) (h : p → Fi L P Q n env B w0 os c) : Fi L P Q n env B w0 os c := fun a w hF hH => h (DR i hi hp hH) a w hF hH
theorem KP {c : Code} {α : Type} {A : α → List Ass} {t : Ass} {os' : α → List Ass} (i : Nat) (hi : os[i]? = some t) (ho : ∀ rs, t rs → ∃ x, Am (A x) rs) (he : ∀ x, A x ++ CO [i] os = os' x) (h : ∀ x, Fi L P Q n env B w0 (os' x) c) : Fi L P Q n env B w0 os c := Fi.via _ (G5 hi ho) fun x => he x ▸ h x
theorem Fi.leave {c : Code} {os' : List Ass} (ids : List Nat) (hn : Cq ids = true) (he : CO ids os = os') (h : Fi L P Q n env B w0 os' c) : Fi L P Q n env B w0 os c := fun a w hF hH => h a w hF (by
 have := (hH.perm (Ck (os := os) (Bt hn)).symm).drop (Du ids os).length
 rw [List.drop_left] at this
 exact he ▸ this)
theorem US {c : Code} (k : Nat) {os' : List Ass} (he : List.replicate k Dw ++ os = os') (h : Fi L P Q n env B w0 os' c) : Fi L P Q n env B w0 os c := Fi.via (fun _ : Unit => os') (fun rs hp => ⟨(), rs, .refl _, he ▸ (Am.app (DC.2 rfl) hp : Am _ ([] ++ rs))⟩) fun _ => h
theorem KQ {α : Type} {A : α → List Ass} {t : Ass} (i : Nat) (hi : os[i]? = some t) (ho : ∀ rs, t rs → ∃ x, Am (A x) rs) (h : Hp B w0 w os) : ∃ x, Hp B w0 w (A x ++ CO [i] os) := by
 obtain ⟨rs, h1, h2⟩ := h
 obtain ⟨x, rs', p, h3⟩ := G5 hi ho rs h1
 exact ⟨x, rs', h3, B8 h2 p⟩
end
def KR : Exit → Option Code
  | .normal => none
  | .ret => some .ret
  | .exit id => some (.exit id)
  | .goto t => some (.goto t)
  | _ => none
def Ws : Exit → Bool
  | .normal => true
  | .ret => true
  | .exit _ => true
  | _ => false
def UT : Exit → Bool
  | .normal => true
  | _ => false
def Er (r : Loop) : Loop := { r with state := .busy }
def KS : Exit → Loop → Loop
  | .normal, r => r
  | e, r => { r with state := .done, pending := KR e }
def RE (e : Exit) (w0 : World) (rs : List RowT) (post : List Ass) : Exit → Act → World → Prop := fun e' _ w => e' = e ∧ ∃ rs', Am post rs' ∧ Chg w0 w rs rs'
section
variable {P : Program} {Q : Exit → Act → World → Prop} {n : Nat} {env : List (Nat × Value)} {B : Nat → Prop} {w0 w w' : World} {os os' : List Ass} {L : Nat} {r : Loop}
theorem KT {rs : List RowT} {post : List Ass} {e : Exit} (ids : List Nat) (hn : Cq ids = true) (hp : Du ids os = post) : BW (RE e w0 rs post) n env (BA rs) w0 os e := fun a w _ hH => ⟨rfl, by
 obtain ⟨y, h1, h2⟩ := hH.tell ids (Bt hn)
 rw [hp] at h1
 exact ⟨y, h1, h2⟩⟩
theorem UU {rs rs' : List RowT} (h : Chg w w' rs rs') : Mem.Hp (BA rs) w w' rs' := ⟨h.mod, h.rows, h.dist, fun x hx hlt => by
 obtain ⟨y, hy, e⟩ := h.from_ x hx hlt
 exact ⟨y, hy, e⟩⟩
theorem L3 {rs rs' : List RowT} (h : Mem.Hp (BA rs) w w' rs') : Chg w w' rs rs' := ⟨h.up, h.rows, h.apart, fun z hz hlt => h.own z hz hlt⟩
def RF (P : Program) (e : Exit) (L : Nat) (r : Loop) (w0 : World) (rs : List RowT) (post : List Ass) : Exit → Act → World → Prop
  | .normal, a, w => ∃ w2, (Instr.beginRound L).run P w = .ok () w2 ∧ r.body.wpIn (Fence.wide.inRound L) 0 P (RE e w0 rs (Ch L (Er r) :: post)) a w2
  | _, _, _ => False
theorem KU {rs : List RowT} {post : List Ass} {e : Exit} (i : Nat) (hi : os[i]? = some (Ch L r)) (hst : r.state = .ready) (h : Fi L P (RE e w0 rs (Ch L (Er r) :: post)) n env (BA rs) w0 (os.set i (Ch L (Er r))) r.body) : BW (RF P e L r w0 rs post) n env (BA rs) w0 os .normal := fun a _ hF hH => ⟨_, run_beginRound (hH.rec_ i hi) hst, h a _ hF (hH.recSet i hi)⟩
theorem FY {vs : List Value} {pre post : List Ass} (e : Exit) (hpe : r.pending = none) (hst : r.state = .ready) (hps : vs.length = r.params.size) (hfr : Fr n { tmps := (r.params.zip vs.toArray).foldl (fun tmps (t, a) => tmps.setIfInBounds t a) r.tmps, defers := [] } env)
    (hround : ∀ w0 rs, Fi L P (RF P e L r w0 rs post) n env (BA rs) w0 (Ch L r :: pre) r.assign) (he : Ws e = true := by rfl) :
    EK P (.func (.yield L) #[] #[]) vs (Ch L r :: pre) (fun _ : Unit => .bool (UT e)) (fun _ => Ch L (KS e r) :: post) := by
  intro w rs h1 h2 h3
  have hL : w.heap[L]? = some (.loop r) := by
    obtain ⟨a0, b, e0, ha, hb⟩ := h1
    exact ha.at_ (AT.2 fun x hx => h2.mem x (by rw [e0]; simp [hx]))
  refine .inr ⟨L, r, rfl, hL, hps, roundIn_of_wpIn trivial (wpIn_mono (hround w rs _ w hfr (Hp.given h1 h2 h3)) ?_)⟩
  rintro e1 a1 w1 hq
  cases e1 with
  | normal =>
    obtain ⟨w2, hb, hbody⟩ := hq
    refine ⟨w2, hb, wpIn_mono hbody ?_⟩
    rintro e' a2 w3 ⟨rfl, rs', hp, hc⟩
    obtain ⟨a3, b3, e3, h5, h6⟩ := hp
    have h7 := UU hc
    have hL3 : w3.heap[L]? = some (.loop (Er r)) := h5.at_ (AT.2 fun x hx => h7.rows.mem x (by rw [e3]; simp [hx]))
    unfold Ch at h5
    subst h5
    subst e3
    have key : ∀ (jump : Option Code) (r' : Loop), { Er r with state := if jump.isNone then .ready else .done, pending := jump } = r' → ∃ v w', (Instr.endRound L jump).run P w3 = .ok v w' ∧ (∃ _ : Unit, Ending.returned v = .returned (.bool jump.isNone) ∧ ∃ rs', Am (Ch L r' :: post) rs' ∧ Chg w w' rs rs') := fun jump r' hr' => by
      refine ⟨_, _, run_endRound (P := P) jump hL3, (), rfl, _, ⟨_, b3, rfl, rfl, h6⟩, L3 (D4 h7 ?_)⟩
      have := OH (r' := r') hL3
      rw [← hr'] at this ⊢
      exact this
    cases e' with
    | normal => exact key none r (by unfold Er; cases r; simp_all)
    | ret => exact key (some .ret) _ rfl
    | exit id => exact key (some (.exit id)) _ rfl
    | _ => cases he
  | _ => exact hq.elim
def KV (L : Nat) (r : Loop) (X : Ass) : Ass := fun rs => Am [Ch L r, X] rs
theorem IW {X : Ass} {A : List Ass} {rs : List RowT} (h : Am (KV L r X :: A) rs) : Am (Ch L r :: X :: A) rs := by
 obtain ⟨a, b, e, ⟨a1, b1, e1, h1, c1, d1, e2, h2, h3⟩, hb⟩ := h
 unfold Am at h3
 subst h3
 rw [List.append_nil] at e2
 subst e2; subst e1; subst e
 exact ⟨a1, b1 ++ b, by rw [List.append_assoc], h1, b1, b, rfl, h2, hb⟩
theorem JU {X : Ass} {A : List Ass} {rs : List RowT} (h : Am (Ch L r :: X :: A) rs) : Am (KV L r X :: A) rs := by
 obtain ⟨a, b, e, h1, c, d, e1, h2, h3⟩ := h
 subst e1; subst e
 exact ⟨a ++ c, d, by rw [List.append_assoc], ⟨a, c, rfl, h1, c, [], by simp, h2, rfl⟩, h3⟩
theorem RG {F : FuncId} {args : Array Value} {r' : Loop} {X Y : Ass} {A A' : List Ass} {v : Value} (h : AV P F args (KV L r X :: A) (fun _ : Unit => v) (fun _ => KV L r' Y :: A')) : AV P F args (Ch L r :: X :: A) (fun _ : Unit => v) (fun _ => Ch L r' :: Y :: A') := fun w rs h1 h2 h3 => (h w rs (JU h1) h2 h3).mono fun _ _ ⟨x, he, y, hy, hc⟩ => ⟨x, he, y, IW hy, hc⟩
theorem RH {f : Value} {vs : List Value} {r' : Loop} {X Y : Ass} {A A' : List Ass} {v : Value} (h : EK P f vs (Ch L r :: X :: A) (fun _ : Unit => v) (fun _ => Ch L r' :: Y :: A')) : EK P f vs (KV L r X :: A) (fun _ : Unit => v) (fun _ => KV L r' Y :: A') := fun w rs h1 h2 h3 => (h w rs (IW h1) h2 h3).mono fun _ _ ⟨x, he, y, hy, hc⟩ => ⟨x, he, y, JU hy, hc⟩
theorem AV.calls2 {X : Type} {F : FuncId} {args : Array Value} {pre rest : List Ass} {val : X → Value} {post : X → List Ass} (hc : AV P F args pre val post) (h : Hp B w0 w (pre ++ rest)) : Calls P F args w fun (e : Ending) (w' : World) => ∃ x, e = .returned (val x) ∧ (∀ (k : Nat) (l : Option (List Deferred)), w.heap[k]? = some (Obj.deferred l) → w'.heap[k]? = some (Obj.deferred l)) ∧ Hp B w0 w' (post x ++ rest) := by
 obtain ⟨rs, h1, h2⟩ := h
 obtain ⟨a, b, e, ha, hb⟩ := h1.split
 subst e
 have hd := AS.1 h2.apart
 rw [List.map_append] at hd
 have hra : RowsOf w a := AT.2 fun z hz => h2.rows.mem z (by simp [hz])
 refine (hc w a ha hra (AS.2 (List.nodup_append.1 hd).1)).mono ?_
 rintro e w' ⟨x, he, y, hy, hch⟩
 refine ⟨x, he, fun k l hk => ?_, y ++ b, hy.app hb, D4 h2 hch⟩
 refine (hch.mod.block k (Array.getElem?_eq_some_iff.1 hk).1 ?_).trans hk
 rintro ⟨z, hz, e⟩
 exact FX hk z e (hra.mem z hz)
abbrev Di (D : Nat) : Deferred := { target := .collected D, args := #[] }
theorem PE {e : Exit} (he : Ws e = true) (hst : r.state = .ready) : (KS e r).state ≠ .busy := by
  cases e with
  | normal => show r.state ≠ _; rw [hst]; simp
  | ret => simp [KS]
  | exit id => simp [KS]
  | _ => cases he
theorem L5 {e : Exit} (he : Ws e = true) (hpe : r.pending = none) : (KS e r).pending = KR e := by
  cases e with
  | normal => exact hpe
  | ret => rfl
  | exit id => rfl
  | _ => cases he
theorem PF {F : Fence} {e : Exit} {a : Act} (he : Ws e = true) (h : Q e a w) : (match KR e with | none => Q .normal a w | some c => c.wpIn F 0 P Q a w) := by
  cases e with
  | normal => exact h
  | ret => exact wpIn_ret h
  | exit id => exact wpIn_exit h
  | _ => cases he
theorem HK {g : Operand} {ps : Array Tmp} {assign body : Code} {gf : FuncId} {caps : List Value} {pre post : List Ass} (e : Exit) (ids : List Nat) (hg : evs env g = some (.func (.func gf) #[] caps.toArray)) (hE : Qm P gf)
    (hcall : ∀ (L : Nat) (fn : FuncId) (tm : Array Value), Fr n { tmps := tm, defers := [] } env → ∀ r : Loop, r.state = .ready → r.pending = none → r.tmps = tm → r.params = ps → r.assign = assign → r.body = body → AV P gf (([.func (.yield L) #[] #[]] : List Value) ++ caps).toArray (Ch L r :: pre) (fun _ : Unit => .tuple #[]) (fun _ : Unit => Ch L (KS e r) :: post))
    (hsel : Du ids os = pre) (hn : Cq ids = true) (he : post ++ CO ids os = os')
    (hy : ∀ (D : Nat) (a : Act) (w : World), w.heap[D]? = some (.deferred (some [])) → w0.heap.size ≤ D → a.defers = [Di D] → Fr n { a with defers := [] } env → Hp B w0 w os' → Q e a w) (hx : Ws e = true := by rfl) :
    AY P Q n env B w0 os (.rangeFunc g ps assign body) := by
  intro a w hF hH
  refine (wpIn_wide (n := 0)).1 (wpIn_rangeFunc fun fn _ => ?_)
  obtain ⟨r, hr⟩ : ∃ r : Loop, r = { state := .ready, pending := none, fn, tmps := a.tmps, params := ps, assign, body, defers := w.heap.size } := ⟨_, rfl⟩
  obtain ⟨W0, hW0⟩ : ∃ W0, w.alloc (.deferred (some [])) = W0 := ⟨_, rfl⟩
  have hs0 : W0.heap.size = w.heap.size + 1 := by rw [← hW0]; simp
  have hw0 : w0.heap.size ≤ w.heap.size := hH.up.size
  have hH0 : Hp B w0 W0 os := hH.call (by rw [← hW0]; exact (Below.refl _ w).alloc (Nat.le_refl _) _)
  have hH1 := hH0.recNew r
  obtain ⟨W1, hW1⟩ : ∃ W1, W0.alloc (.loop r) = W1 := ⟨_, rfl⟩
  rw [hs0, hW1] at hH1
  have hD1 : W1.heap[w.heap.size]? = some (.deferred (some [])) := by
    rw [← hW1, ← hW0]; exact (Below.heap_alloc _ _ _ (by simp)).trans (World.alloc_heap_new w _)
  have hF0 : Fr n { tmps := a.tmps, defers := [] } env := ⟨hF.size, hF.get, rfl⟩
  have hc := hcall (w.heap.size + 1) fn a.tmps hF0 r (by rw [hr]) (by rw [hr]) (by rw [hr]) (by rw [hr]) (by rw [hr]) (by rw [hr])
  subst hsel
  have hH2 : Hp B w0 W1 ((Ch (w.heap.size + 1) r :: Du ids os) ++ CO ids os) := hH1.perm ((Ck (os := os) (Bt hn)).symm.cons _)
  refine ⟨w.heap.size + 1, [Di w.heap.size], W1, { target := .fn (.func gf) caps.toArray, args := #[.func (.yield (w.heap.size + 1)) #[] #[]] }, W1, gf, (([.func (.yield (w.heap.size + 1)) #[] #[]] : List Value) ++ caps).toArray, W1, ?_, ?_, fun _ _ => trivial, ?_, fun h => (by cases h), ?_⟩
  · rw [← hW1, ← hW0, hr]; exact run_enterLoop_outer _ _ _ _ _
  · have h1 := hF.evs hg
    simp [resolve, h1, Deferred.ofValue]
    rfl
  · have h2 := hE (([.func (.yield (w.heap.size + 1)) #[] #[]] : List Value) ++ caps).toArray W1
    simp [invoke]
    simpa using h2
  · refine callsIn_wide.2 ((hc.calls2 hH2).mono ?_)
    rintro e' w' ⟨_, rfl, hdef, hq⟩
    have hL2 : w'.heap[w.heap.size + 1]? = some (.loop (KS e r)) := hq.rec_ 0 rfl
    have hend : (Instr.endLoop (w.heap.size + 1)).run P w' = .ok (KR e) (w'.putObj (w.heap.size + 1) (.loop { KS e r with state := .exhausted })) := by
      rw [← L5 (e := e) hx (show r.pending = none by rw [hr])]
      exact run_endLoop (P := P) hL2 (PE hx (by rw [hr]))
    refine ⟨_, _, hend, PF hx ?_⟩
    have h6 := (hq.recSet (r' := { KS e r with state := .exhausted }) 0 rfl).drop 1
    refine hy w.heap.size _ _ ((World.putObj_heap_other (by omega)).trans (hdef _ _ hD1)) hw0 (by rw [hF.defers]; rfl) hF0 ?_
    rw [← he]
    exact h6
variable {D : Nat} {a : Act}
theorem Ns {k : Nat} {o' : Obj} {l : Option (List Deferred)} (h : Hp B w0 w os) (hk : w0.heap.size ≤ k) (ho : w.heap[k]? = some (.deferred l)) : Hp B w0 (w.putObj k o') os := by
 obtain ⟨rs, h1, h2⟩ := h
 have hne : ∀ x ∈ rs, x.1 ≠ k := fun x hx e => FX ho x e (AT.1 h2.rows x hx)
 refine ⟨rs, h1, ⟨h2.up.os, h2.up.tape, h2.up.output, by simpa [World.putObj] using h2.up.size, fun j hj hnb => ?_⟩, AT.2 fun x hx => (AT.1 h2.rows x hx).same (World.putObj_heap_other (hne x hx)), h2.apart, fun x hx hlt => h2.own x hx (by simpa [World.putObj] using hlt)⟩
 rw [World.putObj_heap_other (by omega)]
 exact h2.up.block j hj hnb
theorem Nt {X : Type} {fn : Func} {f : FuncId} {c : Code} {args : List Value} {pre : List Ass} {val : X → Value} {post : X → List Ass} (n : Nat) (hf : P.funcs[f]? = some fn) (hb : fn.body = some c) (hn : fn.ntmps = n) (hs : Nat.ble args.length n = true)
  (h : ∀ (w : World) (rs : List RowT), AY P (bodyPostM Fence.wide 0 P fn fun e w' => ∃ x, e = .returned (val x) ∧ ∃ rs', Am (post x) rs' ∧ Chg w w' rs rs') n (EM 0 args) (BA rs) w pre c) : AV P f args.toArray pre val post :=
 fun w rs h1 h2 h3 => (callsIn_wide (n := 0)).1 (callsIn_of_wp_marks hf hb trivial (wpIn_wide.2 (h w rs _ w (by
  have hs' := Nat.le_of_ble_eq_true hs
  refine ⟨by simp [hn]; omega, fun s v hv => ?_, rfl⟩
  have := (FF args 0 s v hv).2
  simp only [Nat.sub_zero] at this
  have hlt := (List.getElem?_eq_some_iff.1 this).1
  rw [Array.getElem?_append_left (by simpa using hlt)]
  simpa using this) (Hp.given h1 h2 h3))))
theorem KW (a : Act) : a.eval = ({ a with defers := [] } : Act).eval := by
 funext x
 cases x <;> rfl
theorem KX (a : Act) (d : Option Nat) (v : Value) : { a.put d v with defers := [] } = ({ a with defers := [] } : Act).put d v := by cases d <;> rfl
theorem DG (a : Act) (d : Option Nat) (v : Value) : (a.put d v).defers = a.defers := by cases d <;> rfl
theorem FZ {fn : Func} {R : Ending → World → Prop} {v : Value} (hd : a.defers = [Di D]) (hD : w.heap[D]? = some (.deferred (some []))) (h0 : w0.heap.size ≤ D) (hH : Hp B w0 w os) (hv : ∀ w', Hp B w0 w' os → (results fn a.tmps).run P w' = .ok v w') (hR : ∀ w', Hp B w0 w' os → R (.returned v) w') : LeavesInM Fence.wide 0 P fn a.tmps R a.defers .returning w := by
 rw [hd]
 have h2 : Hp B w0 (w.putObj D (.deferred none)) os := Ns hH h0 hD
 exact ⟨by simp, .inl ⟨D, w.putObj D (.deferred none), rfl, run_takeDeferred hD, v, hv _ h2, hR _ h2⟩⟩
theorem UV {fn : Func} {R : Ending → World → Prop} {e : Exit} (hr : fn.results = #[]) (hR : ∀ w', Hp B w0 w' os → R (.returned (.tuple #[])) w') (he : e = .normal ∨ e = .ret) : ∀ (D : Nat) (a : Act) (w : World), w.heap[D]? = some (.deferred (some [])) → w0.heap.size ≤ D → a.defers = [Di D] → Fr n { a with defers := [] } env → Hp B w0 w os → bodyPostM Fence.wide 0 P fn R e a w := fun D a w hD h0 hd _ hH => by
 have h := FZ (P := P) (fn := fn) (R := R) (v := .tuple #[]) hd hD h0 hH (fun w' _ => by rw [C2, hr]; simp) hR
 rcases he with rfl | rfl <;> exact h
theorem UW {fn : Func} {R : Ending → World → Prop} {r1 : ResultVar} {v1 : Value} (h1 : Res2 P env os r1 v1) (hr : fn.results = #[r1]) (hR : ∀ w', Hp B w0 w' os → R (.returned v1) w') (D : Nat) (a : Act) (w : World) (hD : w.heap[D]? = some (.deferred (some []))) (h0 : w0.heap.size ≤ D) (hd : a.defers = [Di D]) (hF : Fr n { a with defers := [] } env) (hH : Hp B w0 w os) : bodyPostM Fence.wide 0 P fn R .ret a w :=
 FZ (P := P) (fn := fn) (R := R) hd hD h0 hH (fun w' hH' => by
  have e1 := (ER h1 hH').run hF
  rw [C2, hr]
  simp [e1]) hR
theorem Nu {fn : Func} {R : Ending → World → Prop} {r1 r2 : ResultVar} {v1 v2 : Value} (h1 : Res2 P env os r1 v1) (h2 : Res2 P env os r2 v2) (hr : fn.results = #[r1, r2]) (hR : ∀ w', Hp B w0 w' os → R (.returned (.tuple #[v1, v2])) w') (D : Nat) (a : Act) (w : World) (hD : w.heap[D]? = some (.deferred (some []))) (h0 : w0.heap.size ≤ D) (hd : a.defers = [Di D]) (hF : Fr n { a with defers := [] } env) (hH : Hp B w0 w os) : bodyPostM Fence.wide 0 P fn R .ret a w :=
 FZ (P := P) (fn := fn) (R := R) hd hD h0 hH (fun w' hH' => by
  have e1 := (ER h1 hH').run hF
  have e2 := (ER h2 hH').run hF
  rw [C2, hr]
  simp [e1, e2]) hR
def Mz (D : Nat) (P : Program) (Q : Exit → Act → World → Prop) (n : Nat) (env : List (Nat × Value)) (B : Nat → Prop) (w0 : World) (os : List Ass) (c : Code) : Prop := ∀ a w, w.heap[D]? = some (.deferred (some [])) → w0.heap.size ≤ D → a.defers = [Di D] → Fr n { a with defers := [] } env → Hp B w0 w os → c.wp P Q a w
def TW (D : Nat) (P : Program) (ops : Array Oper) (Q : Exit → Act → World → Prop) (n : Nat) (env : List (Nat × Value)) (B : Nat → Prop) (w0 : World) (os : List Ass) (l : List Oper) : Prop := ∀ a w, w.heap[D]? = some (.deferred (some [])) → w0.heap.size ≤ D → a.defers = [Di D] → Fr n { a with defers := [] } env → Hp B w0 w os → wpList P ops Q l a w
variable {ops : Array Oper} {o : Oper} {rest : List Oper} {d : Nat}
theorem Wt {id : Nat} {l : List Oper} {y : Code} (h : TW D P l.toArray (Exit.then (fun a w => y.wp P Q a w) Q) n env B w0 os l) : Mz D P Q n env B w0 os (.seq (.region id l.toArray false) y) := fun a w hD h0 hd hF hH => wp_seq (wp_region_lit (h a w hD h0 hd hF hH))
theorem UX {y : Code} (h : Mz D P Q n env B w0 os y) : TW D P ops (Exit.then (fun a w => y.wp P Q a w) Q) n env B w0 os [] := h
theorem Fu (h1 : SS ops n o env = some d) (v : Value) (he : ∀ b w, Fr n b env → Hp B w0 w os → (execOp b.eval o).run P w = .ok (.value v) w) (h : TW D P ops Q n ((d, v) :: env) B w0 os rest) : TW D P ops Q n env B w0 os (o :: rest) := fun a w hD h0 hd hF hH =>
 wpList_step fun K hK => by
  have hw : Region.wanted o (yielded ops a.tmps) = true := hF.wants (Bm h1).1
  rw [if_pos hw]
  unfold Oper.wp
  rw [KW, he _ w hF hH, Oper.upon_value]
  refine hK _ _ (h _ _ hD h0 ((DG _ _ _).trans hd) ?_ hH)
  rw [KX, (Bm h1).2.1]
  exact hF.put (Bm h1).2.2 _
theorem OI (h : ∀ (a : Act) (w : World), w.heap[D]? = some (.deferred (some [])) → w0.heap.size ≤ D → a.defers = [Di D] → Fr n { a with defers := [] } env → Hp B w0 w os → Q .ret a w) : Mz D P Q n env B w0 os .ret := fun a w hD h0 hd hF hH => wp_ret (h a w hD h0 hd hF hH)
theorem Mz.keep {env' : List (Nat × Value)} {c : Code} (hs : Dy env env') (h : Mz D P Q n env' B w0 os c) : Mz D P Q n env B w0 os c := fun a w hD h0 hd hF hH => h a w hD h0 hd (hF.keep hs) hH
end
end Go.Proofs.Ytnebloeideodmaa.Sep
