/-
  Any · FrmG · FrmP · MapT · Lit
-/
import Derived.Test.YthamiglbifgepaaAA05
import Derived.Test.YthamiglbifgepaaAA06
import Derived.Test.YthamiglbifgepaaAB01
import Derived.Test.YthamiglbifgepaaAB02
import Derived.Test.YthamiglbifgepaaAE01
import Derived.OrdersIn
set_option linter.unusedSimpArgs false
set_option linter.unusedVariables false

namespace Go.Proofs.Ythamiglbifgepaa.Sep
open Go.RowKit
open Go.Proofs.Ythamiglbifgepaa.Mem (Dist Blk Chg below0)
section
variable {P : Program} {ops : Array Oper} {Q : Exit → Act → World → Prop} {n : Nat} {B : Nat → Prop} {w0 : World}
/-- THE REGION -/
theorem a_parS {env : List (Nat × Value)} {os : List Ass} (D m : Nat) (jobs : List JobS) (env0 : List (Nat × Value)) (S : List (Option Value) → List Ass) (hok : parOKS ops jobs n D m (env0.map (·.1)) = true) (hs : Sub env env0) (hS : os = S (List.replicate m none))
    (hOb : AllObS P ops Q n jobs env0 B w0 S ops.toList jobs)
    (hend : AllP (List.replicate m (some true)) fun ρ => WL2 P ops Q n (finEnvS ops jobs ρ D ++ env0) B w0 (S ρ) (ops.toList.drop D)) : WA2 P ops Q n env B w0 os ops.size (Array.replicate ops.size false) := fun a w hF hH => by
  obtain ⟨hDN, hlen, hJ, hlate, hr, hm⟩ := parOKS_parts hok
  have hz : ∀ i, i < ops.size → (Array.replicate ops.size false).getD i true = false := fun i hi => by simp [hi]
  have hjN : ∀ (i : Nat) j, jobs[i]? = some j → i < ops.size := fun i j h => by have := (List.getElem?_eq_some_iff.1 h).1; omega
  have hinit : InvS ops n jobs env0 B w0 S D m (Array.replicate ops.size false) a (List.replicate m none) w := by
    refine ⟨by simp, fun i _ hi => hz i hi, fun i e hi hl => ?_, hF.keep hs, by simp, fun i j q hj _ hl => ?_, fun i j q hj hk _ => ?_, fun i j d hj _ hl => ?_, by rw [← hS]; exact hH⟩
    · rw [hz i (by omega)] at hl; cases hl
    · rw [hz i (hjN i j hj)] at hl; cases hl
    · obtain ⟨o, j', ho, hj', hok'⟩ := jobOKS_iff (hJ i (by rw [← hlen]; exact (List.getElem?_eq_some_iff.1 hj).1))
      rw [hj] at hj'; cases hj'
      have := (hok'.act q hk).1
      simp [this]
    · rw [hz i (hjN i j hj)] at hl; cases hl
  have hunl : unl (Array.replicate ops.size false) ops.size = ops.size := by
    have := unl_all (Array.replicate ops.size false) 0 (fun i h => by omega) (fun i _ h => hz i (by simpa using h)) ops.size (by simp)
    simpa using this
  refine par_mainS hDN hlen (fun i hi => jobOKS_iff (hJ i hi)) hlate hOb (fun a ρ w hI => ?_) ops.size _ a _ w hunl hinit
  refine any_list hr (ops.size - D) D a w (by omega) (Nat.le_refl _) ?_
  have hl : ∀ i, i < D → (firstK D ops.size).getD i true = true := fun i hi => by rw [firstK_get (by omega)]; simpa using hi
  have hjD : ∀ (i : Nat) j, jobs[i]? = some j → i < D := fun i j h => by rw [← hlen]; exact (List.getElem?_eq_some_iff.1 h).1
  have hfit : FitsP (List.replicate m (some true)) ρ := fits_of (by rw [hI.len]; simp) (fun q hq => by
    obtain ⟨p, J, hp, hk⟩ := hm q (patAt_rep m q hq)
    exact hI.yes p J q hp hk (hl p (hjD p J hp))) (fun q hq => absurd hq (patAt_repF m q))
  exact hend.fit hfit a w (Fr.app (fr_depS hI _ (fun e he => hl e (by simpa using he))) hI.fr) hI.hp
end
section
variable {P : Program} {ops : Array Oper} {Q : Exit → Act → World → Prop} {a : Act} {w w' : World} {o : Oper} {L n d D : Nat} {env : List (Nat × Value)} {B : Nat → Prop} {w0 : World} {os os' : List Ass} {rs : List RowT}
theorem any_inR {m : Nat} {md : Region.Mode} (hn : ¬ LetsOut Q) (hd : ops.toList.all noDefer = true) : ∀ (f : Nat) (listed : Array Bool) (a : Act) (w : World), wpAny P md ops Q f listed a w → wpAnyIn (Fence.wide.inRound L) m P md ops Q f listed a w
  | 0, _, _, _, h => h
  | f + 1, listed, a, w, h => ⟨h.1, fun i hi => by
    have h2 := h.2 i hi
    unfold wpOp at h2
    unfold wpOpIn
    cases ho : ops[i]? with
    | none => simp only [ho] at h2 ⊢; exact any_inR hn hd f _ _ _ h2
    | some o =>
      simp only [ho] at h2 ⊢
      split at h2
      · rename_i hw
        rw [if_pos hw]
        rcases h2 with h2 | ⟨_, x, y, h2⟩
        · refine op_inR (List.all_eq_true.1 hd o ?_) h2 fun a w h => any_inR hn hd f _ _ _ h
          exact Array.mem_toList_iff.2 (Array.mem_of_getElem? ho)
        · exact absurd ⟨x, y, h2⟩ hn
      · rename_i hw
        rw [if_neg hw]
        exact ⟨fun _ _ => trivial, any_inR hn hd f _ _ _ h2⟩⟩
/-- a region that draws its order, in a round's frame -/
theorem r_any {id : Nat} (hmix : P.follows .mixedOrders = true) (hd : ops.toList.all noDefer = true) (hn : ¬ LetsOut Q) (h : WA2 P ops Q n env B w0 os ops.size (Array.replicate ops.size false)) : WCR L P Q n env B w0 os (.region id ops true) := fun a w hF hH => wpIn_region_any hmix (any_inR hn hd _ _ _ _ (h a w.drew hF hH.drew))
theorem r_then {c : Operand} {x y : Code} (hc : evs env c = some (.bool true)) (h : WCR L P Q n env B w0 os x) : WCR L P Q n env B w0 os (.cond c x y) := fun a w hF hH => wpIn_cond_true (hF.evs hc) (h a w hF hH)
theorem r_ret (h : WE2 Q n env B w0 os .ret) : WCR L P Q n env B w0 os .ret := fun a w hF hH => wpIn_ret (h a w hF hH)
theorem WCR.keep {env' : List (Nat × Value)} {c : Code} (hs : Sub env env') (h : WCR L P Q n env' B w0 os c) : WCR L P Q n env B w0 os c := fun a w hF hH => h a w (hF.keep hs) hH

theorem WCR.via {X : Type} {c : Code} (os' : X → List Ass) (hi : ∀ rs, Parts os rs → ∃ x, ∃ rs', rs.Perm rs' ∧ Parts (os' x) rs') (h : ∀ x, WCR L P Q n env B w0 (os' x) c) : WCR L P Q n env B w0 os c := fun a w hF ⟨rs, h1, h2⟩ => by
  obtain ⟨x, rs', p, h3⟩ := hi rs h1
  exact h x a w hF ⟨rs', h3, hp_perm h2 p⟩
theorem WCR.mid {c : Code} (os' : List Ass) (hp : os.Perm os') (h : WCR L P Q n env B w0 os' c) : WCR L P Q n env B w0 os c := fun a w hF hH => h a w hF (hH.perm hp)
theorem WCR.fact {c : Code} {p : Prop} {o : Ass} (i : Nat) (hi : os[i]? = some o) (hp : ∀ rs, o rs → p) (h : p → WCR L P Q n env B w0 os c) : WCR L P Q n env B w0 os c := fun a w hF hH => h (thing_is i hi hp hH) a w hF hH
theorem r_open {c : Code} {α : Type} {A : α → List Ass} {t : Ass} {os' : α → List Ass} (i : Nat) (hi : os[i]? = some t) (ho : ∀ rs, t rs → ∃ x, Parts (A x) rs) (he : ∀ x, A x ++ rstA [i] os = os' x) (h : ∀ x, WCR L P Q n env B w0 (os' x) c) : WCR L P Q n env B w0 os c := WCR.via _ (open_ex hi ho) fun x => he x ▸ h x
theorem WCR.leave {c : Code} {os' : List Ass} (ids : List Nat) (hn : nodupB ids = true) (he : rstA ids os = os') (h : WCR L P Q n env B w0 os' c) : WCR L P Q n env B w0 os c := fun a w hF hH => h a w hF (by
  have := (hH.perm (perm_sel (os := os) (nodupB_iff hn)).symm).drop (selA ids os).length
  rw [List.drop_left] at this
  exact he ▸ this)
theorem a_emps {f : Nat} {listed : Array Bool} (k : Nat) {os' : List Ass} (he : List.replicate k emp ++ os = os') (h : WA2 P ops Q n env B w0 os' f listed) : WA2 P ops Q n env B w0 os f listed := fun a w hF ⟨rs, h1, h2⟩ => h a w hF ⟨rs, he ▸ (Parts.app (parts_emp.2 rfl) h1 : Parts _ ([] ++ rs)), h2⟩
theorem hp_open {α : Type} {A : α → List Ass} {t : Ass} (i : Nat) (hi : os[i]? = some t) (ho : ∀ rs, t rs → ∃ x, Parts (A x) rs) (h : Hp B w0 w os) : ∃ x, Hp B w0 w (A x ++ rstA [i] os) := by
  obtain ⟨rs, h1, h2⟩ := h
  obtain ⟨x, rs', p, h3⟩ := open_ex hi ho rs h1
  exact ⟨x, rs', h3, hp_perm h2 p⟩
/-- the round's end -/
theorem r_tell {rs : List RowT} {post : List Ass} (e : Exit) (ids : List Nat) (hn : nodupB ids = true) (hp : selA ids os = post) (hQ : ∀ a w, (∃ rs', Parts post rs' ∧ Chg w0 w rs rs') → Q e a w) : WE2 Q n env (Blk rs) w0 os e := fun a w _ hH => hQ a w (by
  obtain ⟨y, h1, h2⟩ := hH.tell ids (nodupB_iff hn)
  rw [hp] at h1
  exact ⟨y, h1, h2⟩)

/-! ## What is known of a world in which one more block has turned -/
theorem hp_putNew {k : Nat} {o o' : Obj} (h : Hp B w0 w os) (hk : w0.heap.size ≤ k) (ho : w.heap[k]? = some o) (hr : ∀ x : RowT, x.1 = k → ¬ RowX w x) : Hp B w0 (w.putObj k o') os := by
  obtain ⟨rs, h1, h2⟩ := h
  have hne : ∀ x ∈ rs, x.1 ≠ k := fun x hx e => hr x e (rows_iff.1 h2.rows x hx)
  refine ⟨rs, h1, ⟨h2.up.os, h2.up.tape, h2.up.output, by simpa [World.putObj] using h2.up.size, fun j hj hnb => ?_⟩, rows_iff.2 fun x hx => (rows_iff.1 h2.rows x hx).same (World.putObj_heap_other (hne x hx)), h2.apart, fun x hx hlt => h2.own x hx (by simpa [World.putObj] using hlt)⟩
  rw [World.putObj_heap_other (by omega)]
  exact h2.up.block j hj hnb
theorem no_row_loop {k : Nat} {r : Loop} (h : w.heap[k]? = some (.loop r)) : ∀ x : RowT, x.1 = k → ¬ RowX w x := fun x e h4 => h4.ne_obj (by rw [e]; exact h) (by simp) (by simp) (by simp)
theorem no_row_mark {k : Nat} {l : Option (List Deferred)} (h : w.heap[k]? = some (.deferred l)) : ∀ x : RowT, x.1 = k → ¬ RowX w x := fun x e h4 => h4.ne_obj (by rw [e]; exact h) (by simp) (by simp) (by simp)
theorem put_put {k : Nat} {o o' : Obj} : (w.putObj k o).putObj k o' = w.putObj k o' := by simp [World.putObj]
/-! ## Rounds that end the ranging; functions that are ended so -/
def doneR (r : Loop) : Loop := { r with state := .done, pending := some .ret }
/-- what a round does that ends the ranging by a return -/
def DoesS (L : Nat) (r : Loop) (P : Program) (fn : FuncId) (tmps : Array Value) (assign body : Code) (pre post : List Ass) : Prop :=
  ∀ w rs, w.heap[L]? = some (.loop r) → (∀ x ∈ rs, x.1 ≠ L) → Parts pre rs → RowsOf w rs → Dist rs → RoundIn Fence.wide 0 P L fn tmps assign body w fun e w' => e = .returned (.bool false) ∧ w'.heap[L]? = some (.loop (doneR r)) ∧ ∃ rs', Parts post rs' ∧ Chg w (w'.putObj L (.loop r)) rs rs'
/-- what a function does that is ranged over, where a round ends it -/
def DoesLS (L : Nat) (r : Loop) (P : Program) (F : FuncId) (args : Array Value) (pre post : List Ass) : Prop :=
  ∀ w rs, w.heap[L]? = some (.loop r) → (∀ x ∈ rs, x.1 ≠ L) → Parts pre rs → RowsOf w rs → Dist rs → Calls P F args w fun e w' => e = .returned (.tuple #[]) ∧ w'.heap[L]? = some (.loop (doneR r)) ∧ ∃ rs', Parts post rs' ∧ Chg w (w'.putObj L (.loop r)) rs rs'
def EndS (L : Nat) (r : Loop) (w : World) (rs : List RowT) (post : List Ass) (e : Ending) (w' : World) : Prop := e = .returned (.tuple #[]) ∧ w'.heap[L]? = some (.loop (doneR r)) ∧ ∃ rs', Parts post rs' ∧ Chg w (w'.putObj L (.loop r)) rs rs'
theorem d_insLS {r : Loop} {fn : Func} {f : FuncId} {c : Code} {args : List Value} {pre post : List Ass} (n : Nat) (hf : P.funcs[f]? = some fn) (hb : fn.body = some c) (hn : fn.ntmps = n) (hs : Nat.ble args.length n = true)
    (h : ∀ (w : World) (rs : List RowT), w.heap[L]? = some (.loop r) → (∀ k, Blk rs k → k ≠ L) → WC2 P (bodyPost P fn (EndS L r w rs post)) n (argEnv 0 args) (Blk rs) w pre c) : DoesLS L r P f args.toArray pre post :=
  fun w rs hU hS h1 h2 h3 => calls_in n hf hb hn (Nat.le_of_ble_eq_true hs) fun a hF => h w rs hU (fun k ⟨x, hx, e⟩ => e ▸ hS x hx) a w hF (Hp.given h1 h2 h3)
/-- the world behind a round that has ended the ranging -/
def Stopd (L : Nat) (r : Loop) (B : Nat → Prop) (w0 w : World) (os : List Ass) : Prop := w.heap[L]? = some (.loop (doneR r)) ∧ Hp B w0 (w.putObj L (.loop r)) os
/-- operations that turn no world, whatever the world -/
def WLS (P : Program) (ops : Array Oper) (Q : Exit → Act → World → Prop) (n : Nat) (env : List (Nat × Value)) (w : World) (l : List Oper) : Prop := ∀ a, Fr n a env → wpListIn Fence.wide 0 P ops Q l a w
theorem i_stop {r : Loop} {rest : List Oper} (hU : w0.heap[L]? = some (.loop r)) (hS : ∀ k, B k → k ≠ L) {f : Operand} {args : Array Operand} {ats : Array TypeId} {vs : List Value} {pre post : List Ass} (ids : List Nat) (hc : DoesS L r P r.fn ((r.params.zip vs.toArray).foldl (fun tmps (t, a) => tmps.setIfInBounds t a) r.tmps) r.assign r.body pre post) (hsz : vs.length = r.params.size)
    (h1 : at1 ops n o env = some d) (ho : o.op = .call { callee := .value f, args := args, argTypes := ats }) (hf : evs env f = some (.func (.yield L) #[] #[])) (hx : evl env args.toList = some vs) (hp : selA ids os = pre) (hn : nodupB ids = true) (he : post ++ rstA ids os = os')
    (h : ∀ w, Stopd L r B w0 w os' → WLS P ops Q n ((d, .bool false) :: env) w rest) : ∀ a w, Fr n a env → Hp B w0 w os → wpListIn Fence.wide 0 P ops Q (o :: rest) a w := by
  intro a w hF hH
  have hL : L < w0.heap.size := (Array.getElem?_eq_some_iff.1 hU).1
  have hm : w.heap[L]? = some (.loop r) := (hH.up.block L hL (fun hb => hS L hb rfl)).trans hU
  show if Region.wanted o (yielded ops a.tmps) then _ else _
  rw [if_pos (hF.wants (at1_parts h1).1)]
  refine ⟨fun _ _ => trivial, ?_⟩
  have hs : Oper.semAt Fence.wide.round a.eval o = execOp a.eval o := rfl
  rw [hs, exec_yield hm hsz ho hf hx hF, Oper.uponIn_round]
  refine ⟨fun h => (by cases h), ?_⟩
  subst hp
  obtain ⟨x, h0, h2, h3, h4, h5⟩ := hH.give2 ids (nodupB_iff hn)
  refine (hc w x hm (fun z hz => ?_) h2 h3 h4).mono ?_
  · by_cases hlt : z.1 < w0.heap.size
    · exact hS _ (h0 z hz hlt)
    · omega
  · rintro e w' ⟨rfl, hl, y, hy, hch⟩
    have h6 := h5 _ y _ hy hch
    rw [he] at h6
    show wpListIn Fence.wide 0 P ops Q rest (a.put o.dst (.bool false)) w'
    rw [(at1_parts h1).2.1]
    exact h w' ⟨hl, h6⟩ _ (hF.put (at1_parts h1).2.2 _)
theorem s_val {rest : List Oper} (h1 : at1 ops n o env = some d) (v : Value) (he : ∀ b w, Fr n b env → (execOp b.eval o).run P w = .ok (.value v) w) (h : WLS P ops Q n ((d, v) :: env) w rest) : WLS P ops Q n env w (o :: rest) := fun a hF => by
  show if Region.wanted o (yielded ops a.tmps) then _ else _
  rw [if_pos (hF.wants (at1_parts h1).1)]
  refine ⟨fun _ _ => trivial, ?_⟩
  have hs : Oper.semAt Fence.wide.round a.eval o = execOp a.eval o := rfl
  rw [hs, he a w hF, Oper.uponIn_value, (at1_parts h1).2.1]
  exact h _ (hF.put (at1_parts h1).2.2 _)
def WCS (P : Program) (Q : Exit → Act → World → Prop) (n : Nat) (env : List (Nat × Value)) (w : World) (c : Code) : Prop := ∀ a, Fr n a env → c.wp P Q a w
theorem s_done {y : Code} (h : WCS P Q n env w y) : WLS P ops (Exit.then (fun a w => y.wp P Q a w) Q) n env w [] := h
theorem s_then {c : Operand} {x y : Code} (hc : evs env c = some (.bool true)) (h : WCS P Q n env w x) : WCS P Q n env w (.cond c x y) := fun a hF => wp_cond_true (hF.evs hc) (h a hF)
theorem s_ret {fn : Func} {r : Loop} {post : List Ass} (hQ : ∀ a w, bodyPost P fn (EndS L r w0 rs post) .ret a w → Q .ret a w) (hr : fn.results = #[]) (ids : List Nat) (hi : nodupB ids = true) (hps : selA ids os = post) (hw : Stopd L r (Blk rs) w0 w os) : WCS P Q n env w .ret := fun a hF => wp_ret (hQ a w (by
  obtain ⟨h1, h2⟩ := hw
  obtain ⟨y', h3, h4⟩ := h2.tell ids (nodupB_iff hi)
  rw [hps] at h3
  exact ⟨hF.defers, .tuple #[], by rw [results_eq, hr]; simp, rfl, h1, y', h3, h4⟩))

/-! ## The round that ends the ranging -/
def BodyS (w0 : World) (rs : List RowT) (post : List Ass) : Exit → Act → World → Prop
  | .ret, _, w => ∃ rs', Parts post rs' ∧ Chg w0 w rs rs'
  | _, _, _ => False
theorem doesS_of {r : Loop} {fn : FuncId} {tmps : Array Value} {assign body : Code} {pre post : List Ass} {env1 : List (Nat × Value)} (hst : r.state = .ready) (hfr : Fr n { tmps := tmps, defers := [] } env)
    (hassign : ∀ (K : Act → World → Prop) w, (∀ a, Fr n a env1 → K a w) → ∀ a, Fr n a env → assign.wpIn (Fence.wide.inRound L) 0 P (Exit.then K (fun _ _ _ => False)) a w)
    (hbody : ∀ w0 rs, WCR L P (BodyS w0 rs post) n env1 (Blk rs) w0 pre body) : DoesS L r P fn tmps assign body pre post := by
  intro w rs hL hne h1 h2 h3
  have hlt : L < w.heap.size := (Array.getElem?_eq_some_iff.1 hL).1
  refine roundIn_of_wpIn trivial (hassign _ w (fun a1 hF1 => ⟨_, run_beginRound hL hst, ?_⟩) _ hfr)
  have hrows : RowsOf (w.putObj L (.loop { r with state := .busy })) rs := rows_iff.2 fun x hx => by
    have := rows_iff.1 h2 x hx
    exact this.same (World.putObj_heap_other (hne x hx))
  refine wpIn_mono (hbody _ rs a1 _ hF1 (Hp.given h1 hrows h3)) ?_
  rintro e a2 w3 hq
  cases e with
  | ret =>
    obtain ⟨rs', hp, hc⟩ := hq
    have hnb : ¬ Blk rs L := fun ⟨x, hx, e⟩ => hne x hx e
    have hsz : L < (w.putObj L (.loop { r with state := .busy })).heap.size := (Array.getElem?_eq_some_iff.1 (putObj_at (o := .loop { r with state := .busy }) hlt)).1
    have hL3 : w3.heap[L]? = some (.loop { r with state := .busy }) := (hc.mod.block L hsz hnb).trans (putObj_at hlt)
    have hend := run_endRound (P := P) (some .ret) hL3
    have hlt3 : L < w3.heap.size := (Array.getElem?_eq_some_iff.1 hL3).1
    refine ⟨_, _, hend, rfl, ?_, rs', hp, ?_⟩
    · rw [putObj_at hlt3]; rfl
    · rw [put_put]
      have hne' : ∀ x ∈ rs', x.1 ≠ L := fun x hx e => by
        have h4 := rows_iff.1 hc.rows x hx
        exact h4.ne_obj (by rw [e]; exact hL3) (by simp) (by simp) (by simp)
      refine ⟨⟨?_, ?_, ?_, ?_, fun k hk hnk => ?_⟩, rows_iff.2 fun x hx => (rows_iff.1 hc.rows x hx).same (World.putObj_heap_other (hne' x hx)), hc.dist, fun x hx hx2 => hc.from_ x hx (by simpa [World.putObj] using hx2)⟩
      · exact hc.mod.os
      · exact hc.mod.tape
      · exact hc.mod.output
      · have := hc.mod.size
        simpa [World.putObj] using this
      · by_cases hk2 : k = L
        · subst hk2
          rw [putObj_at hlt3, hL]
        · rw [World.putObj_heap_other hk2, hc.mod.block k (by simpa [World.putObj] using hk) hnk, World.putObj_heap_other hk2]
  | _ => exact hq.elim

/-! ## The statement -/
abbrev markD (D : Nat) : Deferred := { target := .collected D, args := #[] }
theorem wp_rangeG {g : Operand} {ps : Array Tmp} {assign body : Code} {gf : FuncId} {caps : List Value} {pre post : List Ass} (ids : List Nat) (hg : evs env g = some (.func (.func gf) #[] caps.toArray)) (hE : Ent P gf)
    (hcall : ∀ (L : Nat) (fn : FuncId) (tm : Array Value), Fr n { tmps := tm, defers := [] } env → ∀ r : Loop, r.state = .ready → r.pending = none → r.tmps = tm → r.params = ps → r.assign = assign → r.body = body → DoesL L (.loop r) P gf (([.func (.yield L) #[] #[]] : List Value) ++ caps).toArray pre (fun _ : Unit => .tuple #[]) (fun _ : Unit => post))
    (hsel : selA ids os = pre) (hn : nodupB ids = true) (he : post ++ rstA ids os = os')
    (hy : ∀ (D : Nat) (a : Act) (w : World), w.heap[D]? = some (.deferred (some [])) → w0.heap.size ≤ D → a.defers = [markD D] → Fr n { a with defers := [] } env → Hp B w0 w os' → Q .normal a w) :
    WC2 P Q n env B w0 os (.rangeFunc g ps assign body) := by
  intro a w hF hH
  refine (wpIn_wide (n := 0)).1 (wpIn_rangeFunc fun fn _ => ?_)
  obtain ⟨r, hr⟩ : ∃ r : Loop, r = { state := .ready, pending := none, fn, tmps := a.tmps, params := ps, assign, body, defers := w.heap.size } := ⟨_, rfl⟩
  obtain ⟨W1, hW1⟩ : ∃ W1, (w.alloc (.deferred (some []))).alloc (.loop r) = W1 := ⟨_, rfl⟩
  have hs0 : (w.alloc (.deferred (some []))).heap.size = w.heap.size + 1 := by simp
  have hL1 : W1.heap[w.heap.size + 1]? = some (.loop r) := by
    rw [← hW1]; have := World.alloc_heap_new (w.alloc (.deferred (some []))) (.loop r); rwa [hs0] at this
  have hD1 : W1.heap[w.heap.size]? = some (.deferred (some [])) := by
    rw [← hW1]; exact (Below.heap_alloc _ _ _ (by simp)).trans (World.alloc_heap_new w _)
  have hb1 : Below w.heap.size w W1 := by
    rw [← hW1]; exact ((Below.refl _ w).alloc (Nat.le_refl _) _).alloc (by simp) _
  have hw0 : w0.heap.size ≤ w.heap.size := hH.up.size
  obtain ⟨x, h1, h2, h3, hgive⟩ := (hH.call hb1).give ids (nodupB_iff hn)
  rw [hsel] at h1
  have hnL : ∀ y ∈ x, y.1 ≠ w.heap.size + 1 := fun y hy e => no_row_loop hL1 y e (rows_iff.1 h2 y hy)
  have hnD : ¬ Blk x w.heap.size := fun ⟨y, hy, e⟩ => no_row_mark hD1 y e (rows_iff.1 h2 y hy)
  have hF0 : Fr n { tmps := a.tmps, defers := [] } env := ⟨hF.size, hF.get, rfl⟩
  have hc := hcall (w.heap.size + 1) fn a.tmps hF0 r (by rw [hr]) (by rw [hr]) (by rw [hr]) (by rw [hr]) (by rw [hr]) (by rw [hr])
  refine ⟨w.heap.size + 1, [markD w.heap.size], W1, { target := .fn (.func gf) caps.toArray, args := #[.func (.yield (w.heap.size + 1)) #[] #[]] }, W1, gf, (([.func (.yield (w.heap.size + 1)) #[] #[]] : List Value) ++ caps).toArray, W1, ?_, ?_, fun _ _ => trivial, ?_, fun h => (by cases h), ?_⟩
  · rw [← hW1, hr]; exact run_enterLoop_outer _ _ _ _ _
  · have h1 := hF.evs hg
    simp [resolve, h1, Deferred.ofValue]
    rfl
  · have h2 := hE (([.func (.yield (w.heap.size + 1)) #[] #[]] : List Value) ++ caps).toArray W1
    simp [invoke]
    simpa using h2
  · refine callsIn_wide.2 ((hc W1 x hL1 hnL h1 h2 h3).mono ?_)
    rintro e w' ⟨_, rfl, y, hy1, hy2⟩
    have hL2 : w'.heap[w.heap.size + 1]? = some (.loop r) := (hy2.mod.block _ (Array.getElem?_eq_some_iff.1 hL1).1 (fun ⟨z, hz, e⟩ => hnL z hz e)).trans hL1
    have hD2 : w'.heap[w.heap.size]? = some (.deferred (some [])) := (hy2.mod.block _ (Array.getElem?_eq_some_iff.1 hD1).1 hnD).trans hD1
    have hend := run_endLoop (P := P) hL2 (by rw [hr]; simp)
    refine ⟨none, _, by rw [hend, hr], ?_⟩
    have hq := hgive _ _ _ hy1 hy2
    rw [he] at hq
    exact hy w.heap.size _ _ ((World.putObj_heap_other (by omega)).trans hD2) hw0 (by rw [hF.defers]; rfl) hF0 (hp_putNew hq (by omega) hL2 (no_row_loop hL2))
/-- the same, ended by a round that returns -/
theorem wp_rangeS {g : Operand} {ps : Array Tmp} {assign body : Code} {gf : FuncId} {caps : List Value} {pre post : List Ass} (ids : List Nat) (hg : evs env g = some (.func (.func gf) #[] caps.toArray)) (hE : Ent P gf)
    (hcall : ∀ (L : Nat) (fn : FuncId) (tm : Array Value), Fr n { tmps := tm, defers := [] } env → ∀ r : Loop, r.state = .ready → r.pending = none → r.tmps = tm → r.params = ps → r.assign = assign → r.body = body → DoesLS L r P gf (([.func (.yield L) #[] #[]] : List Value) ++ caps).toArray pre post)
    (hsel : selA ids os = pre) (hn : nodupB ids = true) (he : post ++ rstA ids os = os')
    (hy : ∀ (D : Nat) (a : Act) (w : World), w.heap[D]? = some (.deferred (some [])) → w0.heap.size ≤ D → a.defers = [markD D] → Fr n { a with defers := [] } env → Hp B w0 w os' → Q .ret a w) :
    WC2 P Q n env B w0 os (.rangeFunc g ps assign body) := by
  intro a w hF hH
  refine (wpIn_wide (n := 0)).1 (wpIn_rangeFunc fun fn _ => ?_)
  obtain ⟨r, hr⟩ : ∃ r : Loop, r = { state := .ready, pending := none, fn, tmps := a.tmps, params := ps, assign, body, defers := w.heap.size } := ⟨_, rfl⟩
  obtain ⟨W1, hW1⟩ : ∃ W1, (w.alloc (.deferred (some []))).alloc (.loop r) = W1 := ⟨_, rfl⟩
  have hs0 : (w.alloc (.deferred (some []))).heap.size = w.heap.size + 1 := by simp
  have hL1 : W1.heap[w.heap.size + 1]? = some (.loop r) := by
    rw [← hW1]; have := World.alloc_heap_new (w.alloc (.deferred (some []))) (.loop r); rwa [hs0] at this
  have hD1 : W1.heap[w.heap.size]? = some (.deferred (some [])) := by
    rw [← hW1]; exact (Below.heap_alloc _ _ _ (by simp)).trans (World.alloc_heap_new w _)
  have hb1 : Below w.heap.size w W1 := by
    rw [← hW1]; exact ((Below.refl _ w).alloc (Nat.le_refl _) _).alloc (by simp) _
  have hw0 : w0.heap.size ≤ w.heap.size := hH.up.size
  obtain ⟨x, h1, h2, h3, hgive⟩ := (hH.call hb1).give ids (nodupB_iff hn)
  rw [hsel] at h1
  have hnL : ∀ y ∈ x, y.1 ≠ w.heap.size + 1 := fun y hy e => no_row_loop hL1 y e (rows_iff.1 h2 y hy)
  have hnD : ¬ Blk x w.heap.size := fun ⟨y, hy, e⟩ => no_row_mark hD1 y e (rows_iff.1 h2 y hy)
  have hF0 : Fr n { tmps := a.tmps, defers := [] } env := ⟨hF.size, hF.get, rfl⟩
  have hc := hcall (w.heap.size + 1) fn a.tmps hF0 r (by rw [hr]) (by rw [hr]) (by rw [hr]) (by rw [hr]) (by rw [hr]) (by rw [hr])
  refine ⟨w.heap.size + 1, [markD w.heap.size], W1, { target := .fn (.func gf) caps.toArray, args := #[.func (.yield (w.heap.size + 1)) #[] #[]] }, W1, gf, (([.func (.yield (w.heap.size + 1)) #[] #[]] : List Value) ++ caps).toArray, W1, ?_, ?_, fun _ _ => trivial, ?_, fun h => (by cases h), ?_⟩
  · rw [← hW1, hr]; exact run_enterLoop_outer _ _ _ _ _
  · have h1 := hF.evs hg
    simp [resolve, h1, Deferred.ofValue]
    rfl
  · have h2 := hE (([.func (.yield (w.heap.size + 1)) #[] #[]] : List Value) ++ caps).toArray W1
    simp [invoke]
    simpa using h2
  · refine callsIn_wide.2 ((hc W1 x hL1 hnL h1 h2 h3).mono ?_)
    rintro e w' ⟨rfl, hL2, y, hy1, hy2⟩
    have hltD : w.heap.size < W1.heap.size := (Array.getElem?_eq_some_iff.1 hD1).1
    have hD2 : w'.heap[w.heap.size]? = some (.deferred (some [])) := by
      have h4 := hy2.mod.block _ hltD hnD
      rw [World.putObj_heap_other (by omega)] at h4
      exact h4.trans hD1
    have hend := run_endLoop (P := P) hL2 (by simp [doneR])
    refine ⟨some .ret, _, by rw [hend]; rfl, wpIn_ret ?_⟩
    have hq := hgive _ _ _ hy1 hy2
    rw [he] at hq
    have hlt2 : w.heap.size + 1 < w'.heap.size := (Array.getElem?_eq_some_iff.1 hL2).1
    have h6 := hp_putNew (o' := .loop { doneR r with state := .exhausted }) hq (k := w.heap.size + 1) (by omega) (putObj_at hlt2) (no_row_loop (putObj_at hlt2))
    rw [put_put] at h6
    exact hy w.heap.size _ _ ((World.putObj_heap_other (by omega)).trans hD2) hw0 (by rw [hF.defers]; rfl) hF0 h6

/-! ## A function that ranges, and its end -/
theorem d_insM {X : Type} {fn : Func} {f : FuncId} {c : Code} {args : List Value} {pre : List Ass} {val : X → Value} {post : X → List Ass} (n : Nat) (hf : P.funcs[f]? = some fn) (hb : fn.body = some c) (hn : fn.ntmps = n) (hs : Nat.ble args.length n = true)
    (h : ∀ (w : World) (rs : List RowT), WC2 P (bodyPostM Fence.wide 0 P fn fun e w' => ∃ x, e = .returned (val x) ∧ ∃ rs', Parts (post x) rs' ∧ Chg w w' rs rs') n (argEnv 0 args) (Blk rs) w pre c) : Does P f args.toArray pre val post :=
  fun w rs h1 h2 h3 => (callsIn_wide (n := 0)).1 (callsIn_of_wp_marks hf hb trivial (wpIn_wide.2 (h w rs _ w (by
    have hs' := Nat.le_of_ble_eq_true hs
    refine ⟨by simp [hn]; omega, fun s v hv => ?_, rfl⟩
    have := (argEnv_look args 0 s v hv).2
    simp only [Nat.sub_zero] at this
    have hlt := (List.getElem?_eq_some_iff.1 this).1
    rw [Array.getElem?_append_left (by simpa using hlt)]
    simpa using this) (Hp.given h1 h2 h3))))
theorem leaves_mark {fn : Func} {R : Ending → World → Prop} {v : Value} (hd : a.defers = [markD D]) (hD : w.heap[D]? = some (.deferred (some []))) (h0 : w0.heap.size ≤ D) (hH : Hp B w0 w os) (hv : ∀ w', Hp B w0 w' os → (results fn a.tmps).run P w' = .ok v w') (hR : ∀ w', Hp B w0 w' os → R (.returned v) w') : LeavesInM Fence.wide 0 P fn a.tmps R a.defers .returning w := by
  rw [hd]
  have h2 : Hp B w0 (w.putObj D (.deferred none)) os := hp_putNew hH h0 hD (no_row_mark hD)
  exact ⟨by simp, .inl ⟨D, w.putObj D (.deferred none), rfl, run_takeDeferred hD, v, hv _ h2, hR _ h2⟩⟩
theorem m_fin0 {fn : Func} {R : Ending → World → Prop} {e : Exit} (hr : fn.results = #[]) (hR : ∀ w', Hp B w0 w' os → R (.returned (.tuple #[])) w') (he : e = .normal ∨ e = .ret) : ∀ (D : Nat) (a : Act) (w : World), w.heap[D]? = some (.deferred (some [])) → w0.heap.size ≤ D → a.defers = [markD D] → Fr n { a with defers := [] } env → Hp B w0 w os → bodyPostM Fence.wide 0 P fn R e a w := fun D a w hD h0 hd _ hH => by
  have h := leaves_mark (P := P) (fn := fn) (R := R) (v := .tuple #[]) hd hD h0 hH (fun w' _ => by rw [results_eq, hr]; simp) hR
  rcases he with rfl | rfl <;> exact h
theorem m_fin2 {fn : Func} {R : Ending → World → Prop} {r1 r2 : ResultVar} {v1 v2 : Value} (h1 : Res2 P env os r1 v1) (h2 : Res2 P env os r2 v2) (hr : fn.results = #[r1, r2]) (hR : ∀ w', Hp B w0 w' os → R (.returned (.tuple #[v1, v2])) w') (D : Nat) (a : Act) (w : World) (hD : w.heap[D]? = some (.deferred (some []))) (h0 : w0.heap.size ≤ D) (hd : a.defers = [markD D]) (hF : Fr n { a with defers := [] } env) (hH : Hp B w0 w os) : bodyPostM Fence.wide 0 P fn R .ret a w :=
  leaves_mark (P := P) (fn := fn) (R := R) hd hD h0 hH (fun w' hH' => by
    have e1 := (res_of h1 hH').run hF
    have e2 := (res_of h2 hH').run hF
    rw [results_eq, hr]
    simp [e1, e2]) hR
/-- what only reads, behind a range: in each order -/
def WAT (D : Nat) (P : Program) (ops : Array Oper) (Q : Exit → Act → World → Prop) (n : Nat) (env : List (Nat × Value)) (B : Nat → Prop) (w0 : World) (os : List Ass) (f : Nat) (listed : Array Bool) : Prop := ∀ a w, w.heap[D]? = some (.deferred (some [])) → a.defers = [markD D] → Fr n { a with defers := [] } env → Hp B w0 w os → wpAny P .any ops Q f listed a w
variable {f i : Nat} {listed : Array Bool}
theorem bt_ready (l : List Nat) (hr : Region.ready .any ops listed = l) (hne : l ≠ []) (h : ∀ i ∈ l, ∀ a w, w.heap[D]? = some (.deferred (some [])) → a.defers = [markD D] → Fr n { a with defers := [] } env → Hp B w0 w os → wpOp P ops Q i (wpAny P .any ops Q f (listed.setIfInBounds i true)) a w) : WAT D P ops Q n env B w0 os (f + 1) listed := fun a w hD hd hF hH => ⟨fun h0 => absurd (hr ▸ h0) hne, fun i hi => h i (hr ▸ hi) a w hD hd hF hH⟩
theorem bt_val (ho : ops[i]? = some o) (h1 : at1 ops n o env = some d) (v : Value) (hrun : ∀ b w, Fr n b env → Hp B w0 w os → (execOp b.eval o).run P w = .ok (.value v) w) (h : WAT D P ops Q n ((d, v) :: env) B w0 os f (listed.setIfInBounds i true)) : ∀ a w, w.heap[D]? = some (.deferred (some [])) → a.defers = [markD D] → Fr n { a with defers := [] } env → Hp B w0 w os → wpOp P ops Q i (wpAny P .any ops Q f (listed.setIfInBounds i true)) a w := fun a w hD hd hF hH => by
  unfold wpOp
  simp only [ho]
  have hw : Region.wanted o (yielded ops a.tmps) = true := hF.wants (at1_parts h1).1
  rw [if_pos hw]
  refine .inl ?_
  unfold Oper.wp
  rw [eval_of, hrun _ w hF hH, Oper.upon_value]
  refine h _ _ hD ((put_defers _ _ _).trans hd) ?_ hH
  rw [put_of, (at1_parts h1).2.1]
  exact hF.put (at1_parts h1).2.2 _
theorem bt_done (hr : Region.ready .any ops listed = []) (h : ∀ a w, w.heap[D]? = some (.deferred (some [])) → a.defers = [markD D] → Fr n { a with defers := [] } env → Hp B w0 w os → Q .normal a w) : WAT D P ops Q n env B w0 os f listed := fun a w hD hd hF hH => by
  cases f with
  | zero => exact ⟨hr, h a w hD hd hF hH⟩
  | succ f => exact ⟨fun _ => h a w hD hd hF hH, fun i hi => (by rw [hr] at hi; cases hi)⟩
theorem bt_one (i : Nat) (hr : Region.ready .any ops listed = [i]) (h : ∀ a w, w.heap[D]? = some (.deferred (some [])) → a.defers = [markD D] → Fr n { a with defers := [] } env → Hp B w0 w os → wpOp P ops Q i (wpAny P .any ops Q f (listed.setIfInBounds i true)) a w) : WAT D P ops Q n env B w0 os (f + 1) listed := bt_ready [i] hr (by simp) (fun j hj => by
  have : j = i := by simpa using hj
  subst this
  exact h)
theorem bt_two (i j : Nat) (hr : Region.ready .any ops listed = [i, j]) (h : ∀ a w, w.heap[D]? = some (.deferred (some [])) → a.defers = [markD D] → Fr n { a with defers := [] } env → Hp B w0 w os → wpOp P ops Q i (wpAny P .any ops Q f (listed.setIfInBounds i true)) a w) (h' : ∀ a w, w.heap[D]? = some (.deferred (some [])) → a.defers = [markD D] → Fr n { a with defers := [] } env → Hp B w0 w os → wpOp P ops Q j (wpAny P .any ops Q f (listed.setIfInBounds j true)) a w) : WAT D P ops Q n env B w0 os (f + 1) listed := bt_ready [i, j] hr (by simp) (fun k hk => by
  have : k = i ∨ k = j := by simpa using hk
  rcases this with rfl | rfl
  · exact h
  · exact h')
theorem t_anyV {id : Nat} {y : Code} (hmix : P.follows .mixedOrders = true) (h : WAT D P ops (Exit.then (fun a w => y.wp P Q a w) Q) n env B w0 os ops.size (Array.replicate ops.size false)) : ∀ a w, w.heap[D]? = some (.deferred (some [])) → a.defers = [markD D] → Fr n { a with defers := [] } env → Hp B w0 w os → (Code.seq (.region id ops true) y).wp P Q a w := fun a w hD hd hF hH => wp_seq (wp_region_any hmix (h a w.drew hD hd hF hH.drew))
end
end Go.Proofs.Ythamiglbifgepaa.Sep

namespace Go.Proofs.Ythamiglbifgepaa.Sep
open Go.RowKit
open Go.Proofs.Ythamiglbifgepaa.Mem (Dist Blk Chg below0)

theorem first_none {w : World} {y : List UInt8} {A : Option Addr} {c : Nat} (hn : nextF y = none) (hv : Sl8 w (.slice A y.length c) y) (hl : y.length ≤ 137438953472) : Calls Try.prog 25 #[.slice A y.length c] w fun e w' => e = .returned (.tuple #[fstP A c y, .bool false]) ∧ Below w.heap.size w w' := by
  have h := first_c w hv hl
  rwa [hn] at h
theorem fst_some {A : Option Addr} {c : Nat} {y x : List UInt8} (hn : nextF y = some x) : fstP A c y = .slice (if c = 8 then A else A.map (·.add 8)) x.length (c - 8) ∧ x = (y.drop 8).take x.length ∧ 8 + x.length ≤ y.length := by
  have hx := next_len hn
  unfold nextF at hn
  split at hn
  · rename_i h
    cases hn
    refine ⟨?_, ?_, hx.1⟩
    · unfold fstP
      rw [if_pos ⟨h.1, h.2.1, h.2.2.1⟩, List.length_take, List.length_drop, Nat.min_eq_left (by omega)]
    · rw [List.length_take, List.length_drop, Nat.min_eq_left (by omega)]
  · cases hn
theorem first_some {w : World} {y x : List UInt8} {A A8 : Option Addr} {c : Nat} (hn : nextF y = some x) (hA : (if c = 8 then A else A.map (·.add 8)) = A8) (hv : Sl8 w (.slice A y.length c) y) (hl : y.length ≤ 137438953472) : Calls Try.prog 25 #[.slice A y.length c] w fun e w' => e = .returned (.tuple #[.slice A8 x.length (c - 8), .bool true]) ∧ Below w.heap.size w w' := by
  have h := first_c w hv hl
  rwa [(fst_some hn).1, hn, hA] at h
theorem Rd8.first {X : Ass} {y x : List UInt8} {A : Option Addr} {c : Nat} (hX : Rd8 X (.slice A y.length c) y) (hn : nextF y = some x) : Rd8 X (.slice (if c = 8 then A else A.map (·.add 8)) x.length (c - 8)) x := fun rs w h1 h2 => by
  obtain ⟨_, h3, h4⟩ := fst_some (A := A) (c := c) hn
  have h5 := sl8_take (sl8_drop (hX rs w h1 h2) (i := 8) (by omega)) (k := x.length) (by rw [List.length_drop]; omega)
  rwa [← h3] at h5
theorem drop_next {ps q : List (List UInt8)} {x : List UInt8} {j : Nat} (h : x :: q = ps.drop j) : ps[j]? = some x ∧ q = ps.drop (j + 1) ∧ j < ps.length := by
  have h1 : ps[j]? = some x := by
    have := congrArg (·[0]?) h
    simpa using this.symm
  have hlt := (List.getElem?_eq_some_iff.1 h1).1
  refine ⟨h1, ?_, hlt⟩
  rw [List.drop_eq_getElem_cons hlt] at h
  exact (List.cons.inj h).2
theorem done_next {ps : List (List UInt8)} {j : Nat} (h : [] = ps.drop j) (hj : j ≤ ps.length) : j = ps.length := by
  have := congrArg List.length h
  rw [List.length_nil, List.length_drop] at this
  omega
theorem sub_lo {A : Option Addr} {c k : Nat} {l : List UInt8} : subv 1 (.slice A l.length c) k l.length = .slice (if c = k then A else A.map (·.add k)) (l.drop k).length (c - k) := by
  rw [List.length_drop]; exact sub_mid

set_option maxRecDepth 100000 in
theorem complete1 (L : Nat) (r : Loop) (g : Nat) (X : Ass) (I : Nat → Ass) {A0 : Option Addr} {c0 : Nat} {y : List UInt8} {ps : List (List UInt8)} (hX : Rd8 X (.slice A0 y.length c0) y) (hl : y.length ≤ 137438953472) (hr : (listL y).1 = ps) (hsz : 1 = r.params.size) {N : Nat} (hN : ps.length = N) (hy : (∀ j A c x, ps[j]? = some x → Rd8 X (.slice A x.length c) x → DoesR L (.loop r) Try.prog r.fn ((r.params.zip ([.slice A x.length c] : List Value).toArray).foldl (fun tmps (t, a) => tmps.setIfInBounds t a) r.tmps) r.assign r.body [X, I j] [X, I (j + 1)])) : DoesL L (.loop r) Try.prog 24 #[.func (.yield L) #[] #[], .pointer (some ⟨g, 0, none⟩)] [X, I 0, cell g 23 #[.slice A0 y.length c0]] (fun (_ : Unit) => .tuple #[]) (fun (_ : Unit) => [X, I N, cell g 23 #[.slice A0 y.length c0]]) := by
  refine d_insL (args := [.func (.yield L) #[] #[], .pointer (some ⟨g, 0, none⟩)]) 25 Try.func24 rfl rfl rfl ?_; intro w rs hU hS
  refine d_reg ?_
  refine h_q hflS rfl ?_
  refine h_val rfl (.slice A0 y.length c0) (fun b w hb hH => exec_load rfl rfl (reads_one ty_s_uint8 rfl) (hH.row 2 rfl) hb) ?_
  refine h_q hflS rfl ?_
  refine h_done (d_block ?_)
  refine d_loop (α := Nat × List UInt8 × Option Addr × Nat) (fun ⟨j, l, A, c⟩ => [(0, .func (.yield L) #[] #[]), (3, .slice A l.length c)]) (fun ⟨j, l, A, c⟩ => [X, I j, cell g 23 #[.slice A0 y.length c0]]) (fun ⟨j, l, A, c⟩ => j ≤ ps.length ∧ Rd8 X (.slice A l.length c) l ∧ (listL l).1 = ps.drop j ∧ l.length ≤ 137438953472) (fun ⟨j, l, A, c⟩ => ps.length - j) (0, y, A0, c0) ⟨Nat.zero_le _, hX, by rw [hr]; rfl, hl⟩ ⟨rfl, rfl, trivial⟩ rfl ?_
  rintro ⟨j, l, A, c⟩ hI
  refine WC2.at_ (env' := [(0, .func (.yield L) #[] #[]), (3, .slice A l.length c)]) (rs' := [X, I j, cell g 23 #[.slice A0 y.length c0]]) ⟨rfl, rfl, trivial⟩ rfl ?_
  have hI1 := hI.1
  have hXl : Rd8 X (.slice A l.length c) l := hI.2.1
  have hI3 : (listL l).1 = ps.drop j := hI.2.2.1
  have hI4 : l.length ≤ 137438953472 := hI.2.2.2
  clear hI
  refine d_block ?_
  rcases hn : nextF l with _ | x
  · skip
    rw [listL_none hn] at hI3
    obtain rfl : j = N := (done_next hI3 hI1).trans hN
    refine d_reg ?_
    refine h_q hflS rfl ?_
    refine h_act (post := fun _ => [X, I j, cell g 23 #[.slice A0 y.length c0]]) rfl (a_call (ent_of Try.func25 (by kernel_rfl) rfl) (fun w hH => first_none hn (hH.rd8 0 rfl hXl) hI4) rfl rfl rfl) ?_; rintro ⟨⟩
    refine h_q hflS rfl ?_
    refine h_done (d_seq (d_reg ?_))
    refine h_q hflS rfl ?_
    refine h_done (d_then rfl (d_ret (f_then_ret (f_block_ret (f_then_ret (f_block_ret ?_))))))
    exact f_fin0  (fun w h => tells () rfl [0, 1, 2] rfl h same_parts) rfl
  · skip
    obtain ⟨A8, hA8⟩ : ∃ A8, (if c = 8 then A else A.map (·.add 8)) = A8 := ⟨_, rfl⟩
    have hXx : Rd8 X (.slice A8 x.length (c - 8)) x := by have h3 := hXl.first hn; rwa [hA8] at h3
    have hx3 := (fst_some (A := A) (c := c) hn).2.2
    rw [listL_some hn] at hI3
    obtain ⟨hpj, hq, hjl⟩ := drop_next hI3
    have hyj := hy j A8 (c - 8) x hpj hXx
    obtain ⟨l1, hl1⟩ : ∃ l1, l.drop (8 + x.length) = l1 := ⟨_, rfl⟩
    obtain ⟨A1, hA1⟩ : ∃ A1, (if c = 8 + x.length then A else A.map (·.add (8 + x.length))) = A1 := ⟨_, rfl⟩
    obtain ⟨c1, hc1⟩ : ∃ c1, c - (8 + x.length) = c1 := ⟨_, rfl⟩
    have hs1 : subv 1 (.slice A l.length c) (8 + x.length) l.length = .slice A1 l1.length c1 := by rw [sub_lo, hl1, hA1, hc1]
    have hX1 : Rd8 X (.slice A1 l1.length c1) l1 := by have h3 := hXl.drop (k := 8 + x.length) (by omega); rwa [hl1, hA1, hc1] at h3
    have hl2 : l1.length ≤ 137438953472 := by rw [← hl1, List.length_drop]; omega
    rw [hl1] at hq
    refine d_reg ?_
    refine h_q hflS rfl ?_
    refine h_act (post := fun _ => [X, I j, cell g 23 #[.slice A0 y.length c0]]) rfl (a_call (ent_of Try.func25 (by kernel_rfl) rfl) (fun w hH => first_some hn hA8 (hH.rd8 0 rfl hXl) hI4) rfl rfl rfl) ?_; rintro ⟨⟩
    refine h_q hflS rfl ?_
    refine h_done (d_seq (d_regY 5 (by rintro ⟨a, w, x, he, _⟩; cases he) ?_))
    refine h_q hflS rfl ?_
    refine h_nil (f_yield ?_)
    refine i_yield (os' := [X, I (j + 1), cell g 23 #[.slice A0 y.length c0]]) hU hS [0, 1] (hyj) hsz rfl rfl rfl rfl rfl rfl rfl ?_
    refine i_rest (by rintro ⟨a, w, x, he, _⟩; cases he) ?_
    refine h_q hflS rfl ?_
    refine h_done (d_else rfl (d_skip (f_to (d_reg1 ?_))))
    refine h_q hflS rfl ?_
    refine h_val rfl (.int .i64 (x.length : Int)) (fun b w hb hH => e_slen ((hH.rd8 0 rfl hXx).rd) Try.underlying23 rfl rfl hb) ?_
    refine h_val rfl (.int .i64 ((8 + x.length : Nat) : Int)) (fun b w hb hH => exec_ar rfl rfl rfl rfl (by rw [IntWalk.i64_in _ (by omega)]; omega) hb) ?_
    refine h_val rfl (.slice A1 l1.length c1) (fun b w hb hH => e_sub_lo (i := (8 + x.length)) sl_uint8 hs1 hx3 rfl rfl rfl hH hb) ?_
    refine h_q hflS rfl ?_
    refine h_nil (f_block ?_)
    exact f_again (j + 1, l1, A1, c1) 0 ⟨hjl, hX1, hq, hl2⟩ (show ps.length - (j + 1) < ps.length - j by omega) ⟨rfl, rfl, trivial⟩ rfl

set_option maxRecDepth 100000 in
theorem complete1S (L : Nat) (r : Loop) (g : Nat) (X : Ass) (I : Nat → Ass) {A0 : Option Addr} {c0 : Nat} {y : List UInt8} {ps : List (List UInt8)} (hX : Rd8 X (.slice A0 y.length c0) y) (hl : y.length ≤ 137438953472) (hr : (listL y).1 = ps) (hsz : 1 = r.params.size) {N : Nat} (hN : N < ps.length) (hy : (∀ j A c x, ps[j]? = some x → j < N → Rd8 X (.slice A x.length c) x → DoesR L (.loop r) Try.prog r.fn ((r.params.zip ([.slice A x.length c] : List Value).toArray).foldl (fun tmps (t, a) => tmps.setIfInBounds t a) r.tmps) r.assign r.body [X, I j] [X, I (j + 1)])) (hz : (∀ j A c x, ps[j]? = some x → j = N → Rd8 X (.slice A x.length c) x → DoesS L r Try.prog r.fn ((r.params.zip ([.slice A x.length c] : List Value).toArray).foldl (fun tmps (t, a) => tmps.setIfInBounds t a) r.tmps) r.assign r.body [X, I j] [X, I (j + 1)])) : DoesLS L r Try.prog 24 #[.func (.yield L) #[] #[], .pointer (some ⟨g, 0, none⟩)] [X, I 0, cell g 23 #[.slice A0 y.length c0]] [X, I (N + 1), cell g 23 #[.slice A0 y.length c0]] := by
  refine d_insLS (args := [.func (.yield L) #[] #[], .pointer (some ⟨g, 0, none⟩)]) 25 Try.func24 rfl rfl rfl ?_; intro w rs hU hS
  refine d_reg ?_
  refine h_q hflS rfl ?_
  refine h_val rfl (.slice A0 y.length c0) (fun b w hb hH => exec_load rfl rfl (reads_one ty_s_uint8 rfl) (hH.row 2 rfl) hb) ?_
  refine h_q hflS rfl ?_
  refine h_done (d_block ?_)
  refine d_loop (α := Nat × List UInt8 × Option Addr × Nat) (fun ⟨j, l, A, c⟩ => [(0, .func (.yield L) #[] #[]), (3, .slice A l.length c)]) (fun ⟨j, l, A, c⟩ => [X, I j, cell g 23 #[.slice A0 y.length c0]]) (fun ⟨j, l, A, c⟩ => j ≤ N ∧ Rd8 X (.slice A l.length c) l ∧ (listL l).1 = ps.drop j ∧ l.length ≤ 137438953472) (fun ⟨j, l, A, c⟩ => ps.length - j) (0, y, A0, c0) ⟨Nat.zero_le _, hX, by rw [hr]; rfl, hl⟩ ⟨rfl, rfl, trivial⟩ rfl ?_
  rintro ⟨j, l, A, c⟩ hI
  refine WC2.at_ (env' := [(0, .func (.yield L) #[] #[]), (3, .slice A l.length c)]) (rs' := [X, I j, cell g 23 #[.slice A0 y.length c0]]) ⟨rfl, rfl, trivial⟩ rfl ?_
  have hI1 := hI.1
  have hXl : Rd8 X (.slice A l.length c) l := hI.2.1
  have hI3 : (listL l).1 = ps.drop j := hI.2.2.1
  have hI4 : l.length ≤ 137438953472 := hI.2.2.2
  clear hI
  refine d_block ?_
  rcases hn : nextF l with _ | x
  · exact absurd (done_next (by rw [listL_none hn] at hI3; exact hI3) (by omega)) (by omega)
  obtain ⟨A8, hA8⟩ : ∃ A8, (if c = 8 then A else A.map (·.add 8)) = A8 := ⟨_, rfl⟩
  have hXx : Rd8 X (.slice A8 x.length (c - 8)) x := by have h3 := hXl.first hn; rwa [hA8] at h3
  have hx3 := (fst_some (A := A) (c := c) hn).2.2
  rw [listL_some hn] at hI3
  obtain ⟨hpj, hq, hjl⟩ := drop_next hI3
  rcases Nat.lt_or_ge j N with hjN | hjN
  · skip
    have hyj := hy j A8 (c - 8) x hpj hjN hXx
    obtain ⟨l1, hl1⟩ : ∃ l1, l.drop (8 + x.length) = l1 := ⟨_, rfl⟩
    obtain ⟨A1, hA1⟩ : ∃ A1, (if c = 8 + x.length then A else A.map (·.add (8 + x.length))) = A1 := ⟨_, rfl⟩
    obtain ⟨c1, hc1⟩ : ∃ c1, c - (8 + x.length) = c1 := ⟨_, rfl⟩
    have hs1 : subv 1 (.slice A l.length c) (8 + x.length) l.length = .slice A1 l1.length c1 := by rw [sub_lo, hl1, hA1, hc1]
    have hX1 : Rd8 X (.slice A1 l1.length c1) l1 := by have h3 := hXl.drop (k := 8 + x.length) (by omega); rwa [hl1, hA1, hc1] at h3
    have hl2 : l1.length ≤ 137438953472 := by rw [← hl1, List.length_drop]; omega
    rw [hl1] at hq
    refine d_reg ?_
    refine h_q hflS rfl ?_
    refine h_act (post := fun _ => [X, I j, cell g 23 #[.slice A0 y.length c0]]) rfl (a_call (ent_of Try.func25 (by kernel_rfl) rfl) (fun w hH => first_some hn hA8 (hH.rd8 0 rfl hXl) hI4) rfl rfl rfl) ?_; rintro ⟨⟩
    refine h_q hflS rfl ?_
    refine h_done (d_seq (d_regY 5 (by rintro ⟨a, w, he, _⟩; cases he) ?_))
    refine h_q hflS rfl ?_
    refine h_nil (f_yield ?_)
    refine i_yield (os' := [X, I (j + 1), cell g 23 #[.slice A0 y.length c0]]) hU hS [0, 1] (hyj) hsz rfl rfl rfl rfl rfl rfl rfl ?_
    refine i_rest (by rintro ⟨a, w, he, _⟩; cases he) ?_
    refine h_q hflS rfl ?_
    refine h_done (d_else rfl (d_skip (f_to (d_reg1 ?_))))
    refine h_q hflS rfl ?_
    refine h_val rfl (.int .i64 (x.length : Int)) (fun b w hb hH => e_slen ((hH.rd8 0 rfl hXx).rd) Try.underlying23 rfl rfl hb) ?_
    refine h_val rfl (.int .i64 ((8 + x.length : Nat) : Int)) (fun b w hb hH => exec_ar rfl rfl rfl rfl (by rw [IntWalk.i64_in _ (by omega)]; omega) hb) ?_
    refine h_val rfl (.slice A1 l1.length c1) (fun b w hb hH => e_sub_lo (i := (8 + x.length)) sl_uint8 hs1 hx3 rfl rfl rfl hH hb) ?_
    refine h_q hflS rfl ?_
    refine h_nil (f_block ?_)
    exact f_again (j + 1, l1, A1, c1) 0 ⟨hjN, hX1, hq, hl2⟩ (show ps.length - (j + 1) < ps.length - j by omega) ⟨rfl, rfl, trivial⟩ rfl
  · skip
    obtain rfl : j = N := by omega
    have hyj := hz j A8 (c - 8) x hpj rfl hXx
    refine d_reg ?_
    refine h_q hflS rfl ?_
    refine h_act (post := fun _ => [X, I j, cell g 23 #[.slice A0 y.length c0]]) rfl (a_call (ent_of Try.func25 (by kernel_rfl) rfl) (fun w hH => first_some hn hA8 (hH.rd8 0 rfl hXl) hI4) rfl rfl rfl) ?_; rintro ⟨⟩
    refine h_q hflS rfl ?_
    refine h_done (d_seq (d_regY 5 (by rintro ⟨a, w, he, _⟩; cases he) ?_))
    refine h_q hflS rfl ?_
    refine h_nil (f_yield ?_)
    refine i_stop (os' := [X, I (j + 1), cell g 23 #[.slice A0 y.length c0]]) hU hS [0, 1] (hyj) hsz rfl rfl rfl rfl rfl rfl rfl ?_
    intro wS hwS
    refine s_val rfl (.bool true) (fun b w hb => exec_q1 hflS rfl hb) ?_
    refine s_val rfl (.bool true) (fun b w hb => exec_q1 hflS rfl hb) ?_
    exact s_done (s_then rfl (s_ret (fun _ _ h => h) rfl [0, 1, 2] rfl rfl hwS))
end Go.Proofs.Ythamiglbifgepaa.Sep

namespace Go.Proofs.Ythamiglbifgepaa.Sep
open Go.RowKit
open Go.Proofs.Ythamiglbifgepaa.Mem (Dist Blk Chg below0)
/-- a part of one's own, as one that came in -/
def ptOf (x : PtT) : PtV := match x.1 with
  | .slice A _ c => ⟨A, c, x.2⟩
  | _ => ⟨none, 0, x.2⟩
theorem ptOf_d (x : PtT) : (ptOf x).d = x.2 := by unfold ptOf; split <;> rfl
theorem ptOf_v {x : PtT} (h : ∃ A c, x.1 = .slice A x.2.length c) : (ptOf x).v = x.1 := by
  obtain ⟨A, c, e⟩ := h
  unfold ptOf
  rw [e]; rfl
def RdPs (X : Ass) (v : Value) (l : List PtV) : Prop := ∀ rs w, X rs → RowsOf w rs → PtsRd w v l
section
variable {te t : TypeId} {v : Value} {L : List PtT} {X : Ass} {l : List PtV} {w w0 : World} {B : Nat → Prop} {os : List Ass} {P : Program} {n : Nat} {env : List (Nat × Value)} {o : Oper} {act : Act}
theorem Hp.rdPs (h : Hp B w0 w os) (i : Nat) (hi : os[i]? = some X) (hu : RdPs X v l) : PtsRd w v l := by
  obtain ⟨rs, h1, h2⟩ := h.thing i hi
  exact hu rs w h1 h2
theorem parts_is {rs : List RowT} (h : PartsT te v L rs) {x : PtT} (hx : x ∈ L) (hr : RowsOf w rs) : Sl8 w x.1 x.2 ∧ ∃ A c, x.1 = .slice A x.2.length c := by
  obtain ⟨j, hj⟩ := List.getElem?_of_mem hx
  obtain ⟨ys, h3, h4⟩ := h.at_ (u := x.1) (d := x.2) hr hj
  have := vec_sl8 h3 h4
  obtain ⟨A, c, e, _⟩ := this
  exact ⟨vec_sl8 h3 h4, A, c, e⟩
theorem flat_pt {rs : List RowT} (h : PartsT te v L rs) (hr : RowsOf w rs) : ∀ (M : List PtT), (∀ x, x ∈ M → x ∈ L) → flat encW (M.map (·.1)) = flat encPt (M.map ptOf)
  | [], _ => rfl
  | x :: M, hm => by
    have h1 := (parts_is (w := w) h (hm x (List.mem_cons_self ..)) hr).2
    have h2 := flat_pt h hr M fun y hy => hm y (List.mem_cons_of_mem _ hy)
    have h3 : encW x.1 = encPt (ptOf x) := by
      unfold encPt
      rw [ptOf_v h1]
      obtain ⟨A, c, e⟩ := h1
      rw [e]; rfl
    simp only [List.map_cons, flat, List.flatMap_cons] at h2 ⊢
    rw [h3, h2]
theorem rdPs_take {k : Nat} (hk : k ≤ L.length) : RdPs (PartsT te v L) (subv 1 v 0 k) ((L.take k).map ptOf) := fun rs w h hr => by
  have hp := h
  obtain ⟨a, b, e, h1, h2⟩ := h
  subst e
  have ha : RowsOf w a := rows_iff.2 fun z hz => rows_iff.1 hr z (by simp [hz])
  have h3 := h1.part okW ha (Nat.zero_le k) (by rw [List.length_map]; exact hk)
  refine ⟨?_, fun y hy => ?_⟩
  · rw [Nat.sub_zero] at h3
    rw [List.length_map, List.length_take, Nat.min_eq_left hk, ← flat_pt hp hr _ fun x hx => List.mem_of_mem_take hx, List.map_take]
    exact h3
  · obtain ⟨x, hx, rfl⟩ := List.mem_map.1 hy
    have := parts_is (w := w) hp (List.mem_of_mem_take hx) hr
    rw [ptOf_v this.2, ptOf_d]; exact this.1
theorem rdPs_all : RdPs (PartsT te v L) v (L.map ptOf) := fun rs w h hr => by
  have hp := h
  obtain ⟨a, b, e, h1, h2⟩ := h
  subst e
  have ha : RowsOf w a := rows_iff.2 fun z hz => rows_iff.1 hr z (by simp [hz])
  have h3 := h1.all okW ha
  refine ⟨?_, fun y hy => ?_⟩
  · rw [List.length_map, ← flat_pt hp hr _ fun x hx => hx]
    rw [List.length_map] at h3
    exact h3
  · obtain ⟨x, hx, rfl⟩ := List.mem_map.1 hy
    have := parts_is (w := w) hp hx hr
    rw [ptOf_v this.2, ptOf_d]; exact this.1
theorem ptOf_ds (L : List PtT) : (L.map ptOf).map (·.d) = L.map (·.2) := by
  rw [List.map_map]; exact List.map_congr_left fun x _ => ptOf_d x
theorem e_psub_hi (i : Nat) {b : Nat} {kj : IntKind} {x z : Operand} (hT : SliceT P t te 1) (hi : os[i]? = some (PartsT te v L)) (hb : b ≤ L.length) (ho : o.op = .slice t x none (some z) none) (hx : evs env x = some v) (hz : evs env z = some (.int kj (b : Int))) (hH : Hp B w0 w os) (hF : Fr n act env) : (execOp act.eval o).run P w = .ok (.value (subv 1 v 0 b)) w := by
  obtain ⟨rs, h1, h2⟩ := hH
  obtain ⟨a, y', b', e, h3, h4⟩ := Parts.at_ h1 hi
  obtain ⟨c, z', e2, h5, h6⟩ := h3
  have hH2 : Hp B w0 w [Vec te 1 encW v (L.map (·.1)), fun r => ∃ p q, r = p ++ q ∧ p = a ∧ (Parts [Each (fun x : PtT => Vec 5 1 encB x.1 x.2) L] z' ∧ q = z' ++ b')] := by
    refine ⟨c ++ (a ++ (z' ++ b')), ⟨c, a ++ (z' ++ b'), rfl, h5, a ++ (z' ++ b'), [], by simp, ⟨a, z' ++ b', rfl, rfl, h6, rfl⟩, rfl⟩, hp_perm h2 ?_⟩
    rw [e, e2]
    have : (a ++ (c ++ z' ++ b')).Perm (c ++ (a ++ (z' ++ b'))) := by
      rw [List.append_assoc, ← List.append_assoc, ← List.append_assoc c a]
      exact List.perm_append_comm.append_right _
    simpa using this
  exact e_vsub_hi 0 hT rfl (by rw [List.length_map]; exact hb) ho hx hz hH2 hF
end
end Go.Proofs.Ythamiglbifgepaa.Sep

namespace Go.Proofs.Ythamiglbifgepaa.Sep
open Go.RowKit
open Go.ChangeMaps (setBlock)
open Go.Proofs.Ythamiglbifgepaa.Mem (Dist Blk Chg below0)

/-- a map in a block of its own, which holds l -/
def MapT {κ ν : Type} (kk : κ → Value) (vv : ν → Value) (v : Value) (l : List (κ × ν)) : Ass := fun rs => ∃ g es c, v = .map (some g) ∧ rs = [(g, none, mapC es c)] ∧ MapL kk vv es c l
section mapt
variable {P : Program} {κ ν : Type} {kk : κ → Value} {vv : ν → Value} {l : List (κ × ν)} {v : Value} {B : Nat → Prop} {w0 w w' : World} {os : List Ass} {mt kt vt : TypeId} {kd : TypeDesc} {z : Value} {n : Nat} {env : List (Nat × Value)} {Q : Exit → Act → World → Prop} {o : Oper} {act : Act}
theorem MapT.is : ∀ rs, MapT kk vv v l rs → ∃ g, v = .map (some g) := fun _ ⟨g, _, _, h, _⟩ => ⟨g, h⟩
theorem Hp.mapt (h : Hp B w0 w os) (i : Nat) (hi : os[i]? = some (MapT kk vv v l)) : ∃ g es c, v = .map (some g) ∧ w.heap[g]? = some (.map es c) ∧ MapL kk vv es c l := by
  obtain ⟨rs, ⟨g, es, c, h1, h2, h3⟩, hr⟩ := h.thing i hi
  subst h2
  exact ⟨g, es, c, h1, rowx_map.1 hr.1, h3⟩
end mapt
section ops
variable {P : Program} {κ ν : Type} [DecidableEq κ] {kk : κ → Value} {vv : ν → Value} {l : List (κ × ν)} {v : Value} {B : Nat → Prop} {w0 w w' : World} {os : List Ass} {mt kt vt : TypeId} {kd : TypeDesc} {z : Value} {n : Nat} {env : List (Nat × Value)} {Q : Exit → Act → World → Prop} {o : Oper} {act : Act}
end ops

section more
variable {P : Program} {κ ν : Type} {kk : κ → Value} {vv : ν → Value} {l left : List (κ × ν)} {v it : Value} {B : Nat → Prop} {w0 w w' : World} {os : List Ass} {mt kt vt : TypeId} {n : Nat} {env : List (Nat × Value)} {Q : Exit → Act → World → Prop} {o : Oper} {act : Act}
/-! ## A range over a map that stays as it is -/
end more
end Go.Proofs.Ythamiglbifgepaa.Sep

namespace Go.Proofs.Ythamiglbifgepaa.Sep
open Go.RowKit
open Go.Proofs.Ythamiglbifgepaa.Mem (Dist Blk Chg below0)

def LitT (e : TypeId) (v : Value) (l : List UInt8) : Ass := fun rs => ∃ g c cs f, v = .slice (some ⟨g, 0, none⟩) l.length c ∧ l.length ≤ c ∧ c ≤ maxLen ∧ cs.size = c ∧ cs.toList.take l.length = flat encB l ∧ rs = [(g, none, litC cs e f)]
section lit
variable {P : Program} {e t : TypeId} {l : List UInt8} {v : Value} {B : Nat → Prop} {w0 w w' : World} {os : List Ass} {n : Nat} {env : List (Nat × Value)} {Q : Exit → Act → World → Prop} {o : Oper} {act : Act}
theorem mod_freeze {g k m : Nat} : Mod (One g) w (w.freeze ⟨g, k, none⟩ m) := by
  unfold World.freeze
  split
  · exact ⟨rfl, rfl, rfl, Nat.le_refl _, fun _ _ _ => rfl⟩
  · exact ⟨rfl, rfl, rfl, by simp, fun j _ hj => by
      have hj : j ≠ g := hj
      simp [Array.getElem?_modify, Ne.symm hj]⟩
theorem freeze_at {g k m : Nat} {C : Array Value} {f : Nat × Nat} (h : w.heap[g]? = some (.cells C e f)) : ∃ f', (w.freeze ⟨g, k, none⟩ m).heap[g]? = some (.cells C e f') := by
  unfold World.freeze
  split
  · exact ⟨f, h⟩
  · obtain ⟨lo, hi⟩ := f
    refine ⟨if lo == hi then (k, k + m) else (min lo k, max hi (k + m)), ?_⟩
    show (w.heap.modify g _)[g]? = _
    rw [Array.getElem?_modify, if_pos rfl, h]
    rfl
theorem a_lit (i : Nat) (ht : P.underlying t = some (.slice e)) (he : P.underlying e = some (.int .u8)) (hi : os[i]? = some (Vec e 1 encB v l)) (hl : l ≠ []) {x : Operand} (ho : o.op = .convert t t x) (hx : evs env x = some v) :
    Acts P Q n env B w0 os o (fun _ : Unit => v) (fun _ => os.set i (LitT e v l)) := fun act w hH hF K hK => by
  obtain ⟨rs, hv, hr⟩ := hH.thing i hi
  rcases hv with ⟨_, h2, _⟩ | ⟨g, c, cs, rfl, h1, h2, h3, h4, rfl⟩
  · exact absurd h2 hl
  · have hrow : w.heap[g]? = some (.cells cs e (0, 0)) := hr.1
    have hlt : g < w.heap.size := (Array.getElem?_eq_some_iff.1 hrow).1
    have hsh : w.shape? g = some (e, cs.size) := by unfold World.shape?; rw [hrow]
    have hrun : (execOp act.eval o).run P w = .ok (.value (.slice (some ⟨g, 0, none⟩) l.length c)) (w.freeze ⟨g, cs.size, none⟩ 1) := by
      unfold execOp
      simp [ho, hF.evs hx, convert, run_underlying ht, run_underlying he, markStringish, hsh]
    obtain ⟨f', hf'⟩ := freeze_at (k := cs.size) (m := 1) hrow
    refine a_val (w0 := w) act hrun (hK () _ (hH.turn i hi fun rs' hx' hr' hd' => ?_))
    have e1 : rs' = [(g, some e, cs)] := by
      rcases hx' with ⟨h, _⟩ | ⟨g', c', cs', e1, _, _, _, _, e2⟩
      · cases h
      · cases e1
        subst e2
        have h5 : w.heap[g]? = some (.cells cs' e (0, 0)) := hr'.1
        rw [hrow] at h5
        cases h5
        rfl
    subst e1
    exact ⟨[(g, none, litC cs e f')], ⟨g, c, cs, f', rfl, h1, h2, by omega, by simpa using h4, rfl⟩, ⟨mod_freeze.weaken fun k _ e => ⟨_, List.mem_singleton.2 rfl, (show k = g from e).symm⟩, ⟨rowx_lit.2 hf', trivial⟩, ⟨(fun _ h => by cases h), trivial⟩, fun x hx _ => by
      rw [List.mem_singleton.1 hx]
      exact ⟨_, List.mem_singleton.2 rfl, rfl⟩⟩⟩
theorem exec_diff {T T' : TypeId} {x y : Operand} {l m : List UInt8} {c : Bool} (hc : (l != m) = c) (ho : o.op = .binOp .neq T x y T') (hx : evs env x = some (.string (bs l))) (hy : evs env y = some (.string (bs m))) (hF : Fr n act env) : (execOp act.eval o).run P w = .ok (.value (.bool c)) w := by
  unfold execOp
  subst hc
  simp only [ho, hF.evs hx, hF.evs hy]
  simp [eqGuard, binOp, Op.stringOp, bs_list, bne]
end lit
theorem rd8_lit {v : Value} {l : List UInt8} : Rd8 (LitT 5 v l) v l := fun rs w h hr => by
  obtain ⟨g, c, cs, f, rfl, h1, h2, h3, h4, rfl⟩ := h
  have hrow : w.heap[g]? = some (.cells cs 5 f) := rowx_lit.1 hr.1
  refine ⟨_, c, rfl, h1, h2, fun _ => ⟨g, 0, rfl, trivial, fun j b hj => ?_⟩⟩
  have h5 : (flat encB l)[j]? = some (u8v b) := by
    rw [flatB]
    simp [u8s, hj]
  have h6 := Vec.take_ okB (by rw [Nat.mul_one]; exact h4) h5
  unfold World.cell?
  rw [hrow]
  simpa using h6
theorem sub_take7 {A : Option Addr} {n c j : Nat} : subv 1 (.slice A n c) 0 j = .slice A j c := by
  show Value.slice (if c = 0 then A else A.map (·.add (0 * 1))) (j - 0) (c - 0) = _
  cases A <;> simp [Addr.add]
theorem rd8_cut7 {e : Value} {l r : List UInt8} {k : Nat} (hk : k ≤ l.length) (hr : l.take k = r) : Rd8 (Vec 5 1 encB e l) (subv 1 e 0 k) r := fun rs w h1 h2 => by
  subst hr
  obtain ⟨A, c, rfl, hb⟩ := vec_sl8 h1 h2
  rw [sub_take7]
  exact ⟨A, c, by rw [List.length_take, Nat.min_eq_left hk], hb.take hk⟩
end Go.Proofs.Ythamiglbifgepaa.Sep
