/-
  Rk
-/
import Derived.Test.YtljpjfefjidakaaGreatAA06
set_option linter.unusedSimpArgs false
set_option linter.unusedVariables false

namespace Go.Proofs.YtljpjfefjidakaaGreat.Run
noncomputable section
open Go.RowKit

def argE : List Value → Nat → Env → Env
  | [], _, e => e
  | v :: r, i, e => argE r (i + 1) (put e i (some v))
theorem argE_get : ∀ {l : List Value} {i : Nat} {e : Env}, inT (i + l.length) = true → ∀ s v, (argE l i e).get s = some v → (∃ j, s = i + j ∧ l[j]? = some v) ∨ e.get s = some v
  | [], i, e, _, s, v, h => .inr h
  | x :: r, i, e, hi, s, v, h => by
    unfold argE at h
    have hi' : inT (i + 1 + r.length) = true := by rwa [List.length_cons, show i + (r.length + 1) = i + 1 + r.length by omega] at hi
    have hin : inT i = true := by
      unfold inT at hi ⊢
      have : i + (x :: r).length < 8388608 := Nat.le_of_ble_eq_true hi
      exact Nat.ble_eq_true_of_le (by simp at this; omega)
    rcases argE_get hi' s v h with ⟨j, h1, h2⟩ | h1
    · exact .inl ⟨j + 1, by omega, by simpa using h2⟩
    · rw [get_put hin] at h1
      split at h1
      · rename_i e; cases h1; exact .inl ⟨0, by omega, rfl⟩
      · exact .inr h1
def resL (P : Program) (env : Env) (H : Tr AO) : List ResultVar → Option (List Value)
  | [] => some []
  | .tmp t :: r => match env.get t, resL P env H r with | some v, some l => some (v :: l) | _, _ => none
  | .cell t T :: r => match env.get t, resL P env H r with
    | some (.pointer (some ⟨i, off, none⟩)), some l => match rowAt H i with
      | some (_, _, cs) => match rdV P T cs off with | some v => some (v :: l) | none => none
      | none => none
    | _, _ => none
def resV : List Value → Value
  | [v] => v
  | l => .tuple ⟨l⟩
theorem resL_run {P : Program} {n : Nat} {ρ : Rn} {a : Act} {env : Env} {H : Tr AO} {w : World} (hF : FrR n ρ a env) (hR : Rep ρ H w) : ∀ {rs : List ResultVar} {l : List Value}, resL P env H rs = some l → ∃ us, VRL ρ l us ∧ (rs.mapM (resRun a.tmps)).run P w = .ok us w
  | [], l, h => by cases h; exact ⟨[], .nil, rfl⟩
  | .tmp t :: r, l, h => by
    unfold resL at h
    split at h
    · rename_i v l' h1 h2
      cases h
      obtain ⟨us, h3, h4⟩ := resL_run hF hR h2
      obtain ⟨u, h5, h6⟩ := hF.get t v h1
      refine ⟨u :: us, .cons h6 h3, ?_⟩
      rw [List.mapM_cons]
      have : (resRun a.tmps (.tmp t)).run P w = .ok u w := by simp [resRun, h5]
      simp only [Sem.run_bind, this, Result.andThen_ok, h4, Sem.run_pure]
    · cases h
  | .cell t T :: r, l, h => by
    unfold resL at h
    split at h
    · rename_i i off l' h1 h2
      split at h
      · rename_i t' ex cs hr
        split at h
        · rename_i v hv
          cases h
          obtain ⟨us, h3, h4⟩ := resL_run hF hR h2
          obtain ⟨u, h5, h6⟩ := hF.get t _ h1
          cases h6 with
          | ptr hg =>
            obtain ⟨g', c', ds, zs, q1, q2, q3, _⟩ := hR.row hr
            rw [hg] at q1; cases q1
            obtain ⟨u', q4, q5⟩ := rdV_run hv q2 q3
            refine ⟨u' :: us, .cons q4 h3, ?_⟩
            rw [List.mapM_cons]
            have : (resRun a.tmps (.cell t T)).run P w = .ok u' w := by simp [resRun, h5, asAddr, q5]
            simp only [Sem.run_bind, this, Result.andThen_ok, h4, Sem.run_pure]
        · cases h
      · cases h
    · cases h
theorem resV_run {P : Program} {n : Nat} {ρ : Rn} {a : Act} {env : Env} {H : Tr AO} {w : World} (hF : FrR n ρ a env) (hR : Rep ρ H w) {fn : Func} {l : List Value} (h : resL P env H fn.results.toList = some l) : ∃ u, VR ρ (resV l) u ∧ (results fn a.tmps).run P w = .ok u w := by
  obtain ⟨us, h1, h2⟩ := resL_run hF hR h
  have h3 : (fn.results.mapM (resRun a.tmps)).run P w = .ok ⟨us⟩ w := by
    rw [Array.mapM_eq_mapM_toList]
    simp only [Sem.run_map, h2, Result.andThen_ok]
  rw [results_eq]
  simp only [Sem.run_bind, h3, Result.andThen_ok, Sem.run_pure]
  cases h1 with
  | nil => exact ⟨_, .tuple .nil, rfl⟩
  | cons hv hs =>
    cases hs with
    | nil => exact ⟨_, hv, rfl⟩
    | cons hv2 hs2 => exact ⟨_, .tuple (.cons hv (.cons hv2 hs2)), rfl⟩
/-- of what was written, what stood before -/
def wrF (nx : Nat) : List Nat → List Nat → List Nat
  | [], acc => acc
  | k :: r, acc => match Nat.blt k nx && !(acc.any (Nat.beq k)) with | true => wrF nx r (k :: acc) | false => wrF nx r acc
theorem wrF_mem {nx k : Nat} : ∀ {l acc : List Nat}, (k ∈ acc → k ∈ wrF nx l acc) ∧ (k ∈ l → k < nx → k ∈ wrF nx l acc)
  | [], acc => ⟨fun h => h, fun h => by simp at h⟩
  | x :: r, acc => by
    unfold wrF
    split
    · obtain ⟨h1, h2⟩ := wrF_mem (nx := nx) (k := k) (l := r) (acc := x :: acc)
      refine ⟨fun h => h1 (List.mem_cons.2 (.inr h)), fun h hk => ?_⟩
      rcases List.mem_cons.1 h with rfl | h
      · exact h1 (by simp)
      · exact h2 h hk
    · rename_i hb
      obtain ⟨h1, h2⟩ := wrF_mem (nx := nx) (k := k) (l := r) (acc := acc)
      refine ⟨h1, fun h hk => ?_⟩
      rcases List.mem_cons.1 h with rfl | h
      · refine h1 ?_
        have hbl : Nat.blt k nx = true := Nat.ble_eq_true_of_le hk
        rw [hbl] at hb
        simp only [Bool.true_and, Bool.not_eq_false'] at hb
        obtain ⟨y, hy, he⟩ := List.any_eq_true.1 hb
        have := Nat.eq_of_beq_eq_true he
        subst this; exact hy
      · exact h2 h hk
theorem Wr.filter {H H' : Tr AO} {nx nx' : Nat} {l : List Nat} (h : Wr H H' nx nx' l) (hd : ∀ k ∈ l, nx' ≤ k → False) : Wr H H' nx nx' (wrF nx l []) := fun k hk hb => by
  refine h k (fun hm => ?_) hb
  rcases hb with hb | hb
  · exact hk (wrF_mem.2 hm hb)
  · exact hd k hm hb
/-- what a function's body has come to -/
def outsF (P : Program) (fn : Func) (nx : Nat) : List (Ex × St) → Option (List Out)
  | [] => some []
  | (e, s) :: r => match e with
    | .exit _ => none
    | _ => match resL P s.env s.H fn.results.toList, outsF P fn nx r, s.wr.all (fun k => Nat.blt k s.nx) with
      | some l, some o, true => some (⟨resV l, s.H, s.nx, wrF nx s.wr []⟩ :: o)
      | _, _, _ => none
def callF (P : Program) (X : Els P) (lf : Nat) (call : CallF) (F : FuncId) (args : List Value) (H : Tr AO) (nx : Nat) : Option (List Out) := match P.funcs.toList[F]? with
  | none => none
  | some fn => match fn.body with
    | none => none
    | some c => match Nat.ble args.length fn.ntmps && inT args.length with
      | true => match evC P X call fn.ntmps lf c ⟨argE args 0 .tE, H, nx, []⟩ with
        | some l => outsF P fn nx l
        | none => none
      | false => none
def parE (n : Nat) : List Tmp → List Value → Env → Option Env
  | [], [], e => some e
  | t :: ts, v :: vs, e => match Nat.blt t n && inT t with | true => parE n ts vs (put e t (some v)) | false => none
  | _, _, _ => none
/-- what a round has come to -/
def outsY (i nx n : Nat) (env : Env) (ps : Array Tmp) (as bd : Code) : List (Ex × St) → Option (List Out)
  | [] => some []
  | (e, s) :: r => match outsY i nx n env ps as bd r, s.wr.all (fun k => Nat.blt k s.nx) with
    | some o, true => some (⟨.bool (match e with | .nrm => true | _ => false), put s.H i (some (.loop e n env ps as bd)), s.nx, wrF nx (i :: s.wr) []⟩ :: o)
    | _, _ => none
def allN : List (Ex × St) → Bool
  | [] => true
  | (.nrm, _) :: r => allN r
  | _ => false
def callY (P : Program) (X : Els P) (lf : Nat) (call : CallF) (i : Nat) (args : List Value) (H : Tr AO) (nx : Nat) : Option (List Out) := match H.get i, inT i && Nat.blt i nx with
  | some (.loop .nrm n env ps as bd), true => match parE n ps.toList args env with
    | none => none
    | some env1 => match evC P X call n lf as ⟨env1, put H i none, nx, []⟩ with
      | none => none
      | some l1 => match allN l1 with
        | false => none
        | true => match bindL l1 fun x => evC P X call n lf bd x.2 with
          | none => none
          | some l2 => outsY i nx n env ps as bd l2
  | _, _ => none
def callN (P : Program) (X : Els P) (lf : Nat) : Nat → CallF
  | 0, _, _, _, _ => none
  | d + 1, fv, args, H, nx => match X.mem fv args H nx with
    | some outs => some outs
    | none => match fv with
      | .func (.func F) ⟨p⟩ ⟨q⟩ => match callF P X lf (callN P X lf d) F (p ++ args ++ q) H nx with
        | some outs => some (mergeO nx outs)
        | none => none
      | .func (.yield i) ⟨[]⟩ ⟨[]⟩ => callY P X lf (callN P X lf d) i args H nx
      | _ => none
section
variable {P : Program} {X : Els P} {lf : Nat} {call : CallF}
theorem outsF_at {fn : Func} {nx : Nat} : ∀ {l : List (Ex × St)} {outs : List Out}, outsF P fn nx l = some outs → (l ≠ [] → outs ≠ []) ∧ ∀ x ∈ l, ∃ rl, (x.1 = .nrm ∨ x.1 = .ret) ∧ resL P x.2.env x.2.H fn.results.toList = some rl ∧ x.2.wr.all (fun k => Nat.blt k x.2.nx) = true ∧ (⟨resV rl, x.2.H, x.2.nx, wrF nx x.2.wr []⟩ : Out) ∈ outs
  | [], outs, h => ⟨fun h => absurd rfl h, fun x hx => by simp at hx⟩
  | (e, s) :: r, outs, h => by
    unfold outsF at h
    split at h
    · cases h
    · rename_i hne
      split at h
      · rename_i l o h1 h2 h3
        cases h
        refine ⟨fun _ => by simp, fun x hx => ?_⟩
        rcases List.mem_cons.1 hx with rfl | hx
        · refine ⟨l, ?_, h1, h3, by simp⟩
          cases e with
          | nrm => exact .inl rfl
          | ret => exact .inr rfl
          | exit id => exact (hne id rfl).elim
        · obtain ⟨rl, q1, q2, q3, q4⟩ := (outsF_at h2).2 x hx
          exact ⟨rl, q1, q2, q3, List.mem_cons.2 (.inr q4)⟩
      · cases h
theorem outsF_mem {fn : Func} {nx : Nat} : ∀ {l : List (Ex × St)} {outs : List Out}, outsF P fn nx l = some outs → ∀ y ∈ outs, ∃ x ∈ l, y.H = x.2.H ∧ y.nx = x.2.nx ∧ y.wr = wrF nx x.2.wr [] ∧ x.2.wr.all (fun k => Nat.blt k x.2.nx) = true
  | [], outs, h, y, hy => by cases h; simp at hy
  | (e, s) :: r, outs, h, y, hy => by
    unfold outsF at h
    split at h
    · cases h
    · split at h
      · rename_i l o h1 h2 h3
        cases h
        rcases List.mem_cons.1 hy with rfl | hy
        · exact ⟨_, List.mem_cons_self, rfl, rfl, rfl, h3⟩
        · obtain ⟨x, hx, q⟩ := outsF_mem h2 y hy
          exact ⟨x, List.mem_cons.2 (.inr hx), q⟩
      · cases h
theorem no_high {s : St} (h : s.wr.all (fun k => Nat.blt k s.nx) = true) : ∀ k ∈ s.wr, s.nx ≤ k → False := fun k hk hge => by
  have : k < s.nx := Nat.le_of_ble_eq_true (List.all_eq_true.1 h k hk)
  omega
/-- the marks are taken off at a function's end -/
theorem leaves_marks {fn : Func} {tmps : Array Value} {R : Ending → World → Prop} : ∀ (Ds : List Nat) (w : World), Ds.Nodup → (∀ D ∈ Ds, w.heap[D]? = some (.deferred (some []))) → (∀ w', w'.os = w.os → w'.tape = w.tape → w'.output = w.output → w'.heap.size = w.heap.size → (∀ k, k ∉ Ds → w'.heap[k]? = w.heap[k]?) → ∃ v, (results fn tmps).run P w' = .ok v w' ∧ R (.returned v) w') → LeavesInM Fence.wide 0 P fn tmps R (Ds.map markD) .returning w
  | [], w, _, _, h => h w rfl rfl rfl rfl fun _ _ => rfl
  | D :: Ds, w, hn, hD, h => by
    obtain ⟨h1, h2⟩ := List.nodup_cons.1 hn
    refine ⟨by simp, .inl ⟨D, w.putObj D (.deferred none), rfl, run_takeDeferred (hD D (by simp)), leaves_marks Ds _ h2 (fun E hE => ?_) fun w' q1 q2 q3 q4 q5 => ?_⟩⟩
    · rw [World.putObj_heap_other (fun e => h1 (by rw [e] at hE; first | exact hE | (rw [← e] at hE; exact hE)))]
      exact hD E (by simp [hE])
    · refine h w' q1 q2 q3 (q4.trans (by simp [World.putObj])) fun k hk => ?_
      rw [List.mem_cons, not_or] at hk
      rw [q5 k hk.2, World.putObj_heap_other hk.1]
/-- no function is one that the model answers itself -/
def NoOwn (P : Program) : Prop := P.funcs.toList.all (fun fn => !(fn.name == "runtime.NumGoroutine")) = true
theorem callF_s (hC : CallOK P call) (hmix : P.follows .mixedOrders = true) (hname : NoOwn P) {F : FuncId} {args : List Value} {H : Tr AO} {nx : Nat} {outs : List Out} (h : callF P X lf call F args H nx = some outs) :
    (outs ≠ [] ∧ ∀ x ∈ outs, nx ≤ x.nx ∧ Wr H x.H nx x.nx x.wr) ∧ ∀ (ρ : Rn) (w : World) (M : Nat) (us : List Value), VRL ρ args us → Rep ρ H w → (∀ x ∈ outs, x.nx ≤ M) → Fsh ρ nx M → ∀ (R : Value → World → Prop),
      (∀ x ∈ outs, ∀ ρ' w' u, Aft ρ H w nx ρ' x.H w' x.nx → VR ρ' x.v u → R u w') → Ent P F ∧ Calls P F ⟨us⟩ w fun e w' => ∃ u, e = .returned u ∧ R u w' := by
  unfold callF at h
  split at h
  · cases h
  rename_i fn hf
  split at h
  · cases h
  rename_i c hb
  split at h
  case h_2 => cases h
  rename_i hle
  simp only [Bool.and_eq_true] at hle
  obtain ⟨hle, hin⟩ := hle
  have hle := Nat.le_of_ble_eq_true hle
  split at h
  case h_2 => cases h
  rename_i l hev
  obtain ⟨⟨h0, h1⟩, h2⟩ := evC_s hC hmix c hev
  obtain ⟨h3, h4⟩ := outsF_at h
  have hf' : P.funcs[F]? = some fn := by simpa using hf
  refine ⟨⟨h3 h0, fun y hy => ?_⟩, fun ρ w M us hv hR hM hS R hK => ?_⟩
  · obtain ⟨x, hx, q1, q2, q3, q4⟩ := outsF_mem h y hy
    obtain ⟨hle2, l', e1, e2⟩ := h1 x hx
    rw [q1, q2, q3]
    have e1' : x.2.wr = l' := by rw [e1]; simp
    rw [← e1'] at e2
    exact ⟨hle2, e2.filter (no_high q4)⟩
  · have hn : (fn.name == "runtime.NumGoroutine") = false := by
      have := List.all_eq_true.1 hname fn (List.mem_of_getElem? hf)
      simpa using this
    refine ⟨ent_of hf' hn (by rw [hb]; rfl), (callsIn_wide (n := 0)).1 (callsIn_of_wp_marks hf' hb trivial ?_)⟩
    have hul := hv.length
    have hFr : FrR fn.ntmps ρ { tmps := (⟨us⟩ : Array Value) ++ Array.replicate (fn.ntmps - (⟨us⟩ : Array Value).size) undef, defers := [] } (argE args 0 .tE) := by
      refine ⟨by simp; omega, fun s v hs => ?_⟩
      rcases argE_get (by rwa [Nat.zero_add]) s v hs with ⟨j, e, hj⟩ | hj
      · rw [Nat.zero_add] at e
        subst e
        obtain ⟨u, q1, q2⟩ := hv.get s v hj
        refine ⟨u, ?_, q2⟩
        have hlt := (List.getElem?_eq_some_iff.1 q1).1
        rw [Array.getElem?_append_left (by simpa using hlt)]
        simpa using q1
      · simp [Tr.get_e] at hj
    have hbd : ∀ x ∈ l, x.2.nx ≤ M := fun x hx => by
      obtain ⟨rl, _, _, _, q⟩ := h4 x hx
      exact hM _ q
    refine h2 ρ _ w M hFr hR hbd hS Fence.wide (.inl rfl) _ fun x hx ρ' a' w' q1 q2 q3 => ?_
    obtain ⟨rl, r1, r2, _, r4⟩ := h4 x hx
    obtain ⟨Ds, d1, d2, d3⟩ := q2
    have key : LeavesInM Fence.wide 0 P fn a'.tmps (fun e w' => ∃ u, e = .returned u ∧ R u w') a'.defers .returning w' := by
      rw [d1, List.append_nil]
      refine leaves_marks Ds w' d2 (fun D hD => (d3 D hD).2.1) fun w2 p1 p2 p3 p4 p5 => ?_
      have hR2 : Rep ρ' x.2.H w2 := ⟨fun i o hi => by
        obtain ⟨g, c', g1, g2⟩ := q3.rep.ok i o hi
        exact ⟨g, c', g1, g2.same (p5 g fun hg => (d3 g hg).2.2 ⟨i, o, c', hi, g1⟩)⟩, q3.rep.inj⟩
      obtain ⟨u, s1, s2⟩ := resV_run q1 hR2 r2
      refine ⟨u, s2, u, rfl, hK _ r4 ρ' w2 u ⟨q3.ext, hR2, ⟨p1.trans q3.stp.os, p2.trans q3.stp.tape, p3.trans q3.stp.output, by rw [p4]; exact q3.stp.size, fun g hg hn => ?_, q3.stp.own⟩⟩ s1⟩
      rw [p5 g fun hD => by have := (d3 g hD).1; omega]
      exact q3.stp.block g hg hn
    rcases r1 with r1 | r1 <;> (rw [r1]; exact key)
theorem parE_fr {n : Nat} : ∀ {ts : List Tmp} {vs us : List Value} {ρ : Rn} {tmps : Array Value} {env env' : Env}, parE n ts vs env = some env' → VRL ρ vs us → FrR n ρ { tmps := tmps, defers := [] } env → us.length = ts.length ∧ FrR n ρ { tmps := (ts.zip us).foldl (fun t (p : Tmp × Value) => t.setIfInBounds p.1 p.2) tmps, defers := [] } env'
  | [], [], us, ρ, tmps, env, env', h, hv, hF => by
    cases h; cases hv
    exact ⟨rfl, hF⟩
  | t :: ts, v :: vs, us, ρ, tmps, env, env', h, hv, hF => by
    unfold parE at h
    split at h
    · rename_i hb
      simp only [Bool.and_eq_true] at hb
      cases hv with
      | cons h1 h2 =>
        have := hF.put (Nat.le_of_ble_eq_true hb.1) hb.2 h1
        obtain ⟨h3, h4⟩ := parE_fr h h2 this
        exact ⟨by simp [h3], h4⟩
    · cases h
  | [], _ :: _, _, _, _, _, _, h, _, _ => by cases h
  | _ :: _, [], _, _, _, _, _, h, _, _ => by cases h
theorem outsY_at {i nx n : Nat} {env : Env} {ps : Array Tmp} {as bd : Code} : ∀ {l : List (Ex × St)} {outs : List Out}, outsY i nx n env ps as bd l = some outs → (l ≠ [] → outs ≠ []) ∧ (∀ x ∈ l, (⟨.bool (match x.1 with | .nrm => true | _ => false), put x.2.H i (some (.loop x.1 n env ps as bd)), x.2.nx, wrF nx (i :: x.2.wr) []⟩ : Out) ∈ outs) ∧ ∀ y ∈ outs, ∃ x ∈ l, y = ⟨.bool (match x.1 with | .nrm => true | _ => false), put x.2.H i (some (.loop x.1 n env ps as bd)), x.2.nx, wrF nx (i :: x.2.wr) []⟩ ∧ x.2.wr.all (fun k => Nat.blt k x.2.nx) = true
  | [], outs, h => by
    cases h
    exact ⟨fun h => absurd rfl h, fun x hx => by simp at hx, fun y hy => by simp at hy⟩
  | (e, s) :: r, outs, h => by
    unfold outsY at h
    split at h
    · rename_i o h1 h2
      cases h
      obtain ⟨_, h4, h5⟩ := outsY_at h1
      refine ⟨fun _ => by simp, fun x hx => ?_, fun y hy => ?_⟩
      · rcases List.mem_cons.1 hx with rfl | hx
        · simp
        · exact List.mem_cons.2 (.inr (h4 x hx))
      · rcases List.mem_cons.1 hy with rfl | hy
        · exact ⟨(e, s), by simp, rfl, h2⟩
        · obtain ⟨x, hx, q⟩ := h5 y hy
          exact ⟨x, List.mem_cons.2 (.inr hx), q⟩
    · cases h
theorem allN_at : ∀ {l : List (Ex × St)}, allN l = true → ∀ x ∈ l, x.1 = .nrm
  | [], _, x, hx => by simp at hx
  | (.nrm, s) :: r, h, x, hx => by
    rcases List.mem_cons.1 hx with rfl | hx
    · rfl
    · exact allN_at (l := r) h x hx
  | (.ret, s) :: r, h, x, hx => by cases h
  | (.exit id, s) :: r, h, x, hx => by cases h
end
section
variable {P : Program} {X : Els P} {lf : Nat} {call : CallF}
theorem callY_s (hC : CallOK P call) (hmix : P.follows .mixedOrders = true) {i : Nat} {args : List Value} {H : Tr AO} {nx : Nat} {outs : List Out} (h : callY P X lf call i args H nx = some outs) : CallS P (.func (.yield i) ⟨[]⟩ ⟨[]⟩) args H nx outs := by
  unfold callY at h
  split at h
  case h_2 => cases h
  rename_i n env ps as bd hi hin
  simp only [Bool.and_eq_true] at hin
  obtain ⟨hin, hix⟩ := hin
  have hix : i < nx := Nat.le_of_ble_eq_true hix
  split at h
  · cases h
  rename_i env1 hpar
  split at h
  · cases h
  rename_i l1 hl1
  split at h
  · cases h
  rename_i hall
  split at h
  · cases h
  rename_i l2 hl2
  obtain ⟨o1, o2, o3⟩ := outsY_at h
  obtain ⟨⟨a0, a1⟩, a2⟩ := evC_s hC hmix as hl1
  have each : ∀ x ∈ l1, ∃ rx, evC P X call n lf bd x.2 = some rx ∧ ∀ y ∈ rx, y ∈ l2 := fun x hx => bindL_at hl2 x hx
  have bhd : ∀ y ∈ l2, Bhd ⟨env1, put H i none, nx, []⟩ y.2 := fun y hy => by
    obtain ⟨x, hx, rx, h1, h2⟩ := bindL_mem hl2 y hy
    exact (a1 x hx).trans ((evC_s hC hmix bd h1).1.2 y h2)
  have ne2 : l2 ≠ [] := fun e => by
    obtain ⟨x, hx⟩ := List.exists_mem_of_ne_nil l1 a0
    obtain ⟨rx, h1, h2⟩ := each x hx
    obtain ⟨y, hy⟩ := List.exists_mem_of_ne_nil rx (evC_s hC hmix bd h1).1.1
    have := h2 y hy
    rw [e] at this; simp at this
  refine ⟨⟨o1 ne2, fun y hy => ?_⟩, fun ρ w M fu us hfu hv hR hM hS R hK => ?_⟩
  · obtain ⟨x, hx, rfl, hal⟩ := o3 y hy
    obtain ⟨hle, l', e1, e2⟩ := bhd x hx
    have e1' : x.2.wr = l' := by rw [e1]; simp
    rw [← e1'] at e2
    have hle : nx ≤ x.2.nx := hle
    refine ⟨hle, ?_⟩
    have : Wr H (put x.2.H i (some (.loop x.1 n env ps as bd))) nx x.2.nx (i :: x.2.wr) := fun k hk hb => by
      rw [List.mem_cons, not_or] at hk
      have q1 := e2 k hk.2 hb
      rw [get_put hin, if_neg hk.1, q1]
      show (put H i none).get k = H.get k
      rw [get_put hin, if_neg hk.1]
    exact this.filter fun k hk hge => by
      rcases List.mem_cons.1 hk with rfl | hk
      · omega
      · exact no_high hal k hk hge
  · -- the record
    obtain ⟨g, c, hg, hfu'⟩ : ∃ g c, ρ i = some (g, c) ∧ fu = .func (.yield g) ⟨[]⟩ ⟨[]⟩ := by
      cases hfu with
      | yield hg => exact ⟨_, _, hg, rfl⟩
    subst hfu'
    obtain ⟨g', c', hg', r, hr, hst, hpd, hps, has, hbd, hsz, htm⟩ := hR.ok i _ hi
    rw [hg] at hg'; cases hg'
    subst hps; subst has; subst hbd
    have hglt : g < w.heap.size := (Array.getElem?_eq_some_iff.1 hr).1
    have hF0 : FrR n ρ { tmps := r.tmps, defers := [] } env := ⟨hsz, htm⟩
    obtain ⟨hlen, hF1⟩ := parE_fr hpar hv hF0
    have hnb : ¬ Blk ρ (put H i none) g := fun ⟨j, p, c2, hj, hgj⟩ => by
      rw [get_put hin] at hj
      split at hj
      · cases hj
      · rename_i hne; exact hne (hR.inj j i p _ g c2 c hj hi hgj hg)
    have hbM : ∀ y ∈ l2, y.2.nx ≤ M := fun y hy => hM _ (o2 y hy)
    have hxM : ∀ x ∈ l1, x.2.nx ≤ M := fun x hx => by
      obtain ⟨rx, h1, h2⟩ := each x hx
      obtain ⟨y, hy⟩ := List.exists_mem_of_ne_nil rx (evC_s hC hmix _ h1).1.1
      exact Nat.le_trans ((evC_s hC hmix _ h1).1.2 y hy).le (hbM y (h2 y hy))
    have htmps : (r.params.zip us.toArray).foldl (fun tmps (t, a) => tmps.setIfInBounds t a) r.tmps = (r.params.toList.zip us).foldl (fun t (p : Tmp × Value) => t.setIfInBounds p.1 p.2) r.tmps := by
      rw [← Array.foldl_toList]
      simp
    refine .inr ⟨g, r, rfl, hr, by rw [hlen]; simp, ?_⟩
    rw [htmps]
    refine roundIn_of_wpIn trivial ?_
    refine a2 ρ _ w M hF1 (hR.forget hin) hxM hS (Fence.wide.inRound g) (.inr ⟨g, r, rfl, hr, hnb⟩) _ fun x hx ρ1 b1 w1 q1 _ q3 => ?_
    rw [allN_at hall x hx]
    show ∃ w₂, _
    have hr1 : w1.heap[g]? = some (.loop r) := (q3.stp.block g hglt hnb).trans hr
    have hnb1 : ¬ Blk ρ1 x.2.H g := fun hb => hnb (q3.stp.own g hglt hb)
    refine ⟨_, run_beginRound hr1 hst, ?_⟩
    obtain ⟨rx, h1, h2⟩ := each x hx
    obtain ⟨⟨b0, b2⟩, b3⟩ := evC_s hC hmix _ h1
    have hlt1 : g < w1.heap.size := (Array.getElem?_eq_some_iff.1 hr1).1
    have hr2 : (w1.putObj g (.loop { r with state := .busy })).heap[g]? = some (.loop { r with state := .busy }) := World.putObj_heap_same hlt1
    refine b3 ρ1 b1 _ M q1 (q3.rep.putObj hnb1 _) (fun y hy => hbM y (h2 y hy)) (hS.right q3.ext (a1 x hx).le) (Fence.wide.inRound g) (.inr ⟨g, _, rfl, hr2, hnb1⟩) _ fun y hy ρ2 b4 w3 p1 _ p3 => ?_
    have hlt2 : g < (w1.putObj g (.loop { r with state := .busy })).heap.size := (Array.getElem?_eq_some_iff.1 hr2).1
    have hr3 : w3.heap[g]? = some (.loop { r with state := .busy }) := (p3.stp.block g hlt2 hnb1).trans hr2
    have hnb2 : ¬ Blk ρ2 y.2.H g := fun hb => hnb1 (p3.stp.own g hlt2 hb)
    have hlt3 : g < w3.heap.size := (Array.getElem?_eq_some_iff.1 hr3).1
    have hExt : Ext ρ ρ2 nx y.2.nx := q3.ext.trans p3.ext (a1 x hx).le (b2 y hy).le
    have hle2 : Le ρ ρ2 := hExt.le (hS.left (hbM y (h2 y hy)))
    have hg2 : ρ2 i = some (g, c) := hle2 _ _ hg
    -- the record, put back
    have back : ∀ (r' : Loop), r'.state = y.1.state → r'.pending = y.1.jump → r'.params = r.params → r'.assign = r.assign → r'.body = r.body → r'.tmps = r.tmps → Aft ρ H w nx ρ2 (put y.2.H i (some (.loop y.1 n env r.params r.assign r.body))) (w3.putObj g (.loop r')) y.2.nx := fun r' e1 e2 e3 e4 e5 e6 => by
      have hold : ∀ j p, (put y.2.H i (some (.loop y.1 n env r.params r.assign r.body))).get j = some p → j ≠ i → y.2.H.get j = some p := fun j p hj hne => by rwa [get_put hin, if_neg hne] at hj
      refine ⟨hExt, ⟨fun j p hj => ?_, fun j k p q b c1 c2 h1 h2 h3 h4 => ?_⟩, ⟨?_, ?_, ?_, ?_, fun b hb hn => ?_, fun b hb hbl => ?_⟩⟩
      · by_cases e : j = i
        · subst e
          rw [get_put hin, if_pos rfl] at hj
          cases hj
          refine ⟨g, c, hg2, r', World.putObj_heap_same hlt3, e1, e2, e3, e4, e5, by rw [e6]; exact hsz, fun s v hs => ?_⟩
          obtain ⟨u, z1, z2⟩ := htm s v hs
          exact ⟨u, by rw [e6]; exact z1, z2.mono hle2⟩
        · exact (p3.rep.putObj hnb2 _).ok j p (hold j p hj e)
      · by_cases e1 : j = i <;> by_cases e2 : k = i
        · rw [e1, e2]
        · subst e1
          rw [hg2] at h3; cases h3
          exact absurd ⟨k, q, c2, hold k q h2 e2, h4⟩ hnb2
        · subst e2
          rw [hg2] at h4; cases h4
          exact absurd ⟨j, p, c1, hold j p h1 e1, h3⟩ hnb2
        · exact p3.rep.inj j k p q b c1 c2 (hold j p h1 e1) (hold k q h2 e2) h3 h4
      · exact p3.stp.os.trans q3.stp.os
      · exact p3.stp.tape.trans q3.stp.tape
      · exact p3.stp.output.trans q3.stp.output
      · have z1 := q3.stp.size
        have z2 := p3.stp.size
        simp only [World.putObj, Array.size_setIfInBounds] at z2 ⊢
        omega
      · have hbg : b ≠ g := fun e => hn ⟨i, _, c, hi, by rw [e]; exact hg⟩
        have hn0 : ¬ Blk ρ (put H i none) b := fun hbl => hn (hbl.forget hin)
        have z1 := q3.stp.block b hb hn0
        have hb1 : b < w1.heap.size := Nat.lt_of_lt_of_le hb q3.stp.size
        have z2 := p3.stp.block b (by simpa [World.putObj] using hb1) (fun hbl => hn0 (q3.stp.own b hb hbl))
        rw [World.putObj_heap_other hbg, z2, World.putObj_heap_other hbg, z1]
      · obtain ⟨j, p, c3, hj, hgj⟩ := hbl
        by_cases e : j = i
        · subst e
          rw [hg2] at hgj; cases hgj
          exact ⟨j, _, c, hi, hg⟩
        · have hb1 : b < w1.heap.size := Nat.lt_of_lt_of_le hb q3.stp.size
          have z1 := p3.stp.own b (by simpa [World.putObj] using hb1) ⟨j, p, c3, hold j p hj e, hgj⟩
          exact (q3.stp.own b hb z1).forget hin
    have hmem := o2 y (h2 y hy)
    cases he : y.1 with
    | nrm =>
      rw [he] at back hmem
      exact ⟨_, _, run_endRound none hr3, _, rfl, hK _ hmem ρ2 _ _ (back _ rfl rfl rfl rfl rfl rfl) (.bool _)⟩
    | ret =>
      rw [he] at back hmem
      exact ⟨_, _, run_endRound (some .ret) hr3, _, rfl, hK _ hmem ρ2 _ _ (back _ rfl rfl rfl rfl rfl rfl) (.bool _)⟩
    | exit id =>
      rw [he] at back hmem
      exact ⟨_, _, run_endRound (some (.exit id)) hr3, _, rfl, hK _ hmem ρ2 _ _ (back _ rfl rfl rfl rfl rfl rfl) (.bool _)⟩
/-- THE RUNNER: what it answers holds of every run -/
theorem callN_s (hmix : P.follows .mixedOrders = true) (hname : NoOwn P) : ∀ d, CallOK P (callN P X lf d)
  | 0, fv, args, H, nx, outs, h => by cases h
  | d + 1, fv, args, H, nx, outs, h => by
    unfold callN at h
    split at h
    · rename_i outs0 hm
      cases h
      exact X.mok _ _ _ _ _ hm
    split at h
    · split at h
      case h_2 => cases h
      rename_i outs0 h
      cases ‹some (mergeO nx _) = some outs›
      refine CallS.merge ?_
      obtain ⟨h1, h2⟩ := callF_s (callN_s hmix hname d) hmix hname h
      refine ⟨h1, fun ρ w M fu us hfu hv hR hM hS R hK => .inl ?_⟩
      cases hfu with
      | func G hp hq =>
        obtain ⟨h3, h4⟩ := h2 ρ w M _ ((hp.app hv).app hq) hR hM hS R hK
        exact ⟨_, _, _, rfl, h3, h4⟩
    · exact callY_s (callN_s hmix hname d) hmix h
    · cases h
end
end
end Go.Proofs.YtljpjfefjidakaaGreat.Run
