/-
  ParS · Kit · Arg · Und · Clone · Math · Bits · Writer · Varint · RefLay · RefRead · OneMath · Read
-/
import Derived.Test.YtikcleaicbihfaaAA01
import Derived.Test.YtikcleaicbihfaaAD03
import Derived.ProofKit
import Derived.OpenShut
import Derived.JoinedCond
import Derived.Test.YtikcleaicbihfaaRows
import Derived.WalkKit
import Derived.Deep.QuietTactic
import Derived.BigQuiet
set_option linter.unusedSimpArgs false
set_option linter.unusedVariables false

namespace Go.Proofs.Ytikcleaicbihfaa.Sep
open Go.RowKit
open Go.Proofs.Ytikcleaicbihfaa.Mem (Dist Blk Chg)

inductive KindS
  | quiet
  | skip
  | act (q : Nat)
  | actv (q : Nat)
/-- One operation. pat: of each that acts whether it has acted when this one comes (some true), has not (some false), or may have (none). f: its value, out of the results of those that have. -/
structure JobS where
  kind : KindS
  pat : List (Option Bool)
  f : List (Option Value) → Value
  deps : List Nat
def JobS.actOf (j : JobS) : Option Nat := match j.kind with | .act q => some q | .actv q => some q | _ => none
def atq : List (Option Value) → Nat → Value
  | [], _ => undef
  | r :: _, 0 => match r with | some v => v | none => undef
  | _ :: ρ, q + 1 => atq ρ q
def patAt : List (Option Bool) → Nat → Option Bool
  | [], _ => none
  | p :: _, 0 => p
  | _ :: ps, q + 1 => patAt ps q
def setq : List (Option Value) → Nat → Value → List (Option Value)
  | [], _, _ => []
  | _ :: ρ, 0, v => some v :: ρ
  | r :: ρ, q + 1, v => r :: setq ρ q v
def maskP : List (Option Bool) → List (Option Value) → List (Option Value)
  | p :: ps, r :: ρ => (match p with | some true => r | _ => none) :: maskP ps ρ
  | _, _ => []
def JobS.val (j : JobS) (ρ : List (Option Value)) : Value := match j.kind with | .act q => atq ρ q | _ => j.f (maskP j.pat ρ)
def AllP : List (Option Bool) → (List (Option Value) → Prop) → Prop
  | [], C => C []
  | some true :: ps, C => ∀ v, AllP ps fun ρ => C (some v :: ρ)
  | some false :: ps, C => AllP ps fun ρ => C (none :: ρ)
  | none :: ps, C => ∀ r, AllP ps fun ρ => C (r :: ρ)
def FitsP : List (Option Bool) → List (Option Value) → Prop
  | [], [] => True
  | p :: ps, r :: ρ => (match p with | some true => ∃ v, r = some v | some false => r = none | none => True) ∧ FitsP ps ρ
  | _, _ => False
theorem AllP.fit : ∀ {p : List (Option Bool)} {C : List (Option Value) → Prop} {ρ : List (Option Value)}, AllP p C → FitsP p ρ → C ρ
  | [], _, [], h, _ => h
  | some true :: ps, C, r :: ρ, h, ⟨⟨v, hv⟩, hf⟩ => by subst hv; exact AllP.fit (p := ps) (C := fun ρ => C (some v :: ρ)) (h v) hf
  | some false :: ps, C, r :: ρ, h, ⟨hv, hf⟩ => by
    have hv' : r = none := hv
    subst hv'
    exact AllP.fit (p := ps) (C := fun ρ => C (none :: ρ)) h hf
  | none :: ps, C, r :: ρ, h, ⟨_, hf⟩ => AllP.fit (p := ps) (C := fun ρ => C (r :: ρ)) (h r) hf
  | [], _, _ :: _, _, hf => hf.elim
  | _ :: _, _, [], _, hf => hf.elim
theorem fits_of : ∀ {p : List (Option Bool)} {ρ : List (Option Value)}, ρ.length = p.length → (∀ q, patAt p q = some true → ∃ v, ρ[q]? = some (some v)) → (∀ q, patAt p q = some false → ρ[q]? = some none) → FitsP p ρ
  | [], [], _, _, _ => trivial
  | p :: ps, r :: ρ, hl, h1, h2 => by
    refine ⟨?_, fits_of (by simpa using hl) (fun q hq => by simpa using h1 (q + 1) hq) (fun q hq => by simpa using h2 (q + 1) hq)⟩
    cases p with
    | none => trivial
    | some b =>
      cases b with
      | true => obtain ⟨v, hv⟩ := h1 0 rfl; exact ⟨v, by simpa using hv⟩
      | false => have := h2 0 rfl; simpa using this
  | [], _ :: _, hl, _, _ => by simp at hl
  | _ :: _, [], hl, _, _ => by simp at hl
theorem setq_len : ∀ (ρ : List (Option Value)) (q : Nat) (v : Value), (setq ρ q v).length = ρ.length
  | [], _, _ => rfl
  | _ :: _, 0, _ => rfl
  | _ :: ρ, q + 1, v => by simp [setq, setq_len ρ q v]
theorem setq_at : ∀ (ρ : List (Option Value)) (q : Nat) (v : Value) (k : Nat), (setq ρ q v)[k]? = if k = q then (if q < ρ.length then some (some v) else none) else ρ[k]?
  | [], q, v, k => by simp [setq]
  | r :: ρ, 0, v, k => by cases k <;> simp [setq]
  | r :: ρ, q + 1, v, k => by
    cases k with
    | zero => simp [setq]
    | succ k =>
      have := setq_at ρ q v k
      simp only [setq, List.getElem?_cons_succ, this, List.length_cons, Nat.add_lt_add_iff_right, Nat.add_right_cancel_iff]
theorem atq_of : ∀ {ρ : List (Option Value)} {q : Nat} {v : Value}, ρ[q]? = some (some v) → atq ρ q = v
  | [], q, v, h => by simp at h
  | r :: ρ, 0, v, h => by simp at h; subst h; rfl
  | r :: ρ, q + 1, v, h => by simp at h; exact atq_of (ρ := ρ) h
theorem mask_set : ∀ {p : List (Option Bool)} {ρ : List (Option Value)} {q : Nat} {v : Value}, patAt p q ≠ some true → maskP p (setq ρ q v) = maskP p ρ
  | [], ρ, q, v, _ => by cases ρ <;> cases q <;> rfl
  | p :: ps, [], q, v, _ => rfl
  | p :: ps, r :: ρ, 0, v, h => by
    cases p with
    | none => rfl
    | some b => cases b with
      | true => exact absurd rfl h
      | false => rfl
  | p :: ps, r :: ρ, q + 1, v, h => by
    show _ :: maskP ps (setq ρ q v) = _ :: maskP ps ρ
    rw [mask_set (p := ps) h]
theorem atq_set : ∀ {ρ : List (Option Value)} {q k : Nat} {v : Value}, k ≠ q → atq (setq ρ q v) k = atq ρ k
  | [], q, k, v, _ => rfl
  | r :: ρ, 0, 0, v, h => absurd rfl h
  | r :: ρ, 0, k + 1, v, h => rfl
  | r :: ρ, q + 1, 0, v, h => rfl
  | r :: ρ, q + 1, k + 1, v, h => atq_set (ρ := ρ) (by omega)

def depEnvS (ops : Array Oper) (jobs : List JobS) (ρ : List (Option Value)) : List Nat → List (Nat × Value)
  | [] => []
  | j :: r => match dstOf ops j, jobs[j]? with
    | some d, some J => (d, J.val ρ) :: depEnvS ops jobs ρ r
    | _, _ => depEnvS ops jobs ρ r
def eqAct (J : JobS) (q : Nat) : Bool := match J.actOf with | some q' => Nat.beq q' q | none => false
def isT : Option Bool → Bool
  | some true => true
  | _ => false
def okP (ops : Array Oper) (jobs : List JobS) (D i : Nat) (j : JobS) (q : Nat) : Bool := match patAt j.pat q with
  | some true => (List.range D).any fun p => edge ops i p && (match jobs[p]? with | some J => eqAct J q || isT (patAt J.pat q) | none => false)
  | some false => (match j.actOf with | some qi => Nat.beq qi q || jobs.any fun J => eqAct J q && isT (patAt J.pat qi) | none => false)
  | none => true
def jobOKS (ops : Array Oper) (jobs : List JobS) (n D m : Nat) (keys : List Nat) (i : Nat) : Bool :=
  match ops[i]?, jobs[i]? with
  | some o, some j =>
    (match o.dst with
      | some d => Nat.blt d n && !keys.contains d && (List.range D).all fun i' => Nat.beq i i' || dstOf ops i' != some d
      | none => (match j.actOf with | some _ => true | none => false)) &&
    o.after.all (fun e => !Region.binds .any e || Nat.blt e.on i) &&
    j.deps.all (fun e => Nat.blt e D && edge ops i e) &&
    Nat.beq j.pat.length m && (List.range m).all (okP ops jobs D i j) &&
    (match j.actOf with | some q => Nat.blt q m && (match patAt j.pat q with | some false => true | _ => false) && (List.range D).all fun i' => Nat.beq i i' || (match jobs[i']? with | some J => !eqAct J q | none => true) | none => true)
  | _, _ => false
def preds (ops : Array Oper) (i : Nat) : List Nat := match ops[i]? with | some o => (o.after.toList.filter fun e => Region.binds .any e).map (·.on) | none => []
def clos (ops : Array Oper) : Nat → List Nat → List Nat
  | 0, S => S
  | j + 1, S => clos ops j (match S.elem j with | true => preds ops j ++ S | false => S)
/-- a late operation comes behind all of the first part, or behind a late one -/
def lateOKS (ops : Array Oper) (D N i : Nat) : Bool :=
  (match clos ops D (preds ops i) with | l => (List.range D).all fun j => l.elem j) || (List.range N).any fun j => Nat.ble D j && edge ops i j
def parOKS (ops : Array Oper) (jobs : List JobS) (n D m : Nat) (keys : List Nat) : Bool :=
  Nat.ble D ops.size && Nat.beq jobs.length D && (List.range D).all (jobOKS ops jobs n D m keys) && (List.range ops.size).all (fun i => Nat.blt i D || lateOKS ops D ops.size i) &&
  (List.range (ops.size - D)).all (fun t => Region.ready .any ops (firstK (D + t) ops.size) == [D + t]) && (List.range m).all (fun q => jobs.any fun J => eqAct J q)
structure JobOKS (ops : Array Oper) (jobs : List JobS) (n D m : Nat) (keys : List Nat) (i : Nat) (o : Oper) (j : JobS) : Prop where
  dst : (∃ d, o.dst = some d ∧ d < n ∧ d ∉ keys ∧ ∀ i', i' < D → i' ≠ i → dstOf ops i' ≠ some d) ∨ (o.dst = none ∧ ∃ q, j.actOf = some q)
  edges : ∀ e ∈ o.after, Region.binds .any e = true → e.on < i
  deps : ∀ e ∈ j.deps, e < D ∧ edge ops i e = true
  len : j.pat.length = m
  t : ∀ q, q < m → patAt j.pat q = some true → ∃ p J, p < D ∧ edge ops i p = true ∧ jobs[p]? = some J ∧ (J.actOf = some q ∨ patAt J.pat q = some true)
  f : ∀ q, q < m → patAt j.pat q = some false → ∃ qi, j.actOf = some qi ∧ (qi = q ∨ ∃ J ∈ jobs, J.actOf = some q ∧ patAt J.pat qi = some true)
  act : ∀ q, j.actOf = some q → q < m ∧ patAt j.pat q = some false ∧ ∀ i' J, i' < D → i' ≠ i → jobs[i']? = some J → J.actOf ≠ some q
theorem eqAct_iff {J : JobS} {q : Nat} : eqAct J q = true ↔ J.actOf = some q := by
  unfold eqAct
  cases J.actOf with
  | none => simp
  | some q' => simp [beq_iff]
theorem isT_iff {x : Option Bool} : isT x = true ↔ x = some true := by
  cases x with
  | none => simp [isT]
  | some b => cases b <;> simp [isT]
theorem jobOKS_iff {ops : Array Oper} {jobs : List JobS} {n D m : Nat} {keys : List Nat} {i : Nat} (h : jobOKS ops jobs n D m keys i = true) : ∃ o j, ops[i]? = some o ∧ jobs[i]? = some j ∧ JobOKS ops jobs n D m keys i o j := by
  unfold jobOKS at h
  cases ho : ops[i]? with
  | none => simp [ho] at h
  | some o =>
    cases hj : jobs[i]? with
    | none => simp [ho, hj] at h
    | some j =>
      simp only [ho, hj, Bool.and_eq_true] at h
      obtain ⟨⟨⟨⟨⟨h1, h2⟩, h3⟩, h4⟩, h5⟩, h6⟩ := h
      refine ⟨o, j, rfl, rfl, ?_, ?_, ?_, beq_iff.1 h4, ?_, ?_, ?_⟩
      · cases hd : o.dst with
        | some d =>
          simp only [hd, Bool.and_eq_true] at h1
          obtain ⟨⟨ha, hb⟩, hc⟩ := h1
          refine .inl ⟨d, rfl, blt_lt ha, by simpa using hb, fun i' hi' hne he => ?_⟩
          have := List.all_eq_true.1 hc i' (by simpa using hi')
          simp only [Bool.or_eq_true] at this
          rcases this with h | h
          · exact hne (beq_iff.1 h).symm
          · simp [he] at h
        | none =>
          simp only [hd] at h1
          refine .inr ⟨rfl, ?_⟩
          cases ha : j.actOf with
          | none => simp [ha] at h1
          | some q => exact ⟨q, rfl⟩
      · intro e he hb
        have := Array.all_eq_true_iff_forall_mem.1 h2 e he
        simp only [hb, Bool.not_true, Bool.false_or] at this
        exact blt_lt this
      · intro e he
        have := List.all_eq_true.1 h3 e he
        simp only [Bool.and_eq_true] at this
        exact ⟨blt_lt this.1, this.2⟩
      · intro q hq hp
        have := List.all_eq_true.1 h5 q (by simpa using hq)
        unfold okP at this
        simp only [hp] at this
        obtain ⟨p, hp1, hp2⟩ := List.any_eq_true.1 this
        simp only [Bool.and_eq_true] at hp2
        cases hJ : jobs[p]? with
        | none => simp [hJ] at hp2
        | some J =>
          simp only [hJ, Bool.or_eq_true] at hp2
          exact ⟨p, J, by simpa using hp1, hp2.1, hJ, hp2.2.imp eqAct_iff.1 isT_iff.1⟩
      · intro q hq hp
        have := List.all_eq_true.1 h5 q (by simpa using hq)
        unfold okP at this
        simp only [hp] at this
        cases ha : j.actOf with
        | none => simp [ha] at this
        | some qi =>
          simp only [ha, Bool.or_eq_true] at this
          refine ⟨qi, rfl, this.imp beq_iff.1 fun h => ?_⟩
          obtain ⟨J, hJ1, hJ2⟩ := List.any_eq_true.1 h
          simp only [Bool.and_eq_true] at hJ2
          exact ⟨J, hJ1, eqAct_iff.1 hJ2.1, isT_iff.1 hJ2.2⟩
      · intro q hq
        simp only [hq, Bool.and_eq_true] at h6
        obtain ⟨⟨ha, hb⟩, hc⟩ := h6
        refine ⟨blt_lt ha, ?_, fun i' J hi' hne hJ hk => ?_⟩
        · cases hp : patAt j.pat q with
          | none => simp [hp] at hb
          | some b => cases b with
            | true => simp [hp] at hb
            | false => rfl
        · have := List.all_eq_true.1 hc i' (by simpa using hi')
          simp only [hJ, Bool.or_eq_true] at this
          rcases this with h | h
          · exact hne (beq_iff.1 h).symm
          · rw [eqAct_iff.2 hk] at h; cases h

section
variable (P : Program) (ops : Array Oper) (Q : Exit → Act → World → Prop) (n : Nat) (jobs : List JobS) (env0 : List (Nat × Value)) (B : Nat → Prop) (w0 : World) (S : List (Option Value) → List Ass)
/-- what is to be shown of one operation -/
def ObS (o : Oper) (j : JobS) : Prop :=
  match j.kind with
  | .quiet => AllP j.pat fun ρ => wants ops o (depEnvS ops jobs ρ j.deps ++ env0) = some true ∧ ∀ (b : Act) (w : World), Hp B w0 w (S ρ) → Fr n b (depEnvS ops jobs ρ j.deps ++ env0) → (execOp b.eval o).run P w = .ok (.value (j.f (maskP j.pat ρ))) w
  | .skip => AllP j.pat fun ρ => wants ops o (depEnvS ops jobs ρ j.deps ++ env0) = some false ∧ j.f (maskP j.pat ρ) = undef
  | .act q => AllP j.pat fun ρ => wants ops o (depEnvS ops jobs ρ j.deps ++ env0) = some true ∧ ∀ (b : Act) (w : World), Hp B w0 w (S ρ) → Fr n b (depEnvS ops jobs ρ j.deps ++ env0) → ∀ K : Act → World → Prop, (∀ v w', Hp B w0 w' (S (setq ρ q v)) → K (b.put o.dst v) w') → o.wp P b w K Q
  | .actv q => AllP j.pat fun ρ => wants ops o (depEnvS ops jobs ρ j.deps ++ env0) = some true ∧ ∀ (b : Act) (w : World), Hp B w0 w (S ρ) → Fr n b (depEnvS ops jobs ρ j.deps ++ env0) → ∀ K : Act → World → Prop, (∀ v w', Hp B w0 w' (S (setq ρ q v)) → K (b.put o.dst (j.f (maskP j.pat ρ))) w') → o.wp P b w K Q
def AllObS : List Oper → List JobS → Prop
  | o :: os, j :: js => ObS P ops Q n jobs env0 B w0 S o j ∧ AllObS os js
  | _, _ => True
end
/-- what holds while the first part is under way -/
structure InvS (ops : Array Oper) (n : Nat) (jobs : List JobS) (env0 : List (Nat × Value)) (B : Nat → Prop) (w0 : World) (S : List (Option Value) → List Ass) (D m : Nat) (listed : Array Bool) (a : Act) (ρ : List (Option Value)) (w : World) : Prop where
  size : listed.size = ops.size
  late : ∀ i, D ≤ i → i < ops.size → listed.getD i true = false
  closed : ∀ i e, i < D → listed.getD i true = true → edge ops i e = true → e < ops.size → listed.getD e true = true
  fr : Fr n a env0
  len : ρ.length = m
  yes : ∀ i j q, jobs[i]? = some j → j.actOf = some q → listed.getD i true = true → ∃ v, ρ[q]? = some (some v)
  no : ∀ i j q, jobs[i]? = some j → j.actOf = some q → listed.getD i true = false → ρ[q]? = some none
  vals : ∀ i j d, jobs[i]? = some j → dstOf ops i = some d → listed.getD i true = true → a.tmps[d]? = some (j.val ρ)
  hp : Hp B w0 w (S ρ)
section
variable {P : Program} {ops : Array Oper} {Q : Exit → Act → World → Prop} {n D m : Nat} {jobs : List JobS} {env0 : List (Nat × Value)} {B : Nat → Prop} {w0 : World} {S : List (Option Value) → List Ass}
theorem AllObS.at_ : ∀ {os : List Oper} {js : List JobS}, AllObS P ops Q n jobs env0 B w0 S os js → ∀ (i : Nat) (o : Oper) (j : JobS), os[i]? = some o → js[i]? = some j → ObS P ops Q n jobs env0 B w0 S o j
  | [], _, _, i, o, j, h, _ => by simp at h
  | _ :: _, [], _, i, o, j, _, h => by simp at h
  | o' :: os, j' :: js, h, 0, o, j, h1, h2 => by
    simp only [List.getElem?_cons_zero, Option.some.injEq] at h1 h2
    subst h1; subst h2
    exact h.1
  | o' :: os, j' :: js, h, i + 1, o, j, h1, h2 => by
    simp only [List.getElem?_cons_succ] at h1 h2
    exact AllObS.at_ h.2 i o j h1 h2
theorem s_cons {o : Oper} {os : List Oper} {j : JobS} {js : List JobS} (h : ObS P ops Q n jobs env0 B w0 S o j) (hs : AllObS P ops Q n jobs env0 B w0 S os js) : AllObS P ops Q n jobs env0 B w0 S (o :: os) (j :: js) := ⟨h, hs⟩
theorem s_nil {os : List Oper} : AllObS P ops Q n jobs env0 B w0 S os [] := by cases os <;> trivial
theorem fr_depS {listed : Array Bool} {a : Act} {ρ : List (Option Value)} {w : World} (hI : InvS ops n jobs env0 B w0 S D m listed a ρ w) : ∀ l : List Nat, (∀ e ∈ l, listed.getD e true = true) → Fr n a (depEnvS ops jobs ρ l)
  | [], _ => ⟨hI.fr.size, fun s v h => (by cases h), hI.fr.defers⟩
  | e :: l, h => by
    have ih := fr_depS hI l (fun x hx => h x (List.mem_cons_of_mem _ hx))
    unfold depEnvS
    cases hd : dstOf ops e with
    | none => exact ih
    | some d =>
      cases hj : jobs[e]? with
      | none => exact ih
      | some J =>
        refine ⟨hI.fr.size, fun s v hs => ?_, hI.fr.defers⟩
        simp only at hs
        rw [look_cons] at hs
        split at hs
        · rename_i he
          subst he
          cases hs
          exact hI.vals e J d hj hd (h e (by simp))
        · exact ih.get s v hs
/-- of those that the pattern says have acted, each has -/
theorem pat_listed (hJ : ∀ i, i < D → ∃ o j, ops[i]? = some o ∧ jobs[i]? = some j ∧ JobOKS ops jobs n D m (env0.map (·.1)) i o j) (hDN : D ≤ ops.size) {listed : Array Bool} (hc : ∀ i e, i < D → listed.getD i true = true → edge ops i e = true → e < ops.size → listed.getD e true = true) {q : Nat} (hq : q < m) :
    ∀ (k i : Nat) (j : JobS), i ≤ k → i < D → jobs[i]? = some j → patAt j.pat q = some true → (∀ e, edge ops i e = true → e < ops.size → listed.getD e true = true) → ∃ p J, jobs[p]? = some J ∧ p < i ∧ J.actOf = some q ∧ listed.getD p true = true := by
  intro k
  induction k with
  | zero =>
    intro i j hik hi hj hp hl
    obtain ⟨o, j', ho, hj', hok⟩ := hJ i hi
    rw [hj] at hj'; cases hj'
    obtain ⟨p, J, hpD, he, hJp, _⟩ := hok.t q hq hp
    obtain ⟨o', ho', e, hm, hb, rfl⟩ := edge_iff.1 he
    rw [ho] at ho'; cases ho'
    have := hok.edges e hm hb
    omega
  | succ k ih =>
    intro i j hik hi hj hp hl
    obtain ⟨o, j', ho, hj', hok⟩ := hJ i hi
    rw [hj] at hj'; cases hj'
    obtain ⟨p, J, hpD, he, hJp, hor⟩ := hok.t q hq hp
    have hlt : p < i := by
      obtain ⟨o', ho', e, hm, hb, rfl⟩ := edge_iff.1 he
      rw [ho] at ho'; cases ho'
      exact hok.edges e hm hb
    have hlp := hl p he (by omega)
    rcases hor with h | h
    · exact ⟨p, J, hJp, hlt, h, hlp⟩
    · obtain ⟨p', J', h1, h2, h3, h4⟩ := ih p J (by omega) hpD hJp h (fun e he' heN => hc p e hpD hlp he' heN)
      exact ⟨p', J', h1, by omega, h3, h4⟩
theorem inv_putS {listed : Array Bool} {a : Act} {ρ ρ' : List (Option Value)} {w w' : World} {i : Nat} {o : Oper} {j : JobS} {v : Value} (hI : InvS ops n jobs env0 B w0 S D m listed a ρ w) (hiD : i < D) (hDN : D ≤ ops.size) (hlen : jobs.length = D)
    (ho : ops[i]? = some o) (hj : jobs[i]? = some j) (hok : JobOKS ops jobs n D m (env0.map (·.1)) i o j) (hun : listed.getD i true = false) (hpre : ∀ e, edge ops i e = true → e < ops.size → listed.getD e true = true)
    (hv : o.dst.isSome = true → j.val ρ' = v) (hold : ∀ (i' : Nat) J, jobs[i']? = some J → i' ≠ i → listed.getD i' true = true → J.val ρ' = J.val ρ)
    (hl' : ρ'.length = m) (hy : ∀ q, j.actOf = some q → ∃ v, ρ'[q]? = some (some v)) (hn : ∀ (i' : Nat) J q, jobs[i']? = some J → J.actOf = some q → i' ≠ i → ρ'[q]? = ρ[q]?) (hp : Hp B w0 w' (S ρ')) :
    InvS ops n jobs env0 B w0 S D m (listed.setIfInBounds i true) (a.put o.dst v) ρ' w' := by
  have hsz : i < listed.size := by rw [hI.size]; omega
  have hlist : ∀ k, (listed.setIfInBounds i true).getD k true = if k = i then true else listed.getD k true := fun k => getD_set _ _ _ hsz
  have hjD : ∀ (i' : Nat) J, jobs[i']? = some J → i' < D := fun i' J h => by rw [← hlen]; exact (List.getElem?_eq_some_iff.1 h).1
  refine ⟨by simpa using hI.size, fun k hk hk' => ?_, fun k e hkD hk he heN => ?_, ?_, hl', fun i' J q hJ hk hl => ?_, fun i' J q hJ hk hl => ?_, fun i' J d' hJ hd' hl => ?_, hp⟩
  · rw [hlist, if_neg (by omega)]; exact hI.late k hk hk'
  · rw [hlist] at hk ⊢
    split
    · rfl
    · by_cases hki : k = i
      · subst hki; exact hpre e he heN
      · rw [if_neg hki] at hk; exact hI.closed k e hkD hk he heN
  · rcases hok.dst with ⟨d, hd, hdn, hkey, _⟩ | ⟨hd, _⟩
    · rw [hd]
      refine ⟨by simp [Act.put, hI.fr.size], fun s u hs => ?_, hI.fr.defers⟩
      have hne : d ≠ s := by
        rintro rfl
        apply hkey
        clear hkey
        revert hs
        generalize env0 = l
        induction l with
        | nil => intro hs; cases hs
        | cons p r ih =>
          obtain ⟨k, x⟩ := p
          intro hs
          rw [look_cons] at hs
          split at hs
          · rename_i he; subst he; simp
          · exact List.mem_cons_of_mem _ (ih hs)
      show (a.tmps.setIfInBounds d v)[s]? = some u
      rw [Array.getElem?_setIfInBounds_ne hne]
      exact hI.fr.get s u hs
    · rw [hd]; exact hI.fr
  · rw [hlist] at hl
    by_cases hi : i' = i
    · subst hi
      rw [hj] at hJ; cases hJ
      exact hy q hk
    · rw [if_neg hi] at hl
      rw [hn i' J q hJ hk hi]
      exact hI.yes i' J q hJ hk hl
  · rw [hlist] at hl
    by_cases hi : i' = i
    · rw [if_pos hi] at hl; cases hl
    · rw [if_neg hi] at hl
      rw [hn i' J q hJ hk hi]
      exact hI.no i' J q hJ hk hl
  · rw [hlist] at hl
    by_cases hi : i' = i
    · subst hi
      have e1 : dstOf ops i' = o.dst := by unfold dstOf; rw [ho]; rfl
      rw [e1] at hd'
      rw [hj] at hJ
      cases hJ
      rcases hok.dst with ⟨d, hd, hdn, _⟩ | ⟨hd, _⟩
      · rw [hd] at hd'
        cases hd'
        rw [hd]
        show (a.tmps.setIfInBounds d' v)[d']? = _
        rw [Array.getElem?_setIfInBounds_self_of_lt (by rw [hI.fr.size]; exact hdn), hv (by rw [hd]; rfl)]
      · rw [hd] at hd'; cases hd'
    · rw [if_neg hi] at hl
      rw [hold i' J hJ hi hl]
      rcases hok.dst with ⟨d, hd, hdn, _, hdis⟩ | ⟨hd, _⟩
      · have hne : d ≠ d' := fun e => hdis i' (hjD i' J hJ) hi (e ▸ hd')
        rw [hd]
        show (a.tmps.setIfInBounds d v)[d']? = _
        rw [Array.getElem?_setIfInBounds_ne hne]
        exact hI.vals i' J d' hJ hd' hl
      · rw [hd]; exact hI.vals i' J d' hJ hd' hl
theorem preds_edge {i e : Nat} (h : e ∈ preds ops i) : edge ops i e = true := by
  unfold preds at h
  cases ho : ops[i]? with
  | none => simp [ho] at h
  | some o =>
    simp only [ho, List.mem_map, List.mem_filter] at h
    obtain ⟨x, ⟨h1, h2⟩, rfl⟩ := h
    exact edge_iff.2 ⟨o, ho, x, by simpa using h1, h2, rfl⟩
theorem clos_listed {listed : Array Bool} (hDN : D ≤ ops.size) (hc : ∀ i e, i < D → listed.getD i true = true → edge ops i e = true → e < ops.size → listed.getD e true = true) : ∀ (k : Nat) (S : List Nat), k ≤ D → (∀ e ∈ S, e < ops.size → listed.getD e true = true) → ∀ e ∈ clos ops k S, e < ops.size → listed.getD e true = true
  | 0, S, _, h, e, he, heN => h e he heN
  | k + 1, S, hk, h, e, he, heN => by
    unfold clos at he
    refine clos_listed hDN hc k _ (by omega) (fun e he heN => ?_) e he heN
    cases hS : S.elem k with
    | false => rw [hS] at he; exact h e he heN
    | true =>
      rw [hS] at he
      rcases List.mem_append.1 he with he | he
      · exact hc k e (by omega) (h k (List.elem_iff.1 hS) (by omega)) (preds_edge he) heN
      · exact h e he heN
theorem par_mainS (hDN : D ≤ ops.size) (hlen : jobs.length = D) (hJ : ∀ i, i < D → ∃ o j, ops[i]? = some o ∧ jobs[i]? = some j ∧ JobOKS ops jobs n D m (env0.map (·.1)) i o j)
    (hlate : ∀ i, D ≤ i → i < ops.size → (∀ j, j < D → j ∈ clos ops D (preds ops i)) ∨ ∃ j, D ≤ j ∧ j < ops.size ∧ edge ops i j = true)
    (hOb : AllObS P ops Q n jobs env0 B w0 S ops.toList jobs) 
    (hend : ∀ a ρ w, InvS ops n jobs env0 B w0 S D m (firstK D ops.size) a ρ w → wpAny P .any ops Q (ops.size - D) (firstK D ops.size) a w) :
    ∀ (f : Nat) (listed : Array Bool) (a : Act) (ρ : List (Option Value)) (w : World), unl listed ops.size = f → InvS ops n jobs env0 B w0 S D m listed a ρ w → wpAny P .any ops Q f listed a w := by
  have hjD : ∀ (i' : Nat) J, jobs[i']? = some J → i' < D := fun i' J h => by rw [← hlen]; exact (List.getElem?_eq_some_iff.1 h).1
  have fin : ∀ (f : Nat) (listed : Array Bool) (a : Act) (ρ : List (Option Value)) (w : World), unl listed ops.size = f → InvS ops n jobs env0 B w0 S D m listed a ρ w → (∀ i, i < D → listed.getD i true = true) → wpAny P .any ops Q f listed a w := by
    intro f listed a ρ w hf hI hall
    have he := eq_firstK hI.size hDN hall hI.late
    have hun := unl_all listed D hall (fun i h1 h2 => hI.late i h1 (by rw [← hI.size]; exact h2)) ops.size (by rw [hI.size]; exact Nat.le_refl _)
    rw [hun] at hf
    subst hf
    rw [he] at hI ⊢
    exact hend a ρ w hI
  intro f
  induction f with
  | zero =>
    intro listed a ρ w hf hI
    refine fin 0 listed a ρ w hf hI (fun i hi => ?_)
    cases hc : listed.getD i true with
    | true => rfl
    | false =>
      have := unl_set listed i hc ops.size (by omega)
      omega
  | succ f ih =>
    intro listed a ρ w hf hI
    by_cases hall : ∀ i, i < D → listed.getD i true = true
    · exact fin (f + 1) listed a ρ w hf hI hall
    have hex : ∃ i, i < D ∧ listed.getD i true = false := by
      apply Classical.byContradiction
      intro hno
      apply hall
      intro i hi
      cases hc : listed.getD i true with
      | true => rfl
      | false => exact absurd ⟨i, hi, hc⟩ hno
    have hready : ∃ i, i ∈ Region.ready .any ops listed := by
      obtain ⟨i0, hi0, hu0⟩ := hex
      have key : ∀ k i, i ≤ k → i < D → listed.getD i true = false → ∃ i, i ∈ Region.ready .any ops listed := by
        intro k
        induction k with
        | zero =>
          intro i hik hi hu
          obtain ⟨o, j, ho, hj, hok⟩ := hJ i hi
          exact ⟨i, mem_ready.2 ⟨hu, o, ho, fun e he hb => by have := hok.edges e he hb; omega⟩⟩
        | succ k ihk =>
          intro i hik hi hu
          obtain ⟨o, j, ho, hj, hok⟩ := hJ i hi
          by_cases hr : ∀ e ∈ o.after, Region.binds .any e = true → listed.getD e.on false = true
          · exact ⟨i, mem_ready.2 ⟨hu, o, ho, hr⟩⟩
          · have : ∃ e ∈ o.after, Region.binds .any e = true ∧ listed.getD e.on false = false := by
              apply Classical.byContradiction
              intro hno
              apply hr
              intro e he hb
              cases hc : listed.getD e.on false with
              | true => rfl
              | false => exact absurd ⟨e, he, hb, hc⟩ hno
            obtain ⟨e, he, hb, hc⟩ := this
            have hlt := hok.edges e he hb
            have hin : e.on < listed.size := by rw [hI.size]; omega
            refine ihk e.on (by omega) (by omega) ?_
            simpa [hin] using hc
      exact key i0 i0 (Nat.le_refl _) hi0 hu0
    refine ⟨fun h0 => (by obtain ⟨i, hi⟩ := hready; rw [h0] at hi; simp at hi), fun i hi => ?_⟩
    have hun : listed.getD i true = false := (mem_ready.1 hi).1
    have hiN : i < ops.size := by
      obtain ⟨_, o, ho, _⟩ := mem_ready.1 hi
      exact (Array.getElem?_eq_some_iff.1 ho).1
    have hlt : ∀ e, e < ops.size → listed.getD e false = listed.getD e true := fun e he => by
      have : e < listed.size := by rw [hI.size]; exact he
      simp [this]
    have hdepl : ∀ e, edge ops i e = true → e < ops.size → listed.getD e true = true := fun e he heN => by
      rw [← hlt e heN]; exact ready_listed hi he
    have hiD : i < D := by
      apply Classical.byContradiction
      intro hge
      rcases hlate i (by omega) hiN with h | ⟨j, hjD', hjN, he⟩
      · obtain ⟨k, hk, hku⟩ := hex
        have := clos_listed (D := D) (ops := ops) hDN hI.closed D (preds ops i) (Nat.le_refl _) (fun e he heN => hdepl e (preds_edge he) heN) k (h k hk) (by omega)
        rw [hku] at this
        cases this
      · have h1 := hdepl j he hjN
        rw [hI.late j hjD' hjN] at h1
        cases h1
    obtain ⟨o, j, ho, hj, hok⟩ := hJ i hiD
    have hob := hOb.at_ i o j (by simpa using ho) hj
    have hFr : Fr n a (depEnvS ops jobs ρ j.deps ++ env0) := Fr.app (fr_depS hI j.deps (fun e he => hdepl e (hok.deps e he).2 (by have := (hok.deps e he).1; omega))) hI.fr
    have hf' : unl (listed.setIfInBounds i true) ops.size = f := by
      have := unl_set listed i hun ops.size hiN
      omega
    have hm_of : ∀ q, patAt j.pat q ≠ none → q < m := by
      intro q hq
      rw [← hok.len]
      revert hq
      generalize j.pat = l
      intro hq
      apply Classical.byContradiction
      intro hge
      apply hq
      have : ∀ (l : List (Option Bool)) (q : Nat), l.length ≤ q → patAt l q = none := by
        intro l
        induction l with
        | nil => intro q _; rfl
        | cons x r ih =>
          intro q h
          cases q with
          | zero => simp at h
          | succ q => exact ih q (by simpa using h)
      exact this l q (by omega)
    have hfit : FitsP j.pat ρ := by
      refine fits_of (by rw [hI.len, hok.len]) (fun q hq => ?_) (fun q hq => ?_)
      · obtain ⟨p, J, h1, _, h3, h4⟩ := pat_listed hJ hDN hI.closed (hm_of q (by rw [hq]; simp)) i i j (Nat.le_refl _) hiD hj hq hdepl
        exact hI.yes p J q h1 h3 h4
      · obtain ⟨qi, hk, hor⟩ := hok.f q (hm_of q (by rw [hq]; simp)) hq
        rcases hor with rfl | ⟨J, hJm, hJk, hJp⟩
        · exact hI.no i j qi hj hk hun
        · obtain ⟨p, hp⟩ := List.getElem?_of_mem hJm
          refine hI.no p J q hp hJk ?_
          cases hl : listed.getD p true with
          | false => rfl
          | true =>
            obtain ⟨o', J', ho', hJ', hok'⟩ := hJ p (hjD p J hp)
            obtain ⟨p', J2, h1, _, h3, h4⟩ := pat_listed hJ hDN hI.closed (hok.act qi hk).1 p p J (Nat.le_refl _) (hjD p J hp) hp hJp (fun e he heN => hI.closed p e (hjD p J hp) hl he heN)
            by_cases hpi : p' = i
            · subst hpi; rw [hun] at h4; cases h4
            · exact absurd h3 ((hok.act qi hk).2.2 p' J2 (hjD p' J2 h1) hpi h1)
    unfold wpOp
    simp only [ho]
    cases hk : j.kind with
    | quiet =>
      unfold ObS at hob
      simp only [hk] at hob
      obtain ⟨hw, hrun⟩ := hob.fit hfit
      rw [if_pos (hFr.wants hw)]
      refine .inl ?_
      unfold Oper.wp
      rw [hrun a w hI.hp hFr, Oper.upon_value]
      exact ih _ _ ρ w hf' (inv_putS hI hiD hDN hlen ho hj hok hun hdepl (fun _ => by simp [JobS.val, hk]) (fun _ _ _ _ _ => rfl) hI.len (fun q h => by simp [JobS.actOf, hk] at h) (fun _ _ _ _ _ _ => rfl) hI.hp)
    | skip =>
      unfold ObS at hob
      simp only [hk] at hob
      obtain ⟨hw, hv⟩ := hob.fit hfit
      rw [if_neg (by rw [hFr.wants hw]; simp)]
      exact ih _ _ ρ w hf' (inv_putS hI hiD hDN hlen ho hj hok hun hdepl (fun _ => by simp [JobS.val, hk, hv]) (fun _ _ _ _ _ => rfl) hI.len (fun q h => by simp [JobS.actOf, hk] at h) (fun _ _ _ _ _ _ => rfl) hI.hp)
    | act q =>
      unfold ObS at hob
      simp only [hk] at hob
      obtain ⟨hw, hrun⟩ := hob.fit hfit
      rw [if_pos (hFr.wants hw)]
      have hka : j.actOf = some q := by simp [JobS.actOf, hk]
      obtain ⟨hqm, hqf, huniq⟩ := hok.act q hka
      refine .inl (hrun a w hI.hp hFr _ fun v w' hp => ?_)
      have hql : q < ρ.length := by rw [hI.len]; exact hqm
      refine ih _ _ (setq ρ q v) w' hf' (inv_putS hI hiD hDN hlen ho hj hok hun hdepl (fun _ => ?_) (fun i' J hJ' hne hl => ?_) (by rw [setq_len]; exact hI.len) (fun q' h => ?_) (fun i' J q' hJ' hk' hne => ?_) hp)
      · unfold JobS.val
        simp only [hk]
        exact atq_of (by rw [setq_at, if_pos rfl, if_pos hql])
      · -- what is listed does not lean on it
        have hnt : patAt J.pat q ≠ some true := fun hp => by
          obtain ⟨p', J2, h1, h2, h3, h4⟩ := pat_listed hJ hDN hI.closed hqm i' i' J (Nat.le_refl _) (hjD i' J hJ') hJ' hp (fun e he heN => hI.closed i' e (hjD i' J hJ') hl he heN)
          by_cases hpi : p' = i
          · subst hpi; rw [hun] at h4; cases h4
          · exact huniq p' J2 (hjD p' J2 h1) hpi h1 h3
        unfold JobS.val
        cases hk2 : J.kind with
        | act q2 =>
          have : q2 ≠ q := fun e => by subst e; exact huniq i' J (hjD i' J hJ') hne hJ' (by simp [JobS.actOf, hk2])
          exact atq_set this
        | actv q2 => simp only [mask_set hnt]
        | quiet => simp only [mask_set hnt]
        | skip => simp only [mask_set hnt]
      · rw [hka] at h; cases h
        exact ⟨v, by rw [setq_at, if_pos rfl, if_pos hql]⟩
      · rw [setq_at, if_neg (fun e => by subst e; exact huniq i' J (hjD i' J hJ') hne hJ' hk')]
    | actv q =>
      unfold ObS at hob
      simp only [hk] at hob
      obtain ⟨hw, hrun⟩ := hob.fit hfit
      rw [if_pos (hFr.wants hw)]
      have hka : j.actOf = some q := by simp [JobS.actOf, hk]
      obtain ⟨hqm, hqf, huniq⟩ := hok.act q hka
      refine .inl (hrun a w hI.hp hFr _ fun v w' hp => ?_)
      have hql : q < ρ.length := by rw [hI.len]; exact hqm
      refine ih _ _ (setq ρ q v) w' hf' (inv_putS hI hiD hDN hlen ho hj hok hun hdepl (fun _ => ?_) (fun i' J hJ' hne hl => ?_) (by rw [setq_len]; exact hI.len) (fun q' h => ?_) (fun i' J q' hJ' hk' hne => ?_) hp)
      · unfold JobS.val
        simp only [hk]
        rw [mask_set (by rw [hqf]; simp)]
      · -- what is listed does not lean on it
        have hnt : patAt J.pat q ≠ some true := fun hp => by
          obtain ⟨p', J2, h1, h2, h3, h4⟩ := pat_listed hJ hDN hI.closed hqm i' i' J (Nat.le_refl _) (hjD i' J hJ') hJ' hp (fun e he heN => hI.closed i' e (hjD i' J hJ') hl he heN)
          by_cases hpi : p' = i
          · subst hpi; rw [hun] at h4; cases h4
          · exact huniq p' J2 (hjD p' J2 h1) hpi h1 h3
        unfold JobS.val
        cases hk2 : J.kind with
        | act q2 =>
          have : q2 ≠ q := fun e => by subst e; exact huniq i' J (hjD i' J hJ') hne hJ' (by simp [JobS.actOf, hk2])
          exact atq_set this
        | actv q2 => simp only [mask_set hnt]
        | quiet => simp only [mask_set hnt]
        | skip => simp only [mask_set hnt]
      · rw [hka] at h; cases h
        exact ⟨v, by rw [setq_at, if_pos rfl, if_pos hql]⟩
      · rw [setq_at, if_neg (fun e => by subst e; exact huniq i' J (hjD i' J hJ') hne hJ' hk')]
theorem parOKS_parts {keys : List Nat} (h : parOKS ops jobs n D m keys = true) : D ≤ ops.size ∧ jobs.length = D ∧ (∀ i, i < D → jobOKS ops jobs n D m keys i = true) ∧ (∀ i, D ≤ i → i < ops.size → (∀ j, j < D → j ∈ clos ops D (preds ops i)) ∨ ∃ j, D ≤ j ∧ j < ops.size ∧ edge ops i j = true) ∧
    (∀ t, D ≤ t → t < ops.size → Region.ready .any ops (firstK t ops.size) = [t]) ∧ (∀ q, q < m → ∃ (p : Nat) (J : JobS), jobs[p]? = some J ∧ J.actOf = some q) := by
  unfold parOKS at h
  simp only [Bool.and_eq_true] at h
  obtain ⟨⟨⟨⟨⟨h1, h2⟩, h3⟩, h4⟩, h5⟩, h6⟩ := h
  refine ⟨Nat.le_of_ble_eq_true h1, beq_iff.1 h2, fun i hi => List.all_eq_true.1 h3 i (by simpa using hi), fun i hiD hiN => ?_, fun t htD htN => ?_, fun q hq => ?_⟩
  · have := List.all_eq_true.1 h4 i (by simpa using hiN)
    simp only [Bool.or_eq_true] at this
    rcases this with h | h
    · have := blt_lt h; omega
    · unfold lateOKS at h
      simp only [Bool.or_eq_true] at h
      rcases h with h | h
      · exact .inl fun j hj => List.elem_iff.1 (List.all_eq_true.1 h j (by simpa using hj))
      · obtain ⟨j, hj1, hj2⟩ := List.any_eq_true.1 h
        simp only [Bool.and_eq_true] at hj2
        exact .inr ⟨j, Nat.le_of_ble_eq_true hj2.1, by simpa using hj1, hj2.2⟩
  · have := List.all_eq_true.1 h5 (t - D) (by simp; omega)
    rw [show D + (t - D) = t by omega] at this
    exact eq_of_beq this
  · obtain ⟨J, hJ1, hJ2⟩ := List.any_eq_true.1 (List.all_eq_true.1 h6 q (by simpa using hq))
    obtain ⟨p, hp⟩ := List.getElem?_of_mem hJ1
    exact ⟨p, J, hp, eqAct_iff.1 hJ2⟩
def finEnvS (ops : Array Oper) (jobs : List JobS) (ρ : List (Option Value)) (D : Nat) : List (Nat × Value) := depEnvS ops jobs ρ (List.range D)
theorem patAt_rep : ∀ (m q : Nat), patAt (List.replicate m (some true)) q = some true → q < m
  | 0, q, h => by simp [patAt] at h
  | m + 1, 0, _ => by omega
  | m + 1, q + 1, h => by have := patAt_rep m q h; omega
theorem patAt_repF : ∀ (m q : Nat), patAt (List.replicate m (some true)) q ≠ some false
  | 0, q => by simp [patAt]
  | m + 1, 0 => by simp [List.replicate_succ, patAt]
  | m + 1, q + 1 => patAt_repF m q
/-- THE REGION -/
theorem d_parS {id : Nat} {env : List (Nat × Value)} {os : List Ass} (D m : Nat) (jobs : List JobS) (env0 : List (Nat × Value)) (S : List (Option Value) → List Ass) (hmix : P.follows .mixedOrders = true) (hok : parOKS ops jobs n D m (env0.map (·.1)) = true) (hs : Sub env env0) (hS : os = S (List.replicate m none))
    (hOb : AllObS P ops Q n jobs env0 B w0 S ops.toList jobs)
    (hend : AllP (List.replicate m (some true)) fun ρ => WL2 P ops Q n (finEnvS ops jobs ρ D ++ env0) B w0 (S ρ) (ops.toList.drop D)) : WC2 P Q n env B w0 os (.region id ops true) := fun a w hF hH => by
  obtain ⟨hDN, hlen, hJ, hlate, hr, hm⟩ := parOKS_parts hok
  refine wp_region_any hmix ?_
  have hz : ∀ i, i < ops.size → (Array.replicate ops.size false).getD i true = false := fun i hi => by simp [hi]
  have hjN : ∀ (i : Nat) j, jobs[i]? = some j → i < ops.size := fun i j h => by have := (List.getElem?_eq_some_iff.1 h).1; omega
  have hinit : InvS ops n jobs env0 B w0 S D m (Array.replicate ops.size false) a (List.replicate m none) w.drew := by
    refine ⟨by simp, fun i _ hi => hz i hi, fun i e hi hl => ?_, hF.keep hs, by simp, fun i j q hj _ hl => ?_, fun i j q hj hk _ => ?_, fun i j d hj _ hl => ?_, by rw [← hS]; exact hH.drew⟩
    · rw [hz i (by omega)] at hl; cases hl
    · rw [hz i (hjN i j hj)] at hl; cases hl
    · obtain ⟨o, j', ho, hj', hok'⟩ := jobOKS_iff (hJ i (by rw [← hlen]; exact (List.getElem?_eq_some_iff.1 hj).1))
      rw [hj] at hj'; cases hj'
      have := (hok'.act q hk).1
      simp [this]
    · rw [hz i (hjN i j hj)] at hl; cases hl
  have hunl : unl (Array.replicate ops.size false) ops.size = ops.size := by
    have := unl_all (Array.replicate ops.size false) 0 (fun i h => by omega) (fun i _ h => hz i (by simpa using h)) ops.size (by simp)
    simpa using this
  refine par_mainS hDN hlen (fun i hi => jobOKS_iff (hJ i hi)) hlate hOb (fun a ρ w hI => ?_) ops.size _ a _ w.drew hunl hinit
  refine any_list hr (ops.size - D) D a w (by omega) (Nat.le_refl _) ?_
  have hl : ∀ i, i < D → (firstK D ops.size).getD i true = true := fun i hi => by rw [firstK_get (by omega)]; simpa using hi
  have hjD : ∀ (i : Nat) j, jobs[i]? = some j → i < D := fun i j h => by rw [← hlen]; exact (List.getElem?_eq_some_iff.1 h).1
  have hfit : FitsP (List.replicate m (some true)) ρ := fits_of (by rw [hI.len]; simp) (fun q hq => by
    obtain ⟨p, J, hp, hk⟩ := hm q (patAt_rep m q hq)
    exact hI.yes p J q hp hk (hl p (hjD p J hp))) (fun q hq => absurd hq (patAt_repF m q))
  exact hend.fit hfit a w (Fr.app (fr_depS hI _ (fun e he => hl e (by simpa using he))) hI.fr) hI.hp
end
end Go.Proofs.Ytikcleaicbihfaa.Sep

namespace Go.Proofs.Ytikcleaicbihfaa.Sep
open Go.RowKit
open Go.Proofs.Ytikcleaicbihfaa.Mem (Dist Blk Chg)
open Go.Proofs.Ytikcleaicbihfaa.Mem (below0)
theorem cmp_lss_t {p q : Int} (h : p < q) : cmpB .lss p q = some true := congrArg some (decide_eq_true h)
theorem cmp_lss_f {p q : Int} (h : ¬ p < q) : cmpB .lss p q = some false := congrArg some (decide_eq_false h)
theorem cmp_gtr_t {p q : Int} (h : p > q) : cmpB .gtr p q = some true := congrArg some (decide_eq_true h)
theorem cmp_gtr_f {p q : Int} (h : ¬ p > q) : cmpB .gtr p q = some false := congrArg some (decide_eq_false h)
theorem cmp_eql_t {p q : Int} (h : p = q) : cmpB .eql p q = some true := by subst h; simp [cmpB]
theorem cmp_eql_f {p q : Int} (h : p ≠ q) : cmpB .eql p q = some false := by simp [cmpB, h]
theorem cmp_neq_t {p q : Int} (h : p ≠ q) : cmpB .neq p q = some true := by simp [cmpB, h]
theorem cmp_neq_f {p q : Int} (h : p = q) : cmpB .neq p q = some false := by subst h; simp [cmpB]
theorem sliceT_of {P : Program} {t e : TypeId} {k : Nat} {z : Value} (hu : P.underlying t = some (.slice e)) (hi : (P.info? e).map (fun i => (i.zero, i.size, Nat.ble i.bytes 4096)) = some (some z, k, true)) (hz : z.cells.size = k) (h1 : oneL z.cells.toList = true) (hp : 0 < k) : SliceT P t e k := by
  refine ⟨hu, ?_, hp⟩
  cases hq : P.info? e with
  | none => simp [hq] at hi
  | some i =>
    simp only [hq, Option.map_some, Option.some.injEq, Prod.mk.injEq] at hi
    exact ⟨i, z, rfl, hi.1, hi.2.1, Nat.le_of_ble_eq_true hi.2.2, hz, fun u hu => List.all_eq_true.1 (oneL_all h1) u hu⟩
section
variable {P : Program} {Q : Exit → Act → World → Prop} {n : Nat} {B : Nat → Prop} {w0 w : World} {os : List Ass} {env : List (Nat × Value)} {o : Oper} {a : Act}
theorem Acts.place {X : Type} {val : X → Value} {t : X → Ass} {os' : X → List Ass} (pl : Nat) (hi : os[pl]? = some emp) (h : Acts P Q n env B w0 os o val (fun x => t x :: os)) (he : ∀ x, os.set pl (t x) = os' x) : Acts P Q n env B w0 os o val os' := h.imp fun x rs hp => by
  obtain ⟨a, b, e, h1, h2⟩ := hp
  obtain ⟨c, d, f, e2, h3, h4⟩ := h2.at_ hi
  unfold emp at h3
  subst h3; subst e2; subst e
  refine ⟨c ++ (a ++ f), ?_, he x ▸ h4 _ a h1⟩
  rw [List.nil_append, ← List.append_assoc, ← List.append_assoc]
  exact List.perm_append_comm.append_right f
theorem exec_pnil_eql {T T' : TypeId} (hT : P.underlying T = some (.pointer (P.pointee T))) {x y : Operand} {p : Addr} (ho : o.op = .binOp .eql T x y T') (hx : evs env x = some (.pointer (some p))) (hy : evs env y = some (.pointer none)) (hF : Fr n a env) : (execOp a.eval o).run P w = .ok (.value (.bool false)) w := by
  unfold execOp
  simp only [ho, hF.evs hx, hF.evs hy]
  simp [eqGuard, run_eql_pointer_nil w T (some p) hT]
end
section
variable {P : Program} {Q : Exit → Act → World → Prop} {n : Nat} {B : Nat → Prop} {w0 w : World} {os : List Ass} {env : List (Nat × Value)} {o : Oper} {act : Act}
variable {t e : TypeId} {k : Nat} {α : Type} {enc : α → List Value} {u : Value} {m : List α} {X : Ass}
/-- what a slice reads as, where it lies in a thing X -/
def Rd (X : Ass) (k : Nat) (enc : α → List Value) (u : Value) (m : List α) : Prop := ∀ rs w, X rs → RowsOf w rs → SlRd w k u m.length (flat enc m)
theorem Hp.rd (h : Hp B w0 w os) (i : Nat) (hi : os[i]? = some X) (hu : Rd X k enc u m) : SlRd w k u m.length (flat enc m) := by
  obtain ⟨rs, h1, h2⟩ := h.thing i hi
  exact hu rs w h1 h2
end
/-! ## Encodings of one cell -/
def encU (z : Int) : List Value := [.int .u64 z]
def encB (b : UInt8) : List Value := [.int .u8 (b.toNat : Int)]
theorem okU : EncOf 1 encU := ⟨fun _ => rfl, fun x v h => by unfold encU at h; simp at h; subst h; rfl⟩
theorem okB : EncOf 1 encB := ⟨fun _ => rfl, fun x v h => by unfold encB at h; simp at h; subst h; rfl⟩
end Go.Proofs.Ytikcleaicbihfaa.Sep

namespace Go.Proofs.Ytikcleaicbihfaa.Sep
open Go.ChangeShapes Go.WideShapes Go.ChangeAt Go.RowKit
section
variable {H : Type} {enc : TypeId × Value → H} {P : Program}
theorem spot0 {w : World} {a : Addr} {v : Value} (h : w.cell? a = some v) : a = ⟨a.block, a.off, none⟩ := by
  obtain ⟨b, o, s⟩ := a
  have : s = none := by simpa using World.cell?_spot h
  subst this
  rfl
theorem flat_pick {α : Type} {k : Nat} {enc' : α → List Value} (he : EncOf k enc') (hk : 0 < k) {l : List α} {q : Nat} {x : Value} (h : (flat enc' l)[q]? = some x) : ∃ y, l[q / k]? = some y ∧ (enc' y)[q % k]? = some x := by
  have hlt : q < l.length * k := by rw [← flat_len he]; exact (List.getElem?_eq_some_iff.1 h).1
  have hi : q / k < l.length := Nat.div_lt_of_lt_mul (by rwa [Nat.mul_comm])
  refine ⟨l[q / k], List.getElem?_eq_getElem hi, ?_⟩
  rw [← flat_get he (List.getElem?_eq_getElem hi) (Nat.mod_lt q hk), ← h]
  congr 1
  rw [Nat.mul_comm]
  exact Nat.div_add_mod q k
end
section
variable {P : Program} {n : Nat} {w : World} {env : List (Nat × Value)} {o : Oper} {act : Act} {t e : TypeId} {k : Nat} {α : Type} {enc : α → List Value} {u : Value} {m : List α}
theorem SlRd.at_ (he : EncOf k enc) (hk : 0 < k) (hu : SlRd w k u m.length (flat enc m)) {j : Nat} {a : α} (hj : m[j]? = some a) : ∃ g off c, u = .slice (some ⟨g, off, none⟩) m.length c ∧ ∀ q x, (enc a)[q]? = some x → w.cell? ⟨g, off + j * k + q, none⟩ = some x := by
  obtain ⟨_, A, c, rfl, hA⟩ := hu
  rcases hA with ⟨_, h0⟩ | ⟨b, rfl, hc⟩
  · rw [List.length_eq_zero_iff.1 h0] at hj; simp at hj
  · obtain ⟨z, hz⟩ : ∃ z, (flat enc m)[0]? = some z := ⟨_, List.getElem?_eq_getElem (by
      rw [flat_len he]
      have := (List.getElem?_eq_some_iff.1 hj).1
      exact Nat.mul_pos (by omega) hk)⟩
    have h0 := hc 0 z hz
    rw [show b.add 0 = b by simp [Addr.add]] at h0
    have hb := spot0 h0
    refine ⟨b.block, b.off, c, by rw [← hb], fun q x hx => ?_⟩
    have hq : q < k := by rw [← he.len a]; exact (List.getElem?_eq_some_iff.1 hx).1
    have := hc (j * k + q) x ((flat_get he hj hq).trans hx)
    rw [hb, Addr.add_lit] at this
    rw [Nat.add_assoc]
    exact this
theorem e_slen (hu : SlRd w k u m.length (flat enc m)) (hT : P.underlying t = some (.slice e)) {x : Operand} (ho : o.op = .call { callee := .builtin .len, args := #[x], argTypes := #[t] }) (hx : evs env x = some u) (hF : Fr n act env) : (execOp act.eval o).run P w = .ok (.value (.int .i64 (m.length : Int))) w := by
  obtain ⟨_, A, c, rfl, _⟩ := hu
  exact exec_bi ho (vs := [.slice A m.length c]) (by simp [evl, hx]) (fun cs => run_len_slice hT A _ c _ w cs) hF
theorem e_sidx (he : EncOf k enc) (hu : SlRd w k u m.length (flat enc m)) (hT : SliceT P t e k) {j : Nat} {a : α} (hj : m[j]? = some a) {x y : Operand} {kk : IntKind} (ho : o.op = .indexAddr t x y) (hx : evs env x = some u) (hy : evs env y = some (.int kk (j : Int))) (hF : Fr n act env) : (execOp act.eval o).run P w = .ok (.value (elp u (j * k))) w := by
  obtain ⟨g, off, c, rfl, _⟩ := hu.at_ he hT.pos hj
  have hs : (sizeOf e).run P w = .ok k w := hT.sizeOf w
  have hlt : (0 : Int) ≤ (j : Int) ∧ (j : Int) < (m.length : Int) := by have := (List.getElem?_eq_some_iff.1 hj).1; omega
  unfold execOp
  simp only [ho, hF.evs hx, hF.evs hy, Instr.indexAt, asIntOf, Sem.run_bind, Sem.run_pure, Result.andThen_ok, run_underlying hT.ht w]
  simp [hlt, hs, elp, Addr.add_lit]
theorem e_sload (he : EncOf k enc) (hk : 0 < k) (hu : SlRd w k u m.length (flat enc m)) {j : Nat} {a : α} (hj : m[j]? = some a) {T : TypeId} (hO : OneOf P T) {off : Nat} {c : Value} (hc : (enc a)[off]? = some c) {x : Operand} (ho : o.op = .load T x) (hx : evs env x = some (elp u (j * k + off))) (hF : Fr n act env) : (execOp act.eval o).run P w = .ok (.value c) w := by
  obtain ⟨g, b, cap, rfl, hcell⟩ := hu.at_ he hk hj
  have h1 := hcell off c hc
  have hx' : evs env x = some (.pointer (some ⟨g, b + j * k + off, none⟩)) := by rw [hx]; simp [elp, Nat.add_assoc]
  unfold execOp
  simp only [ho, hF.evs hx', Instr.loadAt, Instr.sureAddr, Sem.run_bind, Sem.run_pure, Result.andThen_ok, loadVar, hO.1]
  simp [run_load, h1]
theorem e_sagg (he : EncOf k enc) (hk : 0 < k) (hu : SlRd w k u m.length (flat enc m)) {j : Nat} {a : α} (hj : m[j]? = some a) {T : TypeId} (hA : AggOf P T k) {x : Operand} (ho : o.op = .load T x) (hx : evs env x = some (elp u (j * k))) (hF : Fr n act env) : (execOp act.eval o).run P w = .ok (.value (.agg (enc a).toArray)) w := by
  obtain ⟨g, b, cap, rfl, hcell⟩ := hu.at_ he hk hj
  have hx' : evs env x = some (.pointer (some ⟨g, b + j * k, none⟩)) := by rw [hx]; simp [elp]
  have h := run_loadCells_list (P := P) w ⟨g, b + j * k, none⟩ (enc a) (fun q v hv => by rw [Addr.add_lit]; exact hcell q v hv)
  rw [he.len a] at h
  have hl : (loadVar T ⟨g, b + j * k, none⟩).run P w = .ok (.agg (enc a).toArray) w := by
    simp [loadVar, Sem.run_bind, hA.1, hA.2, h]
  unfold execOp
  simp only [ho, hF.evs hx', Instr.loadAt, Instr.sureAddr, Sem.run_bind, Sem.run_pure, Result.andThen_ok, hl]
end
end Go.Proofs.Ytikcleaicbihfaa.Sep

namespace Go.Proofs.Ytikcleaicbihfaa.Sep
open Go.RowKit
open Go.Proofs.Ytikcleaicbihfaa.Mem (Dist Blk Chg)
def DoesU {X : Type} (u : World) (P : Program) (F : FuncId) (args : Array Value) (pre : List Ass) (val : X → Value) (post : X → List Ass) : Prop :=
  ∀ w rs, Below u.heap.size u w → (∀ x ∈ rs, u.heap.size ≤ x.1) → Parts pre rs → RowsOf w rs → Dist rs → Calls P F args w fun e w' => ∃ x, e = .returned (val x) ∧ ∃ rs', Parts (post x) rs' ∧ Chg w w' rs rs'
section
variable {P : Program} {B : Nat → Prop} {u w0 w w' : World} {os : List Ass}
theorem Hp.give2 (h : Hp B w0 w os) (ids : List Nat) (hn : ids.Nodup) : ∃ x, (∀ r ∈ x, r.1 < w0.heap.size → B r.1) ∧ Parts (selA ids os) x ∧ RowsOf w x ∧ Dist x ∧ ∀ (post : List Ass) (y : List RowT) (w' : World), Parts post y → Chg w w' x y → Hp B w0 w' (post ++ rstA ids os) := by
  obtain ⟨rs, h1, h2⟩ := h.perm (perm_sel (os := os) hn).symm
  obtain ⟨a, b, e, h3, h4⟩ := h1.split
  subst e
  have hd := dist_iff.1 h2.apart
  rw [List.map_append] at hd
  exact ⟨a, fun r hr => h2.own r (by simp [hr]), h3, rows_iff.2 fun z hz => h2.rows.mem z (by simp [hz]), dist_iff.2 (List.nodup_append.1 hd).1, fun post y w' hy hch => ⟨y ++ b, hy.app h4, hp_chg h2 hch⟩⟩
theorem DoesU.pad {X : Type} {F : FuncId} {args : Array Value} {pre : List Ass} {val : X → Value} {post : X → List Ass} (h : DoesU u P F args pre val post) (k : Nat) : DoesU u P F args (pre ++ List.replicate k emp) val post := fun w rs hu hs h1 h2 h3 => by
  obtain ⟨a, b, e, ha, hb⟩ := h1.split
  have := parts_emp.1 hb
  subst this
  rw [List.append_nil] at e
  subst e
  exact h w _ hu hs ha h2 h3
theorem DoesU.calls {X : Type} {F : FuncId} {vs : List Value} {pre : List Ass} {val : X → Value} {post : X → List Ass} (hU : Below u.heap.size u w0) (hS : ∀ k, B k → u.heap.size ≤ k) (ids : List Nat) (hc : DoesU u P F vs.toArray pre val post) (hp : selA ids os = pre) (hn : ids.Nodup) (h : Hp B w0 w os) : Calls P F vs.toArray w fun e w' => ∃ x, e = .returned (val x) ∧ Hp B w0 w' (post x ++ rstA ids os) := by
  subst hp
  have hm : Below u.heap.size w0 w := h.up.below hU.size hS
  obtain ⟨x, h0, h1, h2, h3, h4⟩ := h.give2 ids hn
  refine (hc w x (hU.trans hm) (fun r hr => ?_) h1 h2 h3).mono fun e w' ⟨v, he, y, hy, hch⟩ => ⟨v, he, h4 _ y w' hy hch⟩
  by_cases hlt : r.1 < w0.heap.size
  · exact hS _ (h0 r hr hlt)
  · have := hU.size
    omega
variable {Q : Exit → Act → World → Prop} {n : Nat} {env : List (Nat × Value)} {o : Oper}
end
end Go.Proofs.Ytikcleaicbihfaa.Sep

namespace Go.Proofs.Ytikcleaicbihfaa
open Go.RowKit

theorem tyU8 : U8 Try.prog 22 5 := ⟨Try.underlying22, Try.underlying5, by kernel_rfl⟩

theorem clone_any {S : Nat → Prop} (w : World) (A : Option Addr) (c : Nat) (l : List UInt8) (h : Bs S w A c l) (hl : l.length ≤ 140737488355328) :
    Calls Try.prog 20 #[.slice A l.length c] w fun e w' => ∃ v', e = .returned v' ∧ Own 5 w' w.heap.size v' l ∧ Below w.heap.size w w' := by
  have q : ∀ (W : World) (a : Option Addr) (n c : Nat), (binOp .eql 22 (.slice a n c) (.slice none 0 0)).run Try.prog W = .ok (.bool a.isNone) W :=
    fun W a n c => Lib.run_eql_slice_nil W _ _ a n c 0 0 Try.underlying22
  cases A with
  | none =>
    have hm : l = [] := h.of_none
    subst hm
    go_enter Try.func20, Try.ntmps20
    go_wp2
    go_ret
    exact ⟨_, rfl, Own.nil _ _ _, Below.refl _ _⟩
  | some a =>
    go_enter Try.func20, Try.ntmps20
    have own0 : Own 5 (w.alloc (.cells #[] 5)) w.heap.size (.slice (some ⟨w.heap.size, 0, none⟩) 0 0) [] := World.ownsRow_made w #[] 0 (Nat.le_refl _) (by simp [maxLen]) rfl
    have src : Bs (fun k => S k ∧ k < w.heap.size) (w.alloc (.cells #[] 5)) (some a) c l := (h.cut_old).mod ((Mod.refl Nil w).alloc _) (fun _ _ hf => hf)
    go_wp2_with (at_builtin; refine wpList_append_bs (t := 22) tyU8 rfl (.tmp 5) (.tmp 6) rfl own0 (by simp) src l.length (by simp) rfl rfl hl ?_; intro A' c' w' ho hm ha)
    go_ret
    refine ⟨_, rfl, by simpa using ho, ?_⟩
    exact ((Mod.refl Nil w).alloc _ |>.trans hm (fun i hi e => by rw [At.iff] at e; omega)).below (Nat.le_refl _) (fun _ hf => hf.elim)
end Go.Proofs.Ytikcleaicbihfaa

namespace Go.Proofs.Ytikcleaicbihfaa

/-- What is read of l, whose first byte is number k of the varint, a being what the bytes ahead have given: the number, how many bytes it takes, what is wrong (10 short, 11 form, 12 long). -/
def vnum (most : Nat) : List UInt8 → Nat → Nat → Nat × Nat × Nat
  | [], _, _ => (0, 0, 10)
  | c :: r, k, a =>
    if k = 9 ∧ 1 < c.toNat then (0, 0, 11)
    else if 128 ≤ c.toNat then vnum most r (k + 1) (a + c.toNat % 128 * 2 ^ (7 * k))
    else if c.toNat = 0 ∧ 0 < k then (0, 0, 11)
    else if most < a + c.toNat % 128 * 2 ^ (7 * k) then (0, 0, 12)
    else (a + c.toNat % 128 * 2 ^ (7 * k), k + 1, 0)

/-- what is read ends well, or is all 0 -/
theorem vnum_ends (most : Nat) : ∀ (l : List UInt8) (k a : Nat), k ≤ 9 → a < 2 ^ (7 * k) →
    ((vnum most l k a).2.2 = 0 ∧ k < (vnum most l k a).2.1 ∧ (vnum most l k a).2.1 ≤ k + l.length ∧ (vnum most l k a).1 ≤ most ∧ (vnum most l k a).1 < 18446744073709551616) ∨
    ((vnum most l k a).1 = 0 ∧ (vnum most l k a).2.1 = 0 ∧ ((vnum most l k a).2.2 = 10 ∨ (vnum most l k a).2.2 = 11 ∨ (vnum most l k a).2.2 = 12))
  | [], k, a, _, _ => .inr ⟨rfl, rfl, .inl rfl⟩
  | c :: r, k, a, hk, ha => by
    unfold vnum
    by_cases h1 : k = 9 ∧ 1 < c.toNat
    · rw [if_pos h1]; exact .inr ⟨rfl, rfl, .inr (.inl rfl)⟩
    rw [if_neg h1]
    have hp : (2 : Nat) ^ (7 * (k + 1)) = 128 * 2 ^ (7 * k) := by rw [Nat.mul_add, Nat.pow_add]; omega
    have hc : c.toNat % 128 * 2 ^ (7 * k) ≤ 127 * 2 ^ (7 * k) := Nat.mul_le_mul_right _ (by omega)
    by_cases h2 : 128 ≤ c.toNat
    · rw [if_pos h2]
      have := vnum_ends most r (k + 1) (a + c.toNat % 128 * 2 ^ (7 * k)) (by omega) (by rw [hp]; omega)
      rcases this with ⟨a1, a2, a3, a4, a5⟩ | h
      · exact .inl ⟨a1, by omega, by rw [List.length_cons]; omega, a4, a5⟩
      · exact .inr h
    rw [if_neg h2]
    by_cases h3 : c.toNat = 0 ∧ 0 < k
    · rw [if_pos h3]; exact .inr ⟨rfl, rfl, .inr (.inl rfl)⟩
    rw [if_neg h3]
    by_cases h4 : most < a + c.toNat % 128 * 2 ^ (7 * k)
    · rw [if_pos h4]; exact .inr ⟨rfl, rfl, .inr (.inr rfl)⟩
    rw [if_neg h4]
    refine .inl ⟨rfl, by show k < k + 1; omega, by rw [List.length_cons]; show k + 1 ≤ _; omega, by show a + _ ≤ _; omega, ?_⟩
    show a + c.toNat % 128 * 2 ^ (7 * k) < 18446744073709551616
    by_cases h9 : k = 9
    · subst h9
      have hc1 : c.toNat % 128 * 2 ^ (7 * 9) ≤ 1 * 2 ^ (7 * 9) := Nat.mul_le_mul_right _ (by omega)
      omega
    · have : (2 : Nat) ^ (7 * k) ≤ 2 ^ 56 := Nat.pow_le_pow_right (by omega) (by omega)
      omega

/-! A reader: the bytes that are left, and what was wrong first (0: nothing). Each answers the value, then these two. -/
def rbyte (most : Nat) (l : List UInt8) (f : Nat) : Nat × List UInt8 × Nat :=
  if f ≠ 0 then (0, l, f)
  else match l with
    | [] => (0, [], 10)
    | b :: r => if most < b.toNat then (0, b :: r, 12) else (b.toNat, r, 0)
def rnum (most : Nat) (l : List UInt8) (f : Nat) : Nat × List UInt8 × Nat :=
  if f ≠ 0 then (0, l, f) else ((vnum most l 0 0).1, l.drop (vnum most l 0 0).2.1, (vnum most l 0 0).2.2)
/-- the number that a varint stands for -/
def unzig (n : Nat) : Int := if n % 2 = 0 then (n / 2 : Nat) else -((n / 2 : Nat) : Int) - 1
def rint (l : List UInt8) (f : Nat) : Int × List UInt8 × Nat := (unzig (rnum 18446744073709551615 l f).1, (rnum 18446744073709551615 l f).2)
def rtext (most : Int) (l : List UInt8) (f : Nat) : List UInt8 × List UInt8 × Nat :=
  if f ≠ 0 then ([], l, f)
  else if (vnum most.toNat l 0 0).2.2 ≠ 0 then ([], l, (vnum most.toNat l 0 0).2.2)
  else if l.length - (vnum most.toNat l 0 0).2.1 < (vnum most.toNat l 0 0).1 then ([], l, 10)
  else ((l.drop (vnum most.toNat l 0 0).2.1).take (vnum most.toNat l 0 0).1, l.drop ((vnum most.toNat l 0 0).2.1 + (vnum most.toNat l 0 0).1), 0)
def rend (l : List UInt8) (f : Nat) : Nat := if f = 0 ∧ 0 < l.length then 11 else f

end Go.Proofs.Ytikcleaicbihfaa

namespace Go.Proofs.Ytikcleaicbihfaa
open Go.RowKit

end Go.Proofs.Ytikcleaicbihfaa

namespace Go.Proofs.Ytikcleaicbihfaa
open Go.RowKit

end Go.Proofs.Ytikcleaicbihfaa

namespace Go.Proofs.Ytikcleaicbihfaa
open Go.RowKit

end Go.Proofs.Ytikcleaicbihfaa

namespace Go.Proofs.Ytikcleaicbihfaa
open Go.RowKit

end Go.Proofs.Ytikcleaicbihfaa

namespace Go.Proofs.Ytikcleaicbihfaa
open Go.RowKit

end Go.Proofs.Ytikcleaicbihfaa

namespace Go.Proofs.Ytikcleaicbihfaa

theorem unzig_range {n : Nat} (h : n < 18446744073709551616) : -9223372036854775808 ≤ unzig n ∧ unzig n ≤ 9223372036854775807 := by
  unfold unzig
  split <;> omega
theorem rnum_lt (most : Nat) (l : List UInt8) (f : Nat) : (rnum most l f).1 < 18446744073709551616 := by
  unfold rnum
  split
  · show (0 : Nat) < _; decide
  · rcases vnum_ends most l 0 0 (by omega) (by decide) with ⟨_, _, _, _, h⟩ | ⟨h, _⟩
    · exact h
    · show (vnum most l 0 0).1 < _
      rw [h]; decide
theorem rint_range (l : List UInt8) (f : Nat) : -9223372036854775808 ≤ (rint l f).1 ∧ (rint l f).1 ≤ 9223372036854775807 := unzig_range (rnum_lt _ _ _)
theorem rbyte_lt (most : Nat) (l : List UInt8) (f : Nat) : (rbyte most l f).1 < 256 := by
  unfold rbyte
  split
  · show (0 : Nat) < _; decide
  · cases l with
    | nil => show (0 : Nat) < _; decide
    | cons b r =>
      have hb := UInt8.toNat_lt b
      simp only
      split
      · show (0 : Nat) < _; decide
      · exact hb
end Go.Proofs.Ytikcleaicbihfaa

namespace Go.Proofs.Ytikcleaicbihfaa

/-! ## whole -/
/-! ## cut off -/
/-! ## a fault stays -/
/-! ## a beginning of D, cut off, or a fault that says so -/
def CutInv (D l : List UInt8) (f : Nat) : Prop := f = 10 ∨ (f = 0 ∧ ∃ m, m < D.length ∧ l = D.take m)
theorem CutInv.parts {B R l : List UInt8} {f : Nat} (h : CutInv (B ++ R) l f) : f = 10 ∨ (f = 0 ∧ ∃ m, m < B.length ∧ l = B.take m) ∨ (f = 0 ∧ ∃ m, m < R.length ∧ l = B ++ R.take m) := by
  rcases h with h | ⟨h, m, hm, rfl⟩
  · exact .inl h
  · rw [List.length_append] at hm
    by_cases hb : m < B.length
    · exact .inr (.inl ⟨h, m, hb, List.take_append_of_le_length (by omega)⟩)
    · obtain ⟨j, rfl⟩ : ∃ j, m = B.length + j := ⟨m - B.length, by omega⟩
      exact .inr (.inr ⟨h, j, by omega, List.take_length_add_append ..⟩)
end Go.Proofs.Ytikcleaicbihfaa
