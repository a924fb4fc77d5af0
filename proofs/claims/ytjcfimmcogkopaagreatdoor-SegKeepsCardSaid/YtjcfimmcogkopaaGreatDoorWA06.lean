/-
  ParS · Kit · Arg · Und · Clone · Math
-/
import Derived.Test.YtjcfimmcogkopaaGreatDoorWA01
import Derived.Test.YtjcfimmcogkopaaGreatDoorWA05
import Derived.ProofKit
import Derived.OpenShut
import Derived.JoinedCond
import Derived.Test.YtjcfimmcogkopaaGreatDoorRows
set_option linter.unusedSimpArgs false
set_option linter.unusedVariables false
namespace Go.Proofs.YtjcfimmcogkopaaGreatDoor.Sep
open Go.RowKit
open Go.Proofs.YtjcfimmcogkopaaGreatDoor.Mem (Bb Ci Chg)
inductive KindS
  | quiet
  | skip
  | act (q : Nat)
  | actv (q : Nat)
structure JobS where
  kind : KindS
  pat : List (Option Bool)
  f : List (Option Value) → Value
  deps : List Nat
def JobS.actOf (j : JobS) : Option Nat := match j.kind with | .act q => some q | .actv q => some q | _ => none
def XK : List (Option Value) → Nat → Value
  | [], _ => undef
  | r :: _, 0 => match r with | some v => v | none => undef
  | _ :: ρ, q + 1 => XK ρ q
def Dq : List (Option Bool) → Nat → Option Bool
  | [], _ => none
  | p :: _, 0 => p
  | _ :: ps, q + 1 => Dq ps q
def Hm : List (Option Value) → Nat → Value → List (Option Value)
  | [], _, _ => []
  | _ :: ρ, 0, v => some v :: ρ
  | r :: ρ, q + 1, v => r :: Hm ρ q v
def Jq : List (Option Bool) → List (Option Value) → List (Option Value)
  | p :: ps, r :: ρ => (match p with | some true => r | _ => none) :: Jq ps ρ
  | _, _ => []
def JobS.val (j : JobS) (ρ : List (Option Value)) : Value := match j.kind with | .act q => XK ρ q | _ => j.f (Jq j.pat ρ)
def G8 : List (Option Bool) → (List (Option Value) → Prop) → Prop
  | [], C => C []
  | some true :: ps, C => ∀ v, G8 ps fun ρ => C (some v :: ρ)
  | some false :: ps, C => G8 ps fun ρ => C (none :: ρ)
  | none :: ps, C => ∀ r, G8 ps fun ρ => C (r :: ρ)
def Lt : List (Option Bool) → List (Option Value) → Prop
  | [], [] => True
  | p :: ps, r :: ρ => (match p with | some true => ∃ v, r = some v | some false => r = none | none => True) ∧ Lt ps ρ
  | _, _ => False
theorem G8.fit : ∀ {p : List (Option Bool)} {C : List (Option Value) → Prop} {ρ : List (Option Value)}, G8 p C → Lt p ρ → C ρ
  | [], _, [], h, _ => h
  | some true :: ps, C, r :: ρ, h, ⟨⟨v, hv⟩, hf⟩ => by subst hv; exact G8.fit (p := ps) (C := fun ρ => C (some v :: ρ)) (h v) hf
  | some false :: ps, C, r :: ρ, h, ⟨hv, hf⟩ => by
    have hv' : r = none := hv
    subst hv'
    exact G8.fit (p := ps) (C := fun ρ => C (none :: ρ)) h hf
  | none :: ps, C, r :: ρ, h, ⟨_, hf⟩ => G8.fit (p := ps) (C := fun ρ => C (r :: ρ)) (h r) hf
  | [], _, _ :: _, _, hf => hf.elim
  | _ :: _, _, [], _, hf => hf.elim
theorem Jr : ∀ {p : List (Option Bool)} {ρ : List (Option Value)}, ρ.length = p.length → (∀ q, Dq p q = some true → ∃ v, ρ[q]? = some (some v)) → (∀ q, Dq p q = some false → ρ[q]? = some none) → Lt p ρ
  | [], [], _, _, _ => trivial
  | p :: ps, r :: ρ, hl, h1, h2 => by
    refine ⟨?_, Jr (by simpa using hl) (fun q hq => by simpa using h1 (q + 1) hq) (fun q hq => by simpa using h2 (q + 1) hq)⟩
    cases p with
    | none => trivial
    | some b =>
      cases b with
      | true => obtain ⟨v, hv⟩ := h1 0 rfl; exact ⟨v, by simpa using hv⟩
      | false => have := h2 0 rfl; simpa using this
  | [], _ :: _, hl, _, _ => by simp at hl
  | _ :: _, [], hl, _, _ => by simp at hl
theorem Hn : ∀ (ρ : List (Option Value)) (q : Nat) (v : Value), (Hm ρ q v).length = ρ.length
  | [], _, _ => rfl
  | _ :: _, 0, _ => rfl
  | _ :: ρ, q + 1, v => by simp [Hm, Hn ρ q v]
theorem EB : ∀ (ρ : List (Option Value)) (q : Nat) (v : Value) (k : Nat), (Hm ρ q v)[k]? = if k = q then (if q < ρ.length then some (some v) else none) else ρ[k]?
  | [], q, v, k => by simp [Hm]
  | r :: ρ, 0, v, k => by cases k <;> simp [Hm]
  | r :: ρ, q + 1, v, k => by
    cases k with
    | zero => simp [Hm]
    | succ k =>
      have := EB ρ q v k
      simp only [Hm, List.getElem?_cons_succ, this, List.length_cons, Nat.add_lt_add_iff_right, Nat.add_right_cancel_iff]
theorem PL : ∀ {ρ : List (Option Value)} {q : Nat} {v : Value}, ρ[q]? = some (some v) → XK ρ q = v
  | [], q, v, h => by simp at h
  | r :: ρ, 0, v, h => by simp at h; subst h; rfl
  | r :: ρ, q + 1, v, h => by simp at h; exact PL (ρ := ρ) h
theorem C9 : ∀ {p : List (Option Bool)} {ρ : List (Option Value)} {q : Nat} {v : Value}, Dq p q ≠ some true → Jq p (Hm ρ q v) = Jq p ρ
  | [], ρ, q, v, _ => by cases ρ <;> cases q <;> rfl
  | p :: ps, [], q, v, _ => rfl
  | p :: ps, r :: ρ, 0, v, h => by
    cases p with
    | none => rfl
    | some b => cases b with
      | true => exact absurd rfl h
      | false => rfl
  | p :: ps, r :: ρ, q + 1, v, h => by
    show _ :: Jq ps (Hm ρ q v) = _ :: Jq ps ρ
    rw [C9 (p := ps) h]
theorem Js : ∀ {ρ : List (Option Value)} {q k : Nat} {v : Value}, k ≠ q → XK (Hm ρ q v) k = XK ρ k
  | [], q, k, v, _ => rfl
  | r :: ρ, 0, 0, v, h => absurd rfl h
  | r :: ρ, 0, k + 1, v, h => rfl
  | r :: ρ, q + 1, 0, v, h => rfl
  | r :: ρ, q + 1, k + 1, v, h => Js (ρ := ρ) (by omega)
def DM (ops : Array Oper) (jobs : List JobS) (ρ : List (Option Value)) : List Nat → List (Nat × Value)
  | [] => []
  | j :: r => match Jh ops j, jobs[j]? with
    | some d, some J => (d, J.val ρ) :: DM ops jobs ρ r
    | _, _ => DM ops jobs ρ r
def MO (J : JobS) (q : Nat) : Bool := match J.actOf with | some q' => Nat.beq q' q | none => false
def XL : Option Bool → Bool
  | some true => true
  | _ => false
def X9 (ops : Array Oper) (jobs : List JobS) (D i : Nat) (j : JobS) (q : Nat) : Bool := match Dq j.pat q with
  | some true => (List.range D).any fun p => GI ops i p && (match jobs[p]? with | some J => MO J q || XL (Dq J.pat q) | none => false)
  | some false => (match j.actOf with | some qi => Nat.beq qi q || jobs.any fun J => MO J q && XL (Dq J.pat qi) | none => false)
  | none => true
def Nx (ops : Array Oper) (jobs : List JobS) (n D m : Nat) (keys : List Nat) (i : Nat) : Bool :=
  match ops[i]?, jobs[i]? with
  | some o, some j =>
    (match o.dst with
      | some d => Nat.blt d n && !keys.contains d && (List.range D).all fun i' => Nat.beq i i' || Jh ops i' != some d
      | none => (match j.actOf with | some _ => true | none => false)) &&
    o.after.all (fun e => !Region.binds .any e || Nat.blt e.on i) &&
    j.deps.all (fun e => Nat.blt e D && GI ops i e) &&
    Nat.beq j.pat.length m && (List.range m).all (X9 ops jobs D i j) &&
    (match j.actOf with | some q => Nat.blt q m && (match Dq j.pat q with | some false => true | _ => false) && (List.range D).all fun i' => Nat.beq i i' || (match jobs[i']? with | some J => !MO J q | none => true) | none => true)
  | _, _ => false
def Jt (ops : Array Oper) (i : Nat) : List Nat := match ops[i]? with | some o => (o.after.toList.filter fun e => Region.binds .any e).map (·.on) | none => []
def PM (ops : Array Oper) : Nat → List Nat → List Nat
  | 0, S => S
  | j + 1, S => PM ops j (match S.elem j with | true => Jt ops j ++ S | false => S)
def Q5 (ops : Array Oper) (D N i : Nat) : Bool :=
  (match PM ops D (Jt ops i) with | l => (List.range D).all fun j => l.elem j) || (List.range N).any fun j => Nat.ble D j && GI ops i j
def J1 (ops : Array Oper) (jobs : List JobS) (n D m : Nat) (keys : List Nat) : Bool :=
  Nat.ble D ops.size && Nat.beq jobs.length D && (List.range D).all (Nx ops jobs n D m keys) && (List.range ops.size).all (fun i => Nat.blt i D || Q5 ops D ops.size i) &&
  (List.range (ops.size - D)).all (fun t => Region.ready .any ops (C8 (D + t) ops.size) == [D + t]) && (List.range m).all (fun q => jobs.any fun J => MO J q)
structure JobOKS (ops : Array Oper) (jobs : List JobS) (n D m : Nat) (keys : List Nat) (i : Nat) (o : Oper) (j : JobS) : Prop where
  dst : (∃ d, o.dst = some d ∧ d < n ∧ d ∉ keys ∧ ∀ i', i' < D → i' ≠ i → Jh ops i' ≠ some d) ∨ (o.dst = none ∧ ∃ q, j.actOf = some q)
  edges : ∀ e ∈ o.after, Region.binds .any e = true → e.on < i
  deps : ∀ e ∈ j.deps, e < D ∧ GI ops i e = true
  len : j.pat.length = m
  t : ∀ q, q < m → Dq j.pat q = some true → ∃ p J, p < D ∧ GI ops i p = true ∧ jobs[p]? = some J ∧ (J.actOf = some q ∨ Dq J.pat q = some true)
  f : ∀ q, q < m → Dq j.pat q = some false → ∃ qi, j.actOf = some qi ∧ (qi = q ∨ ∃ J ∈ jobs, J.actOf = some q ∧ Dq J.pat qi = some true)
  act : ∀ q, j.actOf = some q → q < m ∧ Dq j.pat q = some false ∧ ∀ i' J, i' < D → i' ≠ i → jobs[i']? = some J → J.actOf ≠ some q
theorem Ih {J : JobS} {q : Nat} : MO J q = true ↔ J.actOf = some q := by
  unfold MO
  cases J.actOf with
  | none => simp
  | some q' => simp [GJ]
theorem Q6 {x : Option Bool} : XL x = true ↔ x = some true := by
  cases x with
  | none => simp [XL]
  | some b => cases b <;> simp [XL]
theorem GM {ops : Array Oper} {jobs : List JobS} {n D m : Nat} {keys : List Nat} {i : Nat} (h : Nx ops jobs n D m keys i = true) : ∃ o j, ops[i]? = some o ∧ jobs[i]? = some j ∧ JobOKS ops jobs n D m keys i o j := by
  unfold Nx at h
  cases ho : ops[i]? with
  | none => simp [ho] at h
  | some o =>
    cases hj : jobs[i]? with
    | none => simp [ho, hj] at h
    | some j =>
      simp only [ho, hj, Bool.and_eq_true] at h
      obtain ⟨⟨⟨⟨⟨h1, h2⟩, h3⟩, h4⟩, h5⟩, h6⟩ := h
      refine ⟨o, j, rfl, rfl, ?_, ?_, ?_, GJ.1 h4, ?_, ?_, ?_⟩
      · cases hd : o.dst with
        | some d =>
          simp only [hd, Bool.and_eq_true] at h1
          obtain ⟨⟨ha, hb⟩, hc⟩ := h1
          refine .inl ⟨d, rfl, EU ha, by simpa using hb, fun i' hi' hne he => ?_⟩
          have := List.all_eq_true.1 hc i' (by simpa using hi')
          simp only [Bool.or_eq_true] at this
          rcases this with h | h
          · exact hne (GJ.1 h).symm
          · simp [he] at h
        | none =>
          simp only [hd] at h1
          refine .inr ⟨rfl, ?_⟩
          cases ha : j.actOf with
          | none => simp [ha] at h1
          | some q => exact ⟨q, rfl⟩
      · intro e he hb
        have := Array.all_eq_true_iff_forall_mem.1 h2 e he
        simp only [hb, Bool.not_true, Bool.false_or] at this
        exact EU this
      · intro e he
        have := List.all_eq_true.1 h3 e he
        simp only [Bool.and_eq_true] at this
        exact ⟨EU this.1, this.2⟩
      · intro q hq hp
        have := List.all_eq_true.1 h5 q (by simpa using hq)
        unfold X9 at this
        simp only [hp] at this
        obtain ⟨p, hp1, hp2⟩ := List.any_eq_true.1 this
        simp only [Bool.and_eq_true] at hp2
        cases hJ : jobs[p]? with
        | none => simp [hJ] at hp2
        | some J =>
          simp only [hJ, Bool.or_eq_true] at hp2
          exact ⟨p, J, by simpa using hp1, hp2.1, hJ, hp2.2.imp Ih.1 Q6.1⟩
      · intro q hq hp
        have := List.all_eq_true.1 h5 q (by simpa using hq)
        unfold X9 at this
        simp only [hp] at this
        cases ha : j.actOf with
        | none => simp [ha] at this
        | some qi =>
          simp only [ha, Bool.or_eq_true] at this
          refine ⟨qi, rfl, this.imp GJ.1 fun h => ?_⟩
          obtain ⟨J, hJ1, hJ2⟩ := List.any_eq_true.1 h
          simp only [Bool.and_eq_true] at hJ2
          exact ⟨J, hJ1, Ih.1 hJ2.1, Q6.1 hJ2.2⟩
      · intro q hq
        simp only [hq, Bool.and_eq_true] at h6
        obtain ⟨⟨ha, hb⟩, hc⟩ := h6
        refine ⟨EU ha, ?_, fun i' J hi' hne hJ hk => ?_⟩
        · cases hp : Dq j.pat q with
          | none => simp [hp] at hb
          | some b => cases b with
            | true => simp [hp] at hb
            | false => rfl
        · have := List.all_eq_true.1 hc i' (by simpa using hi')
          simp only [hJ, Bool.or_eq_true] at this
          rcases this with h | h
          · exact hne (GJ.1 h).symm
          · rw [Ih.2 hk] at h; cases h
section
variable (P : Program) (ops : Array Oper) (Q : Exit → Act → World → Prop) (n : Nat) (jobs : List JobS) (env0 : List (Nat × Value)) (B : Nat → Prop) (w0 : World) (S : List (Option Value) → List Ass)
def Tz (o : Oper) (j : JobS) : Prop :=
  match j.kind with
  | .quiet => G8 j.pat fun ρ => wants ops o (DM ops jobs ρ j.deps ++ env0) = some true ∧ ∀ (b : Act) (w : World), Hp B w0 w (S ρ) → Fr n b (DM ops jobs ρ j.deps ++ env0) → (execOp b.eval o).run P w = .ok (.value (j.f (Jq j.pat ρ))) w
  | .skip => G8 j.pat fun ρ => wants ops o (DM ops jobs ρ j.deps ++ env0) = some false ∧ j.f (Jq j.pat ρ) = undef
  | .act q => G8 j.pat fun ρ => wants ops o (DM ops jobs ρ j.deps ++ env0) = some true ∧ ∀ (b : Act) (w : World), Hp B w0 w (S ρ) → Fr n b (DM ops jobs ρ j.deps ++ env0) → ∀ K : Act → World → Prop, (∀ v w', Hp B w0 w' (S (Hm ρ q v)) → K (b.put o.dst v) w') → o.wp P b w K Q
  | .actv q => G8 j.pat fun ρ => wants ops o (DM ops jobs ρ j.deps ++ env0) = some true ∧ ∀ (b : Act) (w : World), Hp B w0 w (S ρ) → Fr n b (DM ops jobs ρ j.deps ++ env0) → ∀ K : Act → World → Prop, (∀ v w', Hp B w0 w' (S (Hm ρ q v)) → K (b.put o.dst (j.f (Jq j.pat ρ))) w') → o.wp P b w K Q
def E0 : List Oper → List JobS → Prop
  | o :: os, j :: js => Tz P ops Q n jobs env0 B w0 S o j ∧ E0 os js
  | _, _ => True
end
structure InvS (ops : Array Oper) (n : Nat) (jobs : List JobS) (env0 : List (Nat × Value)) (B : Nat → Prop) (w0 : World) (S : List (Option Value) → List Ass) (D m : Nat) (listed : Array Bool) (a : Act) (ρ : List (Option Value)) (w : World) : Prop where
  size : listed.size = ops.size
  late : ∀ i, D ≤ i → i < ops.size → listed.getD i true = false
  closed : ∀ i e, i < D → listed.getD i true = true → GI ops i e = true → e < ops.size → listed.getD e true = true
  fr : Fr n a env0
  len : ρ.length = m
  yes : ∀ i j q, jobs[i]? = some j → j.actOf = some q → listed.getD i true = true → ∃ v, ρ[q]? = some (some v)
  no : ∀ i j q, jobs[i]? = some j → j.actOf = some q → listed.getD i true = false → ρ[q]? = some none
  vals : ∀ i j d, jobs[i]? = some j → Jh ops i = some d → listed.getD i true = true → a.tmps[d]? = some (j.val ρ)
  hp : Hp B w0 w (S ρ)
section
variable {P : Program} {ops : Array Oper} {Q : Exit → Act → World → Prop} {n D m : Nat} {jobs : List JobS} {env0 : List (Nat × Value)} {B : Nat → Prop} {w0 : World} {S : List (Option Value) → List Ass}
theorem E0.at_ : ∀ {os : List Oper} {js : List JobS}, E0 P ops Q n jobs env0 B w0 S os js → ∀ (i : Nat) (o : Oper) (j : JobS), os[i]? = some o → js[i]? = some j → Tz P ops Q n jobs env0 B w0 S o j
  | [], _, _, i, o, j, h, _ => by simp at h
  | _ :: _, [], _, i, o, j, _, h => by simp at h
  | o' :: os, j' :: js, h, 0, o, j, h1, h2 => by
    simp only [List.getElem?_cons_zero, Option.some.injEq] at h1 h2
    subst h1; subst h2
    exact h.1
  | o' :: os, j' :: js, h, i + 1, o, j, h1, h2 => by
    simp only [List.getElem?_cons_succ] at h1 h2
    exact E0.at_ h.2 i o j h1 h2
theorem Ac {o : Oper} {os : List Oper} {j : JobS} {js : List JobS} (h : Tz P ops Q n jobs env0 B w0 S o j) (hs : E0 P ops Q n jobs env0 B w0 S os js) : E0 P ops Q n jobs env0 B w0 S (o :: os) (j :: js) := ⟨h, hs⟩
theorem B9 {os : List Oper} : E0 P ops Q n jobs env0 B w0 S os [] := by cases os <;> trivial
theorem Ju {listed : Array Bool} {a : Act} {ρ : List (Option Value)} {w : World} (hI : InvS ops n jobs env0 B w0 S D m listed a ρ w) : ∀ l : List Nat, (∀ e ∈ l, listed.getD e true = true) → Fr n a (DM ops jobs ρ l)
  | [], _ => ⟨hI.fr.size, fun s v h => (by cases h), hI.fr.defers⟩
  | e :: l, h => by
    have ih := Ju hI l (fun x hx => h x (List.mem_cons_of_mem _ hx))
    unfold DM
    cases hd : Jh ops e with
    | none => exact ih
    | some d =>
      cases hj : jobs[e]? with
      | none => exact ih
      | some J =>
        refine ⟨hI.fr.size, fun s v hs => ?_, hI.fr.defers⟩
        simp only at hs
        rw [ES] at hs
        split at hs
        · rename_i he
          subst he
          cases hs
          exact hI.vals e J d hj hd (h e (by simp))
        · exact ih.get s v hs
theorem DV (hJ : ∀ i, i < D → ∃ o j, ops[i]? = some o ∧ jobs[i]? = some j ∧ JobOKS ops jobs n D m (env0.map (·.1)) i o j) (hDN : D ≤ ops.size) {listed : Array Bool} (hc : ∀ i e, i < D → listed.getD i true = true → GI ops i e = true → e < ops.size → listed.getD e true = true) {q : Nat} (hq : q < m) :
    ∀ (k i : Nat) (j : JobS), i ≤ k → i < D → jobs[i]? = some j → Dq j.pat q = some true → (∀ e, GI ops i e = true → e < ops.size → listed.getD e true = true) → ∃ p J, jobs[p]? = some J ∧ p < i ∧ J.actOf = some q ∧ listed.getD p true = true := by
  intro k
  induction k with
  | zero =>
    intro i j hik hi hj hp hl
    obtain ⟨o, j', ho, hj', hok⟩ := hJ i hi
    rw [hj] at hj'; cases hj'
    obtain ⟨p, J, hpD, he, hJp, _⟩ := hok.t q hq hp
    obtain ⟨o', ho', e, hm, hb, rfl⟩ := Jk.1 he
    rw [ho] at ho'; cases ho'
    have := hok.edges e hm hb
    omega
  | succ k ih =>
    intro i j hik hi hj hp hl
    obtain ⟨o, j', ho, hj', hok⟩ := hJ i hi
    rw [hj] at hj'; cases hj'
    obtain ⟨p, J, hpD, he, hJp, hor⟩ := hok.t q hq hp
    have hlt : p < i := by
      obtain ⟨o', ho', e, hm, hb, rfl⟩ := Jk.1 he
      rw [ho] at ho'; cases ho'
      exact hok.edges e hm hb
    have hlp := hl p he (by omega)
    rcases hor with h | h
    · exact ⟨p, J, hJp, hlt, h, hlp⟩
    · obtain ⟨p', J', h1, h2, h3, h4⟩ := ih p J (by omega) hpD hJp h (fun e he' heN => hc p e hpD hlp he' heN)
      exact ⟨p', J', h1, by omega, h3, h4⟩
theorem Fe {listed : Array Bool} {a : Act} {ρ ρ' : List (Option Value)} {w w' : World} {i : Nat} {o : Oper} {j : JobS} {v : Value} (hI : InvS ops n jobs env0 B w0 S D m listed a ρ w) (hiD : i < D) (hDN : D ≤ ops.size) (hlen : jobs.length = D)
    (ho : ops[i]? = some o) (hj : jobs[i]? = some j) (hok : JobOKS ops jobs n D m (env0.map (·.1)) i o j) (hun : listed.getD i true = false) (hpre : ∀ e, GI ops i e = true → e < ops.size → listed.getD e true = true)
    (hv : o.dst.isSome = true → j.val ρ' = v) (hold : ∀ (i' : Nat) J, jobs[i']? = some J → i' ≠ i → listed.getD i' true = true → J.val ρ' = J.val ρ)
    (hl' : ρ'.length = m) (hy : ∀ q, j.actOf = some q → ∃ v, ρ'[q]? = some (some v)) (hn : ∀ (i' : Nat) J q, jobs[i']? = some J → J.actOf = some q → i' ≠ i → ρ'[q]? = ρ[q]?) (hp : Hp B w0 w' (S ρ')) :
    InvS ops n jobs env0 B w0 S D m (listed.setIfInBounds i true) (a.put o.dst v) ρ' w' := by
  have hsz : i < listed.size := by rw [hI.size]; omega
  have hlist : ∀ k, (listed.setIfInBounds i true).getD k true = if k = i then true else listed.getD k true := fun k => Hf _ _ _ hsz
  have hjD : ∀ (i' : Nat) J, jobs[i']? = some J → i' < D := fun i' J h => by rw [← hlen]; exact (List.getElem?_eq_some_iff.1 h).1
  refine ⟨by simpa using hI.size, fun k hk hk' => ?_, fun k e hkD hk he heN => ?_, ?_, hl', fun i' J q hJ hk hl => ?_, fun i' J q hJ hk hl => ?_, fun i' J d' hJ hd' hl => ?_, hp⟩
  · rw [hlist, if_neg (by omega)]; exact hI.late k hk hk'
  · rw [hlist] at hk ⊢
    split
    · rfl
    · by_cases hki : k = i
      · subst hki; exact hpre e he heN
      · rw [if_neg hki] at hk; exact hI.closed k e hkD hk he heN
  · rcases hok.dst with ⟨d, hd, hdn, hkey, _⟩ | ⟨hd, _⟩
    · rw [hd]
      refine ⟨by simp [Act.put, hI.fr.size], fun s u hs => ?_, hI.fr.defers⟩
      have hne : d ≠ s := by
        rintro rfl
        apply hkey
        clear hkey
        revert hs
        generalize env0 = l
        induction l with
        | nil => intro hs; cases hs
        | cons p r ih =>
          obtain ⟨k, x⟩ := p
          intro hs
          rw [ES] at hs
          split at hs
          · rename_i he; subst he; simp
          · exact List.mem_cons_of_mem _ (ih hs)
      show (a.tmps.setIfInBounds d v)[s]? = some u
      rw [Array.getElem?_setIfInBounds_ne hne]
      exact hI.fr.get s u hs
    · rw [hd]; exact hI.fr
  · rw [hlist] at hl
    by_cases hi : i' = i
    · subst hi
      rw [hj] at hJ; cases hJ
      exact hy q hk
    · rw [if_neg hi] at hl
      rw [hn i' J q hJ hk hi]
      exact hI.yes i' J q hJ hk hl
  · rw [hlist] at hl
    by_cases hi : i' = i
    · rw [if_pos hi] at hl; cases hl
    · rw [if_neg hi] at hl
      rw [hn i' J q hJ hk hi]
      exact hI.no i' J q hJ hk hl
  · rw [hlist] at hl
    by_cases hi : i' = i
    · subst hi
      have e1 : Jh ops i' = o.dst := by unfold Jh; rw [ho]; rfl
      rw [e1] at hd'
      rw [hj] at hJ
      cases hJ
      rcases hok.dst with ⟨d, hd, hdn, _⟩ | ⟨hd, _⟩
      · rw [hd] at hd'
        cases hd'
        rw [hd]
        show (a.tmps.setIfInBounds d' v)[d']? = _
        rw [Array.getElem?_setIfInBounds_self_of_lt (by rw [hI.fr.size]; exact hdn), hv (by rw [hd]; rfl)]
      · rw [hd] at hd'; cases hd'
    · rw [if_neg hi] at hl
      rw [hold i' J hJ hi hl]
      rcases hok.dst with ⟨d, hd, hdn, _, hdis⟩ | ⟨hd, _⟩
      · have hne : d ≠ d' := fun e => hdis i' (hjD i' J hJ) hi (e ▸ hd')
        rw [hd]
        show (a.tmps.setIfInBounds d v)[d']? = _
        rw [Array.getElem?_setIfInBounds_ne hne]
        exact hI.vals i' J d' hJ hd' hl
      · rw [hd]; exact hI.vals i' J d' hJ hd' hl
theorem IT {i e : Nat} (h : e ∈ Jt ops i) : GI ops i e = true := by
  unfold Jt at h
  cases ho : ops[i]? with
  | none => simp [ho] at h
  | some o =>
    simp only [ho, List.mem_map, List.mem_filter] at h
    obtain ⟨x, ⟨h1, h2⟩, rfl⟩ := h
    exact Jk.2 ⟨o, ho, x, by simpa using h1, h2, rfl⟩
theorem Ho {listed : Array Bool} (hDN : D ≤ ops.size) (hc : ∀ i e, i < D → listed.getD i true = true → GI ops i e = true → e < ops.size → listed.getD e true = true) : ∀ (k : Nat) (S : List Nat), k ≤ D → (∀ e ∈ S, e < ops.size → listed.getD e true = true) → ∀ e ∈ PM ops k S, e < ops.size → listed.getD e true = true
  | 0, S, _, h, e, he, heN => h e he heN
  | k + 1, S, hk, h, e, he, heN => by
    unfold PM at he
    refine Ho hDN hc k _ (by omega) (fun e he heN => ?_) e he heN
    cases hS : S.elem k with
    | false => rw [hS] at he; exact h e he heN
    | true =>
      rw [hS] at he
      rcases List.mem_append.1 he with he | he
      · exact hc k e (by omega) (h k (List.elem_iff.1 hS) (by omega)) (IT he) heN
      · exact h e he heN
theorem R9 (hDN : D ≤ ops.size) (hlen : jobs.length = D) (hJ : ∀ i, i < D → ∃ o j, ops[i]? = some o ∧ jobs[i]? = some j ∧ JobOKS ops jobs n D m (env0.map (·.1)) i o j)
    (hlate : ∀ i, D ≤ i → i < ops.size → (∀ j, j < D → j ∈ PM ops D (Jt ops i)) ∨ ∃ j, D ≤ j ∧ j < ops.size ∧ GI ops i j = true)
    (hOb : E0 P ops Q n jobs env0 B w0 S ops.toList jobs) 
    (hend : ∀ a ρ w, InvS ops n jobs env0 B w0 S D m (C8 D ops.size) a ρ w → wpAny P .any ops Q (ops.size - D) (C8 D ops.size) a w) :
    ∀ (f : Nat) (listed : Array Bool) (a : Act) (ρ : List (Option Value)) (w : World), N6 listed ops.size = f → InvS ops n jobs env0 B w0 S D m listed a ρ w → wpAny P .any ops Q f listed a w := by
  have hjD : ∀ (i' : Nat) J, jobs[i']? = some J → i' < D := fun i' J h => by rw [← hlen]; exact (List.getElem?_eq_some_iff.1 h).1
  have fin : ∀ (f : Nat) (listed : Array Bool) (a : Act) (ρ : List (Option Value)) (w : World), N6 listed ops.size = f → InvS ops n jobs env0 B w0 S D m listed a ρ w → (∀ i, i < D → listed.getD i true = true) → wpAny P .any ops Q f listed a w := by
    intro f listed a ρ w hf hI hall
    have he := Ib hI.size hDN hall hI.late
    have hun := Jj listed D hall (fun i h1 h2 => hI.late i h1 (by rw [← hI.size]; exact h2)) ops.size (by rw [hI.size]; exact Nat.le_refl _)
    rw [hun] at hf
    subst hf
    rw [he] at hI ⊢
    exact hend a ρ w hI
  intro f
  induction f with
  | zero =>
    intro listed a ρ w hf hI
    refine fin 0 listed a ρ w hf hI (fun i hi => ?_)
    cases hc : listed.getD i true with
    | true => rfl
    | false =>
      have := Ji listed i hc ops.size (by omega)
      omega
  | succ f ih =>
    intro listed a ρ w hf hI
    by_cases hall : ∀ i, i < D → listed.getD i true = true
    · exact fin (f + 1) listed a ρ w hf hI hall
    have hex : ∃ i, i < D ∧ listed.getD i true = false := by
      apply Classical.byContradiction
      intro hno
      apply hall
      intro i hi
      cases hc : listed.getD i true with
      | true => rfl
      | false => exact absurd ⟨i, hi, hc⟩ hno
    have hready : ∃ i, i ∈ Region.ready .any ops listed := by
      obtain ⟨i0, hi0, hu0⟩ := hex
      have key : ∀ k i, i ≤ k → i < D → listed.getD i true = false → ∃ i, i ∈ Region.ready .any ops listed := by
        intro k
        induction k with
        | zero =>
          intro i hik hi hu
          obtain ⟨o, j, ho, hj, hok⟩ := hJ i hi
          exact ⟨i, mem_ready.2 ⟨hu, o, ho, fun e he hb => by have := hok.edges e he hb; omega⟩⟩
        | succ k ihk =>
          intro i hik hi hu
          obtain ⟨o, j, ho, hj, hok⟩ := hJ i hi
          by_cases hr : ∀ e ∈ o.after, Region.binds .any e = true → listed.getD e.on false = true
          · exact ⟨i, mem_ready.2 ⟨hu, o, ho, hr⟩⟩
          · have : ∃ e ∈ o.after, Region.binds .any e = true ∧ listed.getD e.on false = false := by
              apply Classical.byContradiction
              intro hno
              apply hr
              intro e he hb
              cases hc : listed.getD e.on false with
              | true => rfl
              | false => exact absurd ⟨e, he, hb, hc⟩ hno
            obtain ⟨e, he, hb, hc⟩ := this
            have hlt := hok.edges e he hb
            have hin : e.on < listed.size := by rw [hI.size]; omega
            refine ihk e.on (by omega) (by omega) ?_
            simpa [hin] using hc
      exact key i0 i0 (Nat.le_refl _) hi0 hu0
    refine ⟨fun h0 => (by obtain ⟨i, hi⟩ := hready; rw [h0] at hi; simp at hi), fun i hi => ?_⟩
    have hun : listed.getD i true = false := (mem_ready.1 hi).1
    have hiN : i < ops.size := by
      obtain ⟨_, o, ho, _⟩ := mem_ready.1 hi
      exact (Array.getElem?_eq_some_iff.1 ho).1
    have hlt : ∀ e, e < ops.size → listed.getD e false = listed.getD e true := fun e he => by
      have : e < listed.size := by rw [hI.size]; exact he
      simp [this]
    have hdepl : ∀ e, GI ops i e = true → e < ops.size → listed.getD e true = true := fun e he heN => by
      rw [← hlt e heN]; exact Jl hi he
    have hiD : i < D := by
      apply Classical.byContradiction
      intro hge
      rcases hlate i (by omega) hiN with h | ⟨j, hjD', hjN, he⟩
      · obtain ⟨k, hk, hku⟩ := hex
        have := Ho (D := D) (ops := ops) hDN hI.closed D (Jt ops i) (Nat.le_refl _) (fun e he heN => hdepl e (IT he) heN) k (h k hk) (by omega)
        rw [hku] at this
        cases this
      · have h1 := hdepl j he hjN
        rw [hI.late j hjD' hjN] at h1
        cases h1
    obtain ⟨o, j, ho, hj, hok⟩ := hJ i hiD
    have hob := hOb.at_ i o j (by simpa using ho) hj
    have hFr : Fr n a (DM ops jobs ρ j.deps ++ env0) := Fr.app (Ju hI j.deps (fun e he => hdepl e (hok.deps e he).2 (by have := (hok.deps e he).1; omega))) hI.fr
    have hf' : N6 (listed.setIfInBounds i true) ops.size = f := by
      have := Ji listed i hun ops.size hiN
      omega
    have hm_of : ∀ q, Dq j.pat q ≠ none → q < m := by
      intro q hq
      rw [← hok.len]
      revert hq
      generalize j.pat = l
      intro hq
      apply Classical.byContradiction
      intro hge
      apply hq
      have : ∀ (l : List (Option Bool)) (q : Nat), l.length ≤ q → Dq l q = none := by
        intro l
        induction l with
        | nil => intro q _; rfl
        | cons x r ih =>
          intro q h
          cases q with
          | zero => simp at h
          | succ q => exact ih q (by simpa using h)
      exact this l q (by omega)
    have hfit : Lt j.pat ρ := by
      refine Jr (by rw [hI.len, hok.len]) (fun q hq => ?_) (fun q hq => ?_)
      · obtain ⟨p, J, h1, _, h3, h4⟩ := DV hJ hDN hI.closed (hm_of q (by rw [hq]; simp)) i i j (Nat.le_refl _) hiD hj hq hdepl
        exact hI.yes p J q h1 h3 h4
      · obtain ⟨qi, hk, hor⟩ := hok.f q (hm_of q (by rw [hq]; simp)) hq
        rcases hor with rfl | ⟨J, hJm, hJk, hJp⟩
        · exact hI.no i j qi hj hk hun
        · obtain ⟨p, hp⟩ := List.getElem?_of_mem hJm
          refine hI.no p J q hp hJk ?_
          cases hl : listed.getD p true with
          | false => rfl
          | true =>
            obtain ⟨o', J', ho', hJ', hok'⟩ := hJ p (hjD p J hp)
            obtain ⟨p', J2, h1, _, h3, h4⟩ := DV hJ hDN hI.closed (hok.act qi hk).1 p p J (Nat.le_refl _) (hjD p J hp) hp hJp (fun e he heN => hI.closed p e (hjD p J hp) hl he heN)
            by_cases hpi : p' = i
            · subst hpi; rw [hun] at h4; cases h4
            · exact absurd h3 ((hok.act qi hk).2.2 p' J2 (hjD p' J2 h1) hpi h1)
    unfold wpOp
    simp only [ho]
    cases hk : j.kind with
    | quiet =>
      unfold Tz at hob
      simp only [hk] at hob
      obtain ⟨hw, hrun⟩ := hob.fit hfit
      rw [if_pos (hFr.wants hw)]
      refine .inl ?_
      unfold Oper.wp
      rw [hrun a w hI.hp hFr, Oper.upon_value]
      exact ih _ _ ρ w hf' (Fe hI hiD hDN hlen ho hj hok hun hdepl (fun _ => by simp [JobS.val, hk]) (fun _ _ _ _ _ => rfl) hI.len (fun q h => by simp [JobS.actOf, hk] at h) (fun _ _ _ _ _ _ => rfl) hI.hp)
    | skip =>
      unfold Tz at hob
      simp only [hk] at hob
      obtain ⟨hw, hv⟩ := hob.fit hfit
      rw [if_neg (by rw [hFr.wants hw]; simp)]
      exact ih _ _ ρ w hf' (Fe hI hiD hDN hlen ho hj hok hun hdepl (fun _ => by simp [JobS.val, hk, hv]) (fun _ _ _ _ _ => rfl) hI.len (fun q h => by simp [JobS.actOf, hk] at h) (fun _ _ _ _ _ _ => rfl) hI.hp)
    | act q =>
      unfold Tz at hob
      simp only [hk] at hob
      obtain ⟨hw, hrun⟩ := hob.fit hfit
      rw [if_pos (hFr.wants hw)]
      have hka : j.actOf = some q := by simp [JobS.actOf, hk]
      obtain ⟨hqm, hqf, huniq⟩ := hok.act q hka
      refine .inl (hrun a w hI.hp hFr _ fun v w' hp => ?_)
      have hql : q < ρ.length := by rw [hI.len]; exact hqm
      refine ih _ _ (Hm ρ q v) w' hf' (Fe hI hiD hDN hlen ho hj hok hun hdepl (fun _ => ?_) (fun i' J hJ' hne hl => ?_) (by rw [Hn]; exact hI.len) (fun q' h => ?_) (fun i' J q' hJ' hk' hne => ?_) hp)
      · unfold JobS.val
        simp only [hk]
        exact PL (by rw [EB, if_pos rfl, if_pos hql])
      · -- what is listed does not lean on it
        have hnt : Dq J.pat q ≠ some true := fun hp => by
          obtain ⟨p', J2, h1, h2, h3, h4⟩ := DV hJ hDN hI.closed hqm i' i' J (Nat.le_refl _) (hjD i' J hJ') hJ' hp (fun e he heN => hI.closed i' e (hjD i' J hJ') hl he heN)
          by_cases hpi : p' = i
          · subst hpi; rw [hun] at h4; cases h4
          · exact huniq p' J2 (hjD p' J2 h1) hpi h1 h3
        unfold JobS.val
        cases hk2 : J.kind with
        | act q2 =>
          have : q2 ≠ q := fun e => by subst e; exact huniq i' J (hjD i' J hJ') hne hJ' (by simp [JobS.actOf, hk2])
          exact Js this
        | actv q2 => simp only [C9 hnt]
        | quiet => simp only [C9 hnt]
        | skip => simp only [C9 hnt]
      · rw [hka] at h; cases h
        exact ⟨v, by rw [EB, if_pos rfl, if_pos hql]⟩
      · rw [EB, if_neg (fun e => by subst e; exact huniq i' J (hjD i' J hJ') hne hJ' hk')]
    | actv q =>
      unfold Tz at hob
      simp only [hk] at hob
      obtain ⟨hw, hrun⟩ := hob.fit hfit
      rw [if_pos (hFr.wants hw)]
      have hka : j.actOf = some q := by simp [JobS.actOf, hk]
      obtain ⟨hqm, hqf, huniq⟩ := hok.act q hka
      refine .inl (hrun a w hI.hp hFr _ fun v w' hp => ?_)
      have hql : q < ρ.length := by rw [hI.len]; exact hqm
      refine ih _ _ (Hm ρ q v) w' hf' (Fe hI hiD hDN hlen ho hj hok hun hdepl (fun _ => ?_) (fun i' J hJ' hne hl => ?_) (by rw [Hn]; exact hI.len) (fun q' h => ?_) (fun i' J q' hJ' hk' hne => ?_) hp)
      · unfold JobS.val
        simp only [hk]
        rw [C9 (by rw [hqf]; simp)]
      · -- what is listed does not lean on it
        have hnt : Dq J.pat q ≠ some true := fun hp => by
          obtain ⟨p', J2, h1, h2, h3, h4⟩ := DV hJ hDN hI.closed hqm i' i' J (Nat.le_refl _) (hjD i' J hJ') hJ' hp (fun e he heN => hI.closed i' e (hjD i' J hJ') hl he heN)
          by_cases hpi : p' = i
          · subst hpi; rw [hun] at h4; cases h4
          · exact huniq p' J2 (hjD p' J2 h1) hpi h1 h3
        unfold JobS.val
        cases hk2 : J.kind with
        | act q2 =>
          have : q2 ≠ q := fun e => by subst e; exact huniq i' J (hjD i' J hJ') hne hJ' (by simp [JobS.actOf, hk2])
          exact Js this
        | actv q2 => simp only [C9 hnt]
        | quiet => simp only [C9 hnt]
        | skip => simp only [C9 hnt]
      · rw [hka] at h; cases h
        exact ⟨v, by rw [EB, if_pos rfl, if_pos hql]⟩
      · rw [EB, if_neg (fun e => by subst e; exact huniq i' J (hjD i' J hJ') hne hJ' hk')]
theorem Jv {keys : List Nat} (h : J1 ops jobs n D m keys = true) : D ≤ ops.size ∧ jobs.length = D ∧ (∀ i, i < D → Nx ops jobs n D m keys i = true) ∧ (∀ i, D ≤ i → i < ops.size → (∀ j, j < D → j ∈ PM ops D (Jt ops i)) ∨ ∃ j, D ≤ j ∧ j < ops.size ∧ GI ops i j = true) ∧
    (∀ t, D ≤ t → t < ops.size → Region.ready .any ops (C8 t ops.size) = [t]) ∧ (∀ q, q < m → ∃ (p : Nat) (J : JobS), jobs[p]? = some J ∧ J.actOf = some q) := by
  unfold J1 at h
  simp only [Bool.and_eq_true] at h
  obtain ⟨⟨⟨⟨⟨h1, h2⟩, h3⟩, h4⟩, h5⟩, h6⟩ := h
  refine ⟨Nat.le_of_ble_eq_true h1, GJ.1 h2, fun i hi => List.all_eq_true.1 h3 i (by simpa using hi), fun i hiD hiN => ?_, fun t htD htN => ?_, fun q hq => ?_⟩
  · have := List.all_eq_true.1 h4 i (by simpa using hiN)
    simp only [Bool.or_eq_true] at this
    rcases this with h | h
    · have := EU h; omega
    · unfold Q5 at h
      simp only [Bool.or_eq_true] at h
      rcases h with h | h
      · exact .inl fun j hj => List.elem_iff.1 (List.all_eq_true.1 h j (by simpa using hj))
      · obtain ⟨j, hj1, hj2⟩ := List.any_eq_true.1 h
        simp only [Bool.and_eq_true] at hj2
        exact .inr ⟨j, Nat.le_of_ble_eq_true hj2.1, by simpa using hj1, hj2.2⟩
  · have := List.all_eq_true.1 h5 (t - D) (by simp; omega)
    rw [show D + (t - D) = t by omega] at this
    exact eq_of_beq this
  · obtain ⟨J, hJ1, hJ2⟩ := List.any_eq_true.1 (List.all_eq_true.1 h6 q (by simpa using hq))
    obtain ⟨p, hp⟩ := List.getElem?_of_mem hJ1
    exact ⟨p, J, hp, Ih.1 hJ2⟩
def K5 (ops : Array Oper) (jobs : List JobS) (ρ : List (Option Value)) (D : Nat) : List (Nat × Value) := DM ops jobs ρ (List.range D)
theorem J3 : ∀ (m q : Nat), Dq (List.replicate m (some true)) q = some true → q < m
  | 0, q, h => by simp [Dq] at h
  | m + 1, 0, _ => by omega
  | m + 1, q + 1, h => by have := J3 m q h; omega
theorem IU : ∀ (m q : Nat), Dq (List.replicate m (some true)) q ≠ some false
  | 0, q => by simp [Dq]
  | m + 1, 0 => by simp [List.replicate_succ, Dq]
  | m + 1, q + 1 => IU m q
theorem BV {id : Nat} {env : List (Nat × Value)} {os : List Ass} (D m : Nat) (jobs : List JobS) (env0 : List (Nat × Value)) (S : List (Option Value) → List Ass) (hmix : P.follows .mixedOrders = true) (hok : J1 ops jobs n D m (env0.map (·.1)) = true) (hs : GG env env0) (hS : os = S (List.replicate m none))
    (hOb : E0 P ops Q n jobs env0 B w0 S ops.toList jobs)
    (hend : G8 (List.replicate m (some true)) fun ρ => BU P ops Q n (K5 ops jobs ρ D ++ env0) B w0 (S ρ) (ops.toList.drop D)) : AL P Q n env B w0 os (.region id ops true) := fun a w hF hH => by
  obtain ⟨hDN, hlen, hJ, hlate, hr, hm⟩ := Jv hok
  refine wp_region_any hmix ?_
  have hz : ∀ i, i < ops.size → (Array.replicate ops.size false).getD i true = false := fun i hi => by simp [hi]
  have hjN : ∀ (i : Nat) j, jobs[i]? = some j → i < ops.size := fun i j h => by have := (List.getElem?_eq_some_iff.1 h).1; omega
  have hinit : InvS ops n jobs env0 B w0 S D m (Array.replicate ops.size false) a (List.replicate m none) w.drew := by
    refine ⟨by simp, fun i _ hi => hz i hi, fun i e hi hl => ?_, hF.keep hs, by simp, fun i j q hj _ hl => ?_, fun i j q hj hk _ => ?_, fun i j d hj _ hl => ?_, by rw [← hS]; exact hH.drew⟩
    · rw [hz i (by omega)] at hl; cases hl
    · rw [hz i (hjN i j hj)] at hl; cases hl
    · obtain ⟨o, j', ho, hj', hok'⟩ := GM (hJ i (by rw [← hlen]; exact (List.getElem?_eq_some_iff.1 hj).1))
      rw [hj] at hj'; cases hj'
      have := (hok'.act q hk).1
      simp [this]
    · rw [hz i (hjN i j hj)] at hl; cases hl
  have hunl : N6 (Array.replicate ops.size false) ops.size = ops.size := by
    have := Jj (Array.replicate ops.size false) 0 (fun i h => by omega) (fun i _ h => hz i (by simpa using h)) ops.size (by simp)
    simpa using this
  refine R9 hDN hlen (fun i hi => GM (hJ i hi)) hlate hOb (fun a ρ w hI => ?_) ops.size _ a _ w.drew hunl hinit
  refine Lj hr (ops.size - D) D a w (by omega) (Nat.le_refl _) ?_
  have hl : ∀ i, i < D → (C8 D ops.size).getD i true = true := fun i hi => by rw [DB (by omega)]; simpa using hi
  have hjD : ∀ (i : Nat) j, jobs[i]? = some j → i < D := fun i j h => by rw [← hlen]; exact (List.getElem?_eq_some_iff.1 h).1
  have hfit : Lt (List.replicate m (some true)) ρ := Jr (by rw [hI.len]; simp) (fun q hq => by
    obtain ⟨p, J, hp, hk⟩ := hm q (J3 m q hq)
    exact hI.yes p J q hp hk (hl p (hjD p J hp))) (fun q hq => absurd hq (IU m q))
  exact hend.fit hfit a w (Fr.app (Ju hI _ (fun e he => hl e (by simpa using he))) hI.fr) hI.hp
end
end Go.Proofs.YtjcfimmcogkopaaGreatDoor.Sep
namespace Go.Proofs.YtjcfimmcogkopaaGreatDoor.Sep
open Go.RowKit
open Go.Proofs.YtjcfimmcogkopaaGreatDoor.Mem (Bb Ci Chg)
open Go.Proofs.YtjcfimmcogkopaaGreatDoor.Mem (Aw)
theorem BY {p q : Int} (h : p < q) : G7 .lss p q = some true := congrArg some (decide_eq_true h)
theorem BI {p q : Int} (h : ¬ p < q) : G7 .lss p q = some false := congrArg some (decide_eq_false h)
theorem CA {p q : Int} (h : p ≤ q) : G7 .leq p q = some true := congrArg some (decide_eq_true h)
theorem Gq {p q : Int} (h : ¬ p ≤ q) : G7 .leq p q = some false := congrArg some (decide_eq_false h)
theorem BD {p q : Int} (h : p > q) : G7 .gtr p q = some true := congrArg some (decide_eq_true h)
theorem By {p q : Int} (h : ¬ p > q) : G7 .gtr p q = some false := congrArg some (decide_eq_false h)
theorem Cb {p q : Int} (h : p ≥ q) : G7 .geq p q = some true := congrArg some (decide_eq_true h)
theorem De {p q : Int} (h : ¬ p ≥ q) : G7 .geq p q = some false := congrArg some (decide_eq_false h)
theorem Fw {p q : Int} (h : p = q) : G7 .eql p q = some true := by subst h; simp [G7]
theorem EM {p q : Int} (h : p ≠ q) : G7 .eql p q = some false := by simp [G7, h]
theorem Eu {p q : Int} (h : p ≠ q) : G7 .neq p q = some true := by simp [G7, h]
theorem Bn {p q : Int} (h : p = q) : G7 .neq p q = some false := by subst h; simp [G7]
theorem FC {P : Program} {t e : TypeId} {k : Nat} {z : Value} (hu : P.underlying t = some (.slice e)) (hi : (P.info? e).map (fun i => (i.zero, i.size, Nat.ble i.bytes 4096)) = some (some z, k, true)) (hz : z.cells.size = k) (h1 : Ns z.cells.toList = true) (hp : 0 < k) : SliceT P t e k := by
  refine ⟨hu, ?_, hp⟩
  cases hq : P.info? e with
  | none => simp [hq] at hi
  | some i =>
    simp only [hq, Option.map_some, Option.some.injEq, Prod.mk.injEq] at hi
    exact ⟨i, z, rfl, hi.1, hi.2.1, Nat.le_of_ble_eq_true hi.2.2, hz, fun u hu => List.all_eq_true.1 (Hg h1) u hu⟩
section
variable {P : Program} {Q : Exit → Act → World → Prop} {n : Nat} {B : Nat → Prop} {w0 w : World} {os : List Ass} {env : List (Nat × Value)} {o : Oper} {a : Act}
theorem Bt.place {X : Type} {val : X → Value} {t : X → Ass} {os' : X → List Ass} (pl : Nat) (hi : os[pl]? = some Gj) (h : Bt P Q n env B w0 os o val (fun x => t x :: os)) (he : ∀ x, os.set pl (t x) = os' x) : Bt P Q n env B w0 os o val os' := h.imp fun x rs hp => by
 obtain ⟨a, b, e, h1, h2⟩ := hp
 obtain ⟨c, d, f, e2, h3, h4⟩ := h2.at_ hi
 unfold Gj at h3
 subst h3; subst e2; subst e
 refine ⟨c ++ (a ++ f), ?_, he x ▸ h4 _ a h1⟩
 rw [List.nil_append, ← List.append_assoc, ← List.append_assoc]
 exact List.perm_append_comm.append_right f
theorem CX {T T' : TypeId} (hT : P.underlying T = some (.pointer (P.pointee T))) {x y : Operand} {p : Addr} (ho : o.op = .binOp .eql T x y T') (hx : evs env x = some (.pointer (some p))) (hy : evs env y = some (.pointer none)) (hF : Fr n a env) : (execOp a.eval o).run P w = .ok (.value (.bool false)) w := by
 unfold execOp
 simp only [ho, hF.evs hx, hF.evs hy]
 simp [eqGuard, run_eql_pointer_nil w T (some p) hT]
theorem MH {T T' : TypeId} (hT : P.underlying T = some (.pointer (P.pointee T))) {x y : Operand} {p : Addr} (ho : o.op = .binOp .neq T x y T') (hx : evs env x = some (.pointer (some p))) (hy : evs env y = some (.pointer none)) (hF : Fr n a env) : (execOp a.eval o).run P w = .ok (.value (.bool true)) w := by
 unfold execOp
 simp only [ho, hF.evs hx, hF.evs hy]
 simp [eqGuard, run_neq_pointer_nil w T (some p) hT]
end
def TA : Value → Nat → Value
  | .slice (some a) _ _, i => .pointer (some (a.add i))
  | _, _ => undef
section
variable {P : Program} {Q : Exit → Act → World → Prop} {n : Nat} {B : Nat → Prop} {w0 w : World} {os : List Ass} {env : List (Nat × Value)} {o : Oper} {act : Act}
variable {t e : TypeId} {k : Nat} {α : Type} {enc : α → List Value} {u : Value} {m : List α} {X : Ass}
def Rd (X : Ass) (k : Nat) (enc : α → List Value) (u : Value) (m : List α) : Prop := ∀ rs w, X rs → RowsOf w rs → DP w k u m.length (flat enc m)
theorem Hp.rd (h : Hp B w0 w os) (i : Nat) (hi : os[i]? = some X) (hu : Rd X k enc u m) : DP w k u m.length (flat enc m) := by
 obtain ⟨rs, h1, h2⟩ := h.thing i hi
 exact hu rs w h1 h2
theorem WX (i : Nat) (hu : Rd X k enc u m) (hT : SliceT P t e k) (hi : os[i]? = some X) (j : Nat) (hj : j < m.length) {x y : Operand} {kk : IntKind} (ho : o.op = .indexAddr t x y) (hx : evs env x = some u) (hy : evs env y = some (.int kk (j : Int))) (hH : Hp B w0 w os) (hF : Fr n act env) : (execOp act.eval o).run P w = .ok (.value (TA u (j * k))) w := by
  obtain ⟨_, A, c, rfl, hA⟩ := hH.rd i hi hu
  rcases hA with ⟨_, h0⟩ | ⟨a, rfl, _⟩
  · omega
  · have hs : (sizeOf e).run P w = .ok k w := hT.sizeOf w
    have hlt : (0 : Int) ≤ (j : Int) ∧ (j : Int) < (m.length : Int) := by omega
    unfold execOp
    simp only [ho, hF.evs hx, hF.evs hy, Instr.indexAt, asIntOf, Sem.run_bind, Sem.run_pure, Result.andThen_ok, run_underlying hT.ht w]
    simp [hlt, hs, TA]
theorem TC (i : Nat) (hu : Rd X 1 enc u m) (hO : Dv P e) (he : EncOf 1 enc) (hi : os[i]? = some X) (j : Nat) {a : α} (hj : m[j]? = some a) {c : Value} (hc : enc a = [c]) {x : Operand} (ho : o.op = .load e x) (hx : evs env x = some (TA u (j * 1))) (hH : Hp B w0 w os) (hF : Fr n act env) : (execOp act.eval o).run P w = .ok (.value c) w := by
  obtain ⟨_, A, cap, rfl, hA⟩ := hH.rd i hi hu
  rcases hA with ⟨_, h0⟩ | ⟨p, rfl, hcell⟩
  · rw [List.length_eq_zero_iff.1 h0] at hj; simp at hj
  · have h1 : w.cell? (p.add (j * 1)) = some c := by
      refine hcell _ _ ?_
      have := Jp he hj (j := 0) (by decide)
      rw [Nat.add_zero] at this
      rw [this, hc]; rfl
    rw [Nat.mul_one] at h1
    unfold execOp
    simp only [ho, hF.evs hx, TA, Instr.loadAt, Instr.sureAddr, Sem.run_bind, Sem.run_pure, Result.andThen_ok, loadVar, hO.1]
    simp [run_load, h1]
end
def encB (b : UInt8) : List Value := [.int .u8 (b.toNat : Int)]
theorem PD : EncOf 1 encB := ⟨fun _ => rfl, fun x v h => by unfold encB at h; simp at h; subst h; rfl⟩
end Go.Proofs.YtjcfimmcogkopaaGreatDoor.Sep
namespace Go.Proofs.YtjcfimmcogkopaaGreatDoor.Sep
open Go.ChangeShapes Go.WideShapes Go.ChangeAt Go.RowKit
section
variable {H : Type} {enc : TypeId × Value → H} {P : Program}
theorem Wr {w : World} {a : Addr} {v : Value} (h : w.cell? a = some v) : a = ⟨a.block, a.off, none⟩ := by
 obtain ⟨b, o, s⟩ := a
 have : s = none := by simpa using World.cell?_spot h
 subst this
 rfl
theorem Sa {α : Type} {k : Nat} {enc' : α → List Value} (he : EncOf k enc') (hk : 0 < k) {l : List α} {q : Nat} {x : Value} (h : (flat enc' l)[q]? = some x) : ∃ y, l[q / k]? = some y ∧ (enc' y)[q % k]? = some x := by
 have hlt : q < l.length * k := by rw [← DU he]; exact (List.getElem?_eq_some_iff.1 h).1
 have hi : q / k < l.length := Nat.div_lt_of_lt_mul (by rwa [Nat.mul_comm])
 refine ⟨l[q / k], List.getElem?_eq_getElem hi, ?_⟩
 rw [← Jp he (List.getElem?_eq_getElem hi) (Nat.mod_lt q hk), ← h]
 congr 1
 rw [Nat.mul_comm]
 exact Nat.div_add_mod q k
theorem Lu {w0 w : World} {os : List Ass} {k m : Nat} {u : Value} {ys : List Value} (h : DP w0 k u m ys) (hH : Hp Nil w0 w os) : DP w k u m ys := by
 obtain ⟨h1, A, c, e, hA⟩ := h
 refine ⟨h1, A, c, e, hA.imp id fun ⟨a, ha, hc⟩ => ⟨a, ha, fun j x hx => ?_⟩⟩
 have h0 := hc j x hx
 have hb := World.block_lt_of_cell? _ _ h0
 rw [hH.up.cell hb (fun hn => hn.elim)]
 exact h0
end
section
variable {P : Program} {n : Nat} {w : World} {env : List (Nat × Value)} {o : Oper} {act : Act} {t e : TypeId} {k : Nat} {α : Type} {enc : α → List Value} {u : Value} {m : List α}
theorem DP.at_ (he : EncOf k enc) (hk : 0 < k) (hu : DP w k u m.length (flat enc m)) {j : Nat} {a : α} (hj : m[j]? = some a) : ∃ g off c, u = .slice (some ⟨g, off, none⟩) m.length c ∧ ∀ q x, (enc a)[q]? = some x → w.cell? ⟨g, off + j * k + q, none⟩ = some x := by
  obtain ⟨_, A, c, rfl, hA⟩ := hu
  rcases hA with ⟨_, h0⟩ | ⟨b, rfl, hc⟩
  · rw [List.length_eq_zero_iff.1 h0] at hj; simp at hj
  · obtain ⟨z, hz⟩ : ∃ z, (flat enc m)[0]? = some z := ⟨_, List.getElem?_eq_getElem (by
      rw [DU he]
      have := (List.getElem?_eq_some_iff.1 hj).1
      exact Nat.mul_pos (by omega) hk)⟩
    have h0 := hc 0 z hz
    rw [show b.add 0 = b by simp [Addr.add]] at h0
    have hb := Wr h0
    refine ⟨b.block, b.off, c, by rw [← hb], fun q x hx => ?_⟩
    have hq : q < k := by rw [← he.len a]; exact (List.getElem?_eq_some_iff.1 hx).1
    have := hc (j * k + q) x ((Jp he hj hq).trans hx)
    rw [hb, Addr.add_lit] at this
    rw [Nat.add_assoc]
    exact this
theorem Be (hu : DP w k u m.length (flat enc m)) (hT : P.underlying t = some (.slice e)) {x : Operand} (ho : o.op = .call { callee := .builtin .len, args := #[x], argTypes := #[t] }) (hx : evs env x = some u) (hF : Fr n act env) : (execOp act.eval o).run P w = .ok (.value (.int .i64 (m.length : Int))) w := by
 obtain ⟨_, A, c, rfl, _⟩ := hu
 exact Gd ho (vs := [.slice A m.length c]) (by simp [evl, hx]) (fun cs => Gh hT A _ c _ w cs) hF
theorem DW (he : EncOf k enc) (hu : DP w k u m.length (flat enc m)) (hT : SliceT P t e k) {j : Nat} {a : α} (hj : m[j]? = some a) {x y : Operand} {kk : IntKind} (ho : o.op = .indexAddr t x y) (hx : evs env x = some u) (hy : evs env y = some (.int kk (j : Int))) (hF : Fr n act env) : (execOp act.eval o).run P w = .ok (.value (AN u (j * k))) w := by
 obtain ⟨g, off, c, rfl, _⟩ := hu.at_ he hT.pos hj
 have hs : (sizeOf e).run P w = .ok k w := hT.sizeOf w
 have hlt : (0 : Int) ≤ (j : Int) ∧ (j : Int) < (m.length : Int) := by have := (List.getElem?_eq_some_iff.1 hj).1; omega
 unfold execOp
 simp only [ho, hF.evs hx, hF.evs hy, Instr.indexAt, asIntOf, Sem.run_bind, Sem.run_pure, Result.andThen_ok, run_underlying hT.ht w]
 simp [hlt, hs, AN, Addr.add_lit]
theorem FR (he : EncOf k enc) (hk : 0 < k) (hu : DP w k u m.length (flat enc m)) {j : Nat} {a : α} (hj : m[j]? = some a) {S : TypeId} {f off : Nat} (hf : Bp P S f off) {x : Operand} (ho : o.op = .fieldAddr S x f) (hx : evs env x = some (AN u (j * k))) (hF : Fr n act env) : (execOp act.eval o).run P w = .ok (.value (AN u (j * k + off))) w := by
 obtain ⟨g, b, c, rfl, _⟩ := hu.at_ he hk hj
 have := Lk (n := n) (a := act) (env := env) (w := w) (g := g) (off := b + j * k) hf ho (by rw [hx]; rfl) hF
 rw [this]
 simp [AN, Nat.add_assoc]
theorem Bq (he : EncOf k enc) (hk : 0 < k) (hu : DP w k u m.length (flat enc m)) {j : Nat} {a : α} (hj : m[j]? = some a) {T : TypeId} (hO : Dv P T) {off : Nat} {c : Value} (hc : (enc a)[off]? = some c) {x : Operand} (ho : o.op = .load T x) (hx : evs env x = some (AN u (j * k + off))) (hF : Fr n act env) : (execOp act.eval o).run P w = .ok (.value c) w := by
 obtain ⟨g, b, cap, rfl, hcell⟩ := hu.at_ he hk hj
 have h1 := hcell off c hc
 have hx' : evs env x = some (.pointer (some ⟨g, b + j * k + off, none⟩)) := by rw [hx]; simp [AN, Nat.add_assoc]
 unfold execOp
 simp only [ho, hF.evs hx', Instr.loadAt, Instr.sureAddr, Sem.run_bind, Sem.run_pure, Result.andThen_ok, loadVar, hO.1]
 simp [run_load, h1]
theorem Dp (he : EncOf k enc) (hk : 0 < k) (hu : DP w k u m.length (flat enc m)) {j : Nat} {a : α} (hj : m[j]? = some a) {T : TypeId} (hA : Lg P T k) {x : Operand} (ho : o.op = .load T x) (hx : evs env x = some (AN u (j * k))) (hF : Fr n act env) : (execOp act.eval o).run P w = .ok (.value (.agg (enc a).toArray)) w := by
 obtain ⟨g, b, cap, rfl, hcell⟩ := hu.at_ he hk hj
 have hx' : evs env x = some (.pointer (some ⟨g, b + j * k, none⟩)) := by rw [hx]; simp [AN]
 have h := run_loadCells_list (P := P) w ⟨g, b + j * k, none⟩ (enc a) (fun q v hv => by rw [Addr.add_lit]; exact hcell q v hv)
 rw [he.len a] at h
 have hl : (loadVar T ⟨g, b + j * k, none⟩).run P w = .ok (.agg (enc a).toArray) w := by
  simp [loadVar, Sem.run_bind, hA.1, hA.2, h]
 unfold execOp
 simp only [ho, hF.evs hx', Instr.loadAt, Instr.sureAddr, Sem.run_bind, Sem.run_pure, Result.andThen_ok, hl]
end
end Go.Proofs.YtjcfimmcogkopaaGreatDoor.Sep
namespace Go.Proofs.YtjcfimmcogkopaaGreatDoor.Sep
open Go.RowKit
open Go.Proofs.YtjcfimmcogkopaaGreatDoor.Mem (Bb Ci Chg)
def ER {X : Type} (u : World) (P : Program) (F : FuncId) (args : Array Value) (pre : List Ass) (val : X → Value) (post : X → List Ass) : Prop :=
  ∀ w rs, Below u.heap.size u w → (∀ x ∈ rs, u.heap.size ≤ x.1) → Am pre rs → RowsOf w rs → Bb rs → Calls P F args w fun e w' => ∃ x, e = .returned (val x) ∧ ∃ rs', Am (post x) rs' ∧ Chg w w' rs rs'
section
variable {P : Program} {B : Nat → Prop} {u w0 w w' : World} {os : List Ass}
theorem Hp.give2 (h : Hp B w0 w os) (ids : List Nat) (hn : ids.Nodup) : ∃ x, (∀ r ∈ x, r.1 < w0.heap.size → B r.1) ∧ Am (Ee ids os) x ∧ RowsOf w x ∧ Bb x ∧ ∀ (post : List Ass) (y : List RowT) (w' : World), Am post y → Chg w w' x y → Hp B w0 w' (post ++ DD ids os) := by
 obtain ⟨rs, h1, h2⟩ := h.perm (Dj (os := os) hn).symm
 obtain ⟨a, b, e, h3, h4⟩ := h1.split
 subst e
 have hd := Bu.1 h2.apart
 rw [List.map_append] at hd
 exact ⟨a, fun r hr => h2.own r (by simp [hr]), h3, BC.2 fun z hz => h2.rows.mem z (by simp [hz]), Bu.2 (List.nodup_append.1 hd).1, fun post y w' hy hch => ⟨y ++ b, hy.app h4, FL h2 hch⟩⟩
theorem ER.pad {X : Type} {F : FuncId} {args : Array Value} {pre : List Ass} {val : X → Value} {post : X → List Ass} (h : ER u P F args pre val post) (k : Nat) : ER u P F args (pre ++ List.replicate k Gj) val post := fun w rs hu hs h1 h2 h3 => by
 obtain ⟨a, b, e, ha, hb⟩ := h1.split
 have := EX.1 hb
 subst this
 rw [List.append_nil] at e
 subst e
 exact h w _ hu hs ha h2 h3
theorem ER.calls {X : Type} {F : FuncId} {vs : List Value} {pre : List Ass} {val : X → Value} {post : X → List Ass} (hU : Below u.heap.size u w0) (hS : ∀ k, B k → u.heap.size ≤ k) (ids : List Nat) (hc : ER u P F vs.toArray pre val post) (hp : Ee ids os = pre) (hn : ids.Nodup) (h : Hp B w0 w os) : Calls P F vs.toArray w fun e w' => ∃ x, e = .returned (val x) ∧ Hp B w0 w' (post x ++ DD ids os) := by
  subst hp
  have hm : Below u.heap.size w0 w := h.up.below hU.size hS
  obtain ⟨x, h0, h1, h2, h3, h4⟩ := h.give2 ids hn
  refine (hc w x (hU.trans hm) (fun r hr => ?_) h1 h2 h3).mono fun e w' ⟨v, he, y, hy, hch⟩ => ⟨v, he, h4 _ y w' hy hch⟩
  by_cases hlt : r.1 < w0.heap.size
  · exact hS _ (h0 r hr hlt)
  · have := hU.size
    omega
theorem Vq {k m : Nat} {a : Value} {ys : List Value} (h : DP u k a m ys) (hU : Below u.heap.size u w0) (hS : ∀ k, B k → u.heap.size ≤ k) (hH : Hp B w0 w os) : DP w k a m ys := by
 obtain ⟨h1, A, c, e, hA⟩ := h
 refine ⟨h1, A, c, e, hA.imp id fun ⟨a, ha, hc⟩ => ⟨a, ha, fun j x hx => ?_⟩⟩
 have h0 := hc j x hx
 have hb := World.block_lt_of_cell? _ _ h0
 have hm : Below u.heap.size w0 w := hH.up.below hU.size hS
 rw [(hU.trans hm).cell hb]
 exact h0
variable {Q : Exit → Act → World → Prop} {n : Nat} {env : List (Nat × Value)} {o : Oper}
theorem Ny {X : Type} {F : FuncId} {f : Operand} {args : Array Operand} {ats : Array TypeId} {vs : List Value} {pre : List Ass} {val : X → Value} {post : X → List Ass} {os' : X → List Ass} (hU : Below u.heap.size u w0) (hS : ∀ k, B k → u.heap.size ≤ k) (ids : List Nat) (pads : Nat) (hE : Vf P F) (hc : ER u P F vs.toArray pre val post) (hp : Ee ids os = pre ++ List.replicate pads Gj) (hn : Dc ids = true) (hb : (ids.all fun i => Nat.blt i os.length) = true) (he : ∀ x, (post x).drop ids.length ++ Fs ids (FM ids.length (post x)) os = os' x) (ho : o.op = .call { callee := .value f, args := args, argTypes := ats }) (hf : evs env f = some (.func (.func F) #[] #[])) (hx : evl env args.toList = some vs) :
  Bt P Q n env B w0 os o val os' := fun b w hH hb' K hK => by
 unfold Oper.wp
 rw [Ia hE ho hf hx hb', Oper.upon_enter]
 refine (ER.calls hU hS ids (hc.pad pads) hp (B5 hn) hH).mono ?_
 rintro e w' ⟨x, rfl, hq⟩
 refine hK x w' (he x ▸ Hp.imp hq fun rs h => ?_)
 obtain ⟨a, c, e, ha, hc'⟩ := h.split
 obtain ⟨a', p, ha'⟩ := Fb (k := ids.length) ha
 have h2 := Am.app ha' hc'
 rw [List.append_assoc] at h2
 obtain ⟨r2, p2, h3⟩ := h2.perm ((J0 (xs := post x) (B5 hn) hb).append_left _)
 exact ⟨r2, e ▸ (p.append_right c).trans p2, h3⟩
theorem J4 {X : Type} {fn : Func} {f : FuncId} {c : Code} {args : List Value} {pre : List Ass} {val : X → Value} {post : X → List Ass} (n : Nat) (hf : P.funcs[f]? = some fn) (hb : fn.body = some c) (hn : fn.ntmps = n) (hs : Nat.ble args.length n = true)
  (h : ∀ (w : World) (rs : List RowT), Below u.heap.size u w → (∀ k, Ci rs k → u.heap.size ≤ k) → AL P (bodyPost P fn fun e w' => ∃ x, e = .returned (val x) ∧ ∃ rs', Am (post x) rs' ∧ Chg w w' rs rs') n (FJ 0 args) (Ci rs) w pre c) : ER u P f args.toArray pre val post :=
 fun w rs hU hS h1 h2 h3 => Gp n hf hb hn (Nat.le_of_ble_eq_true hs) fun a hF => h w rs hU (fun k ⟨x, hx, e⟩ => e ▸ hS x hx) a w hF (Hp.given h1 h2 h3)
end
end Go.Proofs.YtjcfimmcogkopaaGreatDoor.Sep
namespace Go.Proofs.YtjcfimmcogkopaaGreatDoor
open Go.RowKit
theorem Sb : U8 Tryz.prog 49 5 := ⟨Tryz.underlying49, Tryz.underlying5, by kernel_rfl⟩
theorem J5 {S : Nat → Prop} (w : World) (A : Option Addr) (c : Nat) (l : List UInt8) (h : Bs S w A c l) (hl : l.length ≤ 140737488355328) :
    Calls Tryz.prog 78 #[.slice A l.length c] w fun e w' => ∃ v', e = .returned v' ∧ G6 5 w' w.heap.size v' l ∧ Below w.heap.size w w' := by
  have q : ∀ (W : World) (a : Option Addr) (n c : Nat), (binOp .eql 49 (.slice a n c) (.slice none 0 0)).run Tryz.prog W = .ok (.bool a.isNone) W :=
    fun W a n c => Lib.run_eql_slice_nil W _ _ a n c 0 0 Tryz.underlying49
  cases A with
  | none =>
    have hm : l = [] := h.of_none
    subst hm
    go_enter Tryz.func78, Tryz.ntmps78
    go_wp2
    go_ret
    exact ⟨_, rfl, G6.nil _ _ _, Below.refl _ _⟩
  | some a =>
    go_enter Tryz.func78, Tryz.ntmps78
    have own0 : G6 5 (w.alloc (.cells #[] 5)) w.heap.size (.slice (some ⟨w.heap.size, 0, none⟩) 0 0) [] := World.ownsRow_made w #[] 0 (Nat.le_refl _) (by simp [maxLen]) rfl
    have src : Bs (fun k => S k ∧ k < w.heap.size) (w.alloc (.cells #[] 5)) (some a) c l := (h.cut_old).mod ((Mod.refl Nil w).alloc _) (fun _ _ hf => hf)
    go_wp2_with (at_builtin; refine Du (t := 49) Sb rfl (.tmp 5) (.tmp 6) rfl own0 (by simp) src l.length (by simp) rfl rfl hl ?_; intro A' c' w' ho hm ha)
    go_ret
    refine ⟨_, rfl, by simpa using ho, ?_⟩
    exact ((Mod.refl Nil w).alloc _ |>.trans hm (fun i hi e => by rw [At.iff] at e; omega)).below (Nat.le_refl _) (fun _ hf => hf.elim)
end Go.Proofs.YtjcfimmcogkopaaGreatDoor
namespace Go.Proofs.YtjcfimmcogkopaaGreatDoor
def Cd (most : Nat) : List UInt8 → Nat → Nat → Nat × Nat × Nat
  | [], _, _ => (0, 0, 10)
  | c :: r, k, a =>
    if k = 9 ∧ 1 < c.toNat then (0, 0, 11)
    else if 128 ≤ c.toNat then Cd most r (k + 1) (a + c.toNat % 128 * 2 ^ (7 * k))
    else if c.toNat = 0 ∧ 0 < k then (0, 0, 11)
    else if most < a + c.toNat % 128 * 2 ^ (7 * k) then (0, 0, 12)
    else (a + c.toNat % 128 * 2 ^ (7 * k), k + 1, 0)
theorem Ii (most : Nat) : ∀ (l : List UInt8) (k a : Nat), k ≤ 9 → a < 2 ^ (7 * k) →
    ((Cd most l k a).2.2 = 0 ∧ k < (Cd most l k a).2.1 ∧ (Cd most l k a).2.1 ≤ k + l.length ∧ (Cd most l k a).1 ≤ most ∧ (Cd most l k a).1 < 18446744073709551616) ∨
    ((Cd most l k a).1 = 0 ∧ (Cd most l k a).2.1 = 0 ∧ ((Cd most l k a).2.2 = 10 ∨ (Cd most l k a).2.2 = 11 ∨ (Cd most l k a).2.2 = 12))
  | [], k, a, _, _ => .inr ⟨rfl, rfl, .inl rfl⟩
  | c :: r, k, a, hk, ha => by
    unfold Cd
    by_cases h1 : k = 9 ∧ 1 < c.toNat
    · rw [if_pos h1]; exact .inr ⟨rfl, rfl, .inr (.inl rfl)⟩
    rw [if_neg h1]
    have hp : (2 : Nat) ^ (7 * (k + 1)) = 128 * 2 ^ (7 * k) := by rw [Nat.mul_add, Nat.pow_add]; omega
    have hc : c.toNat % 128 * 2 ^ (7 * k) ≤ 127 * 2 ^ (7 * k) := Nat.mul_le_mul_right _ (by omega)
    by_cases h2 : 128 ≤ c.toNat
    · rw [if_pos h2]
      have := Ii most r (k + 1) (a + c.toNat % 128 * 2 ^ (7 * k)) (by omega) (by rw [hp]; omega)
      rcases this with ⟨a1, a2, a3, a4, a5⟩ | h
      · exact .inl ⟨a1, by omega, by rw [List.length_cons]; omega, a4, a5⟩
      · exact .inr h
    rw [if_neg h2]
    by_cases h3 : c.toNat = 0 ∧ 0 < k
    · rw [if_pos h3]; exact .inr ⟨rfl, rfl, .inr (.inl rfl)⟩
    rw [if_neg h3]
    by_cases h4 : most < a + c.toNat % 128 * 2 ^ (7 * k)
    · rw [if_pos h4]; exact .inr ⟨rfl, rfl, .inr (.inr rfl)⟩
    rw [if_neg h4]
    refine .inl ⟨rfl, by show k < k + 1; omega, by rw [List.length_cons]; show k + 1 ≤ _; omega, by show a + _ ≤ _; omega, ?_⟩
    show a + c.toNat % 128 * 2 ^ (7 * k) < 18446744073709551616
    by_cases h9 : k = 9
    · subst h9
      have hc1 : c.toNat % 128 * 2 ^ (7 * 9) ≤ 1 * 2 ^ (7 * 9) := Nat.mul_le_mul_right _ (by omega)
      omega
    · have : (2 : Nat) ^ (7 * k) ≤ 2 ^ 56 := Nat.pow_le_pow_right (by omega) (by omega)
      omega
def Eb (n : Nat) : List UInt8 := if n < 128 then [UInt8.ofNat n] else UInt8.ofNat (n % 128 + 128) :: Eb (n / 128)
termination_by n
decreasing_by omega
theorem FT {n : Nat} (h : n < 128) : Eb n = [UInt8.ofNat n] := by rw [Eb, if_pos h]
theorem Ij {n : Nat} (h : 128 ≤ n) : Eb n = UInt8.ofNat (n % 128 + 128) :: Eb (n / 128) := by rw [Eb, if_neg (by omega)]
theorem Em : ∀ (k n : Nat), n < 128 ^ (k + 1) → (Eb n).length ≤ k + 1
  | 0, n, h => by rw [FT (by simpa using h)]; simp
  | k + 1, n, h => by
    by_cases h1 : n < 128
    · rw [FT h1]; simp
    · rw [Ij (by omega), List.length_cons]
      have := Em k (n / 128) (by rw [Nat.div_lt_iff_lt_mul (by omega)]; rw [Nat.pow_succ] at h; exact h)
      omega
theorem KD (n : Nat) (h : n < 18446744073709551616) : (Eb n).length ≤ 10 := Em 9 n (by omega)
theorem TD (n : Nat) : 0 < (Eb n).length := by
 rw [Eb]; split <;> simp
def Bv (most : Nat) (l : List UInt8) (f : Nat) : Nat × List UInt8 × Nat :=
  if f ≠ 0 then (0, l, f)
  else match l with
    | [] => (0, [], 10)
    | b :: r => if most < b.toNat then (0, b :: r, 12) else (b.toNat, r, 0)
def CN (most : Nat) (l : List UInt8) (f : Nat) : Nat × List UInt8 × Nat :=
  if f ≠ 0 then (0, l, f) else ((Cd most l 0 0).1, l.drop (Cd most l 0 0).2.1, (Cd most l 0 0).2.2)
def Q7 (n : Nat) : Int := if n % 2 = 0 then (n / 2 : Nat) else -((n / 2 : Nat) : Int) - 1
def PN (l : List UInt8) (f : Nat) : Int × List UInt8 × Nat := (Q7 (CN 18446744073709551615 l f).1, (CN 18446744073709551615 l f).2)
def CQ (most : Int) (l : List UInt8) (f : Nat) : List UInt8 × List UInt8 × Nat :=
  if f ≠ 0 then ([], l, f)
  else if (Cd most.toNat l 0 0).2.2 ≠ 0 then ([], l, (Cd most.toNat l 0 0).2.2)
  else if l.length - (Cd most.toNat l 0 0).2.1 < (Cd most.toNat l 0 0).1 then ([], l, 10)
  else ((l.drop (Cd most.toNat l 0 0).2.1).take (Cd most.toNat l 0 0).1, l.drop ((Cd most.toNat l 0 0).2.1 + (Cd most.toNat l 0 0).1), 0)
def Fl (l : List UInt8) (f : Nat) : Nat := if f = 0 ∧ 0 < l.length then 11 else f
end Go.Proofs.YtjcfimmcogkopaaGreatDoor
