/-
  Par · Walk
-/
import Derived.Test.YtmcdjniebkfagaaAA01
import Derived.Orders
import Derived.IntWalk
set_option linter.unusedSimpArgs false
set_option linter.unusedVariables false

namespace Go.Proofs.Ytmcdjniebkfagaa
open Go.RowKit

inductive Kind
  | quiet
  | skip
  | call
  | alloc (T : TypeId) (zs : Array Value)
  | store (t : Nat) (c : Array Value)
/-- One operation: its kind; how many calls' results its value leans on (a call: its own too); its value; on whose values it leans. -/
structure Job where
  kind : Kind
  k : Nat
  f : List Value → Value
  deps : List Nat
def Job.isCall (j : Job) : Bool := match j.kind with | .call => true | _ => false
def Job.isAlloc (j : Job) : Bool := match j.kind with | .alloc _ _ => true | _ => false
def Job.target (j : Job) : Option (Nat × Array Value) := match j.kind with | .store t c => some (t, c) | _ => none
/-- what is stored into the variable that number i makes -/
def storedAt : List Job → Nat → Option (Array Value)
  | [], _ => none
  | j :: r, i => match j.target with | some (t, c) => bif Nat.beq t i then some c else storedAt r i | none => storedAt r i
def Job.val (j : Job) (i : Nat) (σ : List Value) (g : Nat → Nat) : Value := match j.kind with | .alloc _ _ => .pointer (some ⟨g i, 0, none⟩) | _ => j.f (σ.take j.k)

def dstOf (ops : Array Oper) (i : Nat) : Option Nat := (ops[i]?).bind (·.dst)
def edge (ops : Array Oper) (i j : Nat) : Bool := match ops[i]? with | some o => o.after.any fun e => Region.binds .any e && Nat.beq e.on j | none => false
def depEnv (ops : Array Oper) (jobs : List Job) (σ : List Value) (g : Nat → Nat) : List Nat → List (Nat × Value)
  | [] => []
  | j :: r => match dstOf ops j, jobs[j]? with
    | some d, some J => (d, J.val j σ g) :: depEnv ops jobs σ g r
    | _, _ => depEnv ops jobs σ g r
def firstK (D N : Nat) : Array Bool := (List.replicate D true ++ List.replicate (N - D) false).toArray

def jobOK (ops : Array Oper) (jobs : List Job) (n D m : Nat) (keys : List Nat) (i : Nat) : Bool :=
  match ops[i]?, jobs[i]? with
  | some o, some j =>
    (match j.target, o.dst with
      | none, some d => Nat.blt d n && !keys.contains d && (List.range D).all fun i' => Nat.beq i i' || dstOf ops i' != some d
      | some (t, _), none => edge ops i t && (match jobs[t]? with | some J => J.isAlloc | none => false) && (List.range D).all fun i' => Nat.beq i i' || (match jobs[i']? with | some J => (match J.target with | some (t', _) => !Nat.beq t t' | none => true) | none => true)
      | _, _ => false) &&
    o.after.all (fun e => !Region.binds .any e || Nat.blt e.on i) &&
    j.deps.all (fun e => Nat.blt e D && edge ops i e) &&
    (match j.kind with
      | .call => Nat.blt 0 j.k && Nat.ble j.k m && (Nat.beq j.k 1 || (List.range D).any fun p => edge ops i p && (match jobs[p]? with | some J => !J.isAlloc && Nat.ble j.k (J.k + 1) | none => false)) &&
        (List.range D).all fun i' => Nat.beq i i' || (match jobs[i']? with | some J => !J.isCall || !Nat.beq J.k j.k | none => true)
      | _ => Nat.beq j.k 0 || (List.range D).any fun p => edge ops i p && (match jobs[p]? with | some J => Nat.ble j.k J.k && !J.isAlloc | none => false))
  | _, _ => false
def lateOK (ops : Array Oper) (D N i : Nat) : Bool :=
  ((List.range D).all fun j => edge ops i j) || (List.range N).any fun j => Nat.ble D j && edge ops i j
def parOK (ops : Array Oper) (jobs : List Job) (n D m : Nat) (keys : List Nat) : Bool :=
  Nat.ble D ops.size && Nat.beq jobs.length D && (List.range D).all (jobOK ops jobs n D m keys) && (List.range ops.size).all (fun i => Nat.blt i D || lateOK ops D ops.size i) &&
  (List.range (ops.size - D)).all (fun t => Region.ready .any ops (firstK (D + t) ops.size) == [D + t]) && (Nat.beq m 0 || jobs.any fun J => J.isCall && Nat.beq J.k m)

/-- rows from B on are kept -/
def AnyAl (jobs : List Job) : Prop := ∃ (i : Nat) (J : Job) (T : TypeId) (zs : Array Value), jobs[i]? = some J ∧ J.kind = .alloc T zs
def Keeps (jobs : List Job) (B : Nat) (w w' : World) : Prop := w.heap.size ≤ w'.heap.size ∧ (AnyAl jobs → ∀ x T c, B ≤ x → Row w x T c → Row w' x T c)
theorem Keeps.below {jobs : List Job} {B : Nat} {w w' : World} (h : Below w.heap.size w w') : Keeps jobs B w w' := ⟨h.size, fun _ _ _ _ _ r => r.old h⟩
theorem Keeps.same {jobs : List Job} {B : Nat} {w : World} : Keeps jobs B w w := ⟨Nat.le_refl _, fun _ _ _ _ _ r => r⟩

section
variable (P : Program) (ops : Array Oper) (Q : Exit → Act → World → Prop) (n B : Nat) (jobs : List Job) (env0 : List (Nat × Value)) (Φ : Nat → List Value → World → Prop)
/-- what is to be shown of one operation -/
def Ob (o : Oper) (j : Job) : Prop :=
  match j.kind with
  | .quiet => ∀ (σ : List Value) (g : Nat → Nat) (b : Act) (w : World), j.k ≤ σ.length → Φ σ.length σ w → Fr n b (depEnv ops jobs σ g j.deps ++ env0) →
      (wants ops o (depEnv ops jobs σ g j.deps ++ env0) = some true ∧ (execOp b.eval o).run P w = .ok (.value (j.f (σ.take j.k))) w) ∨ (wants ops o (depEnv ops jobs σ g j.deps ++ env0) = some false ∧ j.f (σ.take j.k) = undef)
  | .skip => ∀ (σ : List Value) (g : Nat → Nat), j.k ≤ σ.length → wants ops o (depEnv ops jobs σ g j.deps ++ env0) = some false ∧ j.f (σ.take j.k) = undef
  | .call => ∀ (σ : List Value) (g : Nat → Nat) (b : Act) (w : World), σ.length + 1 = j.k → Φ σ.length σ w → B ≤ w.heap.size → Fr n b (depEnv ops jobs σ g j.deps ++ env0) →
      (wants ops o (depEnv ops jobs σ g j.deps ++ env0) = some true ∧ ∀ K : Act → World → Prop, (∀ v w', j.f (σ ++ [v]) = v → Φ (σ.length + 1) (σ ++ [v]) w' → Keeps jobs B w w' → K (b.put o.dst v) w') → o.wp P b w K Q) ∨
        (wants ops o (depEnv ops jobs σ g j.deps ++ env0) = some false ∧ j.f (σ ++ [undef]) = undef ∧ Φ (σ.length + 1) (σ ++ [undef]) w)
  | .alloc T zs => o.op = .alloc T ∧ Zero P T zs ∧ o.guard = none
  | .store t c => ∀ (σ : List Value) (g : Nat → Nat) (b : Act) (w : World) J T zs, j.k ≤ σ.length → Φ σ.length σ w → Fr n b (depEnv ops jobs σ g j.deps ++ env0) → jobs[t]? = some J → J.kind = .alloc T zs → Row w (g t) T zs →
      wants ops o (depEnv ops jobs σ g j.deps ++ env0) = some true ∧ ∃ w', (execOp b.eval o).run P w = .ok .skip w' ∧ Row w' (g t) T c ∧ Mod (One (g t)) w w'
def AllOb : List Oper → List Job → Prop
  | o :: os, j :: js => Ob P ops Q n B jobs env0 Φ o j ∧ AllOb os js
  | _, _ => True
end
section
variable {P : Program} {ops : Array Oper} {Q : Exit → Act → World → Prop} {n B : Nat} {jobs : List Job} {env0 : List (Nat × Value)} {Φ : Nat → List Value → World → Prop}
theorem AllOb.cons {o : Oper} {os : List Oper} {j : Job} {js : List Job} (h : Ob P ops Q n B jobs env0 Φ o j) (hs : AllOb P ops Q n B jobs env0 Φ os js) : AllOb P ops Q n B jobs env0 Φ (o :: os) (j :: js) := ⟨h, hs⟩
theorem AllOb.nil {os : List Oper} : AllOb P ops Q n B jobs env0 Φ os [] := by cases os <;> trivial
theorem AllOb.at_ : ∀ {os : List Oper} {js : List Job}, AllOb P ops Q n B jobs env0 Φ os js → ∀ (i : Nat) (o : Oper) (j : Job), os[i]? = some o → js[i]? = some j → Ob P ops Q n B jobs env0 Φ o j
  | [], _, _, i, o, j, h, _ => by simp at h
  | _ :: _, [], _, i, o, j, _, h => by simp at h
  | o' :: os, j' :: js, h, 0, o, j, h1, h2 => by
    simp only [List.getElem?_cons_zero, Option.some.injEq] at h1 h2
    subst h1; subst h2
    exact h.1
  | o' :: os, j' :: js, h, i + 1, o, j, h1, h2 => by
    simp only [List.getElem?_cons_succ] at h1 h2
    exact AllOb.at_ h.2 i o j h1 h2

def unl (listed : Array Bool) : Nat → Nat
  | 0 => 0
  | k + 1 => unl listed k + (if listed.getD k true = false then 1 else 0)
theorem unl_set_ge (listed : Array Bool) (i : Nat) : ∀ k, k ≤ i → unl (listed.setIfInBounds i true) k = unl listed k
  | 0, _ => rfl
  | k + 1, h => by
    unfold unl
    rw [unl_set_ge listed i k (by omega)]
    simp [Array.getElem?_setIfInBounds, show ¬ i = k by omega]
theorem unl_set (listed : Array Bool) (i : Nat) (hi : listed.getD i true = false) : ∀ k, i < k → unl (listed.setIfInBounds i true) k + 1 = unl listed k
  | 0, h => by omega
  | k + 1, h => by
    unfold unl
    have hlt : i < listed.size := by
      rcases Nat.lt_or_ge i listed.size with h' | h'
      · exact h'
      · simp [Array.getElem?_eq_none h'] at hi
    by_cases hk : i = k
    · subst hk
      rw [unl_set_ge listed i i (Nat.le_refl _), if_pos hi]
      simp [Array.getElem?_setIfInBounds, hlt]
    · have := unl_set listed i hi k (by omega)
      rw [← this]
      simp [Array.getElem?_setIfInBounds, hk]
      omega
theorem unl_all (listed : Array Bool) (D : Nat) (h1 : ∀ i, i < D → listed.getD i true = true) (h2 : ∀ i, D ≤ i → i < listed.size → listed.getD i true = false) : ∀ k, k ≤ listed.size → unl listed k = k - D
  | 0, _ => by simp [unl]
  | k + 1, h => by
    unfold unl
    rw [unl_all listed D h1 h2 k (by omega)]
    by_cases hk : k < D
    · rw [if_neg (by rw [h1 k hk]; simp)]; omega
    · rw [if_pos (h2 k (by omega) (by omega))]; omega
theorem getD_set (listed : Array Bool) (i k : Nat) (hi : i < listed.size) : (listed.setIfInBounds i true).getD k true = if k = i then true else listed.getD k true := by
  by_cases h : k = i
  · subst h; simp [hi]
  · simp [Array.getElem?_setIfInBounds, h, Ne.symm h]

theorem firstK_size {D N : Nat} (h : D ≤ N) : (firstK D N).size = N := by simp [firstK]; omega
theorem firstK_get {D N i : Nat} (h : i < N) : (firstK D N).getD i true = decide (i < D) := by
  simp [firstK, List.getElem?_append, List.getElem?_replicate]
  by_cases hi : i < D
  · simp [hi]
  · simp [hi, show i - D < N - D by omega]
theorem eq_firstK {listed : Array Bool} {D N : Nat} (hN : listed.size = N) (hD : D ≤ N) (h1 : ∀ i, i < D → listed.getD i true = true) (h2 : ∀ i, D ≤ i → i < N → listed.getD i true = false) : listed = firstK D N := by
  apply Array.ext
  · rw [hN, firstK_size hD]
  · intro i hi hi'
    have e1 : listed.getD i true = listed[i] := by simp [hi]
    have e2 : (firstK D N).getD i true = (firstK D N)[i] := by simp [hi']
    rw [← e1, ← e2, firstK_get (by omega)]
    by_cases h : i < D
    · rw [h1 i h]; simp [h]
    · rw [h2 i (by omega) (by omega)]; simp [h]
/-- the last part, whose order is fixed -/
theorem any_list {D : Nat} (hr : ∀ t, D ≤ t → t < ops.size → Region.ready .any ops (firstK t ops.size) = [t]) : ∀ (f t : Nat) (a : Act) (w : World), f + t = ops.size → D ≤ t → wpList P ops Q (ops.toList.drop t) a w → wpAny P .any ops Q f (firstK t ops.size) a w
  | 0, t, a, w, ht, hD, h => by
    have e : t = ops.size := by omega
    rw [e] at h ⊢
    rw [List.drop_eq_nil_of_le (by simp)] at h
    refine ⟨?_, h⟩
    unfold Region.ready
    rw [List.filter_eq_nil_iff]
    intro i hi
    have hi' : i < ops.size := by simpa using hi
    rw [firstK_get hi']
    simp [hi']
  | f + 1, t, a, w, ht, hD, h => by
    have hlt : t < ops.size := by omega
    have hrt := hr t hD hlt
    refine ⟨fun h0 => (by rw [hrt] at h0; cases h0), fun i hi => ?_⟩
    rw [hrt] at hi
    have : i = t := by simpa using hi
    subst this
    have hset : (firstK i ops.size).setIfInBounds i true = firstK (i + 1) ops.size := by
      refine eq_firstK (by simp [firstK_size (Nat.le_of_lt hlt)]) (by omega) (fun k hk => ?_) (fun k hk hkN => ?_)
      · rw [getD_set _ _ _ (by rw [firstK_size (Nat.le_of_lt hlt)]; exact hlt)]
        split
        · rfl
        · rw [firstK_get (by omega)]; simp; omega
      · rw [getD_set _ _ _ (by rw [firstK_size (Nat.le_of_lt hlt)]; exact hlt), if_neg (by omega), firstK_get hkN]
        simp; omega
    rw [hset]
    have hcons : ops.toList.drop i = ops[i] :: ops.toList.drop (i + 1) := by
      rw [List.drop_eq_getElem_cons (by simpa using hlt)]
      simp
    rw [hcons] at h
    unfold wpOp
    simp only [Array.getElem?_eq_getElem hlt]
    unfold wpList at h
    split
    · rename_i hw
      rw [if_pos hw] at h
      exact h.imp (Oper.wp_mono fun a w hh => any_list hr f (i + 1) a w (by omega) (by omega) hh) id
    · rename_i hw
      rw [if_neg hw] at h
      exact any_list hr f (i + 1) _ _ (by omega) (by omega) h

/-- what holds while the first part is under way -/
structure Inv (ops : Array Oper) (n B : Nat) (jobs : List Job) (env0 : List (Nat × Value)) (Φ : Nat → List Value → World → Prop) (D m : Nat) (listed : Array Bool) (a : Act) (σ : List Value) (g : Nat → Nat) (w : World) : Prop where
  size : listed.size = ops.size
  late : ∀ i, D ≤ i → i < ops.size → listed.getD i true = false
  fr : Fr n a env0
  vals : ∀ i j d, jobs[i]? = some j → dstOf ops i = some d → listed.getD i true = true → a.tmps[d]? = some (j.val i σ g)
  calls : ∀ i j, jobs[i]? = some j → j.isCall = true → (listed.getD i true = true ↔ j.k ≤ σ.length)
  leans : ∀ i j, jobs[i]? = some j → j.isAlloc = false → listed.getD i true = true → j.k ≤ σ.length
  most : σ.length ≤ m
  phi : Φ σ.length σ w
  base : B ≤ w.heap.size
  news : ∀ i j T zs, jobs[i]? = some j → j.kind = .alloc T zs → listed.getD i true = true → B ≤ g i ∧ g i < w.heap.size ∧ ((∀ (s : Nat) J c, jobs[s]? = some J → J.kind = .store i c → listed.getD s true = false) → Row w (g i) T zs) ∧ ∀ (s : Nat) J c, jobs[s]? = some J → J.kind = .store i c → listed.getD s true = true → Row w (g i) T c
  tgts : ∀ s J t c, jobs[s]? = some J → J.kind = .store t c → listed.getD s true = true → listed.getD t true = true
  apart : ∀ i i' j j', jobs[i]? = some j → jobs[i']? = some j' → j.isAlloc = true → j'.isAlloc = true → listed.getD i true = true → listed.getD i' true = true → i ≠ i' → g i ≠ g i'

theorem blt_lt {a b : Nat} (h : Nat.blt a b = true) : a < b := by rw [Nat.blt_eq] at h; exact h
theorem beq_iff {a b : Nat} : Nat.beq a b = true ↔ a = b := ⟨Nat.eq_of_beq_eq_true, fun h => by subst h; simp⟩
structure JobOK (ops : Array Oper) (jobs : List Job) (n D m : Nat) (keys : List Nat) (i : Nat) (o : Oper) (j : Job) : Prop where
  dst : j.target = none → ∃ d, o.dst = some d ∧ d < n ∧ d ∉ keys ∧ ∀ i', i' < D → i' ≠ i → dstOf ops i' ≠ some d
  nodst : ∀ t c, j.kind = .store t c → o.dst = none ∧ edge ops i t = true ∧ (∃ J T zs, jobs[t]? = some J ∧ J.kind = .alloc T zs) ∧ ∀ (i' : Nat) J c', i' < D → jobs[i']? = some J → J.kind = .store t c' → i' = i
  edges : ∀ e ∈ o.after, Region.binds .any e = true → e.on < i
  deps : ∀ e ∈ j.deps, e < D ∧ edge ops i e = true
  call : j.isCall = true → 0 < j.k ∧ j.k ≤ m ∧ (j.k = 1 ∨ ∃ p J, p < D ∧ edge ops i p = true ∧ jobs[p]? = some J ∧ J.isAlloc = false ∧ j.k ≤ J.k + 1) ∧ ∀ (i' : Nat) J, i' < D → i' ≠ i → jobs[i']? = some J → J.isCall = true → J.k ≠ j.k
  lean : j.isCall = false → j.k = 0 ∨ ∃ p J, p < D ∧ edge ops i p = true ∧ jobs[p]? = some J ∧ j.k ≤ J.k ∧ J.isAlloc = false
theorem jobOK_iff {ops : Array Oper} {jobs : List Job} {n D m : Nat} {keys : List Nat} {i : Nat} (h : jobOK ops jobs n D m keys i = true) : ∃ o j, ops[i]? = some o ∧ jobs[i]? = some j ∧ JobOK ops jobs n D m keys i o j := by
  unfold jobOK at h
  cases ho : ops[i]? with
  | none => simp [ho] at h
  | some o =>
    cases hj : jobs[i]? with
    | none => simp [ho, hj] at h
    | some j =>
      simp only [ho, hj, Bool.and_eq_true] at h
      obtain ⟨⟨⟨h1, h2⟩, h3⟩, h4⟩ := h
      refine ⟨o, j, rfl, rfl, ?_, ?_, ?_, ?_, ?_, ?_⟩
      · intro htn
        cases hd : o.dst with
        | none => simp [hd, htn] at h1
        | some d =>
          simp only [hd, htn, Bool.and_eq_true] at h1
          obtain ⟨⟨ha, hb⟩, hc⟩ := h1
          refine ⟨d, rfl, blt_lt ha, by simpa using hb, fun i' hi' hne he => ?_⟩
          have := List.all_eq_true.1 hc i' (by simpa using hi')
          simp only [Bool.or_eq_true] at this
          rcases this with h | h
          · exact hne (beq_iff.1 h).symm
          · simp [he] at h
      · intro t c hk
        have htn : j.target = some (t, c) := by unfold Job.target; rw [hk]
        cases hd : o.dst with
        | some d => simp [hd, htn] at h1
        | none =>
          simp only [hd, htn, Bool.and_eq_true] at h1
          obtain ⟨⟨ha, hb⟩, hc⟩ := h1
          refine ⟨rfl, ha, ?_, fun i' J c' hi' hJ hkJ => ?_⟩
          · cases hJ : jobs[t]? with
            | none => simp [hJ] at hb
            | some J =>
              simp only [hJ] at hb
              cases hkJ : J.kind with
              | alloc T zs => exact ⟨J, T, zs, rfl, hkJ⟩
              | _ => simp [Job.isAlloc, hkJ] at hb
          · have := List.all_eq_true.1 hc i' (by simpa using hi')
            have ht' : J.target = some (t, c') := by unfold Job.target; rw [hkJ]
            simp only [hJ, ht', Bool.or_eq_true] at this
            rcases this with h | h
            · exact (beq_iff.1 h).symm
            · simp at h
      · intro e he hb
        have := Array.all_eq_true_iff_forall_mem.1 h2 e he
        simp only [hb, Bool.not_true, Bool.false_or] at this
        exact blt_lt this
      · intro e he
        have := List.all_eq_true.1 h3 e he
        simp only [Bool.and_eq_true] at this
        exact ⟨blt_lt this.1, this.2⟩
      · intro hc
        unfold Job.isCall at hc
        cases hk : j.kind with
        | call =>
          simp only [hk, Bool.and_eq_true, Bool.or_eq_true] at h4
          obtain ⟨⟨⟨ha, hb⟩, hp⟩, hu⟩ := h4
          refine ⟨blt_lt ha, Nat.le_of_ble_eq_true hb, ?_, fun i' J hi' hne hJ hcJ hkJ => ?_⟩
          · rcases hp with hp | hp
            · exact .inl (beq_iff.1 hp)
            · obtain ⟨p, hp1, hp2⟩ := List.any_eq_true.1 hp
              simp only [Bool.and_eq_true] at hp2
              cases hJ : jobs[p]? with
              | none => simp [hJ] at hp2
              | some J =>
                simp only [hJ, Bool.and_eq_true] at hp2
                exact .inr ⟨p, J, by simpa using hp1, hp2.1, hJ, by simpa using hp2.2.1, Nat.le_of_ble_eq_true hp2.2.2⟩
          · have := List.all_eq_true.1 hu i' (by simpa using hi')
            simp only [hJ, hcJ, Bool.or_eq_true, Bool.not_true, Bool.false_or] at this
            rcases this with h | h
            · exact hne (beq_iff.1 h).symm
            · rw [hkJ] at h
              simp at h
        | quiet => simp [hk] at hc
        | skip => simp [hk] at hc
        | alloc T zs => simp [hk] at hc
        | store t c => simp [hk] at hc
      · intro hc
        have h5 : (Nat.beq j.k 0 || (List.range D).any fun p => edge ops i p && (match jobs[p]? with | some J => Nat.ble j.k J.k && !J.isAlloc | none => false)) = true := by
          unfold Job.isCall at hc
          cases hk : j.kind with
          | call => simp [hk] at hc
          | quiet => simpa only [hk] using h4
          | skip => simpa only [hk] using h4
          | alloc T zs => simpa only [hk] using h4
          | store t c => simpa only [hk] using h4
        simp only [Bool.or_eq_true] at h5
        rcases h5 with h5 | h5
        · exact .inl (beq_iff.1 h5)
        · obtain ⟨p, hp1, hp2⟩ := List.any_eq_true.1 h5
          simp only [Bool.and_eq_true] at hp2
          cases hJ : jobs[p]? with
          | none => simp [hJ] at hp2
          | some J =>
            simp only [hJ, Bool.and_eq_true, Bool.not_eq_true'] at hp2
            exact .inr ⟨p, J, by simpa using hp1, hp2.1, hJ, Nat.le_of_ble_eq_true hp2.2.1, hp2.2.2⟩
theorem edge_iff {i j : Nat} : edge ops i j = true ↔ ∃ o, ops[i]? = some o ∧ ∃ e ∈ o.after, Region.binds .any e = true ∧ e.on = j := by
  unfold edge
  cases ho : ops[i]? with
  | none => simp
  | some o =>
    simp only [Option.some.injEq, exists_eq_left']
    rw [← Array.any_toList, List.any_eq_true]
    simp [beq_iff]
theorem ready_listed {listed : Array Bool} {i j : Nat} (hr : i ∈ Region.ready .any ops listed) (he : edge ops i j = true) : listed.getD j false = true := by
  obtain ⟨o, ho, e, hm, hb, rfl⟩ := edge_iff.1 he
  obtain ⟨_, o', ho', hall⟩ := mem_ready.1 hr
  rw [ho] at ho'
  cases ho'
  exact hall e hm hb

theorem fr_dep {D m : Nat} {listed : Array Bool} {a : Act} {σ : List Value} {g : Nat → Nat} {w : World} (hI : Inv ops n B jobs env0 Φ D m listed a σ g w) : ∀ l : List Nat, (∀ e ∈ l, listed.getD e true = true) → Fr n a (depEnv ops jobs σ g l)
  | [], _ => ⟨hI.fr.size, fun s v h => (by cases h), hI.fr.defers⟩
  | e :: l, h => by
    have ih := fr_dep hI l (fun x hx => h x (List.mem_cons_of_mem _ hx))
    unfold depEnv
    cases hd : dstOf ops e with
    | none => exact ih
    | some d =>
      cases hj : jobs[e]? with
      | none => exact ih
      | some J =>
        refine ⟨hI.fr.size, fun s v hs => ?_, hI.fr.defers⟩
        simp only at hs
        rw [look_cons] at hs
        split at hs
        · rename_i he
          subst he
          cases hs
          exact hI.vals e J d hj hd (h e (by simp))
        · exact ih.get s v hs
theorem val_more {j : Job} {i : Nat} {σ : List Value} {g : Nat → Nat} {v : Value} (hk : j.isAlloc = false → j.k ≤ σ.length) : j.val i (σ ++ [v]) g = j.val i σ g := by
  unfold Job.val
  cases hK : j.kind with
  | alloc T zs => rfl
  | _ =>
    have : j.isAlloc = false := by unfold Job.isAlloc; rw [hK]
    simp only
    rw [List.take_append_of_le_length (hk this)]
theorem val_other {j : Job} {i i' : Nat} {σ : List Value} {g : Nat → Nat} {x : Nat} (h : i ≠ i') : j.val i σ (fun k => if k = i' then x else g k) = j.val i σ g := by
  unfold Job.val
  cases j.kind <;> simp [h]

section main
variable {D m : Nat}
theorem inv_put {listed : Array Bool} {a : Act} {σ σ' : List Value} {g g' : Nat → Nat} {w w' : World} {i d : Nat} {o : Oper} {j : Job} {v : Value} (hI : Inv ops n B jobs env0 Φ D m listed a σ g w) (hiD : i < D) (hDN : D ≤ ops.size) (hlen : jobs.length = D)
    (ho : ops[i]? = some o) (hj : jobs[i]? = some j) (hd : o.dst = some d) (hdn : d < n) (hkey : d ∉ env0.map (·.1)) (hdis : ∀ i', i' < D → i' ≠ i → dstOf ops i' ≠ some d) (hun : listed.getD i true = false)
    (hv : j.val i σ' g' = v) (hold : ∀ (i' : Nat) J, jobs[i']? = some J → i' ≠ i → listed.getD i' true = true → J.val i' σ' g' = J.val i' σ g)
    (hcalls : ∀ (i' : Nat) J, jobs[i']? = some J → J.isCall = true → i' ≠ i → (J.k ≤ σ'.length ↔ J.k ≤ σ.length)) (hself : j.isCall = true → j.k ≤ σ'.length) (hlean : j.isAlloc = false → j.k ≤ σ'.length) (hmono : σ.length ≤ σ'.length) (hmost : σ'.length ≤ m)
    (hphi : Φ σ'.length σ' w') (hK : Keeps jobs B w w') (hg : ∀ k, k ≠ i → g' k = g k)
    (hnew : ∀ T zs, j.kind = .alloc T zs → B ≤ g' i ∧ Row w' (g' i) T zs ∧ w.heap.size ≤ g' i) (hns : j.target = none) :
    Inv ops n B jobs env0 Φ D m (listed.setIfInBounds i true) (a.put (some d) v) σ' g' w' := by
  have hsz : i < listed.size := by rw [hI.size]; omega
  have hlist : ∀ k, (listed.setIfInBounds i true).getD k true = if k = i then true else listed.getD k true := fun k => getD_set _ _ _ hsz
  have hjD : ∀ (i' : Nat) J, jobs[i']? = some J → i' < D := fun i' J h => by rw [← hlen]; exact (List.getElem?_eq_some_iff.1 h).1
  refine ⟨by simpa using hI.size, fun k hk hk' => ?_, ?_, fun i' J d' hJ hd' hl => ?_, fun i' J hJ hc => ?_, fun i' J hJ ha hl => ?_, hmost, hphi, Nat.le_trans hI.base hK.1, fun i' J T zs hJ hk hl => ?_, fun s J t c hJ hk hl => ?_, fun i1 i2 J1 J2 h1 h2 a1 a2 l1 l2 hne => ?_⟩
  · rw [hlist, if_neg (by omega)]; exact hI.late k hk hk'
  · refine ⟨by simp [Act.put, hI.fr.size], fun s u hs => ?_, hI.fr.defers⟩
    have hne : d ≠ s := by
      rintro rfl
      apply hkey
      clear hkey
      revert hs
      generalize env0 = l
      induction l with
      | nil => intro hs; cases hs
      | cons p r ih =>
        obtain ⟨k, x⟩ := p
        intro hs
        rw [look_cons] at hs
        split at hs
        · rename_i he; subst he; simp
        · exact List.mem_cons_of_mem _ (ih hs)
    show (a.tmps.setIfInBounds d v)[s]? = some u
    rw [Array.getElem?_setIfInBounds_ne hne]
    exact hI.fr.get s u hs
  · show (a.tmps.setIfInBounds d v)[d']? = _
    rw [hlist] at hl
    by_cases hi : i' = i
    · subst hi
      have e1 : dstOf ops i' = some d := by unfold dstOf; rw [ho]; exact hd
      rw [e1] at hd'
      cases hd'
      rw [hj] at hJ
      cases hJ
      rw [Array.getElem?_setIfInBounds_self_of_lt (by rw [hI.fr.size]; exact hdn), hv]
    · rw [if_neg hi] at hl
      have hne : d ≠ d' := fun e => hdis i' (hjD i' J hJ) hi (e ▸ hd')
      rw [Array.getElem?_setIfInBounds_ne hne, hold i' J hJ hi hl]
      exact hI.vals i' J d' hJ hd' hl
  · rw [hlist]
    by_cases hi : i' = i
    · subst hi
      rw [hj] at hJ
      cases hJ
      simp [hself hc]
    · rw [if_neg hi, hcalls i' J hJ hc hi]
      exact hI.calls i' J hJ hc
  · rw [hlist] at hl
    by_cases hi : i' = i
    · subst hi
      rw [hj] at hJ
      cases hJ
      exact hlean ha
    · rw [if_neg hi] at hl
      exact Nat.le_trans (hI.leans i' J hJ ha hl) hmono
  · rw [hlist] at hl
    by_cases hi : i' = i
    · subst hi
      rw [hj] at hJ
      cases hJ
      refine ⟨(hnew T zs hk).1, (hnew T zs hk).2.1.lt, fun _ => (hnew T zs hk).2.1, fun s J c hJ' hkJ hls => ?_⟩
      have hsi : s ≠ i' := by
        rintro rfl
        rw [hj] at hJ'
        cases hJ'
        rw [hk] at hkJ
        cases hkJ
      rw [hlist, if_neg hsi] at hls
      have := hI.tgts s J i' c hJ' hkJ hls
      rw [hun] at this
      cases this
    · rw [if_neg hi] at hl
      obtain ⟨h1, h2, h3, h4⟩ := hI.news i' J T zs hJ hk hl
      rw [hg i' hi]
      refine ⟨h1, Nat.lt_of_lt_of_le h2 hK.1, fun hno => hK.2 ⟨i', J, T, zs, hJ, hk⟩ _ _ _ h1 (h3 fun s J' c hJ' hkJ => ?_), fun s J' c hJ' hkJ hls => hK.2 ⟨i', J, T, zs, hJ, hk⟩ _ _ _ h1 (h4 s J' c hJ' hkJ ?_)⟩
      · have := hno s J' c hJ' hkJ
        rw [hlist] at this
        split at this
        · cases this
        · exact this
      · rw [hlist] at hls
        split at hls
        · rename_i hsi
          subst hsi
          rw [hj] at hJ'
          cases hJ'
          simp [Job.target, hkJ] at hns
        · exact hls
  · rw [hlist] at hl ⊢
    split at hl
    · rename_i hsi
      subst hsi
      rw [hj] at hJ
      cases hJ
      simp [Job.target, hk] at hns
    · split
      · rfl
      · exact hI.tgts s J t c hJ hk hl
  · rw [hlist] at l1 l2
    have far : ∀ (k : Nat) J, jobs[k]? = some J → J.isAlloc = true → listed.getD k true = true → g k < w.heap.size := fun k J hJ ha hl => by
      cases hk : J.kind with
      | alloc T zs => exact (hI.news k J T zs hJ hk hl).2.1
      | _ => simp [Job.isAlloc, hk] at ha
    by_cases e1 : i1 = i
    · have e2 : i2 ≠ i := fun e => hne (e1.trans e.symm)
      rw [if_neg e2] at l2
      have := far i2 J2 h2 a2 l2
      subst e1
      rw [hj] at h1
      cases h1
      cases hk : j.kind with
      | alloc T zs =>
        have := (hnew T zs hk).2.2
        rw [hg i2 e2]
        omega
      | _ => simp [Job.isAlloc, hk] at a1
    · rw [if_neg e1] at l1
      by_cases e2 : i2 = i
      · have := far i1 J1 h1 a1 l1
        subst e2
        rw [hj] at h2
        cases h2
        cases hk : j.kind with
        | alloc T zs =>
          have := (hnew T zs hk).2.2
          rw [hg i1 e1]
          omega
        | _ => simp [Job.isAlloc, hk] at a2
      · rw [if_neg e2] at l2
        rw [hg i1 e1, hg i2 e2]
        exact hI.apart i1 i2 J1 J2 h1 h2 a1 a2 l1 l2 hne

theorem inv_store {listed : Array Bool} {a : Act} {σ : List Value} {g : Nat → Nat} {w w' : World} {i t : Nat} {j : Job} {c : Array Value} (hI : Inv ops n B jobs env0 Φ D m listed a σ g w) (hiD : i < D) (hDN : D ≤ ops.size)
    (hj : jobs[i]? = some j) (hk : j.kind = .store t c) (hun : listed.getD i true = false) (ho : dstOf ops i = none) (huniq : ∀ (i' : Nat) J c', jobs[i']? = some J → J.kind = .store t c' → i' = i) (htl : listed.getD t true = true)
    (ht : ∃ J T zs, jobs[t]? = some J ∧ J.kind = .alloc T zs) (hlean : j.k ≤ σ.length) (hphi : Φ σ.length σ w') (hR : ∀ J T zs, jobs[t]? = some J → J.kind = .alloc T zs → Row w' (g t) T c) (hM : Mod (One (g t)) w w') :
    Inv ops n B jobs env0 Φ D m (listed.setIfInBounds i true) a σ g w' := by
  have hsz : i < listed.size := by rw [hI.size]; omega
  have hlist : ∀ k, (listed.setIfInBounds i true).getD k true = if k = i then true else listed.getD k true := fun k => getD_set _ _ _ hsz
  obtain ⟨Jt, Tt, zt, hJt, hkt⟩ := ht
  refine ⟨by simpa using hI.size, fun k hk hk' => ?_, hI.fr, fun i' J d' hJ hd' hl => ?_, fun i' J hJ hc => ?_, fun i' J hJ ha hl => ?_, hI.most, hphi, Nat.le_trans hI.base hM.size, fun i' J T zs hJ hkJ hl => ?_, fun s J t' c' hJ hkJ hl => ?_, fun i1 i2 J1 J2 h1 h2 a1 a2 l1 l2 hne => ?_⟩
  · rw [hlist, if_neg (by omega)]; exact hI.late k hk hk'
  · rw [hlist] at hl
    split at hl
    · rename_i he; subst he; rw [ho] at hd'; cases hd'
    · exact hI.vals i' J d' hJ hd' hl
  · have hne : i' ≠ i := by
      rintro rfl
      rw [hj] at hJ
      cases hJ
      simp [Job.isCall, hk] at hc
    rw [hlist, if_neg hne]
    exact hI.calls i' J hJ hc
  · rw [hlist] at hl
    split at hl
    · rename_i he; subst he; rw [hj] at hJ; cases hJ; exact hlean
    · exact hI.leans i' J hJ ha hl
  · have hne : i' ≠ i := by
      rintro rfl
      rw [hj] at hJ
      cases hJ
      rw [hk] at hkJ
      cases hkJ
    rw [hlist, if_neg hne] at hl
    obtain ⟨h1, h2, h3, h4⟩ := hI.news i' J T zs hJ hkJ hl
    refine ⟨h1, Nat.lt_of_lt_of_le h2 hM.size, fun hno => ?_, fun s J' c' hJ' hkJ' hls => ?_⟩
    · by_cases e : i' = t
      · subst e
        have := hno i j c hj hk
        rw [hlist, if_pos rfl] at this
        cases this
      · refine (h3 fun s J' c' hJ' hkJ' => ?_).mod_ne hM (hI.apart i' t J Jt hJ hJt (by simp [Job.isAlloc, hkJ]) (by simp [Job.isAlloc, hkt]) hl htl e)
        have := hno s J' c' hJ' hkJ'
        rw [hlist] at this
        split at this
        · cases this
        · exact this
    · by_cases e : i' = t
      · subst e
        obtain rfl := huniq s J' c' hJ' hkJ'
        rw [hj] at hJ'
        cases hJ'
        rw [hk] at hkJ'
        cases hkJ'
        exact hR J T zs hJ hkJ
      · have hsi : s ≠ i := by
          rintro rfl
          rw [hj] at hJ'
          cases hJ'
          rw [hk] at hkJ'
          cases hkJ'
          exact e rfl
        rw [hlist, if_neg hsi] at hls
        exact (h4 s J' c' hJ' hkJ' hls).mod_ne hM (hI.apart i' t J Jt hJ hJt (by simp [Job.isAlloc, hkJ]) (by simp [Job.isAlloc, hkt]) hl htl e)
  · rw [hlist] at hl ⊢
    split at hl
    · rename_i hsi
      subst hsi
      rw [hj] at hJ
      cases hJ
      rw [hk] at hkJ
      cases hkJ
      split
      · rfl
      · exact htl
    · split
      · rfl
      · exact hI.tgts s J t' c' hJ hkJ hl
  · have hn1 : i1 ≠ i := by
      rintro rfl
      rw [hj] at h1
      cases h1
      simp [Job.isAlloc, hk] at a1
    have hn2 : i2 ≠ i := by
      rintro rfl
      rw [hj] at h2
      cases h2
      simp [Job.isAlloc, hk] at a2
    rw [hlist, if_neg hn1] at l1
    rw [hlist, if_neg hn2] at l2
    exact hI.apart i1 i2 J1 J2 h1 h2 a1 a2 l1 l2 hne

theorem par_main (hDN : D ≤ ops.size) (hlen : jobs.length = D) (hJ : ∀ i, i < D → ∃ o j, ops[i]? = some o ∧ jobs[i]? = some j ∧ JobOK ops jobs n D m (env0.map (·.1)) i o j)
    (hlate : ∀ i, D ≤ i → i < ops.size → (∀ j, j < D → edge ops i j = true) ∨ ∃ j, D ≤ j ∧ j < ops.size ∧ edge ops i j = true)
    (hOb : AllOb P ops Q n B jobs env0 Φ ops.toList jobs) (hΦ : ∀ k σ w o, Φ k σ w → Φ k σ (w.alloc o)) (hΦs : AnyAl jobs → ∀ k σ w w' x, Φ k σ w → B ≤ x → Mod (One x) w w' → Φ k σ w')
    (hm : m = 0 ∨ ∃ (p : Nat) (J : Job), jobs[p]? = some J ∧ J.isCall = true ∧ J.k = m)
    (hend : ∀ a σ g w, σ.length = m → Inv ops n B jobs env0 Φ D m (firstK D ops.size) a σ g w → wpAny P .any ops Q (ops.size - D) (firstK D ops.size) a w) :
    ∀ (f : Nat) (listed : Array Bool) (a : Act) (σ : List Value) (g : Nat → Nat) (w : World), unl listed ops.size = f → Inv ops n B jobs env0 Φ D m listed a σ g w → wpAny P .any ops Q f listed a w := by
  have hjD : ∀ (i' : Nat) J, jobs[i']? = some J → i' < D := fun i' J h => by rw [← hlen]; exact (List.getElem?_eq_some_iff.1 h).1
  have fin : ∀ (f : Nat) (listed : Array Bool) (a : Act) (σ : List Value) (g : Nat → Nat) (w : World), unl listed ops.size = f → Inv ops n B jobs env0 Φ D m listed a σ g w → (∀ i, i < D → listed.getD i true = true) → wpAny P .any ops Q f listed a w := by
    intro f listed a σ g w hf hI hall
    have he := eq_firstK hI.size hDN hall hI.late
    have hun := unl_all listed D hall (fun i h1 h2 => hI.late i h1 (by rw [← hI.size]; exact h2)) ops.size (by rw [hI.size]; exact Nat.le_refl _)
    have hlm : σ.length = m := by
      rcases hm with hm | ⟨p, J, hp, hc, hk⟩
      · have := hI.most; omega
      · have := (hI.calls p J hp hc).1 (hall p (hjD p J hp))
        have := hI.most
        omega
    rw [hun] at hf
    subst hf
    rw [he] at hI ⊢
    exact hend a σ g w hlm hI
  intro f
  induction f with
  | zero =>
    intro listed a σ g w hf hI
    refine fin 0 listed a σ g w hf hI (fun i hi => ?_)
    cases hc : listed.getD i true with
    | true => rfl
    | false =>
      have := unl_set listed i hc ops.size (by omega)
      omega
  | succ f ih =>
    intro listed a σ g w hf hI
    by_cases hall : ∀ i, i < D → listed.getD i true = true
    · exact fin (f + 1) listed a σ g w hf hI hall
    -- one of the first part is ready
    have hex : ∃ i, i < D ∧ listed.getD i true = false := by
      apply Classical.byContradiction
      intro hno
      apply hall
      intro i hi
      cases hc : listed.getD i true with
      | true => rfl
      | false => exact absurd ⟨i, hi, hc⟩ hno
    have hready : ∃ i, i ∈ Region.ready .any ops listed := by
      obtain ⟨i0, hi0, hu0⟩ := hex
      have key : ∀ k i, i ≤ k → i < D → listed.getD i true = false → ∃ i, i ∈ Region.ready .any ops listed := by
        intro k
        induction k with
        | zero =>
          intro i hik hi hu
          obtain ⟨o, j, ho, hj, hok⟩ := hJ i hi
          exact ⟨i, mem_ready.2 ⟨hu, o, ho, fun e he hb => by have := hok.edges e he hb; omega⟩⟩
        | succ k ihk =>
          intro i hik hi hu
          obtain ⟨o, j, ho, hj, hok⟩ := hJ i hi
          by_cases hr : ∀ e ∈ o.after, Region.binds .any e = true → listed.getD e.on false = true
          · exact ⟨i, mem_ready.2 ⟨hu, o, ho, hr⟩⟩
          · have : ∃ e ∈ o.after, Region.binds .any e = true ∧ listed.getD e.on false = false := by
              apply Classical.byContradiction
              intro hno
              apply hr
              intro e he hb
              cases hc : listed.getD e.on false with
              | true => rfl
              | false => exact absurd ⟨e, he, hb, hc⟩ hno
            obtain ⟨e, he, hb, hc⟩ := this
            have hlt := hok.edges e he hb
            have hin : e.on < listed.size := by rw [hI.size]; omega
            refine ihk e.on (by omega) (by omega) ?_
            simpa [hin] using hc
      exact key i0 i0 (Nat.le_refl _) hi0 hu0
    refine ⟨fun h0 => (by obtain ⟨i, hi⟩ := hready; rw [h0] at hi; simp at hi), fun i hi => ?_⟩
    have hun : listed.getD i true = false := (mem_ready.1 hi).1
    have hiN : i < ops.size := by
      obtain ⟨_, o, ho, _⟩ := mem_ready.1 hi
      exact (Array.getElem?_eq_some_iff.1 ho).1
    have hlt : ∀ e, e < ops.size → listed.getD e false = listed.getD e true := fun e he => by
      have : e < listed.size := by rw [hI.size]; exact he
      simp [this]
    have hdepl : ∀ e, edge ops i e = true → e < ops.size → listed.getD e true = true := fun e he heN => by
      rw [← hlt e heN]; exact ready_listed hi he
    have hiD : i < D := by
      apply Classical.byContradiction
      intro hge
      rcases hlate i (by omega) hiN with h | ⟨j, hjD', hjN, he⟩
      · obtain ⟨k, hk, hku⟩ := hex
        have := hdepl k (h k hk) (by omega)
        rw [hku] at this
        cases this
      · have h1 := hdepl j he hjN
        rw [hI.late j hjD' hjN] at h1
        cases h1
    obtain ⟨o, j, ho, hj, hok⟩ := hJ i hiD
    have hob := hOb.at_ i o j (by simpa using ho) hj
    have hFr : Fr n a (depEnv ops jobs σ g j.deps ++ env0) := Fr.app (fr_dep hI j.deps (fun e he => hdepl e (hok.deps e he).2 (by have := (hok.deps e he).1; omega))) hI.fr
    have hf' : unl (listed.setIfInBounds i true) ops.size = f := by
      have := unl_set listed i hun ops.size hiN
      omega
    have hleanq : j.isCall = false → j.isAlloc = false → j.k ≤ σ.length := fun hc _ => by
      rcases hok.lean hc with h | ⟨p, J, hp, he, hJp, hk, hna⟩
      · omega
      · exact Nat.le_trans hk (hI.leans p J hJp hna (hdepl p he (by omega)))
    unfold wpOp
    simp only [ho]
    cases hk : j.kind with
    | quiet =>
      have hc : j.isCall = false := by simp [Job.isCall, hk]
      obtain ⟨d, hd, hdn, hkey, hdis⟩ := hok.dst (by simp [Job.target, hk])
      have ha : j.isAlloc = false := by simp [Job.isAlloc, hk]
      have hkl := hleanq hc ha
      unfold Ob at hob
      simp only [hk] at hob
      rcases hob σ g a w hkl hI.phi hFr with ⟨hw, hrun⟩ | ⟨hw, hv⟩
      · rw [if_pos (hFr.wants hw)]
        refine .inl ?_
        unfold Oper.wp
        rw [hrun, Oper.upon_value, hd]
        refine ih _ _ σ g w hf' (inv_put hI hiD hDN hlen ho hj hd hdn hkey hdis hun (by simp [Job.val, hk]) (fun _ _ _ _ _ => rfl) (fun _ _ _ _ _ => Iff.rfl) (fun h => by rw [hc] at h; cases h) (fun _ => hkl) (Nat.le_refl _) hI.most hI.phi Keeps.same (fun _ _ => rfl) (fun T zs h => by rw [hk] at h; cases h) (by simp [Job.target, hk]))
      · rw [if_neg (by rw [hFr.wants hw]; simp), hd]
        refine ih _ _ σ g w hf' (inv_put hI hiD hDN hlen ho hj hd hdn hkey hdis hun (by simp [Job.val, hk, hv]) (fun _ _ _ _ _ => rfl) (fun _ _ _ _ _ => Iff.rfl) (fun h => by rw [hc] at h; cases h) (fun _ => hkl) (Nat.le_refl _) hI.most hI.phi Keeps.same (fun _ _ => rfl) (fun T zs h => by rw [hk] at h; cases h) (by simp [Job.target, hk]))
    | skip =>
      have hc : j.isCall = false := by simp [Job.isCall, hk]
      obtain ⟨d, hd, hdn, hkey, hdis⟩ := hok.dst (by simp [Job.target, hk])
      have ha : j.isAlloc = false := by simp [Job.isAlloc, hk]
      have hkl := hleanq hc ha
      unfold Ob at hob
      simp only [hk] at hob
      obtain ⟨hw, hv⟩ := hob σ g hkl
      rw [if_neg (by rw [hFr.wants hw]; simp), hd]
      refine ih _ _ σ g w hf' (inv_put hI hiD hDN hlen ho hj hd hdn hkey hdis hun (by simp [Job.val, hk, hv]) (fun _ _ _ _ _ => rfl) (fun _ _ _ _ _ => Iff.rfl) (fun h => by rw [hc] at h; cases h) (fun _ => hkl) (Nat.le_refl _) hI.most hI.phi Keeps.same (fun _ _ => rfl) (fun T zs h => by rw [hk] at h; cases h) (by simp [Job.target, hk]))
    | alloc T zs =>
      have hc : j.isCall = false := by simp [Job.isCall, hk]
      obtain ⟨d, hd, hdn, hkey, hdis⟩ := hok.dst (by simp [Job.target, hk])
      unfold Ob at hob
      simp only [hk] at hob
      obtain ⟨hop, hz, hgd⟩ := hob
      rw [if_pos (by unfold Region.wanted; rw [hgd])]
      refine .inl ?_
      unfold Oper.wp
      rw [exec_alloc hop hz, Oper.upon_value, hd]
      refine ih _ _ σ (fun k => if k = i then w.heap.size else g k) (w.alloc (.cells zs T)) hf' (inv_put hI hiD hDN hlen ho hj hd hdn hkey hdis hun (by simp [Job.val, hk]) (fun i' J hJ' hne hl => val_other hne) (fun _ _ _ _ _ => Iff.rfl) (fun h => by rw [hc] at h; cases h) (fun h => by simp [Job.isAlloc, hk] at h) (Nat.le_refl _) hI.most (hΦ _ _ _ _ hI.phi) ⟨by simp, fun _ _ _ _ _ r => r.alloc _⟩ (fun k hk' => by simp [hk']) (fun T' zs' h => ?_) (by simp [Job.target, hk]))
      rw [hk] at h
      cases h
      simp only [if_true]
      exact ⟨hI.base, Row.new w T zs, Nat.le_refl _⟩
    | call =>
      have hc : j.isCall = true := by simp [Job.isCall, hk]
      obtain ⟨d, hd, hdn, hkey, hdis⟩ := hok.dst (by simp [Job.target, hk])
      have ha : j.isAlloc = false := by simp [Job.isAlloc, hk]
      obtain ⟨hpos, hkm, hprev, huniq⟩ := hok.call hc
      have hnot : ¬ j.k ≤ σ.length := fun h => by
        have := (hI.calls i j hj hc).2 h
        rw [hun] at this
        cases this
      have hlen' : σ.length + 1 = j.k := by
        rcases hprev with h | ⟨p, J, hp, he, hJp, hcp, hkp⟩
        · omega
        · have := hI.leans p J hJp hcp (hdepl p he (by omega))
          omega
      unfold Ob at hob
      simp only [hk] at hob
      rcases hob σ g a w hlen' hI.phi hI.base hFr with ⟨hw, hcall⟩ | ⟨hw, hv, hphi⟩
      · rw [if_pos (hFr.wants hw)]
        refine .inl (hcall _ fun v w' hv hphi hkeep => ?_)
        rw [hd]
        have hl1 : (σ ++ [v]).length = σ.length + 1 := by simp
        refine ih _ _ (σ ++ [v]) g w' hf' (inv_put hI hiD hDN hlen ho hj hd hdn hkey hdis hun ?_ (fun i' J hJ' hne hl => val_more (fun hna => hI.leans i' J hJ' hna hl)) (fun i' J hJ' hcJ hne => ?_) (fun _ => by omega) (fun _ => by omega) (by omega) (by omega) (by rw [hl1]; exact hphi) hkeep (fun _ _ => rfl) (fun T zs h => by rw [hk] at h; cases h) (by simp [Job.target, hk]))
        · unfold Job.val
          simp only [hk]
          rw [List.take_of_length_le (by omega)]
          exact hv
        · have := huniq i' J (hjD i' J hJ') hne hJ' hcJ
          omega
      · rw [if_neg (by rw [hFr.wants hw]; simp), hd]
        have hl1 : (σ ++ [undef]).length = σ.length + 1 := by simp
        refine ih _ _ (σ ++ [undef]) g w hf' (inv_put hI hiD hDN hlen ho hj hd hdn hkey hdis hun ?_ (fun i' J hJ' hne hl => val_more (fun hna => hI.leans i' J hJ' hna hl)) (fun i' J hJ' hcJ hne => ?_) (fun _ => by omega) (fun _ => by omega) (by omega) (by omega) (by rw [hl1]; exact hphi) Keeps.same (fun _ _ => rfl) (fun T zs h => by rw [hk] at h; cases h) (by simp [Job.target, hk]))
        · unfold Job.val
          simp only [hk]
          rw [List.take_of_length_le (by omega)]
          exact hv
        · have := huniq i' J (hjD i' J hJ') hne hJ' hcJ
          omega
    | store t c =>
      have hc : j.isCall = false := by simp [Job.isCall, hk]
      have ha : j.isAlloc = false := by simp [Job.isAlloc, hk]
      have hkl := hleanq hc ha
      obtain ⟨hd, het, ⟨Jt, T, zs, hJt, hkt⟩, huniq⟩ := hok.nodst t c hk
      have htN : t < ops.size := Nat.lt_of_lt_of_le (hjD t Jt hJt) hDN
      have htl := hdepl t het htN
      obtain ⟨hBt, _, hz, _⟩ := hI.news t Jt T zs hJt hkt htl
      have hRt := hz fun s J c' hJs hks => by
        obtain rfl := huniq s J c' (hjD s J hJs) hJs hks
        exact hun
      unfold Ob at hob
      simp only [hk] at hob
      obtain ⟨hw, w', hrun, hR', hM⟩ := hob σ g a w Jt T zs hkl hI.phi hFr hJt hkt hRt
      rw [if_pos (hFr.wants hw)]
      refine .inl ?_
      unfold Oper.wp
      rw [hrun, Oper.upon_skip, hd]
      refine ih _ _ σ g w' hf' (inv_store hI hiD hDN hj hk hun (by unfold dstOf; rw [ho]; exact hd) (fun i' J c' h1 h2 => huniq i' J c' (hjD i' J h1) h1 h2) htl ⟨Jt, T, zs, hJt, hkt⟩ hkl (hΦs ⟨t, Jt, T, zs, hJt, hkt⟩ _ _ _ _ _ hI.phi hBt hM) (fun J T' zs' h1 h2 => ?_) hM)
      rw [hJt] at h1
      cases h1
      rw [hkt] at h2
      cases h2
      exact hR'
end main
theorem storedAt_some {i : Nat} {c : Array Value} : ∀ {l : List Job}, storedAt l i = some c → ∃ (s : Nat) (J : Job), l[s]? = some J ∧ J.kind = .store i c
  | [], h => by cases h
  | j :: r, h => by
    unfold storedAt at h
    cases hk : j.kind with
    | store t c' =>
      simp only [Job.target, hk] at h
      cases hb : Nat.beq t i with
      | true =>
        rw [hb] at h
        obtain rfl := beq_iff.1 hb
        cases h
        exact ⟨0, j, rfl, hk⟩
      | false =>
        rw [hb] at h
        obtain ⟨s, J, h1, h2⟩ := storedAt_some (l := r) h
        exact ⟨s + 1, J, by simpa using h1, h2⟩
    | _ =>
      simp only [Job.target, hk] at h
      obtain ⟨s, J, h1, h2⟩ := storedAt_some (l := r) h
      exact ⟨s + 1, J, by simpa using h1, h2⟩
theorem storedAt_none {i : Nat} : ∀ {l : List Job}, storedAt l i = none → ∀ (s : Nat) (J : Job) c, l[s]? = some J → J.kind ≠ .store i c
  | [], _, s, J, c, h => by simp at h
  | j :: r, h, s, J, c, h1 => by
    unfold storedAt at h
    cases s with
    | zero =>
      simp only [List.getElem?_cons_zero, Option.some.injEq] at h1
      subst h1
      intro hk
      simp [Job.target, hk] at h
    | succ s =>
      simp only [List.getElem?_cons_succ] at h1
      refine storedAt_none (l := r) ?_ s J c h1
      cases hk : j.target with
      | none => simpa only [hk] using h
      | some q =>
        obtain ⟨t, c'⟩ := q
        simp only [hk] at h
        cases hb : Nat.beq t i with
        | true => rw [hb] at h; cases h
        | false => rw [hb] at h; exact h

theorem parOK_parts {D m : Nat} {keys : List Nat} (h : parOK ops jobs n D m keys = true) : D ≤ ops.size ∧ jobs.length = D ∧ (∀ i, i < D → jobOK ops jobs n D m keys i = true) ∧ (∀ i, D ≤ i → i < ops.size → (∀ j, j < D → edge ops i j = true) ∨ ∃ j, D ≤ j ∧ j < ops.size ∧ edge ops i j = true) ∧
    (∀ t, D ≤ t → t < ops.size → Region.ready .any ops (firstK t ops.size) = [t]) ∧ (m = 0 ∨ ∃ (p : Nat) (J : Job), jobs[p]? = some J ∧ J.isCall = true ∧ J.k = m) := by
  unfold parOK at h
  simp only [Bool.and_eq_true] at h
  obtain ⟨⟨⟨⟨⟨h1, h2⟩, h3⟩, h4⟩, h5⟩, h6⟩ := h
  refine ⟨Nat.le_of_ble_eq_true h1, beq_iff.1 h2, fun i hi => List.all_eq_true.1 h3 i (by simpa using hi), fun i hiD hiN => ?_, fun t htD htN => ?_, ?_⟩
  · have := List.all_eq_true.1 h4 i (by simpa using hiN)
    simp only [Bool.or_eq_true] at this
    rcases this with h | h
    · have := blt_lt h; omega
    · unfold lateOK at h
      simp only [Bool.or_eq_true] at h
      rcases h with h | h
      · exact .inl fun j hj => List.all_eq_true.1 h j (by simpa using hj)
      · obtain ⟨j, hj1, hj2⟩ := List.any_eq_true.1 h
        simp only [Bool.and_eq_true] at hj2
        exact .inr ⟨j, Nat.le_of_ble_eq_true hj2.1, by simpa using hj1, hj2.2⟩
  · have := List.all_eq_true.1 h5 (t - D) (by simp; omega)
    rw [show D + (t - D) = t by omega] at this
    exact eq_of_beq this
  · simp only [Bool.or_eq_true] at h6
    rcases h6 with h | h
    · exact .inl (beq_iff.1 h)
    · obtain ⟨J, hJ1, hJ2⟩ := List.any_eq_true.1 h
      simp only [Bool.and_eq_true] at hJ2
      obtain ⟨p, hp⟩ := List.getElem?_of_mem hJ1
      exact .inr ⟨p, J, hp, hJ2.1, beq_iff.1 hJ2.2⟩

/-- all values of the first part -/
def finEnv (ops : Array Oper) (jobs : List Job) (σ : List Value) (g : Nat → Nat) (D : Nat) : List (Nat × Value) := depEnv ops jobs σ g (List.range D)
/-- THE REGION -/
theorem region_par {id : Nat} {a : Act} {w : World} (D m : Nat) (jobs : List Job) (env0 : List (Nat × Value)) (B : Nat) (Φ : Nat → List Value → World → Prop) (hmix : P.follows .mixedOrders = true) (hok : parOK ops jobs n D m (env0.map (·.1)) = true) (hF : Fr n a env0)
    (h0 : Φ 0 [] w.drew) (hB : B ≤ w.heap.size) (hΦ : ∀ k σ w o, Φ k σ w → Φ k σ (w.alloc o)) (hΦs : AnyAl jobs → ∀ k σ w w' x, Φ k σ w → B ≤ x → Mod (One x) w w' → Φ k σ w') (hOb : AllOb P ops Q n B jobs env0 Φ ops.toList jobs)
    (hend : ∀ a σ g w', σ.length = m → Φ m σ w' → Fr n a (finEnv ops jobs σ g D ++ env0) → B ≤ w'.heap.size → (∀ (i : Nat) j T zs, jobs[i]? = some j → j.kind = .alloc T zs → B ≤ g i ∧ Row w' (g i) T ((storedAt jobs i).getD zs)) → (∀ (i i' : Nat) j j', jobs[i]? = some j → jobs[i']? = some j' → j.isAlloc = true → j'.isAlloc = true → i ≠ i' → g i ≠ g i') →
      wpList P ops Q (ops.toList.drop D) a w') : (Code.region id ops true).wp P Q a w := by
  obtain ⟨hDN, hlen, hJ, hlate, hr, hm⟩ := parOK_parts hok
  refine wp_region_any hmix ?_
  have hz : ∀ i, i < ops.size → (Array.replicate ops.size false).getD i true = false := fun i hi => by simp [hi]
  have hinit : Inv ops n B jobs env0 Φ D m (Array.replicate ops.size false) a [] (fun _ => 0) w.drew := by
    have hjN : ∀ (i : Nat) j, jobs[i]? = some j → i < ops.size := fun i j h => by have := (List.getElem?_eq_some_iff.1 h).1; omega
    refine ⟨by simp, fun i _ hi => hz i hi, hF, fun i j d hj _ hl => ?_, fun i j hj hc => ?_, fun i j hj _ hl => ?_, by simp, h0, hB, fun i j T zs hj _ hl => ?_, fun s J t c hj _ hl => ?_, fun i i' j j' hj _ _ _ hl _ _ => ?_⟩
    · rw [hz i (hjN i j hj)] at hl; cases hl
    · rw [hz i (hjN i j hj)]
      obtain ⟨o, j', ho, hj', hk⟩ := jobOK_iff (hJ i (by rw [← hlen]; exact (List.getElem?_eq_some_iff.1 hj).1))
      rw [hj] at hj'
      cases hj'
      have := (hk.call hc).1
      simp
      omega
    · rw [hz i (hjN i j hj)] at hl; cases hl
    · rw [hz i (hjN i j hj)] at hl; cases hl
    · rw [hz s (hjN s J hj)] at hl; cases hl
    · rw [hz i (hjN i j hj)] at hl; cases hl
  have hunl : unl (Array.replicate ops.size false) ops.size = ops.size := by
    have := unl_all (Array.replicate ops.size false) 0 (fun i h => by omega) (fun i _ h => hz i (by simpa using h)) ops.size (by simp)
    simpa using this
  refine par_main hDN hlen (fun i hi => jobOK_iff (hJ i hi)) hlate hOb hΦ hΦs hm (fun a σ g w hlm hI => ?_) ops.size _ a [] (fun _ => 0) w.drew hunl hinit
  refine any_list hr (ops.size - D) D a w (by omega) (Nat.le_refl _) ?_
  have hl : ∀ i, i < D → (firstK D ops.size).getD i true = true := fun i hi => by rw [firstK_get (by omega)]; simpa using hi
  have hjD : ∀ (i : Nat) j, jobs[i]? = some j → i < D := fun i j h => by rw [← hlen]; exact (List.getElem?_eq_some_iff.1 h).1
  refine hend a σ g w hlm (by rw [← hlm]; exact hI.phi) (Fr.app (fr_dep hI _ (fun e he => hl e (by simpa using he))) hI.fr) hI.base (fun i j T zs hj hk => by
    obtain ⟨h1, _, h3, h4⟩ := hI.news i j T zs hj hk (hl i (hjD i j hj))
    refine ⟨h1, ?_⟩
    cases hs : storedAt jobs i with
    | none => exact h3 fun s J c hJs hks => absurd hks (storedAt_none hs s J c hJs)
    | some c =>
      obtain ⟨s, J, hJs, hks⟩ := storedAt_some hs
      exact h4 s J c hJs hks (hl s (hjD s J hJs))) (fun i i' j j' hj hj' ha ha' hne => hI.apart i i' j j' hj hj' ha ha' (hl i (hjD i j hj)) (hl i' (hjD i' j' hj')) hne)
end
end Go.Proofs.Ytmcdjniebkfagaa

namespace Go.Proofs.Ytmcdjniebkfagaa
open Go.RowKit

/-- from any frame that holds env, at world w, the operations l -/
def WL (P : Program) (ops : Array Oper) (Q : Exit → Act → World → Prop) (n : Nat) (env : List (Nat × Value)) (w : World) (l : List Oper) : Prop := ∀ a, Fr n a env → wpList P ops Q l a w
/-- .. the code c -/
def WC (P : Program) (Q : Exit → Act → World → Prop) (n : Nat) (env : List (Nat × Value)) (w : World) (c : Code) : Prop := ∀ a, Fr n a env → c.wp P Q a w
/-- .. the way out e -/
def WE (Q : Exit → Act → World → Prop) (n : Nat) (env : List (Nat × Value)) (w : World) (e : Exit) : Prop := ∀ a, Fr n a env → Q e a w

section wl
variable {P : Program} {ops : Array Oper} {Q : Exit → Act → World → Prop} {n : Nat} {w : World} {env env' : List (Nat × Value)} {rest : List Oper} {o : Oper} {d : Nat}
theorem WL.keep (hs : Sub env env') (h : WL P ops Q n env' w rest) : WL P ops Q n env w rest := fun a hF => h a (hF.keep hs)
theorem WC.keep {c : Code} (hs : Sub env env') (h : WC P Q n env' w c) : WC P Q n env w c := fun a hF => h a (hF.keep hs)
theorem WE.keep {e : Exit} (hs : Sub env env') (h : WE Q n env' w e) : WE Q n env w e := fun a hF => h a (hF.keep hs)
def oneL : List Value → Bool
  | [] => true
  | v :: r => match v.oneCell' with | true => oneL r | false => false
theorem oneL_all : ∀ {l : List Value}, oneL l = true → l.all (·.oneCell') = true
  | [], _ => rfl
  | v :: r, h => by
    unfold oneL at h
    cases hv : v.oneCell' with
    | false => rw [hv] at h; cases h
    | true => rw [hv] at h; have := oneL_all h; simp_all
/-- what two whole numbers give when compared -/
def cmpB (op : BinOp) (a b : Int) : Option Bool := match op with | .eql => some (a == b) | .neq => some (a != b) | .lss => some (decide (a < b)) | .leq => some (decide (a ≤ b)) | .gtr => some (decide (a > b)) | .geq => some (decide (a ≥ b)) | _ => none
def arB (op : BinOp) (a b : Int) : Option Int := match op with | .add => some (a + b) | .sub => some (a - b) | .mul => some (a * b) | _ => none
theorem exec_cmp {a : Act} {op : BinOp} {T T' : TypeId} {x y : Operand} {k : IntKind} {p q : Int} {c : Bool} (ho : o.op = .binOp op T x y T') (hx : evs env x = some (.int k p)) (hy : evs env y = some (.int k q)) (hc : cmpB op p q = some c) (hF : Fr n a env) : (execOp a.eval o).run P w = .ok (.value (.bool c)) w := by
  unfold execOp
  simp only [ho, hF.evs hx, hF.evs hy]
  cases op <;> simp only [cmpB, Option.some.injEq, reduceCtorEq] at hc <;> subst hc <;> simp [eqGuard, binOp, Op.intCmp]
theorem exec_ar {a : Act} {op : BinOp} {T T' : TypeId} {x y : Operand} {k : IntKind} {p q z z' : Int} (ho : o.op = .binOp op T x y T') (hx : evs env x = some (.int k p)) (hy : evs env y = some (.int k q)) (hc : arB op p q = some z) (hz : k.wrap z = z') (hF : Fr n a env) : (execOp a.eval o).run P w = .ok (.value (.int k z')) w := by
  unfold execOp
  subst hz
  simp only [ho, hF.evs hx, hF.evs hy]
  cases op <;> simp only [arB, Option.some.injEq, reduceCtorEq] at hc <;> subst hc <;> simp [eqGuard, binOp, Op.intArith]
theorem exec_not {a : Act} {T : TypeId} {x : Operand} {c c' : Bool} (ho : o.op = .unOp .not T x) (hx : evs env x = some (.bool c)) (hc : (!c) = c') (hF : Fr n a env) : (execOp a.eval o).run P w = .ok (.value (.bool c')) w := by
  unfold execOp
  subst hc
  simp [ho, hF.evs hx, Op.unary]
/-- a field's place -/
def FieldAt (P : Program) (S : TypeId) (f k : Nat) : Prop := ∀ g off w, (Instr.fieldAt S (.pointer (some ⟨g, off, none⟩)) f).run P w = .ok (.pointer (some ⟨g, off + k, none⟩)) w
theorem exec_field {a : Act} {S : TypeId} {x : Operand} {f k g off : Nat} (hf : FieldAt P S f k) (ho : o.op = .fieldAddr S x f) (hx : evs env x = some (.pointer (some ⟨g, off, none⟩))) (hF : Fr n a env) : (execOp a.eval o).run P w = .ok (.value (.pointer (some ⟨g, off + k, none⟩))) w := by
  unfold execOp
  simp only [ho, hF.evs hx, Sem.run_bind, hf g off w, Result.andThen_ok, Sem.run_pure]
theorem exec_builtin2 {a : Act} {bi : Builtin} {args : Array Operand} {ats : Array TypeId} {vs : List Value} {v : Value} (ho : o.op = .call { callee := .builtin bi, args := args, argTypes := ats }) (hx : evl env args.toList = some vs) (hr : ∀ cs, (builtin bi ats o.type cs vs.toArray).run P w = .ok (.value v) w) (hF : Fr n a env) : (execOp a.eval o).run P w = .ok (.value v) w := by
  have h1 : args.map a.eval = vs.toArray := by
    have := hF.evl hx
    rw [← this]
    cases args; simp
  unfold execOp
  simp only [ho, resolve, invoke, Sem.run_bind, Sem.run_pure, Result.andThen_ok, h1]
  exact hr _
/-- min and max of two whole numbers -/
theorem run_min2 {k : IntKind} {a b c : Int} (h : (if b < a then b else a) = c) (ats : Array TypeId) (ty : TypeId) (w : World) (cs : Array Bool) : (builtin .min ats ty cs [.int k a, .int k b].toArray).run P w = .ok (.value (.int k c)) w := by
  subst h
  simp [builtin, Builtin.min_, Builtin.min2]
  try (split <;> simp_all)
theorem run_len_slice {t e : TypeId} (hu : P.underlying t = some (.slice e)) (A : Option Addr) (k c : Nat) (ty : TypeId) (w : World) (cs : Array Bool) : (builtin .len #[t] ty cs [.slice A k c].toArray).run P w = .ok (.value (.int .i64 (k : Int))) w := by
  simp [builtin, Builtin.len_, run_underlying hu, goInt]
end wl

section wc
variable {P : Program} {Q : Exit → Act → World → Prop} {n : Nat} {w : World} {env : List (Nat × Value)}
variable {fn : Func} {R : Ending → World → Prop}
end wc

/-! ## Contracts, what became of the world -/
section conv
variable {P : Program} {F : FuncId} {vs : Array Value} {w : World} {v : Value}
end conv

/-! ## A region that draws its order, whose calls leave what was there -/
section par
variable {P : Program} {ops : Array Oper} {Q : Exit → Act → World → Prop} {n : Nat} {w : World} {env env0 : List (Nat × Value)} {jobs : List Job} {o : Oper}
/-- blocks of w are as they were -/
abbrev UpΦ (w : World) : Nat → List Value → World → Prop := fun _ _ W => Up w.heap.size w W
theorem UpΦ.row {k : Nat} {σ : List Value} {W : World} {g : Nat} {t : TypeId} {cs : Array Value} (h : UpΦ w k σ W) (hR : Row w g t cs) : Row W g t cs := hR.below h.below hR.lt
abbrev OB (P : Program) (ops : Array Oper) (Q : Exit → Act → World → Prop) (n : Nat) (jobs : List Job) (env0 : List (Nat × Value)) (w : World) (o : Oper) (j : Job) : Prop := Ob P ops Q n w.heap.size jobs env0 (UpΦ w) o j
variable {deps : List Nat} {v : Value} {kk : Nat}
theorem ob_q (hg : ∀ σ g, wants ops o (depEnv ops jobs σ g deps ++ env0) = some true) (hrun : ∀ σ g b W, Up w.heap.size w W → Fr n b (depEnv ops jobs σ g deps ++ env0) → (execOp b.eval o).run P W = .ok (.value v) W) : OB P ops Q n jobs env0 w o ⟨.quiet, kk, fun _ => v, deps⟩ :=
  fun σ g b W _ hU hb => .inl ⟨hg σ g, hrun σ g b W hU hb⟩
theorem ob_load (hg : ∀ σ g, wants ops o (depEnv ops jobs σ g deps ++ env0) = some true) {T : TypeId} {x : Operand} {g off : Nat} {t : TypeId} {cs : Array Value} (ho : o.op = .load T x) (hx : ∀ σ g', evs (depEnv ops jobs σ g' deps ++ env0) x = some (.pointer (some ⟨g, off, none⟩))) (hR : Row w g t cs) (hv : Reads P T cs off v) : OB P ops Q n jobs env0 w o ⟨.quiet, kk, fun _ => v, deps⟩ := ob_q hg fun σ g _ _ hU hb => exec_load ho (hx σ g) hv (hR.below hU.below hR.lt) hb
theorem ob_cmp (hg : ∀ σ g, wants ops o (depEnv ops jobs σ g deps ++ env0) = some true) {op : BinOp} {T T' : TypeId} {x y : Operand} {k : IntKind} {p q : Int} {c : Bool} (ho : o.op = .binOp op T x y T') (hx : ∀ σ g, evs (depEnv ops jobs σ g deps ++ env0) x = some (.int k p)) (hy : ∀ σ g, evs (depEnv ops jobs σ g deps ++ env0) y = some (.int k q)) (hc : cmpB op p q = some c) : OB P ops Q n jobs env0 w o ⟨.quiet, kk, fun _ => .bool c, deps⟩ := ob_q hg fun σ g _ _ _ hb => exec_cmp ho (hx σ g) (hy σ g) hc hb
theorem ob_builtin (hg : ∀ σ g, wants ops o (depEnv ops jobs σ g deps ++ env0) = some true) {bi : Builtin} {args : Array Operand} {ats : Array TypeId} {vs : List Value} (ho : o.op = .call { callee := .builtin bi, args := args, argTypes := ats }) (hx : ∀ σ g, evl (depEnv ops jobs σ g deps ++ env0) args.toList = some vs) (hr : ∀ w cs, (builtin bi ats o.type cs vs.toArray).run P w = .ok (.value v) w) : OB P ops Q n jobs env0 w o ⟨.quiet, kk, fun _ => v, deps⟩ := ob_q hg fun σ g _ W _ hb => exec_builtin2 ho (hx σ g) (hr W) hb
theorem ob_call {k : Nat} (hg : ∀ σ g, wants ops o (depEnv ops jobs σ g deps ++ env0) = some true) {F : FuncId} (hE : Ent P F) {f : Operand} {args : Array Operand} {ats : Array TypeId} {vs : List Value} (ho : o.op = .call { callee := .value f, args := args, argTypes := ats }) (hf : ∀ σ g, evs (depEnv ops jobs σ g deps ++ env0) f = some (.func (.func F) #[] #[])) (hx : ∀ σ g, evl (depEnv ops jobs σ g deps ++ env0) args.toList = some vs)
    (hc : ∀ W, Up w.heap.size w W → Calls P F vs.toArray W fun e w' => e = .returned v ∧ Below W.heap.size W w') : OB P ops Q n jobs env0 w o ⟨.call, k, fun _ => v, deps⟩ :=
  fun σ g b W _ hU _ hb => .inl ⟨hg σ g, fun K hK => by
    unfold Oper.wp
    rw [exec_call hE ho (hf σ g) (hx σ g) hb, Oper.upon_enter]
    refine (hc W hU).mono ?_
    rintro e w' ⟨rfl, hbl⟩
    exact hK _ _ rfl (hU.trans hbl) (Keeps.below hbl)⟩
theorem c_par {id : Nat} {env : List (Nat × Value)} (D m : Nat) (jobs : List Job) (env0 : List (Nat × Value)) (hmix : P.follows .mixedOrders = true) (hok : parOK ops jobs n D m (env0.map (·.1)) = true) (hs : Sub env env0)
    (hOb : AllOb P ops Q n w.heap.size jobs env0 (UpΦ w) ops.toList jobs)
    (hend : ∀ σ g w', Up w.heap.size w w' → (∀ (i : Nat) j T zs, jobs[i]? = some j → j.kind = .alloc T zs → w.heap.size ≤ g i ∧ Row w' (g i) T ((storedAt jobs i).getD zs)) → (∀ (i i' : Nat) j j', jobs[i]? = some j → jobs[i']? = some j' → j.isAlloc = true → j'.isAlloc = true → i ≠ i' → g i ≠ g i') →
      WL P ops Q n (finEnv ops jobs σ g D ++ env0) w' (ops.toList.drop D)) : WC P Q n env w (.region id ops true) := fun a hF =>
  region_par D m jobs env0 w.heap.size (UpΦ w) hmix hok (hF.keep hs) (Up.refl w).drew (Nat.le_refl _) (fun _ _ _ o h => h.alloc o) (fun _ _ _ _ _ _ h hx hM => h.one hM hx) hOb fun a σ g w' _ hU hF' _ h1 h2 => hend σ g w' hU h1 h2 a hF'
end par

/-! ## A small region, order by order -/
section orders
variable {P : Program} {ops : Array Oper} {Q : Exit → Act → World → Prop} {n f i d : Nat} {w : World} {env env' : List (Nat × Value)} {listed : Array Bool} {o : Oper}
/-- from any frame that holds env, at w, what is not listed yet, in whatever order -/
def WA (P : Program) (ops : Array Oper) (Q : Exit → Act → World → Prop) (n : Nat) (env : List (Nat × Value)) (w : World) (f : Nat) (listed : Array Bool) : Prop := ∀ a, Fr n a env → wpAny P .any ops Q f listed a w
/-- number i comes next -/
def WO (P : Program) (ops : Array Oper) (Q : Exit → Act → World → Prop) (n : Nat) (env : List (Nat × Value)) (w : World) (f : Nat) (listed : Array Bool) (i : Nat) : Prop := ∀ a, Fr n a env → wpOp P ops Q i (wpAny P .any ops Q f (listed.setIfInBounds i true)) a w
theorem WA.keep (hs : Sub env env') (h : WA P ops Q n env' w f listed) : WA P ops Q n env w f listed := fun a hF => h a (hF.keep hs)
theorem a_store (ho : ops[i]? = some o) (hg : wants ops o env = some true) (hd : o.dst = none) {T : TypeId} {x y : Operand} {g off k : Nat} {t : TypeId} {cs : Array Value} {v : Value} (hop : o.op = .store T x y) (hx : evs env x = some (.pointer (some ⟨g, off, none⟩))) (hy : evs env y = some v) (hR : Row w g t cs) (hs : ∀ w, (sizeOf T).run P w = .ok k w) (hk : v.cells.size = k) (hl : off + k ≤ cs.size) (h1 : oneL v.cells.toList = true)
    (h : ∀ w', Row w' g t (over? cs.toList off v.cells.toList).toArray → Mod (One g) w w' → WA P ops Q n env w' f (listed.setIfInBounds i true)) : WO P ops Q n env w f listed i := fun a hF => by
  unfold wpOp
  simp only [ho]
  rw [if_pos (hF.wants hg)]
  refine .inl ?_
  obtain ⟨w', hr, hR', hm⟩ := run_storeCells_at (P := P) g t v.cells.toList 0 cs w off hR (by simp; omega) (fun u hu => (List.all_eq_true.1 (oneL_all h1)) u hu)
  have hrun : (execOp a.eval o).run P w = .ok .skip w' := by
    unfold execOp
    simp [hop, hF.evs hx, hF.evs hy, Instr.storeAt, Instr.sureAddr, storeVar, hs, hk, hr]
  unfold Oper.wp
  rw [hrun, Oper.upon_skip, hd]
  exact h _ (by simpa [over?] using hR') hm _ hF
end orders
end Go.Proofs.Ytmcdjniebkfagaa
