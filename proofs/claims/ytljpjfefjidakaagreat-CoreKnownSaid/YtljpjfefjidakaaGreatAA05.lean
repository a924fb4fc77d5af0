/-
  Ri
-/
import Derived.Test.YtljpjfefjidakaaGreatAA04
import Derived.OrdersIn
set_option linter.unusedSimpArgs false
set_option linter.unusedVariables false

namespace Go.Proofs.YtljpjfefjidakaaGreat.Run
noncomputable section
open Go.RowKit

/-- what an operation came to, when it was run in its place -/
structure Rec where
  o : Oper
  bm : Nat
  env : Env
  RC : Tr AO
  v : Value
  H' : Tr AO
  E : List Nat
  lo : Nat
  hi : Nat
def rng (lo : Nat) : Nat → List Nat
  | 0 => []
  | k + 1 => lo :: rng (lo + 1) k
theorem mem_rng : ∀ {k lo j : Nat}, j ∈ rng lo k ↔ lo ≤ j ∧ j < lo + k
  | 0, lo, j => by simp [rng]
  | k + 1, lo, j => by
    unfold rng
    rw [List.mem_cons, mem_rng]; omega
def maskOf (acc : List Nat) (o : Oper) : Nat := o.after.toList.foldr (fun e m => match Region.binds .any e with | true => m ||| 2 ^ e.on ||| acc.getD e.on 0 | false => m) 0
/-- the later of two orders is told by masks: what comes ahead of each -/
def masks : List Oper → List Nat → Option (List Nat)
  | [], acc => some acc
  | o :: r, acc => match o.after.toList.all (fun e => match Region.binds .any e with | true => Nat.blt e.on acc.length | false => true) with
    | true => masks r (acc ++ [maskOf acc o])
    | false => none
def unord (bm : Nat) : Nat → List Rec → List Rec
  | _, [] => []
  | j, r :: rs => match bm.testBit j with | true => unord bm (j + 1) rs | false => r :: unord bm (j + 1) rs
def rmD : List Rec → Env → Option Env
  | [], env => some env
  | r :: rs, env => match r.o.dst with
    | some d => match inT d with | true => rmD rs (put env d none) | false => none
    | none => rmD rs env
def rmL : List Nat → Tr AO → Tr AO
  | [], C => C
  | k :: r, C => rmL r (put C k none)
def rmE : List Rec → Tr AO → Tr AO
  | [], C => C
  | r :: rs, C => rmE rs (rmL r.E C)
/-- the rows that an operand names -/
def idsV : Value → List Nat
  | .pointer (some a) => [a.block]
  | .slice (some a) _ _ => [a.block]
  | .map (some r) => [r]
  | _ => []
def idsO (env : Env) : List Operand → List Nat
  | [] => []
  | x :: r => match evO env x with | some v => idsV v ++ idsO env r | none => idsO env r
def mini (C : Tr AO) : List Nat → Tr AO → Tr AO
  | [], acc => acc
  | k :: r, acc => match inT k with | true => mini C r (put acc k (C.get k)) | false => mini C r acc
def isCall (o : Oper) : Bool := match o.op with | .call { callee := .value _, .. } => true | _ => false
/-- what does not read the memory needs none of it -/
def needs (o : Oper) (l : List Nat) : List Nat := match o.op with
  | .move _ | .assign _ | .pick .. | .fieldAddr .. | .indexAddr .. | .nilCheck _ | .extract .. | .slice .. | .binOp .. | .unOp .. | .field .. | .index .. | .makeFunc .. | .makeInterface .. => []
  | _ => l
def allNone (RC : Tr AO) : List Nat → Bool
  | [] => true
  | k :: r => match RC.get k with | none => allNone RC r | some _ => false
def dsj (E : List Nat) : List Nat → Bool
  | [] => true
  | k :: r => match E.any (Nat.beq k) with | true => false | false => dsj E r
def okU (RC : Tr AO) (E : List Nat) : List Rec → Bool
  | [] => true
  | r :: rs => match allNone r.RC E && allNone RC r.E && dsj E r.E with | true => okU RC E rs | false => false
def ovE (H' : Tr AO) : List Nat → Tr AO → Tr AO
  | [], C => C
  | k :: r, C => ovE H' r (put C k (H'.get k))
def newD (d : Option Tmp) : List Rec → Bool
  | [] => true
  | r :: rs => match d, r.o.dst with
    | some a, some b => match Nat.beq a b with | true => false | false => newD d rs
    | _, _ => newD d rs
structure Dr where
  recs : List Rec
  env : Env
  C : Tr AO
  nx : Nat
def evDr (P : Program) (X : Els P) (call : CallF) (n : Nat) (ops : Array Oper) : List Oper → List Nat → Dr → Option Dr
  | [], _, s => some s
  | _ :: _, [], _ => none
  | o :: r, bm :: bs, s =>
    let un := unord bm 0 s.recs
    match rmD un s.env, newD o.dst s.recs with
    | some env, true => match wantsR ops o env with
      | none => none
      | some false => match evPut s.env n o.dst undef with
        | some env' => evDr P X call n ops r bs ⟨s.recs ++ [⟨o, bm, env, .tE, undef, .tE, [], s.nx, s.nx⟩], env', s.C, s.nx⟩
        | none => none
      | some true =>
        let RC := match isCall o with | true => rmE un s.C | false => mini s.C (needs o (idsO env o.op.operands.toList)) .tE
        match evOp P X call env RC s.nx o with
        | some [x] =>
          let E := x.wr ++ rng s.nx (x.nx - s.nx)
          match okU RC E un && E.all inT && Nat.ble s.nx x.nx, evPut s.env n o.dst x.v with
          | true, some env' => evDr P X call n ops r bs ⟨s.recs ++ [⟨o, bm, env, RC, x.v, x.H, E, s.nx, x.nx⟩], env', ovE x.H E s.C, x.nx⟩
          | _, _ => none
        | _ => none
    | _, _ => none
/-- what is not known of a slot while the region runs: what is written by an operation that does not come behind all others ahead of it in the text -/
def stripD (env : Env) : List Oper → List Nat → Nat → Option Env
  | [], _, _ => some env
  | _ :: _, [], _ => none
  | o :: r, bm :: bs, k => match o.dst with
    | some d => match Nat.beq (bm + 1) (2 ^ k) with
      | true => stripD env r bs (k + 1)
      | false => match inT d with | true => stripD (put env d none) r bs (k + 1) | false => none
    | none => stripD env r bs (k + 1)
/-- a region that draws its order -/
def evDraw (P : Program) (X : Els P) (call : CallF) (n : Nat) (ops : Array Oper) (st : St) : Option (List St) := match masks ops.toList [] with
  | some bms => match stripD st.env ops.toList bms 0 with
    | some env0 => match evDr P X call n ops ops.toList bms ⟨[], env0, st.H, st.nx⟩ with
      | some s => some [⟨s.env, s.C, s.nx, s.recs.flatMap (·.E) ++ st.wr⟩]
      | none => none
    | none => none
  | none => none

/-! ## What the tables tell -/
section tables
variable {k : Nat}
theorem rmL_get : ∀ {l : List Nat} {C : Tr AO}, (l.all inT = true) → (rmL l C).get k = if k ∈ l then none else C.get k
  | [], C, _ => by simp [rmL]
  | x :: r, C, h => by
    rw [List.all_cons, Bool.and_eq_true] at h
    unfold rmL
    rw [rmL_get h.2, get_put h.1]
    by_cases h1 : k ∈ r <;> by_cases h2 : k = x <;> simp [h1, h2]
theorem rmE_get : ∀ {rs : List Rec} {C : Tr AO} {o : AO}, (∀ r ∈ rs, r.E.all inT = true) → (rmE rs C).get k = some o → C.get k = some o ∧ ∀ r ∈ rs, k ∉ r.E
  | [], C, o, _, h => ⟨h, fun _ hr => by simp at hr⟩
  | x :: r, C, o, hi, h => by
    unfold rmE at h
    obtain ⟨h1, h2⟩ := rmE_get (fun y hy => hi y (by simp [hy])) h
    rw [rmL_get (hi x (by simp))] at h1
    split at h1
    · cases h1
    · rename_i hk
      exact ⟨h1, fun y hy => by rcases List.mem_cons.1 hy with rfl | hy; exact hk; exact h2 y hy⟩
theorem mini_get : ∀ {l : List Nat} {C acc : Tr AO} {o : AO}, (∀ o, acc.get k = some o → C.get k = some o) → (mini C l acc).get k = some o → C.get k = some o
  | [], C, acc, o, ha, h => ha o h
  | x :: r, C, acc, o, ha, h => by
    unfold mini at h
    split at h
    · rename_i hx
      refine mini_get (acc := put acc x (C.get x)) (fun o' h' => ?_) h
      rw [get_put hx] at h'
      split at h'
      · rename_i e; rw [e]; exact h'
      · exact ha o' h'
    · exact mini_get ha h
theorem ovE_get : ∀ {l : List Nat} {H' C : Tr AO}, l.all inT = true → (ovE H' l C).get k = if k ∈ l then H'.get k else C.get k
  | [], _, C, _ => by simp [ovE]
  | x :: r, H', C, h => by
    rw [List.all_cons, Bool.and_eq_true] at h
    unfold ovE
    rw [ovE_get h.2, get_put h.1]
    by_cases h1 : k ∈ r <;> by_cases h2 : k = x
    · simp [h1]
    · simp [h1]
    · subst h2; simp [h1]
    · simp [h1, h2]
theorem allNone_at : ∀ {l : List Nat} {RC : Tr AO}, allNone RC l = true → k ∈ l → RC.get k = none
  | [], _, _, hk => by simp at hk
  | x :: r, RC, h, hk => by
    unfold allNone at h
    split at h
    · rename_i hx
      rcases List.mem_cons.1 hk with rfl | hk
      · exact hx
      · exact allNone_at h hk
    · cases h
theorem dsj_at : ∀ {l E : List Nat}, dsj E l = true → k ∈ l → k ∉ E
  | [], _, _, hk => by simp at hk
  | x :: r, E, h, hk => by
    unfold dsj at h
    split at h
    · cases h
    · rename_i hx
      rcases List.mem_cons.1 hk with rfl | hk
      · intro hm
        have : E.any (Nat.beq k) = true := List.any_eq_true.2 ⟨k, hm, by simp⟩
        rw [this] at hx; cases hx
      · exact dsj_at h hk
theorem okU_at : ∀ {rs : List Rec} {RC : Tr AO} {E : List Nat}, okU RC E rs = true → ∀ r ∈ rs, (∀ k ∈ E, r.RC.get k = none) ∧ (∀ k ∈ r.E, RC.get k = none) ∧ ∀ k ∈ r.E, k ∉ E
  | [], _, _, _, r, hr => by simp at hr
  | x :: rs, RC, E, h, r, hr => by
    unfold okU at h
    split at h
    · rename_i hb
      simp only [Bool.and_eq_true] at hb
      rcases List.mem_cons.1 hr with rfl | hr
      · exact ⟨fun k hk => allNone_at hb.1.1 hk, fun k hk => allNone_at hb.1.2 hk, fun k hk => dsj_at hb.2 hk⟩
      · exact okU_at h r hr
    · cases h
theorem newD_at : ∀ {rs : List Rec} {d : Nat}, newD (some d) rs = true → ∀ r ∈ rs, r.o.dst ≠ some d
  | [], _, _, r, hr => by simp at hr
  | x :: rs, d, h, r, hr => by
    unfold newD at h
    rcases List.mem_cons.1 hr with rfl | hr
    · intro e
      simp only [e] at h
      rw [Tr.beqT] at h
      cases h
    · split at h
      · split at h
        · cases h
        · exact newD_at h r hr
      · exact newD_at h r hr
theorem rmD_get : ∀ {rs : List Rec} {env env' : Env}, rmD rs env = some env' → ∀ v, env'.get k = some v → env.get k = some v ∧ ∀ r ∈ rs, r.o.dst ≠ some k
  | [], env, env', h, v, hv => by cases h; exact ⟨hv, fun _ hr => by simp at hr⟩
  | x :: rs, env, env', h, v, hv => by
    unfold rmD at h
    split at h
    · rename_i d hd
      split at h
      · rename_i hi
        obtain ⟨h1, h2⟩ := rmD_get h v hv
        rw [get_put hi] at h1
        split at h1
        · cases h1
        · rename_i hne
          exact ⟨h1, fun r hr => by
            rcases List.mem_cons.1 hr with rfl | hr
            · rw [hd]; intro e; cases e; exact hne rfl
            · exact h2 r hr⟩
      · cases h
    · rename_i hd
      obtain ⟨h1, h2⟩ := rmD_get h v hv
      exact ⟨h1, fun r hr => by
        rcases List.mem_cons.1 hr with rfl | hr
        · rw [hd]; simp
        · exact h2 r hr⟩
theorem stripD_get : ∀ {l : List Oper} {bs : List Nat} {j : Nat} {env env' : Env}, stripD env l bs j = some env' → ∀ v, env'.get k = some v → env.get k = some v
  | [], _, _, env, env', h, v, hv => by cases h; exact hv
  | _ :: _, [], _, _, _, h, _, _ => by cases h
  | x :: rs, b :: bs, j, env, env', h, v, hv => by
    unfold stripD at h
    split at h
    · split at h
      · exact stripD_get h v hv
      · split at h
        · rename_i hi
          have h1 := stripD_get h v hv
          rw [get_put hi] at h1
          split at h1
          · cases h1
          · exact h1
        · cases h
    · exact stripD_get h v hv
theorem stripD_full : ∀ {l : List Oper} {bs : List Nat} {j : Nat} {env env' : Env}, stripD env l bs j = some env' → ∀ (i : Nat) (o : Oper) (bm d : Nat), l[i]? = some o → bs[i]? = some bm → o.dst = some d → env'.get d = none ∨ bm + 1 = 2 ^ (j + i)
  | [], _, _, _, _, _, i, _, _, _, h, _, _ => by simp at h
  | _ :: _, [], _, _, _, h, _, _, _, _, _, _, _ => by cases h
  | x :: rs, b :: bs, j, env, env', h, 0, o, bm, d, ho, hb, hd => by
    simp only [List.getElem?_cons_zero, Option.some.injEq] at ho hb
    subst ho; subst hb
    unfold stripD at h
    rw [hd] at h
    simp only at h
    split at h
    · rename_i he
      exact .inr (Nat.eq_of_beq_eq_true he)
    · split at h
      · rename_i hi
        refine .inl ?_
        cases hg : env'.get d with
        | none => rfl
        | some v =>
          have h1 := stripD_get h v hg
          rw [get_put hi, if_pos rfl] at h1; cases h1
      · cases h
  | x :: rs, b :: bs, j, env, env', h, i + 1, o, bm, d, ho, hb, hd => by
    simp only [List.getElem?_cons_succ] at ho hb
    have e : j + (i + 1) = j + 1 + i := by omega
    rw [e]
    unfold stripD at h
    split at h
    · split at h
      · exact stripD_full h i o bm d ho hb hd
      · split at h
        · exact stripD_full h i o bm d ho hb hd
        · cases h
    · exact stripD_full h i o bm d ho hb hd
theorem full_bit {bm k j : Nat} (h : bm + 1 = 2 ^ k) (hj : j < k) : bm.testBit j = true := by
  have : bm = 2 ^ k - 1 := by omega
  rw [this, Nat.testBit_two_pow_sub_one]
  simpa using hj
theorem unord_mem : ∀ {rs : List Rec} {bm j : Nat} {i : Nat} {r : Rec}, rs[i]? = some r → bm.testBit (j + i) = false → r ∈ unord bm j rs
  | [], _, _, i, r, h, _ => by simp at h
  | x :: rs, bm, j, 0, r, h, hb => by
    simp only [List.getElem?_cons_zero, Option.some.injEq] at h
    subst h
    unfold unord
    rw [Nat.add_zero] at hb
    rw [hb]
    simp
  | x :: rs, bm, j, i + 1, r, h, hb => by
    simp only [List.getElem?_cons_succ] at h
    have := unord_mem (bm := bm) (j := j + 1) h (by rwa [show j + 1 + i = j + (i + 1) by omega])
    unfold unord
    split
    · exact this
    · exact List.mem_cons.2 (.inr this)
end tables
/-! ## What is in the rows when some have run -/
def HSt (L : Nat → Bool) : List Rec → Nat → Tr AO → Tr AO
  | [], _, H => H
  | r :: rs, j, H => HSt L rs (j + 1) (match L j with | true => ovE r.H' r.E H | false => H)
section hst
variable {L L' : Nat → Bool} {k : Nat}
theorem HSt_congr : ∀ {rs : List Rec} {j : Nat} {H H2 : Tr AO}, (∀ r ∈ rs, r.E.all inT = true) → (∀ i r, rs[i]? = some r → k ∈ r.E → L (j + i) = L' (j + i)) → H.get k = H2.get k → (HSt L rs j H).get k = (HSt L' rs j H2).get k
  | [], _, _, _, _, _, h => h
  | r :: rs, j, H, H2, hi, hc, h => by
    unfold HSt
    refine HSt_congr (fun x hx => hi x (by simp [hx])) (fun i x hx hk => by have := hc (i + 1) x (by simpa using hx) hk; rwa [show j + 1 + i = j + (i + 1) by omega]) ?_
    have hir := hi r (by simp)
    by_cases hk : k ∈ r.E
    · have := hc 0 r (by simp) hk
      rw [Nat.add_zero] at this
      rw [this]
      cases L' j <;> simp [ovE_get hir, h]
    · cases L j <;> cases L' j <;> simp [ovE_get hir, hk, h]
theorem HSt_none : ∀ {rs : List Rec} {j : Nat} {H : Tr AO}, (∀ r ∈ rs, r.E.all inT = true) → (∀ i r, rs[i]? = some r → k ∈ r.E → L (j + i) = false) → (HSt L rs j H).get k = H.get k
  | [], _, _, _, _ => rfl
  | r :: rs, j, H, hi, hc => by
    unfold HSt
    rw [HSt_none (fun x hx => hi x (by simp [hx])) (fun i x hx hk => by have := hc (i + 1) x (by simpa using hx) hk; rwa [show j + 1 + i = j + (i + 1) by omega])]
    by_cases hk : k ∈ r.E
    · have := hc 0 r (by simp) hk
      rw [Nat.add_zero] at this
      rw [this]
    · cases L j <;> simp [ovE_get (hi r (by simp)), hk]
/-- one more has run: what it may have changed is as it left it, if none behind it in the text has changed that -/
theorem HSt_more : ∀ {rs : List Rec} {j i : Nat} {r : Rec} {H : Tr AO}, (∀ r ∈ rs, r.E.all inT = true) → rs[i]? = some r → L (j + i) = false → (∀ q, q ≠ j + i → L' q = L q) → L' (j + i) = true → (∀ i2 r2, i < i2 → rs[i2]? = some r2 → L (j + i2) = true → ∀ k ∈ r.E, k ∉ r2.E) → (HSt L' rs j H).get k = if k ∈ r.E then r.H'.get k else (HSt L rs j H).get k
  | [], _, i, r, _, _, h, _, _, _, _ => by simp at h
  | x :: rs, j, 0, r, H, hi, h, hL, hne, hL', hlt => by
    simp only [List.getElem?_cons_zero, Option.some.injEq] at h
    subst h
    rw [Nat.add_zero] at hL hL' hne
    unfold HSt
    rw [hL, hL']
    simp only
    have hix := hi x (by simp)
    have hirs : ∀ r ∈ rs, r.E.all inT = true := fun y hy => hi y (by simp [hy])
    by_cases hk : k ∈ x.E
    · rw [if_pos hk, HSt_none hirs (fun i2 r2 h2 hk2 => ?_), ovE_get hix, if_pos hk]
      rw [hne _ (by omega)]
      cases hl : L (j + 1 + i2) with
      | false => rfl
      | true => exact absurd hk2 (hlt (i2 + 1) r2 (by omega) (by simpa using h2) (by rwa [show j + (i2 + 1) = j + 1 + i2 by omega]) k hk)
    · rw [if_neg hk]
      refine HSt_congr hirs (fun i2 r2 h2 _ => hne _ (by omega)) ?_
      rw [ovE_get hix, if_neg hk]
  | x :: rs, j, i + 1, r, H, hi, h, hL, hne, hL', hlt => by
    simp only [List.getElem?_cons_succ] at h
    unfold HSt
    rw [hne j (by omega)]
    exact HSt_more (fun y hy => hi y (by simp [hy])) h (by rwa [show j + 1 + i = j + (i + 1) by omega]) (fun q hq => hne q (by omega)) (by rwa [show j + 1 + i = j + (i + 1) by omega]) (fun i2 r2 h1 h2 h3 => hlt (i2 + 1) r2 (by omega) (by simpa using h2) (by rwa [show j + (i2 + 1) = j + 1 + i2 by omega]))
theorem HSt_app : ∀ {rs : List Rec} {j : Nat} {r : Rec} {H : Tr AO}, HSt L (rs ++ [r]) j H = match L (j + rs.length) with | true => ovE r.H' r.E (HSt L rs j H) | false => HSt L rs j H
  | [], j, r, H => by simp [HSt]
  | x :: rs, j, r, H => by
    rw [List.cons_append]
    unfold HSt
    rw [HSt_app (rs := rs)]
    rw [show j + 1 + rs.length = j + (x :: rs).length by simp; omega]
end hst
/-! ## The frame around a step -/
theorem Rep.sub {ρ : Rn} {H RC : Tr AO} {w : World} (h : Rep ρ H w) (hs : ∀ k o, RC.get k = some o → H.get k = some o) : Rep ρ RC w :=
  ⟨fun i o hi => h.ok i o (hs i o hi), fun i j o o' g c c' h1 h2 => h.inj i j o o' g c c' (hs i o h1) (hs j o' h2)⟩
theorem frame_step {ρ ρ' : Rn} {H RC H' H2 : Tr AO} {w w' : World} {lo hi : Nat} {E : List Nat} (hR : Rep ρ H w) (hs : ∀ k o, RC.get k = some o → H.get k = some o) (hA : Aft ρ RC w lo ρ' H' w' hi) (hS : Fsh ρ lo hi) (hE : ∀ k, k ∉ E → H'.get k = RC.get k)
    (h2 : ∀ k, H2.get k = if k ∈ E then H'.get k else H.get k) : Rep ρ' H2 w' ∧ Stp ρ H w ρ' H2 w' := by
  have hle := hA.ext.le hS
  -- what is not of the step's
  have out : ∀ k o, k ∉ E → H.get k = some o → RC.get k = none → ∀ g c, ρ k = some (g, c) → ¬ Blk ρ RC g := fun k o _ hk hn g c hg ⟨j, p, c', hj, hg'⟩ => by
    have := hR.inj j k p o g c' c (hs j p hj) hk hg' hg
    subst this
    rw [hn] at hj; cases hj
  -- where a row of H2 is from
  have from_ : ∀ k o, H2.get k = some o → H'.get k = some o ∨ (k ∉ E ∧ H.get k = some o ∧ RC.get k = none) := fun k o hk => by
    rw [h2] at hk
    by_cases he : k ∈ E
    · rw [if_pos he] at hk; exact .inl hk
    · rw [if_neg he] at hk
      cases hc : RC.get k with
      | some p =>
        have := hs k p hc
        rw [hk] at this; cases this
        exact .inl ((hE k he).trans hc)
      | none => exact .inr ⟨he, hk, rfl⟩
  have at_ : ∀ k o, H.get k = some o → ∃ g c, ρ k = some (g, c) ∧ ρ' k = some (g, c) ∧ OK ρ w g c o := fun k o hk => by
    obtain ⟨g, c, h1, h3⟩ := hR.ok k o hk
    exact ⟨g, c, h1, hle _ _ h1, h3⟩
  refine ⟨⟨fun k o hk => ?_, fun k j o p g c c' hk hj hg hg' => ?_⟩, ⟨hA.stp.os, hA.stp.tape, hA.stp.output, hA.stp.size, fun g hg hn => hA.stp.block g hg fun ⟨i, o, c, h3, h4⟩ => hn ⟨i, o, c, hs i o h3, h4⟩, fun g hg hb => ?_⟩⟩
  · rcases from_ k o hk with h3 | ⟨he, h3, hn⟩
    · exact hA.rep.ok k o h3
    · obtain ⟨g, c, h4, h5, h6⟩ := at_ k o h3
      exact ⟨g, c, h5, (h6.same (hA.stp.block g h6.lt (out k o he h3 hn g c h4))).mono hle⟩
  · -- two rows of one block
    have mixed : ∀ k j o p g c c', H'.get k = some o → (j ∉ E ∧ H.get j = some p ∧ RC.get j = none) → ρ' k = some (g, c) → ρ' j = some (g, c') → False := fun k j o p g c c' h3 ⟨he, h4, hn⟩ hg hg' => by
      obtain ⟨g2, c2, h5, h6, h7⟩ := at_ j p h4
      rw [hg'] at h6; cases h6
      exact out j p he h4 hn g c' h5 (hA.stp.own g h7.lt ⟨k, o, c, h3, hg⟩)
    rcases from_ k o hk with h3 | h3 <;> rcases from_ j p hj with h4 | h4
    · exact hA.rep.inj k j o p g c c' h3 h4 hg hg'
    · exact (mixed k j o p g c c' h3 h4 hg hg').elim
    · exact (mixed j k p o g c' c h4 h3 hg' hg).elim
    · obtain ⟨g1, c1, q1, q2, _⟩ := at_ k o h3.2.1
      obtain ⟨g2, c2, q3, q4, _⟩ := at_ j p h4.2.1
      rw [hg] at q2; cases q2
      rw [hg'] at q4; cases q4
      exact hR.inj k j o p g c c' h3.2.1 h4.2.1 q1 q3
  · obtain ⟨i, o, c, h3, h4⟩ := hb
    rcases from_ i o h3 with h5 | ⟨_, h5, _⟩
    · obtain ⟨j, p, c', h6, h7⟩ := hA.stp.own g hg ⟨i, o, c, h5, h4⟩
      exact ⟨j, p, c', hs j p h6, h7⟩
    · obtain ⟨g2, c2, q1, q2, _⟩ := at_ i o h5
      rw [h4] at q2; cases q2
      exact ⟨i, o, c, h5, q1⟩
/-! ## What the run tells -/
def unO (r q : Rec) (i j : Nat) : Prop := (j < i ∧ r.bm.testBit j = false) ∨ (i < j ∧ q.bm.testBit i = false)
section main
variable {P : Program} {X : Els P} {call : CallF} {n : Nat} {ops : Array Oper} {bms : List Nat} {env0 : Env} {H0 : Tr AO} {nx0 : Nat}
structure DrI (P : Program) (X : Els P) (call : CallF) (n : Nat) (ops : Array Oper) (bms : List Nat) (env0 : Env) (H0 : Tr AO) (nx0 : Nat) (s : Dr) : Prop where
  op : ∀ (i : Nat) (r : Rec), s.recs[i]? = some r → ops.toList[i]? = some r.o ∧ bms[i]? = some r.bm
  inE : ∀ r ∈ s.recs, r.E.all inT = true
  ran : ∀ r ∈ s.recs, (wantsR ops r.o r.env = some false ∧ r.v = undef ∧ r.E = [] ∧ r.lo = r.hi) ∨ (wantsR ops r.o r.env = some true ∧ ∃ wr, evOp P X call r.env r.RC r.lo r.o = some [⟨r.v, r.H', r.hi, wr⟩] ∧ r.E = wr ++ rng r.lo (r.hi - r.lo))
  dst : ∀ r ∈ s.recs, ∀ d, r.o.dst = some d → d < n ∧ inT d = true
  dsts : ∀ (i j : Nat) (r q : Rec) (d : Nat), s.recs[i]? = some r → s.recs[j]? = some q → i ≠ j → r.o.dst = some d → q.o.dst ≠ some d
  env : ∀ (t : Nat) (v : Value), s.env.get t = some v → (∃ (i : Nat) (r : Rec), s.recs[i]? = some r ∧ r.o.dst = some t ∧ r.v = v) ∨ (env0.get t = some v ∧ ∀ r ∈ s.recs, r.o.dst ≠ some t)
  renv : ∀ (i : Nat) (r : Rec), s.recs[i]? = some r → ∀ (t : Nat) (v : Value), r.env.get t = some v → (∃ (j : Nat) (q : Rec), j < i ∧ s.recs[j]? = some q ∧ r.bm.testBit j = true ∧ q.o.dst = some t ∧ q.v = v) ∨ (env0.get t = some v ∧ ∀ (j : Nat) (q : Rec), s.recs[j]? = some q → q.o.dst = some t → i ≤ j ∧ (i < j → q.bm.testBit i = true))
  rc : ∀ (i : Nat) (r : Rec), s.recs[i]? = some r → ∀ (k : Nat) (o : AO), r.RC.get k = some o → (HSt (fun _ => true) (s.recs.take i) 0 H0).get k = some o ∧ ∀ (j : Nat) (q : Rec), s.recs[j]? = some q → unO r q i j → k ∉ q.E
  un : ∀ (i j : Nat) (r q : Rec), s.recs[i]? = some r → s.recs[j]? = some q → unO r q i j → ∀ k ∈ r.E, k ∉ q.E
  lohi : ∀ r ∈ s.recs, nx0 ≤ r.lo ∧ r.lo ≤ r.hi ∧ r.hi ≤ s.nx
  apart : ∀ (i j : Nat) (r q : Rec), s.recs[i]? = some r → s.recs[j]? = some q → i < j → r.hi ≤ q.lo
  C : ∀ k, s.C.get k = (HSt (fun _ => true) s.recs 0 H0).get k
  nx : nx0 ≤ s.nx
theorem snoc_at {α : Type} {l : List α} {x : α} {i : Nat} {y : α} (h : (l ++ [x])[i]? = some y) : (i < l.length ∧ l[i]? = some y) ∨ (i = l.length ∧ y = x) := by
  by_cases hi : i < l.length
  · rw [List.getElem?_append_left hi] at h; exact .inl ⟨hi, h⟩
  · rw [List.getElem?_append_right (by omega)] at h
    have : i - l.length = 0 := by
      rcases Nat.eq_zero_or_pos (i - l.length) with h0 | h0
      · exact h0
      · rw [List.getElem?_eq_none (by simp; omega)] at h; cases h
    rw [this] at h
    simp at h
    exact .inr ⟨by omega, h.symm⟩
theorem lt_of_get {α : Type} {l : List α} {i : Nat} {y : α} (h : l[i]? = some y) : i < l.length := (List.getElem?_eq_some_iff.1 h).1
/-- one more record -/
theorem DrI.snoc {s : Dr} (h : DrI P X call n ops bms env0 H0 nx0 s) {x : Rec} {env' : Env} {C' : Tr AO} {nx' : Nat}
    (hop : ops.toList[s.recs.length]? = some x.o ∧ bms[s.recs.length]? = some x.bm) (hinE : x.E.all inT = true)
    (hran : (wantsR ops x.o x.env = some false ∧ x.v = undef ∧ x.E = [] ∧ x.lo = x.hi) ∨ (wantsR ops x.o x.env = some true ∧ ∃ wr, evOp P X call x.env x.RC x.lo x.o = some [⟨x.v, x.H', x.hi, wr⟩] ∧ x.E = wr ++ rng x.lo (x.hi - x.lo)))
    (hput : evPut s.env n x.o.dst x.v = some env') (hd0 : ∀ d, x.o.dst = some d → env0.get d = none ∨ ∀ j, j < s.recs.length → x.bm.testBit j = true) (hnew : newD x.o.dst s.recs = true) (henv : rmD (unord x.bm 0 s.recs) s.env = some x.env)
    (hRC : ∀ k o, x.RC.get k = some o → s.C.get k = some o ∧ ∀ r ∈ unord x.bm 0 s.recs, k ∉ r.E) (hun : okU x.RC x.E (unord x.bm 0 s.recs) = true)
    (hlo : x.lo = s.nx) (hhi : x.hi = nx') (hle : s.nx ≤ nx') (hC : ∀ k, C'.get k = if k ∈ x.E then x.H'.get k else s.C.get k) : DrI P X call n ops bms env0 H0 nx0 ⟨s.recs ++ [x], env', C', nx'⟩ := by
  have hmem : ∀ r, r ∈ s.recs ++ [x] → r ∈ s.recs ∨ r = x := fun r hr => by simpa using hr
  have hdx : ∀ d, x.o.dst = some d → d < n ∧ inT d = true := fun d hd => by
    unfold evPut at hput
    rw [hd] at hput
    simp only at hput
    split at hput
    · rename_i hb
      simp only [Bool.and_eq_true] at hb
      exact ⟨Nat.le_of_ble_eq_true hb.1, hb.2⟩
    · cases hput
  have hold : ∀ r ∈ s.recs, ∀ d, x.o.dst = some d → r.o.dst ≠ some d := fun r hr d hd => newD_at (by rw [hd] at hnew; exact hnew) r hr
  have hunm : ∀ i r, s.recs[i]? = some r → x.bm.testBit i = false → r ∈ unord x.bm 0 s.recs := fun i r hr hb => unord_mem hr (by rwa [Nat.zero_add])
  refine ⟨fun i r hr => ?_, fun r hr => ?_, fun r hr => ?_, fun r hr d hd => ?_, fun i j r q d hr hq hne hd => ?_, fun t v hv => ?_, fun i r hr t v hv => ?_, fun i r hr k o hk => ?_, fun i j r q hr hq hu k hk => ?_, fun r hr => ?_, fun i j r q hr hq hij => ?_, fun k => ?_, ?_⟩
  · rcases snoc_at hr with ⟨_, hr⟩ | ⟨rfl, rfl⟩
    · exact h.op i r hr
    · exact hop
  · rcases hmem r hr with hr | rfl
    · exact h.inE r hr
    · exact hinE
  · rcases hmem r hr with hr | rfl
    · exact h.ran r hr
    · exact hran
  · rcases hmem r hr with hr | rfl
    · exact h.dst r hr d hd
    · exact ⟨(hdx d hd).1, (hdx d hd).2⟩
  · replace hr := snoc_at hr
    replace hq := snoc_at hq
    rcases hr with ⟨_, hr⟩ | ⟨rfl, rfl⟩ <;> rcases hq with ⟨_, hq⟩ | ⟨rfl, rfl⟩
    · exact h.dsts i j r q d hr hq hne hd
    · intro e; exact hold r (List.mem_of_getElem? hr) d e hd
    · exact hold q (List.mem_of_getElem? hq) d hd
    · exact absurd rfl hne
  · -- what the slots hold
    unfold evPut at hput
    have left : ∀ t v, x.o.dst ≠ some t → s.env.get t = some v → (∃ (i : Nat) (r : Rec), (s.recs ++ [x])[i]? = some r ∧ r.o.dst = some t ∧ r.v = v) ∨ (env0.get t = some v ∧ ∀ r ∈ s.recs ++ [x], r.o.dst ≠ some t) := fun t v hxt hv => by
      rcases h.env t v hv with ⟨i, r, h1, h2, h3⟩ | ⟨h1, h2⟩
      · exact .inl ⟨i, r, by rw [List.getElem?_append_left (lt_of_get h1)]; exact h1, h2, h3⟩
      · refine .inr ⟨h1, fun r hr => ?_⟩
        rcases hmem r hr with hr | rfl
        · exact h2 r hr
        · exact hxt
    cases hd : x.o.dst with
    | none => rw [hd] at hput; cases hput; exact left t v (by rw [hd]; simp) hv
    | some d =>
      rw [hd] at hput
      simp only at hput
      split at hput
      · rename_i hb
        simp only [Bool.and_eq_true] at hb
        cases hput
        have hv' : (put s.env d (some x.v)).get t = some v := hv
        rw [get_put hb.2] at hv'
        split at hv'
        · rename_i e
          cases hv'
          exact .inl ⟨s.recs.length, x, by simp, by rw [hd, e], rfl⟩
        · rename_i hne
          exact left t v (by rw [hd]; intro e; cases e; exact hne rfl) hv'
      · cases hput
  · rcases snoc_at hr with ⟨hi, hr⟩ | ⟨rfl, rfl⟩
    · rcases h.renv i r hr t v hv with ⟨j, q, h1, h2, h3⟩ | ⟨h1, h2⟩
      · exact .inl ⟨j, q, h1, by rw [List.getElem?_append_left (by omega)]; exact h2, h3⟩
      · refine .inr ⟨h1, fun j q hq hqd => ?_⟩
        rcases snoc_at hq with ⟨_, hq⟩ | ⟨rfl, rfl⟩
        · exact h2 j q hq hqd
        · refine ⟨by omega, fun _ => ?_⟩
          rcases hd0 t hqd with h3 | h3
          · rw [h1] at h3; cases h3
          · exact h3 i hi
    · obtain ⟨h1, h2⟩ := rmD_get henv v hv
      rcases h.env t v h1 with ⟨j, q, h3, h4, h5⟩ | ⟨h3, h6⟩
      · refine .inl ⟨j, q, lt_of_get h3, by rw [List.getElem?_append_left (lt_of_get h3)]; exact h3, ?_, h4, h5⟩
        cases hb : r.bm.testBit j with
        | true => rfl
        | false => exact absurd h4 (h2 q (hunm j q h3 hb))
      · refine .inr ⟨h3, fun j q hq hqd => ?_⟩
        rcases snoc_at hq with ⟨_, hq⟩ | ⟨rfl, rfl⟩
        · exact absurd hqd (h6 q (List.mem_of_getElem? hq))
        · exact ⟨Nat.le_refl _, fun hlt => absurd hlt (Nat.lt_irrefl _)⟩
  · replace hr := snoc_at hr
    rcases hr with ⟨hi, hr⟩ | ⟨rfl, rfl⟩
    · obtain ⟨h1, h2⟩ := h.rc i r hr k o hk
      refine ⟨by rw [List.take_append_of_le_length (by omega)]; exact h1, fun j q hq hu => ?_⟩
      rcases snoc_at hq with ⟨_, hq⟩ | ⟨rfl, rfl⟩
      · exact h2 j q hq hu
      · rcases hu with ⟨hlt, _⟩ | ⟨_, hb⟩
        · omega
        · intro hm
          have := (okU_at hun r (hunm i r hr hb)).1 k hm
          rw [hk] at this; cases this
    · obtain ⟨h1, h2⟩ := hRC k o hk
      refine ⟨by rw [List.take_left, ← h.C]; exact h1, fun j q hq hu => ?_⟩
      rcases snoc_at hq with ⟨hj, hq⟩ | ⟨rfl, rfl⟩
      · rcases hu with ⟨_, hb⟩ | ⟨hlt, _⟩
        · exact h2 q (hunm j q hq hb)
        · omega
      · rcases hu with ⟨hlt, _⟩ | ⟨hlt, _⟩ <;> omega
  · replace hr := snoc_at hr
    replace hq := snoc_at hq
    rcases hr with ⟨hi, hr⟩ | ⟨rfl, rfl⟩ <;> rcases hq with ⟨hj, hq⟩ | ⟨rfl, rfl⟩
    · exact h.un i j r q hr hq hu k hk
    · rcases hu with ⟨hlt, _⟩ | ⟨_, hb⟩
      · omega
      · exact (okU_at hun r (hunm i r hr hb)).2.2 k hk
    · rcases hu with ⟨_, hb⟩ | ⟨hlt, _⟩
      · intro hm; exact (okU_at hun q (hunm j q hq hb)).2.2 k hm hk
      · omega
    · rcases hu with ⟨hlt, _⟩ | ⟨hlt, _⟩ <;> omega
  · rcases hmem r hr with hr | rfl
    · obtain ⟨h1, h2, h3⟩ := h.lohi r hr
      exact ⟨h1, h2, Nat.le_trans h3 hle⟩
    · have := h.nx
      exact ⟨by omega, by omega, by show r.hi ≤ nx'; omega⟩
  · replace hr := snoc_at hr
    replace hq := snoc_at hq
    rcases hr with ⟨hi, hr⟩ | ⟨rfl, rfl⟩ <;> rcases hq with ⟨hj, hq⟩ | ⟨rfl, rfl⟩
    · exact h.apart i j r q hr hq hij
    · rw [hlo]; exact (h.lohi r (List.mem_of_getElem? hr)).2.2
    · omega
    · omega
  · rw [HSt_app]
    simp only
    rw [ovE_get hinE, ← h.C]
    exact hC k
  · exact Nat.le_trans h.nx hle
theorem evDr_i : ∀ {l : List Oper} {bs : List Nat} {s s' : Dr}, DrI P X call n ops bms env0 H0 nx0 s → ops.toList.drop s.recs.length = l → bms.drop s.recs.length = bs → (∀ (i : Nat) (o : Oper) (bm d : Nat), ops.toList[i]? = some o → bms[i]? = some bm → o.dst = some d → env0.get d = none ∨ bm + 1 = 2 ^ i) → evDr P X call n ops l bs s = some s' → DrI P X call n ops bms env0 H0 nx0 s' ∧ s'.recs.length = ops.size
  | [], bs, s, s', h, hl, hb, hd0, he => by
    cases he
    refine ⟨h, ?_⟩
    have h1 : ops.toList.length ≤ s.recs.length := by simpa using hl
    have h2 : s.recs.length ≤ ops.toList.length := by
      rcases Nat.lt_or_ge ops.toList.length s.recs.length with hlt | hge
      · have : ∃ r, s.recs[ops.toList.length]? = some r := ⟨_, List.getElem?_eq_getElem hlt⟩
        obtain ⟨r, hr⟩ := this
        have := lt_of_get (h.op _ r hr).1
        omega
      · exact hge
    rw [← Array.length_toList]; omega
  | o :: r, [], s, s', h, hl, hb, hd0, he => by cases he
  | o :: r, bm :: bs, s, s', h, hl, hb, hd0, he => by
    unfold evDr at he
    have hoo : ops.toList[s.recs.length]? = some o := by
      have := congrArg (·[0]?) hl
      simpa using this
    have hbb : bms[s.recs.length]? = some bm := by
      have := congrArg (·[0]?) hb
      simpa using this
    have hdo : ∀ d, o.dst = some d → env0.get d = none ∨ ∀ j, j < s.recs.length → bm.testBit j = true := fun d hd => (hd0 _ o bm d hoo hbb hd).imp id fun h j hj => full_bit h hj
    have next : ∀ (x : Rec) (env' : Env) (C' : Tr AO) (nx' : Nat), DrI P X call n ops bms env0 H0 nx0 ⟨s.recs ++ [x], env', C', nx'⟩ → evDr P X call n ops r bs ⟨s.recs ++ [x], env', C', nx'⟩ = some s' → DrI P X call n ops bms env0 H0 nx0 s' ∧ s'.recs.length = ops.size := fun x env' C' nx' hI hev =>
      evDr_i hI (by
        show ops.toList.drop (s.recs ++ [x]).length = r
        rw [List.length_append, ← List.drop_drop, hl]; rfl) (by
        show bms.drop (s.recs ++ [x]).length = bs
        rw [List.length_append, ← List.drop_drop, hb]; rfl) hd0 hev
    simp only at he
    split at he
    case h_2 => cases he
    rename_i env hrm hnew
    split at he
    · cases he
    · rename_i hw
      split at he
      · rename_i env' hput
        refine next _ _ _ _ (h.snoc ⟨hoo, hbb⟩ rfl (.inl ⟨hw, rfl, rfl, rfl⟩) hput hdo hnew hrm (fun k o hk => by simp [Tr.get_e] at hk) ?_ rfl rfl (Nat.le_refl _) (fun k => by simp)) he
        have : ∀ rs : List Rec, okU .tE [] rs = true := by
          intro rs
          induction rs with
          | nil => rfl
          | cons y ys ih =>
            unfold okU
            have h1 : ∀ l, allNone .tE l = true := by
              intro l
              induction l with
              | nil => rfl
              | cons z zs ih => unfold allNone; simpa [Tr.get_e] using ih
            have h2 : ∀ l, dsj [] l = true := by
              intro l
              induction l with
              | nil => rfl
              | cons z zs ih => unfold dsj; simpa using ih
            rw [h1, h2]
            exact ih
        exact this _
      · cases he
    · rename_i hw
      split at he
      · rename_i x hev
        split at he
        · rename_i env' hok hput
          simp only [Bool.and_eq_true] at hok
          obtain ⟨⟨h1, h2⟩, h3⟩ := hok
          have h3 := Nat.le_of_ble_eq_true h3
          refine next _ _ _ _ (h.snoc ⟨hoo, hbb⟩ h2 (.inr ⟨hw, x.wr, hev, rfl⟩) hput hdo hnew hrm ?_ h1 rfl rfl h3 (fun k => ovE_get h2)) he
          intro k p hk
          have hk : (match isCall o with | true => rmE (unord bm 0 s.recs) s.C | false => mini s.C (needs o (idsO env o.op.operands.toList)) .tE).get k = some p := hk
          have hin : ∀ q ∈ unord bm 0 s.recs, q.E.all inT = true := fun q hq => by
            have : ∀ (rs : List Rec) (j : Nat), (∀ y ∈ rs, y.E.all inT = true) → ∀ y ∈ unord bm j rs, y.E.all inT = true := by
              intro rs
              induction rs with
              | nil => intro j _ y hy; simp [unord] at hy
              | cons z zs ih =>
                intro j hz y hy
                unfold unord at hy
                split at hy
                · exact ih _ (fun a ha => hz a (by simp [ha])) y hy
                · rcases List.mem_cons.1 hy with rfl | hy
                  · exact hz _ (by simp)
                  · exact ih _ (fun a ha => hz a (by simp [ha])) y hy
            exact this _ _ h.inE q hq
          have hnone : ∀ q ∈ unord bm 0 s.recs, k ∉ q.E := fun q hq hm => by
            have := (okU_at h1 q hq).2.1 k hm
            have hk' : (match isCall o with | true => rmE (unord bm 0 s.recs) s.C | false => mini s.C (needs o (idsO env o.op.operands.toList)) .tE).get k = none := this
            rw [hk] at hk'; cases hk'
          refine ⟨?_, hnone⟩
          cases hc : isCall o with
          | true => rw [hc] at hk; exact (rmE_get hin hk).1
          | false => rw [hc] at hk; exact mini_get (fun o h => by simp [Tr.get_e] at h) hk
        · cases he
      · cases he
/-- masks: what comes ahead of each -/
theorem masks_at : ∀ {l : List Oper} {acc bms : List Nat}, masks l acc = some bms → (∃ t, bms = acc ++ t) ∧ bms.length = acc.length + l.length ∧ ∀ i o, l[i]? = some o → bms[acc.length + i]? = some (maskOf (bms.take (acc.length + i)) o) ∧ ∀ e ∈ o.after, Region.binds .any e = true → e.on < acc.length + i
  | [], acc, bms, h => by
    cases h
    exact ⟨⟨[], by simp⟩, by simp, fun i o h => by simp at h⟩
  | o :: r, acc, bms, h => by
    unfold masks at h
    split at h
    · rename_i hall
      obtain ⟨⟨t, ht⟩, hlen, hat⟩ := masks_at h
      rw [List.length_append, List.length_singleton] at hlen hat
      refine ⟨⟨maskOf acc o :: t, by rw [ht]; simp⟩, by rw [hlen]; simp; omega, fun i p hi => ?_⟩
      cases i with
      | zero =>
        simp only [List.getElem?_cons_zero, Option.some.injEq] at hi
        subst hi
        rw [Nat.add_zero]
        refine ⟨?_, fun e he hb => ?_⟩
        · rw [ht, List.append_assoc, List.take_left, List.getElem?_append_right (Nat.le_refl _)]
          simp
        · have := List.all_eq_true.1 hall e (Array.mem_toList_iff.2 he)
          rw [hb] at this
          exact Nat.le_of_ble_eq_true this
      | succ i =>
        have := hat i p (by simpa using hi)
        rwa [show acc.length + 1 + i = acc.length + (i + 1) by omega] at this
    · cases h
theorem maskOf_bit {acc : List Nat} {o : Oper} {j : Nat} (h : (maskOf acc o).testBit j = true) : ∃ e ∈ o.after, Region.binds .any e = true ∧ (e.on = j ∨ (acc.getD e.on 0).testBit j = true) := by
  unfold maskOf at h
  have key : ∀ l : List Edge, (l.foldr (fun e m => match Region.binds .any e with | true => m ||| 2 ^ e.on ||| acc.getD e.on 0 | false => m) 0).testBit j = true → ∃ e ∈ l, Region.binds .any e = true ∧ (e.on = j ∨ (acc.getD e.on 0).testBit j = true) := by
    intro l
    induction l with
    | nil => intro h; simp at h
    | cons e r ih =>
      intro h
      rw [List.foldr_cons] at h
      split at h
      · rename_i hb
        rw [Nat.testBit_or, Nat.testBit_or, Bool.or_eq_true, Bool.or_eq_true] at h
        rcases h with (h | h) | h
        · obtain ⟨x, h1, h2⟩ := ih h; exact ⟨x, by simp [h1], h2⟩
        · exact ⟨e, by simp, hb, .inl (by rw [Nat.testBit_two_pow] at h; simpa using h)⟩
        · exact ⟨e, by simp, hb, .inr h⟩
      · obtain ⟨x, h1, h2⟩ := ih h; exact ⟨x, by simp [h1], h2⟩
  obtain ⟨e, h1, h2⟩ := key _ h
  exact ⟨e, Array.mem_toList_iff.1 h1, h2⟩
theorem Blk.sub {ρ : Rn} {H H2 : Tr AO} {g : Nat} (hs : ∀ k o, H.get k = some o → H2.get k = some o) (h : Blk ρ H g) : Blk ρ H2 g := by obtain ⟨i, o, c, h1, h2⟩ := h; exact ⟨i, o, c, hs i o h1, h2⟩
/-- while the region is under way -/
structure InvD (n : Nat) (env0 : Env) (H0 : Tr AO) (ρ0 : Rn) (w0 : World) (ds : List Deferred) (recs : List Rec) (listed : Array Bool) (a : Act) (ρ : Rn) (w : World) : Prop where
  size : listed.size = recs.length
  bits : ∀ (i : Nat) (r : Rec), recs[i]? = some r → listed.getD i false = true → ∀ j, r.bm.testBit j = true → listed.getD j false = true
  len : a.tmps.size = n
  env : ∀ (t : Nat) (v : Value), env0.get t = some v → (∀ (i : Nat) (r : Rec), recs[i]? = some r → listed.getD i false = true → r.o.dst ≠ some t) → ∃ u, a.tmps[t]? = some u ∧ VR ρ v u
  vals : ∀ (i : Nat) (r : Rec), recs[i]? = some r → listed.getD i false = true → ∀ d, r.o.dst = some d → ∃ u, a.tmps[d]? = some u ∧ VR ρ r.v u
  defers : a.defers = ds
  rep : Rep ρ (HSt (fun i => listed.getD i false) recs 0 H0) w
  stp : Stp ρ0 H0 w0 ρ (HSt (fun i => listed.getD i false) recs 0 H0) w
  ext : ∀ k, (∀ (i : Nat) (r : Rec), recs[i]? = some r → listed.getD i false = true → ¬ (r.lo ≤ k ∧ k < r.hi)) → ρ k = ρ0 k
theorem getDF {listed : Array Bool} {i : Nat} (h : i < listed.size) : listed.getD i false = listed.getD i true := by simp [h]
theorem drawn_main (hC : CallOK P call) {s : Dr} {ρ0 : Rn} {w0 : World} {ds : List Deferred} {F : Fence} {Q : Exit → Act → World → Prop} (hG : GF F) (hm : masks ops.toList [] = some bms) (hI : DrI P X call n ops bms env0 H0 nx0 s) (hN : s.recs.length = ops.size) (hS : Fsh ρ0 nx0 s.nx)
    (hQ : ∀ ρ a w, FrR n ρ a s.env → a.defers = ds → Aft ρ0 H0 w0 nx0 ρ s.C w s.nx → Q .normal a w) :
    ∀ (f : Nat) (listed : Array Bool) (a : Act) (ρ : Rn) (w : World), unl listed ops.size = f → InvD n env0 H0 ρ0 w0 ds s.recs listed a ρ w → wpAnyIn F 0 P .any ops Q f listed a w := by
  have hmask : ∀ (i : Nat) (r : Rec), s.recs[i]? = some r → r.bm = maskOf (bms.take i) r.o ∧ ∀ e ∈ r.o.after, Region.binds .any e = true → e.on < i := fun i r hr => by
    obtain ⟨h1, h2⟩ := hI.op i r hr
    obtain ⟨_, _, h3⟩ := masks_at hm
    obtain ⟨h4, h5⟩ := h3 i r.o h1
    simp only [List.length_nil, Nat.zero_add] at h4 h5
    rw [h2] at h4
    exact ⟨Option.some.inj h4, h5⟩
  have hrec : ∀ i, i < ops.size → ∃ r, s.recs[i]? = some r ∧ ops[i]? = some r.o := fun i hi => by
    have hlt : i < s.recs.length := by omega
    refine ⟨s.recs[i], List.getElem?_eq_getElem hlt, ?_⟩
    have := (hI.op i _ (List.getElem?_eq_getElem hlt)).1
    simpa using this
  -- the end
  have fin : ∀ (listed : Array Bool) (a : Act) (ρ : Rn) (w : World), InvD n env0 H0 ρ0 w0 ds s.recs listed a ρ w → (∀ i, i < ops.size → listed.getD i false = true) → Q .normal a w := fun listed a ρ w hV hall => by
    have hL : ∀ i r, s.recs[i]? = some r → listed.getD i false = true := fun i r hr => hall i (by have := lt_of_get hr; omega)
    have hget : ∀ k, s.C.get k = (HSt (fun i => listed.getD i false) s.recs 0 H0).get k := fun k => by
      rw [hI.C]
      exact HSt_congr hI.inE (fun i r hr _ => by rw [Nat.zero_add]; exact (hL i r hr).symm) rfl
    refine hQ ρ a w ⟨hV.len, fun t v hv => ?_⟩ hV.defers ⟨fun k hk => ?_, hV.rep.sub fun k o h => by rw [← hget]; exact h, ⟨hV.stp.os, hV.stp.tape, hV.stp.output, hV.stp.size, hV.stp.block, fun g hg hb => hV.stp.own g hg (hb.sub fun k o h => by rw [← hget]; exact h)⟩⟩
    · rcases hI.env t v hv with ⟨i, r, h1, h2, h3⟩ | ⟨h1, h2⟩
      · rw [← h3]; exact hV.vals i r h1 (hL i r h1) t h2
      · exact hV.env t v h1 fun i r hr _ => h2 r (List.mem_of_getElem? hr)
    · refine hV.ext k fun i r hr _ hb => ?_
      obtain ⟨h1, h2, h3⟩ := hI.lohi r (List.mem_of_getElem? hr)
      omega
  intro f
  induction f with
  | zero =>
    intro listed a ρ w hf hV
    have hall : ∀ i, i < ops.size → listed.getD i false = true := fun i hi => by
      have hsz := hV.size
      rw [getDF (by omega)]
      cases hc : listed.getD i true with
      | true => rfl
      | false => have := unl_set listed i hc ops.size hi; omega
    refine ⟨?_, fin listed a ρ w hV hall⟩
    have : ∀ i, i ∉ Region.ready .any ops listed := fun i hi => by
      obtain ⟨h1, o, ho, _⟩ := mem_ready.1 hi
      have hlt := (Array.getElem?_eq_some_iff.1 ho).1
      have := hall i hlt
      have hsz := hV.size
      rw [getDF (by omega), h1] at this; cases this
    exact List.eq_nil_iff_forall_not_mem.2 this
  | succ f ih =>
    intro listed a ρ w hf hV
    have hsz := hV.size
    have hex : ∃ i, i < ops.size ∧ listed.getD i true = false := by
      apply Classical.byContradiction
      intro hno
      have : ∀ k, k ≤ ops.size → unl listed k = 0 := by
        intro k
        induction k with
        | zero => intro _; rfl
        | succ k ihk =>
          intro hk
          unfold unl
          rw [ihk (by omega)]
          cases hc : listed.getD k true with
          | true => simp
          | false => exact absurd ⟨k, by omega, hc⟩ hno
      have := this ops.size (Nat.le_refl _)
      omega
    have hready : ∃ i, i ∈ Region.ready .any ops listed := by
      obtain ⟨i0, hi0, hu0⟩ := hex
      have key : ∀ k i, i ≤ k → i < ops.size → listed.getD i true = false → ∃ i, i ∈ Region.ready .any ops listed := by
        intro k
        induction k with
        | zero =>
          intro i hik hi hu
          obtain ⟨r, hr, ho⟩ := hrec i hi
          exact ⟨i, mem_ready.2 ⟨hu, r.o, ho, fun e he hb => by have := (hmask i r hr).2 e he hb; omega⟩⟩
        | succ k ihk =>
          intro i hik hi hu
          obtain ⟨r, hr, ho⟩ := hrec i hi
          by_cases hrr : ∀ e ∈ r.o.after, Region.binds .any e = true → listed.getD e.on false = true
          · exact ⟨i, mem_ready.2 ⟨hu, r.o, ho, hrr⟩⟩
          · have : ∃ e ∈ r.o.after, Region.binds .any e = true ∧ listed.getD e.on false = false := by
              apply Classical.byContradiction
              intro hno
              apply hrr
              intro e he hb
              cases hc : listed.getD e.on false with
              | true => rfl
              | false => exact absurd ⟨e, he, hb, hc⟩ hno
            obtain ⟨e, he, hb, hc⟩ := this
            have hlt := (hmask i r hr).2 e he hb
            exact ihk e.on (by omega) (by omega) (by rw [← getDF (by omega)]; exact hc)
      exact key i0 i0 (Nat.le_refl _) hi0 hu0
    refine ⟨fun h0 => (by obtain ⟨i, hi⟩ := hready; rw [h0] at hi; simp at hi), fun i hi => ?_⟩
    obtain ⟨hun, o', ho', hedges⟩ := mem_ready.1 hi
    have hiN := (Array.getElem?_eq_some_iff.1 ho').1
    obtain ⟨r, hr, ho⟩ := hrec i hiN
    rw [ho] at ho'; cases ho'
    have hrm := List.mem_of_getElem? hr
    have hLi : listed.getD i false = false := by rw [getDF (by omega)]; exact hun
    -- what comes ahead of it is listed
    have hbits : ∀ j, r.bm.testBit j = true → listed.getD j false = true := fun j hj => by
      obtain ⟨hmk, hed⟩ := hmask i r hr
      rw [hmk] at hj
      obtain ⟨e, he, hb, h1⟩ := maskOf_bit hj
      have hel := hedges e he hb
      rcases h1 with rfl | h1
      · exact hel
      · have hei := hed e he hb
        obtain ⟨q, hq, _⟩ := hrec e.on (by omega)
        refine hV.bits e.on q hq hel j ?_
        have h2 : (bms.take i).getD e.on 0 = q.bm := by
          have := (hI.op e.on q hq).2
          rw [List.getD_eq_getElem?_getD, List.getElem?_take, if_pos hei, this]; rfl
        rw [h2] at h1; exact h1
    -- what is listed and not ahead of it is not ordered to it
    have hunO : ∀ (j : Nat) (q : Rec), s.recs[j]? = some q → listed.getD j false = true → r.bm.testBit j = false ∨ i < j → j ≠ i ∧ unO r q i j := fun j q hq hl hor => by
      have hne : j ≠ i := fun e => by rw [e, hLi] at hl; cases hl
      refine ⟨hne, ?_⟩
      by_cases hlt : i < j
      · refine .inr ⟨hlt, ?_⟩
        cases hb : q.bm.testBit i with
        | false => rfl
        | true => have := hV.bits j q hq hl i hb; rw [hLi] at this; cases this
      · rcases hor with h | h
        · exact .inl ⟨by omega, h⟩
        · exact absurd h hlt
    have hLN : ∀ j q, s.recs[j]? = some q → j < listed.size := fun j q hq => by have := lt_of_get hq; omega
    -- the frame that it sees
    have hFr : FrR n ρ a r.env := ⟨hV.len, fun t v hv => by
      rcases hI.renv i r hr t v hv with ⟨j, q, h1, h2, h3, h4, h5⟩ | ⟨h1, h2⟩
      · rw [← h5]; exact hV.vals j q h2 (hbits j h3) t h4
      · refine hV.env t v h1 fun j q hq hl hd => ?_
        obtain ⟨h3, h4⟩ := h2 j q hq hd
        by_cases e : i = j
        · subst e; rw [hLi] at hl; cases hl
        · have := hV.bits j q hq hl i (h4 (by omega)); rw [hLi] at this; cases this⟩
    -- the rows that it sees
    have hsub : ∀ k o, r.RC.get k = some o → (HSt (fun i => listed.getD i false) s.recs 0 H0).get k = some o := fun k o hk => by
      obtain ⟨h1, h2⟩ := hI.rc i r hr k o hk
      rw [← h1]
      have e : s.recs = s.recs.take i ++ s.recs.drop i := (List.take_append_drop i _).symm
      have split_ : ∀ (rs1 rs2 : List Rec) (L : Nat → Bool) (j : Nat) (H : Tr AO), HSt L (rs1 ++ rs2) j H = HSt L rs2 (j + rs1.length) (HSt L rs1 j H) := by
        intro rs1
        induction rs1 with
        | nil => intro rs2 L j H; rfl
        | cons x xs ihx =>
          intro rs2 L j H
          show HSt L (xs ++ rs2) (j + 1) (match L j with | true => ovE x.H' x.E H | false => H) = HSt L rs2 (j + (xs.length + 1)) (HSt L xs (j + 1) (match L j with | true => ovE x.H' x.E H | false => H))
          rw [ihx, show j + 1 + xs.length = j + (xs.length + 1) by omega]
      have hlen : (s.recs.take i).length = i := by have := lt_of_get hr; simp; omega
      rw [e, split_, HSt_none (fun x hx => hI.inE x (List.mem_of_mem_drop hx)) (fun j q hq hkq => ?_)]
      · rw [List.take_left' hlen]
        refine HSt_congr (fun x hx => hI.inE x (List.mem_of_mem_take hx)) (fun j q hq hkq => ?_) rfl
        rw [Nat.zero_add]
        have hji : j < i := by have := lt_of_get hq; omega
        have hq' : s.recs[j]? = some q := by rw [List.getElem?_take, if_pos hji] at hq; exact hq
        cases hb : r.bm.testBit j with
        | true => exact hbits j hb
        | false => exact absurd hkq (h2 j q hq' (.inl ⟨hji, hb⟩))
      · rw [Nat.zero_add, hlen]
        rw [List.getElem?_drop] at hq
        cases hl : listed.getD (i + j) false with
        | false => rfl
        | true =>
          obtain ⟨hne, hu⟩ := hunO (i + j) q hq hl (by
            rcases Nat.eq_zero_or_pos j with h0 | h0
            · subst h0; rw [Nat.add_zero] at hl; rw [hLi] at hl; cases hl
            · exact .inr (by omega))
          exact absurd hkq (h2 (i + j) q hq hu)
    have hf' : unl (listed.setIfInBounds i true) ops.size = f := by
      have := unl_set listed i hun ops.size hiN
      omega
    have hset : ∀ j, (listed.setIfInBounds i true).getD j false = if j = i then true else listed.getD j false := fun j => by
      by_cases hj : j < listed.size
      · rw [getDF (by simpa using hj), getD_set _ _ _ (by omega), getDF hj]
      · have : j ≠ i := by omega
        simp [hj, this]
    -- behind it
    have next : ∀ ρ' w' u, Rep ρ' (HSt (fun j => (listed.setIfInBounds i true).getD j false) s.recs 0 H0) w' → Stp ρ0 H0 w0 ρ' (HSt (fun j => (listed.setIfInBounds i true).getD j false) s.recs 0 H0) w' → Le ρ ρ' → (∀ k, ¬ (r.lo ≤ k ∧ k < r.hi) → ρ' k = ρ k) → VR ρ' r.v u → InvD n env0 H0 ρ0 w0 ds s.recs (listed.setIfInBounds i true) (a.put r.o.dst u) ρ' w' := fun ρ' w' u hR hSt hle hext hv => by
      refine ⟨by simpa using hV.size, fun j q hq hl b hb => ?_, ?_, fun t v hv' hno => ?_, fun j q hq hl d hd => ?_, (put_def _ _ _).trans hV.defers, hR, hSt, fun k hk => ?_⟩
      · rw [hset] at hl ⊢
        split
        · rfl
        · split at hl
          · rename_i e
            rw [e, hr] at hq; cases hq
            exact hbits b hb
          · exact hV.bits j q hq hl b hb
      · cases hd : r.o.dst with
        | none => exact hV.len
        | some d => simp [Act.put, hV.len]
      · obtain ⟨u', h1, h2⟩ := hV.env t v hv' fun j q hq hl => hno j q hq (by rw [hset]; split <;> simp [hl])
        refine ⟨u', ?_, h2.mono hle⟩
        cases hd : r.o.dst with
        | none => exact h1
        | some d =>
          have hne : d ≠ t := fun e => hno i r hr (by rw [hset, if_pos rfl]) (by rw [hd, e])
          show (a.tmps.setIfInBounds d u)[t]? = some u'
          rw [Array.getElem?_setIfInBounds_ne hne]; exact h1
      · rw [hset] at hl
        by_cases e : j = i
        · rw [e, hr] at hq; cases hq
          have hdn := (hI.dst r hrm d hd).1
          refine ⟨u, ?_, hv⟩
          rw [hd]
          show (a.tmps.setIfInBounds d u)[d]? = some u
          rw [Array.getElem?_setIfInBounds_self_of_lt (by rw [hV.len]; exact hdn)]
        · rw [if_neg e] at hl
          obtain ⟨u', h1, h2⟩ := hV.vals j q hq hl d hd
          refine ⟨u', ?_, h2.mono hle⟩
          cases hd2 : r.o.dst with
          | none => exact h1
          | some d2 =>
            have hne : d2 ≠ d := fun e2 => hI.dsts i j r q d2 hr hq (fun e3 => e e3.symm) hd2 (by rw [hd, e2])
            show (a.tmps.setIfInBounds d2 u)[d]? = some u'
            rw [Array.getElem?_setIfInBounds_ne hne]; exact h1
      · rw [hext k (hk i r hr (by rw [hset, if_pos rfl]))]
        refine hV.ext k fun j q hq hl => hk j q hq ?_
        rw [hset]; split
        · rfl
        · exact hl
    unfold wpOpIn
    simp only [ho]
    rcases hI.ran r hrm with ⟨hw, hv, hE, hlh⟩ | ⟨hw, wr, hev, hE⟩
    · rw [if_neg (by rw [hFr.wants hw]; simp)]
      refine ⟨fun f _ => gf_fn hG f, ih _ _ ρ w hf' ?_⟩
      have hsame : ∀ k, (HSt (fun j => (listed.setIfInBounds i true).getD j false) s.recs 0 H0).get k = (HSt (fun j => listed.getD j false) s.recs 0 H0).get k := fun k =>
        HSt_congr hI.inE (fun j q hq hkq => by
          rw [Nat.zero_add, hset]
          by_cases e : j = i
          · rw [e, hr] at hq; cases hq
            rw [hE] at hkq; simp at hkq
          · rw [if_neg e]) rfl
      have h0 := next ρ w undef (hV.rep.sub fun k o h => by rw [← hsame]; exact h) ⟨hV.stp.os, hV.stp.tape, hV.stp.output, hV.stp.size, hV.stp.block, fun g hg hb => hV.stp.own g hg (hb.sub fun k o h => by rw [← hsame]; exact h)⟩ (fun _ _ h => h) (fun _ _ => rfl) (by rw [hv]; exact .undef)
      exact h0
    · rw [if_pos (hFr.wants hw)]
      obtain ⟨⟨_, hone⟩, hrun⟩ := evOp_s hC hev
      obtain ⟨hle1, hWr⟩ := hone _ (List.mem_singleton.2 rfl)
      obtain ⟨q1, q2, q3⟩ := hI.lohi r hrm
      have hFsh : Fsh ρ r.lo r.hi := fun k hk1 hk2 => by
        rw [hV.ext k fun j q hq hl hb => ?_]
        · exact hS k (by omega) (by omega)
        · by_cases e : j = i
          · rw [e, hLi] at hl; cases hl
          · rcases Nat.lt_or_ge j i with hlt | hge
            · have := hI.apart j i q r hq hr hlt; omega
            · have := hI.apart i j r q hr hq (by omega); omega
      have hxle : ∀ x ∈ [(⟨r.v, r.H', r.hi, wr⟩ : Out)], x.nx ≤ r.hi := fun x hx => by
        have : x = ⟨r.v, r.H', r.hi, wr⟩ := by simpa using hx
        subst this; exact Nat.le_refl _
      refine hrun n ρ a w r.hi hFr (hV.rep.sub hsub) hxle hFsh F hG _ Q fun x hx ρ' w' u hA hv => ?_
      have hx' : x = ⟨r.v, r.H', r.hi, wr⟩ := by simpa using hx
      subst hx'
      have hget : ∀ k, (HSt (fun j => (listed.setIfInBounds i true).getD j false) s.recs 0 H0).get k = if k ∈ r.E then r.H'.get k else (HSt (fun j => listed.getD j false) s.recs 0 H0).get k := fun k => by
        refine HSt_more hI.inE hr (by rw [Nat.zero_add]; exact hLi) (fun q hq => by rw [Nat.zero_add] at hq; rw [hset, if_neg hq]) (by rw [Nat.zero_add, hset, if_pos rfl]) (fun i2 r2 h1 h2 h3 k hk => ?_)
        rw [Nat.zero_add] at h3
        exact hI.un i i2 r r2 hr h2 (hunO i2 r2 h2 h3 (.inr h1)).2 k hk
      obtain ⟨hR', hSt'⟩ := frame_step hV.rep hsub hA hFsh (E := r.E) (fun k hk => by
        rw [hE, List.mem_append, mem_rng, not_or] at hk
        exact hWr k hk.1 (show k < r.lo ∨ r.hi ≤ k by omega)) hget
      exact ih _ _ ρ' w' hf' (next ρ' w' u hR' (hV.stp.trans hSt') (hA.ext.le hFsh) (fun k hk => hA.ext k (show k < r.lo ∨ r.hi ≤ k by omega)) hv)
end main
end
end Go.Proofs.YtljpjfefjidakaaGreat.Run
