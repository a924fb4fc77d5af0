/-
  Rj · Rg
-/
import Derived.Test.YtljpjfefjidakaaGreatAA05
import Derived.LoopNIn
import Derived.RangeFuncNested
import Derived.RangeFuncLeaves
set_option linter.unusedSimpArgs false
set_option linter.unusedVariables false

namespace Go.Proofs.YtljpjfefjidakaaGreat.Run
noncomputable section
open Go.RowKit
section draw
variable {P : Program} {X : Els P} {call : CallF} {n : Nat} {ops : Array Oper}
theorem unl_none (N : Nat) : unl (Array.replicate N false) N = N := by
  have h0 : ∀ i, 0 ≤ i → i < (Array.replicate N false).size → (Array.replicate N false).getD i true = false := fun i _ h => by
    have h1 : i < N := by simpa using h
    simp [h1]
  have := unl_all (Array.replicate N false) 0 (fun i h => by omega) h0 N (by simp)
  simpa using this
theorem evDraw_any (hC : CallOK P call) {st : St} {sts : List St} (h : evDraw P X call n ops st = some sts) : (sts ≠ [] ∧ ∀ s ∈ sts, Bhd st s) ∧
    ∀ (ρ : Rn) (a : Act) (w : World) (M : Nat), FrR n ρ a st.env → Rep ρ st.H w → (∀ s ∈ sts, s.nx ≤ M) → Fsh ρ st.nx M → ∀ (F : Fence), GF F → ∀ (Q : Exit → Act → World → Prop),
      (∀ s ∈ sts, ∀ ρ' a' w', FrR n ρ' a' s.env → a'.defers = a.defers → Aft ρ st.H w st.nx ρ' s.H w' s.nx → Q .normal a' w') → wpAnyIn F 0 P .any ops Q ops.size (Array.replicate ops.size false) a w.drew := by
  unfold evDraw at h
  split at h
  case h_2 => cases h
  rename_i bms hm
  split at h
  case h_2 => cases h
  rename_i env0 hst
  split at h
  case h_2 => cases h
  rename_i s hev
  cases h
  have hd0 : ∀ (i : Nat) (o : Oper) (bm d : Nat), ops.toList[i]? = some o → bms[i]? = some bm → o.dst = some d → env0.get d = none ∨ bm + 1 = 2 ^ i := fun i o bm d ho hb hd => by
    have := stripD_full hst i o bm d ho hb hd
    rwa [Nat.zero_add] at this
  have h0 : DrI P X call n ops bms env0 st.H st.nx ⟨[], env0, st.H, st.nx⟩ :=
    ⟨fun i r h => by simp at h, fun r h => by simp at h, fun r h => by simp at h, fun r h => by simp at h, fun i j r q d h => by simp at h, fun t v h => .inr ⟨h, fun r hr => by simp at hr⟩, fun i r h => by simp at h, fun i r h => by simp at h, fun i j r q h => by simp at h, fun r h => by simp at h, fun i j r q h => by simp at h, fun k => rfl, Nat.le_refl _⟩
  obtain ⟨hI, hN⟩ := evDr_i h0 rfl rfl hd0 hev
  refine ⟨⟨by simp, fun x hx => ?_⟩, fun ρ a w M hF hR hM hS F hG Q hQ => ?_⟩
  · have : x = ⟨s.env, s.C, s.nx, s.recs.flatMap (·.E) ++ st.wr⟩ := by simpa using hx
    subst this
    refine ⟨hI.nx, _, rfl, fun k hk _ => ?_⟩
    show s.C.get k = st.H.get k
    rw [hI.C]
    exact HSt_none hI.inE fun i r hr hkr => absurd (List.mem_flatMap.2 ⟨r, List.mem_of_getElem? hr, hkr⟩) hk
  · have hnx : s.nx ≤ M := hM _ (List.mem_singleton.2 rfl)
    refine drawn_main (ρ0 := ρ) (w0 := w) (ds := a.defers) hC hG hm hI hN (hS.left hnx) (fun ρ' a' w' q1 q2 q3 => hQ _ (List.mem_singleton.2 rfl) ρ' a' w' q1 q2 q3) ops.size _ a ρ w.drew (unl_none _) ?_
    have hL : ∀ i, (Array.replicate ops.size false).getD i false = false := fun i => by
      by_cases hi : i < ops.size <;> simp [hi]
    have hget : ∀ k, (HSt (fun i => (Array.replicate ops.size false).getD i false) s.recs 0 st.H).get k = st.H.get k := fun k => HSt_none hI.inE fun i r hr hkr => hL _
    refine ⟨by simp [hN], fun i r hr hl => (by rw [hL] at hl; cases hl), hF.size, fun t v hv _ => hF.get t v (stripD_get hst v hv), fun i r hr hl => (by rw [hL] at hl; cases hl), rfl, (hR.drew).sub fun k o h => by rw [← hget]; exact h, ?_, fun k _ => rfl⟩
    have h1 := Stp.drew (Stp.refl ρ st.H w)
    exact ⟨h1.os, h1.tape, h1.output, h1.size, h1.block, fun g hg hb => hb.sub fun k o h => by rw [← hget]; exact h⟩
/-! ### The operations in another order -/
def relO (inv : List Nat) (o : Oper) : Oper := { o with after := o.after.map fun e => { e with on := inv.getD e.on 0 }, guard := o.guard.map fun jb => (inv.getD jb.1 0, jb.2) }
def permO (perm inv : List Nat) (ops : Array Oper) : Array Oper := ⟨perm.map fun i => relO inv (ops.toList.getD i default)⟩
def invAt : List Nat → Nat → Nat → Nat
  | [], _, _ => 0
  | p :: r, i, k => match Nat.beq p i with | true => k | false => invAt r i (k + 1)
def invOf (perm : List Nat) : Nat → Nat → List Nat
  | _, 0 => []
  | i, n + 1 => invAt perm i 0 :: invOf perm (i + 1) n
/-- one that may come now -/
def pickO (done : List Nat) : List Oper → Nat → Option Nat
  | [], _ => none
  | o :: r, i => match isIn i done with
    | true => pickO done r (i + 1)
    | false => match o.after.toList.all fun e => match Region.binds .any e with | true => isIn e.on done | false => true with
      | true => some i
      | false => pickO done r (i + 1)
  where isIn (n : Nat) : List Nat → Bool
  | [] => false
  | m :: r => match Nat.beq n m with | true => true | false => isIn n r
def topo (ops : List Oper) : Nat → List Nat → List Nat
  | 0, done => done
  | n + 1, done => match pickO done ops 0 with
    | some i => topo ops n (done ++ [i])
    | none => done
def okP (N : Nat) (perm inv : List Nat) (ops : List Oper) : Bool :=
  Nat.beq perm.length N && Nat.beq inv.length N && (List.range N).all (fun i => Nat.beq (perm.getD (inv.getD i N) N) i && Nat.beq (inv.getD (perm.getD i N) N) i && Nat.blt (perm.getD i N) N && Nat.blt (inv.getD i N) N) &&
    ops.all fun o => o.after.toList.all (fun e => Nat.blt e.on N) && (match o.guard with | none => true | some jb => Nat.blt jb.1 N)
structure PermO (ops : Array Oper) (perm inv : List Nat) : Prop where
  lp : perm.length = ops.size
  li : inv.length = ops.size
  pi : ∀ i, i < ops.size → perm.getD (inv.getD i ops.size) ops.size = i
  ip : ∀ i, i < ops.size → inv.getD (perm.getD i ops.size) ops.size = i
  pl : ∀ i, i < ops.size → perm.getD i ops.size < ops.size
  il : ∀ i, i < ops.size → inv.getD i ops.size < ops.size
  ed : ∀ o ∈ ops.toList, (∀ e ∈ o.after, e.on < ops.size) ∧ ∀ jb, o.guard = some jb → jb.1 < ops.size
theorem okP_at {perm inv : List Nat} (h : okP ops.size perm inv ops.toList = true) : PermO ops perm inv := by
  unfold okP at h
  simp only [Bool.and_eq_true, List.all_eq_true, List.mem_range] at h
  obtain ⟨⟨⟨h1, h2⟩, h3⟩, h4⟩ := h
  refine ⟨Nat.eq_of_beq_eq_true h1, Nat.eq_of_beq_eq_true h2, fun i hi => Nat.eq_of_beq_eq_true (h3 i hi).1.1.1, fun i hi => Nat.eq_of_beq_eq_true (h3 i hi).1.1.2, fun i hi => Nat.le_of_ble_eq_true (h3 i hi).1.2, fun i hi => Nat.le_of_ble_eq_true (h3 i hi).2, fun o ho => ⟨fun e he => Nat.le_of_ble_eq_true ((h4 o ho).1 e (Array.mem_toList_iff.2 he)), fun jb hj => ?_⟩⟩
  have := (h4 o ho).2
  rw [hj] at this
  exact Nat.le_of_ble_eq_true this
section perm
variable {perm inv : List Nat} (hP : PermO ops perm inv)
include hP
theorem PermO.size : (permO perm inv ops).size = ops.size := by simp [permO, hP.lp]
theorem PermO.inv0 {i : Nat} (hi : i < ops.size) : inv.getD i 0 = inv.getD i ops.size := by
  have : i < inv.length := by rw [hP.li]; exact hi
  simp [List.getD_eq_getElem?_getD, this]
theorem PermO.at {i : Nat} {o : Oper} (ho : ops[i]? = some o) : (permO perm inv ops)[inv.getD i ops.size]? = some (relO inv o) := by
  have hi := (Array.getElem?_eq_some_iff.1 ho).1
  have h1 := hP.pi i hi
  have h2 := hP.il i hi
  have h3 : inv.getD i ops.size < perm.length := by rw [hP.lp]; exact h2
  have h4 : perm[inv.getD i ops.size]? = some i := by
    rw [List.getElem?_eq_getElem h3]
    rw [List.getD_eq_getElem?_getD, List.getElem?_eq_getElem h3] at h1
    exact congrArg some h1
  have h5 : ops.toList[i]? = some o := by simpa using ho
  show (⟨perm.map _⟩ : Array Oper)[inv.getD i ops.size]? = _
  rw [List.getElem?_toArray, List.getElem?_map, h4]
  simp [List.getD_eq_getElem?_getD, h5, ho]
theorem PermO.yield {tmps : Array Value} {j : Nat} (hj : j < ops.size) : yielded (permO perm inv ops) tmps (inv.getD j 0) = yielded ops tmps j := by
  obtain ⟨o, ho⟩ : ∃ o, ops[j]? = some o := ⟨_, Array.getElem?_eq_getElem hj⟩
  unfold yielded
  rw [hP.inv0 hj, hP.at ho, ho]
  rfl
theorem PermO.wanted {tmps : Array Value} {o : Oper} (ho : o ∈ ops.toList) : Region.wanted (relO inv o) (yielded (permO perm inv ops) tmps) = Region.wanted o (yielded ops tmps) := by
  unfold Region.wanted relO
  cases hg : o.guard with
  | none => rfl
  | some jb =>
    have := (hP.ed o ho).2 jb hg
    simp only [Option.map_some]
    rw [hP.yield this]
theorem PermO.ready {l' l : Array Bool} (hl' : l'.size = ops.size) (hl : l.size = ops.size) (h : ∀ i, i < ops.size → l'.getD (inv.getD i ops.size) false = l.getD i false) (i : Nat) (hi : i < ops.size) : i ∈ Region.ready .any ops l ↔ inv.getD i ops.size ∈ Region.ready .any (permO perm inv ops) l' := by
  obtain ⟨o, ho⟩ : ∃ o, ops[i]? = some o := ⟨_, Array.getElem?_eq_getElem hi⟩
  have hol : o ∈ ops.toList := by simpa using Array.mem_of_getElem? ho
  rw [mem_ready, mem_ready]
  have e1 : l'.getD (inv.getD i ops.size) true = l.getD i true := by
    have h1 := h i hi
    have h2 := hP.il i hi
    rw [← getDF (by omega), ← getDF (by omega), h1]
  rw [e1]
  have e2 := hP.at ho
  constructor
  · rintro ⟨h1, o', ho', h2⟩
    rw [ho] at ho'; cases ho'
    refine ⟨h1, _, e2, fun e he hb => ?_⟩
    have he : e ∈ o.after.map fun e => { e with on := inv.getD e.on 0 } := he
    obtain ⟨e0, h3, rfl⟩ := Array.mem_map.1 he
    have h4 := (hP.ed o hol).1 e0 h3
    show l'.getD (inv.getD e0.on 0) false = true
    rw [hP.inv0 h4, h e0.on h4]
    exact h2 e0 h3 hb
  · rintro ⟨h1, o', ho', h2⟩
    rw [e2] at ho'; cases ho'
    refine ⟨h1, _, ho, fun e he hb => ?_⟩
    have h4 := (hP.ed o hol).1 e he
    have := h2 { e with on := inv.getD e.on 0 } (Array.mem_map.2 ⟨e, he, rfl⟩) hb
    have this : l'.getD (inv.getD e.on 0) false = true := this
    rw [hP.inv0 h4, h e.on h4] at this
    exact this
theorem perm_any {F : Fence} {Q : Exit → Act → World → Prop} : ∀ (f : Nat) (l' l : Array Bool) (a : Act) (w : World), l'.size = ops.size → l.size = ops.size → (∀ i, i < ops.size → l'.getD (inv.getD i ops.size) false = l.getD i false) → wpAnyIn F 0 P .any (permO perm inv ops) Q f l' a w → wpAnyIn F 0 P .any ops Q f l a w := by
  have lt : ∀ {l : Array Bool} {i : Nat}, i ∈ Region.ready .any ops l → i < ops.size := fun {l i} hi => by
    obtain ⟨_, o, ho, _⟩ := mem_ready.1 hi
    exact (Array.getElem?_eq_some_iff.1 ho).1
  have lt' : ∀ {l : Array Bool} {i : Nat}, i ∈ Region.ready .any (permO perm inv ops) l → i < ops.size := fun {l i} hi => by
    obtain ⟨_, o, ho, _⟩ := mem_ready.1 hi
    have := (Array.getElem?_eq_some_iff.1 ho).1
    rwa [hP.size] at this
  intro f
  induction f with
  | zero =>
    intro l' l a w hl' hl h hw
    refine ⟨List.eq_nil_iff_forall_not_mem.2 fun i hi => ?_, hw.2⟩
    have := (hP.ready hl' hl h i (lt hi)).1 hi
    rw [hw.1] at this; simp at this
  | succ f ih =>
    intro l' l a w hl' hl h hw
    refine ⟨fun h0 => hw.1 (List.eq_nil_iff_forall_not_mem.2 fun k hk => ?_), fun i hi => ?_⟩
    · have hk' := lt' hk
      have h1 := hP.ip k hk'
      have := (hP.ready hl' hl h (perm.getD k ops.size) (hP.pl k hk')).2 (by rw [h1]; exact hk)
      rw [h0] at this; simp at this
    · have hin := lt hi
      have h1 := hw.2 _ ((hP.ready hl' hl h i hin).1 hi)
      obtain ⟨o, ho⟩ : ∃ o, ops[i]? = some o := ⟨_, Array.getElem?_eq_getElem hin⟩
      have hol : o ∈ ops.toList := by simpa using Array.mem_of_getElem? ho
      have hK : ∀ a w, wpAnyIn F 0 P .any (permO perm inv ops) Q f (l'.setIfInBounds (inv.getD i ops.size) true) a w → wpAnyIn F 0 P .any ops Q f (l.setIfInBounds i true) a w := fun a w q => by
        refine ih _ _ a w (by simpa using hl') (by simpa using hl) (fun j hj => ?_) q
        have g1 := hP.il j hj
        have g2 := hP.il i hin
        rw [getDF (by rw [Array.size_setIfInBounds]; omega), getDF (by rw [Array.size_setIfInBounds]; omega), getD_set _ _ _ (by omega), getD_set _ _ _ (by omega)]
        by_cases e : j = i
        · subst e; simp
        · have e3 : inv.getD j ops.size ≠ inv.getD i ops.size := fun q => by
            have q1 := hP.pi j hj
            have q2 := hP.pi i hin
            rw [q, q2] at q1; exact e q1.symm
          rw [if_neg e, if_neg e3, ← getDF (by omega), ← getDF (by omega)]
          exact h j hj
      refine wpOpIn_mono hK ?_
      unfold wpOpIn at h1 ⊢
      rw [hP.at ho] at h1
      rw [ho]
      simp only at h1 ⊢
      rw [hP.wanted hol] at h1
      exact h1
end perm
/-- in the order in which it stands, or in one that is found -/
def evDrawP (P : Program) (X : Els P) (call : CallF) (n : Nat) (ops : Array Oper) (st : St) : Option (List St) := match evDraw P X call n ops st with
  | some l => some l
  | none => let perm := topo ops.toList ops.size []
    let inv := invOf perm 0 ops.size
    match okP ops.size perm inv ops.toList with
    | true => evDraw P X call n (permO perm inv ops) st
    | false => none
theorem evDraw_s (hC : CallOK P call) (hmix : P.follows .mixedOrders = true) {st : St} {sts : List St} (h : evDrawP P X call n ops st = some sts) : (sts ≠ [] ∧ ∀ s ∈ sts, Bhd st s) ∧
    ∀ (ρ : Rn) (a : Act) (w : World) (M : Nat), FrR n ρ a st.env → Rep ρ st.H w → (∀ s ∈ sts, s.nx ≤ M) → Fsh ρ st.nx M → ∀ (F : Fence), GF F → ∀ (Q : Exit → Act → World → Prop) (id : Nat),
      (∀ s ∈ sts, ∀ ρ' a' w', FrR n ρ' a' s.env → a'.defers = a.defers → Aft ρ st.H w st.nx ρ' s.H w' s.nx → Q .normal a' w') → (Code.region id ops true).wpIn F 0 P Q a w := by
  unfold evDrawP at h
  split at h
  · rename_i l hl
    cases h
    obtain ⟨h1, h2⟩ := evDraw_any hC hl
    exact ⟨h1, fun ρ a w M hF hR hM hS F hG Q id hQ => wpIn_region_any hmix (h2 ρ a w M hF hR hM hS F hG Q hQ)⟩
  · simp only at h
    split at h
    · rename_i hok
      have hP := okP_at hok
      obtain ⟨h1, h2⟩ := evDraw_any hC h
      refine ⟨h1, fun ρ a w M hF hR hM hS F hG Q id hQ => wpIn_region_any hmix ?_⟩
      have h3 := h2 ρ a w M hF hR hM hS F hG Q hQ
      rw [hP.size] at h3
      refine perm_any hP ops.size _ _ a w.drew (by simp) (by simp) (fun i hi => ?_) h3
      have f1 : ∀ N k, (Array.replicate N false).getD k false = false := fun N k => by by_cases hk : k < N <;> simp [hk]
      rw [f1, f1]
    · cases h
end draw

/-! ## Code -/
def Ex.to : Ex → Exit
  | .nrm => .normal
  | .exit id => .exit id
  | .ret => .ret
abbrev EvF := St → Option (List (Ex × St))
def evLoop (f : EvF) : Nat → EvF
  | 0, _ => none
  | k + 1, st => match f st with
    | none => none
    | some l => bindL l fun x => match x.1 with | .nrm => evLoop f k x.2 | _ => some [x]
def unblock (id : Nat) (x : Ex × St) : Ex × St := match x.1 with
  | .exit i => match Nat.beq i id with | true => (.nrm, x.2) | false => x
  | _ => x
/-- a range over a function -/
def evRange (call : CallF) (n : Nat) (g : Operand) (ps : Array Tmp) (assign body : Code) (st : St) : Option (List (Ex × St)) := match evO st.env g, inT st.nx with
  | some (.func (.func F) p q), true => match call (.func (.func F) p q) [.func (.yield st.nx) ⟨[]⟩ ⟨[]⟩] (put st.H st.nx (some (.loop .nrm n st.env ps assign body))) (st.nx + 1) with
    | some outs => bindL outs fun x => match x.H.get st.nx with
      | some (.loop e _ _ _ _ _) => some [(e, ⟨st.env, put x.H st.nx none, x.nx, x.wr ++ st.wr⟩)]
      | _ => none
    | none => none
  | _, _ => none
/-- what code does, told once and for all -/
structure InsC where
  run : EvF
def cmpC (P : Program) (X : Els P) (call : CallF) (n lf : Nat) : Code → InsC
  | .skip => ⟨fun st => some [(.nrm, st)]⟩
  | .label _ => ⟨fun st => some [(.nrm, st)]⟩
  | .region _ ops false => ⟨fun st => match evList P X call n ops ops.toList st with | some l => some (l.map fun s => (.nrm, s)) | none => none⟩
  | .region _ ops true => ⟨fun st => match evDrawP P X call n ops st with | some l => some (l.map fun s => (.nrm, s)) | none => none⟩
  | .seq a b => ⟨fun st => match (cmpC P X call n lf a).run st with
    | none => none
    | some l => bindL l fun x => match x.1 with | .nrm => (cmpC P X call n lf b).run x.2 | _ => some [x]⟩
  | .cond c a b => ⟨fun st => match evO st.env c with
    | some (.bool true) => (cmpC P X call n lf a).run st
    | some (.bool false) => (cmpC P X call n lf b).run st
    | _ => none⟩
  | .block id c => ⟨fun st => match (cmpC P X call n lf c).run st with | some l => some (l.map (unblock id)) | none => none⟩
  | .loop c => ⟨fun st => evLoop (fun s => (cmpC P X call n lf c).run s) lf st⟩
  | .exit id => ⟨fun st => some [(.exit id, st)]⟩
  | .ret => ⟨fun st => some [(.ret, st)]⟩
  | .rangeFunc g ps as bd => ⟨fun st => evRange call n g ps as bd st⟩
  | .scope c => ⟨fun st => (cmpC P X call n lf c).run st⟩
  | _ => ⟨fun _ => none⟩
abbrev evC (P : Program) (X : Els P) (call : CallF) (n lf : Nat) (c : Code) : EvF := (cmpC P X call n lf c).run
abbrev markD (D : Nat) : Deferred := { target := .collected D, args := #[] }
/-- marks of ranges over functions that have come to the deferred calls -/
def DX (w : World) (ds ds' : List Deferred) (ρ' : Rn) (H' : Tr AO) (w' : World) : Prop := ∃ Ds : List Nat, ds' = Ds.map markD ++ ds ∧ Ds.Nodup ∧ ∀ D ∈ Ds, w.heap.size ≤ D ∧ w'.heap[D]? = some (.deferred (some [])) ∧ ¬ Blk ρ' H' D
theorem DX.same {w : World} {ds ds' : List Deferred} {ρ' : Rn} {H' : Tr AO} {w' : World} (h : ds' = ds) : DX w ds ds' ρ' H' w' := ⟨[], by simpa using h, List.nodup_nil, fun D h => by simp at h⟩
theorem DX.trans {w w1 w2 : World} {ds ds1 ds2 : List Deferred} {ρ1 ρ2 : Rn} {H1 H2 : Tr AO} (h : DX w ds ds1 ρ1 H1 w1) (hl : w.heap.size ≤ w1.heap.size) (hs : Stp ρ1 H1 w1 ρ2 H2 w2) (h' : DX w1 ds1 ds2 ρ2 H2 w2) : DX w ds ds2 ρ2 H2 w2 := by
  obtain ⟨D1, e1, n1, a1⟩ := h
  obtain ⟨D2, e2, n2, a2⟩ := h'
  have lt1 : ∀ D ∈ D1, D < w1.heap.size := fun D hD => (Array.getElem?_eq_some_iff.1 (a1 D hD).2.1).1
  refine ⟨D2 ++ D1, by rw [e2, e1]; simp, List.nodup_append.2 ⟨n2, n1, fun a ha b hb e => ?_⟩, fun D hD => ?_⟩
  · have := (a2 a ha).1; have := lt1 b hb; omega
  · rcases List.mem_append.1 hD with hD | hD
    · obtain ⟨h1, h2, h3⟩ := a2 D hD
      exact ⟨by omega, h2, h3⟩
    · obtain ⟨h1, h2, h3⟩ := a1 D hD
      exact ⟨h1, (hs.block D (lt1 D hD) h3).trans h2, fun hb => h3 (hs.own D (lt1 D hD) hb)⟩
/-- the frame: a function's, or a round's, whose record stands -/
def FW (F : Fence) (ρ : Rn) (H : Tr AO) (w : World) : Prop := F = Fence.wide ∨ ∃ L r, F = Fence.wide.inRound L ∧ w.heap[L]? = some (.loop r) ∧ ¬ Blk ρ H L
theorem FW.gf {F : Fence} {ρ : Rn} {H : Tr AO} {w : World} (h : FW F ρ H w) : GF F := by
  rcases h with h | ⟨L, r, h, _⟩
  · exact .inl h
  · exact .inr ⟨L, h⟩
theorem FW.step {F : Fence} {ρ ρ' : Rn} {H H' : Tr AO} {w w' : World} (h : FW F ρ H w) (hs : Stp ρ H w ρ' H' w') : FW F ρ' H' w' := by
  rcases h with h | ⟨L, r, h, h1, h2⟩
  · exact .inl h
  · have hlt := (Array.getElem?_eq_some_iff.1 h1).1
    exact .inr ⟨L, r, h, (hs.block L hlt h2).trans h1, fun hb => h2 (hs.own L hlt hb)⟩
def CodeS (P : Program) (n : Nat) (c : Code) (st : St) (l : List (Ex × St)) : Prop :=
  (l ≠ [] ∧ ∀ x ∈ l, Bhd st x.2) ∧ ∀ (ρ : Rn) (a : Act) (w : World) (M : Nat), FrR n ρ a st.env → Rep ρ st.H w → (∀ x ∈ l, x.2.nx ≤ M) → Fsh ρ st.nx M → ∀ (F : Fence), FW F ρ st.H w → ∀ (Q : Exit → Act → World → Prop),
    (∀ x ∈ l, ∀ ρ' a' w', FrR n ρ' a' x.2.env → DX w a.defers a'.defers ρ' x.2.H w' → Aft ρ st.H w st.nx ρ' x.2.H w' x.2.nx → Q x.1.to a' w') → c.wpIn F 0 P Q a w
section code
variable {P : Program} {X : Els P} {call : CallF} {n lf : Nat}
theorem CodeS.now {c : Code} {st : St} (e : Ex) (h : ∀ F Q a w, Q e.to a w → c.wpIn F 0 P Q a w) : CodeS P n c st [(e, st)] := by
  refine ⟨⟨by simp, fun x hx => ?_⟩, fun ρ a w M hF hR _ _ F hG Q hQ => h F Q a w (hQ _ (List.mem_singleton.2 rfl) ρ a w hF (.same rfl) (.refl hR))⟩
  have : x = (e, st) := by simpa using hx
  subst this; exact .refl _
/-- one thing behind another -/
theorem seq_like {c : Code} {st : St} {l r : List (Ex × St)} {f : EvF} (h1 : CodeS P n c st l) (hb : (bindL l fun x => match x.1 with | .nrm => f x.2 | _ => some [x]) = some r) (K : (Exit → Act → World → Prop) → Fence → Act → World → Prop)
    (hf : ∀ x ∈ l, x.1 = .nrm → ∀ rx, f x.2 = some rx → (rx ≠ [] ∧ ∀ y ∈ rx, Bhd x.2 y.2) ∧ ∀ (ρ : Rn) (a : Act) (w : World) (M : Nat), FrR n ρ a x.2.env → Rep ρ x.2.H w → (∀ y ∈ rx, y.2.nx ≤ M) → Fsh ρ x.2.nx M → ∀ (F : Fence), FW F ρ x.2.H w → ∀ (Q : Exit → Act → World → Prop), (∀ y ∈ rx, ∀ ρ' a' w', FrR n ρ' a' y.2.env → DX w a.defers a'.defers ρ' y.2.H w' → Aft ρ x.2.H w x.2.nx ρ' y.2.H w' y.2.nx → Q y.1.to a' w') → K Q F a w) :
    (r ≠ [] ∧ ∀ y ∈ r, Bhd st y.2) ∧ ∀ (ρ : Rn) (a : Act) (w : World) (M : Nat), FrR n ρ a st.env → Rep ρ st.H w → (∀ y ∈ r, y.2.nx ≤ M) → Fsh ρ st.nx M → ∀ (F : Fence), FW F ρ st.H w → ∀ (Q : Exit → Act → World → Prop),
      (∀ y ∈ r, ∀ ρ' a' w', FrR n ρ' a' y.2.env → DX w a.defers a'.defers ρ' y.2.H w' → Aft ρ st.H w st.nx ρ' y.2.H w' y.2.nx → Q y.1.to a' w') → c.wpIn F 0 P (Exit.then (K Q F) Q) a w := by
  obtain ⟨⟨h10, h11⟩, h12⟩ := h1
  have each : ∀ x ∈ l, ∃ rx, (match x.1 with | .nrm => f x.2 | _ => some [x]) = some rx ∧ (∀ y ∈ rx, y ∈ r) := fun x hx => bindL_at hb x hx
  have ne : ∀ x ∈ l, ∀ rx, (match x.1 with | .nrm => f x.2 | _ => some [x]) = some rx → rx ≠ [] ∧ ∀ y ∈ rx, Bhd x.2 y.2 := fun x hx rx h => by
    cases hx1 : x.1 with
    | nrm => rw [hx1] at h; exact (hf x hx hx1 rx h).1
    | exit id =>
      rw [hx1] at h; cases h
      exact ⟨by simp, fun y hy => (List.mem_singleton.1 hy) ▸ .refl _⟩
    | ret =>
      rw [hx1] at h; cases h
      exact ⟨by simp, fun y hy => (List.mem_singleton.1 hy) ▸ .refl _⟩
  refine ⟨⟨fun e => ?_, fun y hy => ?_⟩, fun ρ a w M hF hR hM hS F hG Q hQ => ?_⟩
  · obtain ⟨x, hx⟩ := List.exists_mem_of_ne_nil l h10
    obtain ⟨rx, h2, h3⟩ := each x hx
    obtain ⟨y, hy⟩ := List.exists_mem_of_ne_nil rx (ne x hx rx h2).1
    have := h3 y hy
    rw [e] at this; simp at this
  · obtain ⟨x, hx, rx, h2, h3⟩ := bindL_mem hb y hy
    exact (h11 x hx).trans ((ne x hx rx h2).2 y h3)
  · have hxM : ∀ x ∈ l, x.2.nx ≤ M := fun x hx => by
      obtain ⟨rx, h2, h3⟩ := each x hx
      obtain ⟨y, hy⟩ := List.exists_mem_of_ne_nil rx (ne x hx rx h2).1
      exact Nat.le_trans ((ne x hx rx h2).2 y hy).le (hM y (h3 y hy))
    refine h12 ρ a w M hF hR hxM hS F hG _ fun x hx ρ1 a1 w1 q1 q2 q3 => ?_
    obtain ⟨rx, h2, h3⟩ := each x hx
    cases hx1 : x.1 with
    | nrm =>
      rw [hx1] at h2
      obtain ⟨⟨_, h4⟩, h5⟩ := hf x hx hx1 rx h2
      show K Q F a1 w1
      refine h5 ρ1 a1 w1 M q1 q3.rep (fun y hy => hM y (h3 y hy)) (hS.right q3.ext (h11 x hx).le) F (hG.step q3.stp) Q fun y hy ρ' a' w' p1 p2 p3 => ?_
      exact hQ y (h3 y hy) ρ' a' w' p1 (q2.trans q3.stp.size p3.stp p2) (q3.trans p3 (h11 x hx).le (h4 y hy).le)
    | exit id =>
      rw [hx1] at h2; cases h2
      have := hQ x (h3 x (by simp)) ρ1 a1 w1 q1 q2 q3
      rw [hx1] at this
      exact this
    | ret =>
      rw [hx1] at h2; cases h2
      have := hQ x (h3 x (by simp)) ρ1 a1 w1 q1 q2 q3
      rw [hx1] at this
      exact this
theorem Rep.putObj {ρ : Rn} {H : Tr AO} {w : World} (h : Rep ρ H w) {l : Nat} (hl : ¬ Blk ρ H l) (o : Obj) : Rep ρ H (w.putObj l o) :=
  ⟨fun i p hi => by
    obtain ⟨g, c, h1, h2⟩ := h.ok i p hi
    exact ⟨g, c, h1, h2.same (World.putObj_heap_other (fun e => hl ⟨i, p, c, hi, by rw [h1]; first | rw [e] | rw [← e]⟩))⟩, h.inj⟩
theorem Stp.putObj {ρ ρ' : Rn} {H H' : Tr AO} {w w' : World} (h : Stp ρ H w ρ' H' w') {l : Nat} (hl : w.heap.size ≤ l) (o : Obj) : Stp ρ H w ρ' H' (w'.putObj l o) :=
  ⟨h.os, h.tape, h.output, by simpa [World.putObj] using h.size, fun g hg hn => (World.putObj_heap_other (by omega)).trans (h.block g hg hn), h.own⟩
theorem wpIn_jumpR {F : Fence} {Q : Exit → Act → World → Prop} {a : Act} {w : World} {e : Ex} (h : Q e.to a w) : (match e.jump with | none => Q .normal a w | some c => c.wpIn F 0 P Q a w) := by
  cases e with
  | nrm => exact h
  | exit id => exact wpIn_exit h
  | ret => exact wpIn_ret h
theorem range_s (hC : CallOK P call) {g : Operand} {ps : Array Tmp} {assign body : Code} {st : St} {l : List (Ex × St)} (h : evRange call n g ps assign body st = some l) : CodeS P n (.rangeFunc g ps assign body) st l := by
  unfold evRange at h
  split at h
  case h_2 => cases h
  rename_i F0 p0 q0 hg hin
  split at h
  case h_2 => cases h
  rename_i outs hcall
  obtain ⟨⟨h10, h11⟩, h12⟩ := hC _ _ _ _ _ hcall
  have each : ∀ x ∈ outs, ∃ e n' env' ps' as' bd', x.H.get st.nx = some (.loop e n' env' ps' as' bd') ∧ (e, (⟨st.env, put x.H st.nx none, x.nx, x.wr ++ st.wr⟩ : St)) ∈ l := fun x hx => by
    obtain ⟨rx, h1, h2⟩ := bindL_at h x hx
    split at h1
    · rename_i e n' env' ps' as' bd' hl
      cases h1
      exact ⟨e, n', env', ps', as', bd', hl, h2 _ (by simp)⟩
    · cases h1
  have ne : l ≠ [] := fun e => by
    obtain ⟨x, hx⟩ := List.exists_mem_of_ne_nil outs h10
    obtain ⟨_, _, _, _, _, _, _, h1⟩ := each x hx
    rw [e] at h1; simp at h1
  refine ⟨⟨ne, fun y hy => ?_⟩, fun ρ a w M hF hR hM hS F hW Q hQ => ?_⟩
  · obtain ⟨x, hx, rx, h1, h2⟩ := bindL_mem h y hy
    split at h1
    · cases h1
      have hy' := List.mem_singleton.1 h2
      subst hy'
      obtain ⟨h3, h4⟩ := h11 x hx
      refine ⟨by show st.nx ≤ x.nx; omega, x.wr, rfl, fun k hk hb => ?_⟩
      have hb : k < st.nx ∨ x.nx ≤ k := hb
      show (put x.H st.nx none).get k = st.H.get k
      have hne : k ≠ st.nx := by omega
      rw [get_put hin, if_neg hne, h4 k hk (by omega), get_put hin, if_neg hne]
    · cases h1
  · -- the record, whichever frame
    obtain ⟨F1, p1, q1, hfv⟩ : ∃ F1 p1 q1, a.eval g = .func (.func F1) ⟨p1⟩ ⟨q1⟩ := by
      have := hF.ev hg
      generalize a.eval g = u at this
      cases this with
      | func F ha hb => exact ⟨_, _, _, rfl⟩
    have hvg := hF.ev hg
    have hnxM : ∀ x ∈ outs, x.nx ≤ M := fun x hx => by obtain ⟨e, _, _, _, _, _, _, h1⟩ := each x hx; exact hM _ h1
    have hnx1 : st.nx + 1 ≤ M := by
      obtain ⟨x, hx⟩ := List.exists_mem_of_ne_nil outs h10
      exact Nat.le_trans (h11 x hx).1 (hnxM x hx)
    -- in a world W0 in which the record is laid next, the marks mk having come
    have main : ∀ (W0 : World) (mk : List Deferred) (r : Loop), Rep ρ st.H W0 → Stp ρ st.H w ρ st.H W0 → r.state = .ready → r.pending = none → r.params = ps → r.assign = assign → r.body = body → r.tmps = a.tmps → (∀ ρ' H' w', Stp ρ st.H W0 ρ' H' w' → DX w a.defers (mk ++ a.defers) ρ' H' w') →
        ∃ args, (resolve a.eval (rangeCall g W0.heap.size) 0).run P (W0.alloc (.loop r)) = .ok { target := .fn (.func F1) ⟨q1⟩, args := ⟨p1⟩ ++ #[.func (.yield W0.heap.size) #[] #[]] } (W0.alloc (.loop r)) ∧
          (invoke (.fn (.func F1) ⟨q1⟩) (⟨p1⟩ ++ #[.func (.yield W0.heap.size) #[] #[]])).run P (W0.alloc (.loop r)) = .ok (.enter F1 args) (W0.alloc (.loop r)) ∧
          Calls P F1 args (W0.alloc (.loop r)) (rangePost F 0 P W0.heap.size Q { a with defers := mk ++ a.defers }) := fun W0 mk r hR0 hSt0 hr1 hr2 hr3 hr4 hr5 hr6 hmk => by
      have hSn : Fsh ρ st.nx (st.nx + 1) := hS.left hnx1
      have hA := Aft.new hR0 hSn hin (.loop r) 0 (.loop .nrm n st.env ps assign body) (by
        refine ⟨r, World.alloc_heap_new _ _, hr1, hr2, hr3, hr4, hr5, by rw [hr6]; exact hF.size, fun s v hs => ?_⟩
        obtain ⟨u, h1, h2⟩ := hF.get s v hs
        exact ⟨u, by rw [hr6]; exact h1, h2.mono (upd_le (hS st.nx (Nat.le_refl _) (by omega)))⟩)
      have hle1 := upd_le (g := W0.heap.size) (c := 0) (hS st.nx (Nat.le_refl _) (by omega))
      have hcv := h12 (upd ρ st.nx W0.heap.size 0) (W0.alloc (.loop r)) M _ [.func (.yield W0.heap.size) ⟨[]⟩ ⟨[]⟩] (hvg.mono hle1) (.cons (.yield (c := 0) (upd_same _ _ _ _)) .nil) hA.rep hnxM (hS.right hA.ext (by omega)) (fun u w' => rangePost F 0 P W0.heap.size Q { a with defers := mk ++ a.defers } (.returned u) w') (fun x hx ρ2 w2 u q1 q2 => ?_)
      · rcases hcv with ⟨F2, p2, q2, he, hE, hc⟩ | ⟨L, r', he, _⟩
        · rw [hfv] at he
          simp only [Value.func.injEq, Fn.func.injEq, Array.mk.injEq] at he
          obtain ⟨rfl, rfl, rfl⟩ := he
          have hc2 := Calls.mono (R' := rangePost F 0 P W0.heap.size Q { a with defers := mk ++ a.defers }) hc (fun e w' ⟨u, he, h⟩ => by subst he; exact h)
          have hr1 : (resolve a.eval (rangeCall g W0.heap.size) 0).run P (W0.alloc (.loop r)) = .ok { target := .fn (.func F1) ⟨q1⟩, args := ⟨p1⟩ ++ #[.func (.yield W0.heap.size) #[] #[]] } (W0.alloc (.loop r)) := by
            have e1 : (#[Operand.const (Value.func (Fn.yield W0.heap.size) #[] #[])] : Array Operand).map a.eval = #[Value.func (Fn.yield W0.heap.size) #[] #[]] := by simp [Act.eval]
            simp only [resolve, hfv, Deferred.ofValue, Sem.run_pure, e1]
          have hr2 : (invoke (.fn (.func F1) ⟨q1⟩) (⟨p1⟩ ++ #[.func (.yield W0.heap.size) #[] #[]])).run P (W0.alloc (.loop r)) = .ok (.enter F1 ⟨p1 ++ [.func (.yield W0.heap.size) ⟨[]⟩ ⟨[]⟩] ++ q1⟩) (W0.alloc (.loop r)) := by
            have h2 := hE ⟨p1 ++ [.func (.yield W0.heap.size) ⟨[]⟩ ⟨[]⟩] ++ q1⟩ (W0.alloc (.loop r))
            have e1 : (⟨p1⟩ ++ #[.func (.yield W0.heap.size) #[] #[]] ++ ⟨q1⟩ : Array Value) = ⟨p1 ++ [.func (.yield W0.heap.size) ⟨[]⟩ ⟨[]⟩] ++ q1⟩ := by
              apply Array.ext'; simp
            simp only [invoke]
            rw [e1]
            exact h2
          exact ⟨_, hr1, hr2, hc2⟩
        · rw [hfv] at he; cases he
      · obtain ⟨e, n', env', ps', as', bd', hl, hmem⟩ := each x hx
        obtain ⟨g2, c2, hg2, r2, hr2', hst2, hpd2, _⟩ := q1.rep.ok _ _ hl
        have hg2' : g2 = W0.heap.size := by
          have := q1.ext st.nx (by omega)
          rw [upd_same] at this
          rw [this] at hg2; cases hg2; rfl
        subst hg2'
        have hnb : r2.state ≠ .busy := by rw [hst2]; cases e <;> simp [Ex.state]
        refine ⟨r2.pending, _, run_endLoop hr2' hnb, ?_⟩
        have hRf := q1.rep.forget (i := st.nx) hin
        have hnB : ¬ Blk ρ2 (put x.H st.nx none) W0.heap.size := fun ⟨j, p, c, hj, hgj⟩ => by
          rw [get_put hin] at hj
          split at hj
          · cases hj
          · rename_i hne
            exact hne (q1.rep.inj j st.nx p _ _ c c2 hj hl hgj hg2)
        have hStA : Stp ρ st.H W0 ρ2 (put x.H st.nx none) w2 := by
          have := hA.stp.trans q1.stp
          exact ⟨this.os, this.tape, this.output, this.size, this.block, fun b hb hbl => this.own b hb (hbl.forget hin)⟩
        have hStB := hStA.putObj (Nat.le_refl _) (.loop { r2 with state := .exhausted })
        have hExt : Ext ρ ρ2 st.nx x.nx := hA.ext.trans q1.ext (by omega) (h11 x hx).1
        have hle2 : Le ρ ρ2 := hExt.le (hS.left (hnxM x hx))
        have hDX := hmk ρ2 (put x.H st.nx none) _ hStB
        have := hQ (e, ⟨st.env, put x.H st.nx none, x.nx, x.wr ++ st.wr⟩) hmem ρ2 { a with defers := mk ++ a.defers } _ ⟨hF.size, fun s v hs => by obtain ⟨u, h1, h2⟩ := hF.get s v hs; exact ⟨u, h1, h2.mono hle2⟩⟩ hDX ⟨hExt, hRf.putObj hnB _, hSt0.trans hStB⟩
        have h9 := wpIn_jumpR (P := P) (F := F) (Q := Q) this
        rw [← hpd2] at h9
        exact h9
    refine wpIn_rangeFunc fun fn _ => ?_
    rcases hW with rfl | ⟨L0, r0, rfl, hL0, hnL0⟩
    · obtain ⟨args, h1, h2, h3⟩ := main (w.alloc (.deferred (some []))) [markD w.heap.size] { state := .ready, pending := none, fn, tmps := a.tmps, params := ps, assign, body, defers := w.heap.size } ⟨fun i o hi => by
          obtain ⟨g, c, h1, h2⟩ := hR.ok i o hi
          exact ⟨g, c, h1, h2.same (Below.heap_alloc w _ g h2.lt)⟩, hR.inj⟩ ⟨rfl, rfl, rfl, by simp, fun g hg _ => Below.heap_alloc w _ g hg, fun g _ h => h⟩ rfl rfl rfl rfl rfl rfl (fun ρ' H' w' hst => by
          have hlt : w.heap.size < (w.alloc (.deferred (some []))).heap.size := by simp
          have hnb : ¬ Blk ρ st.H w.heap.size := fun hb => by have := hR.lt hb; omega
          refine ⟨[w.heap.size], rfl, by simp, fun D hD => ?_⟩
          have hD' := List.mem_singleton.1 hD
          subst hD'
          exact ⟨Nat.le_refl _, (hst.block _ hlt hnb).trans (World.alloc_heap_new w _), fun hb => hnb (hst.own _ hlt hb)⟩)
      have hsz : (w.alloc (.deferred (some []))).heap.size = w.heap.size + 1 := by simp
      rw [hsz] at h1 h2 h3
      exact ⟨w.heap.size + 1, [markD w.heap.size], _, _, _, F1, args, _, run_enterLoop_outer _ _ _ _ _, h1, fun _ _ => trivial, h2, fun h => (by cases h), callsIn_wide.2 h3⟩
    · obtain ⟨args, h1, h2, h3⟩ := main w [] { state := .ready, pending := none, fn, tmps := a.tmps, params := ps, assign, body, defers := r0.defers } hR (.refl _ _ _) rfl rfl rfl rfl rfl rfl (fun ρ' H' w' hst => .same rfl)
      have key : CallsIn Fence.wide (0 - 1) P F1 args (w.alloc (.loop { state := .ready, pending := none, fn, tmps := a.tmps, params := ps, assign, body, defers := r0.defers })) (rangePost (Fence.wide.inRound L0) 0 P w.heap.size Q { a with defers := [] ++ a.defers }) := callsIn_wide.2 h3
      exact ⟨w.heap.size, [], _, _, _, F1, args, _, run_enterLoop_inner hL0 _ _ _ _ _, h1, fun _ _ => trivial, h2, fun h => (by cases h), key⟩
/-- behind no goto -/
def noGo (Q : Exit → Act → World → Prop) : Exit → Act → World → Prop
  | .goto _, _, _ => False
  | .normal, a, w => Q .normal a w
  | .exit id, a, w => Q (.exit id) a w
  | .ret, a, w => Q .ret a w
  | .panic c, a, w => Q (.panic c) a w
  | .outgrown, a, w => Q .outgrown a w
theorem stepR_scope {P : Program} {b : Frame} {a : Act} {k : List Item} {cs : List Frame} {w : World} {c : Code} : step P (lone (b.atR a (.code (.scope c) :: k)) cs w) = .next (lone (b.atR a (.code c :: .inScope c :: k)) cs w) :=
  step_lone_go (by simp [stepG, stepG.exec, Frame.atR])
theorem stepR_inScope {P : Program} {b : Frame} {a : Act} {k : List Item} {cs : List Frame} {w : World} {c : Code} : step P (lone (b.atR a (.inScope c :: k)) cs w) = .next (lone (b.atR a k) cs w) :=
  step_lone_go (by simp [stepG, stepG.exec, Frame.atR])
theorem wpIn_scope {P : Program} {F : Fence} {n : Nat} {Q : Exit → Act → World → Prop} {a : Act} {w : World} {c : Code} (h : c.wpIn F n P (noGo Q) a w) : (Code.scope c).wpIn F n P Q a w := by
  intro b k cs hro hb hr
  have h0 : (lone (b.atR a (.code (.scope c) :: k)) cs w).fenced P F := fenced_calm hb hr rfl
  obtain ⟨e, a₁, w₁, hq, harr⟩ := h b (.inScope c :: k) cs hro hb hr
  cases e with
  | normal => exact ⟨.normal, a₁, w₁, hq, .head h0 stepR_scope (StepsIn.trans harr (.one (fenced_calm hb hr rfl) stepR_inScope))⟩
  | exit id' =>
    have hx : exitTo id' (.inScope c :: k) = exitTo id' k := by simp [exitTo]
    exact ⟨.exit id', a₁, w₁, hq, fun k' hk => .head h0 stepR_scope (harr.1 k' (by rw [hx]; exact hk)),
      fun hr' hk => let ⟨k₁, h1, h2⟩ := harr.2 hr' (by rw [hx]; exact hk); ⟨k₁, h1, .head h0 stepR_scope h2⟩⟩
  | goto l => exact hq.elim
  | ret => exact ⟨_, a₁, w₁, hq, .of_steps (.one h0 stepR_scope) harr⟩
  | panic ch => exact ⟨_, a₁, w₁, hq, .of_steps (.one h0 stepR_scope) harr⟩
  | outgrown => exact ⟨_, a₁, w₁, hq, .of_steps (.one h0 stepR_scope) harr⟩
theorem evC_s (hC : CallOK P call) (hmix : P.follows .mixedOrders = true) : ∀ (c : Code) {st : St} {l : List (Ex × St)}, evC P X call n lf c st = some l → CodeS P n c st l
  | .skip, st, l, h => by cases h; exact .now .nrm fun F Q a w h => wpIn_skip h
  | .label _, st, l, h => by cases h; exact .now .nrm fun F Q a w h => wpIn_label h
  | .exit id, st, l, h => by cases h; exact .now (.exit id) fun F Q a w h => wpIn_exit h
  | .ret, st, l, h => by cases h; exact .now .ret fun F Q a w h => wpIn_ret h
  | .region id ops false, st, l, h => by
    unfold evC cmpC at h
    dsimp only at h
    split at h
    · rename_i sts hs
      cases h
      obtain ⟨⟨h1, h2⟩, h3⟩ := evList_s hC hs
      refine ⟨⟨by simpa using h1, fun x hx => ?_⟩, fun ρ a w M hF hR hM hS F hG Q hQ => ?_⟩
      · obtain ⟨s, hs, rfl⟩ := List.mem_map.1 hx; exact h2 s hs
      · have e : ops = ops.toList.toArray := by simp
        rw [e]
        refine wpIn_region_lit ?_
        rw [← e]
        exact h3 ρ a w M hF hR (fun s hs => hM (.nrm, s) (List.mem_map.2 ⟨s, hs, rfl⟩)) hS F hG.gf Q fun s hs ρ' a' w' q1 q2 q3 => hQ (.nrm, s) (List.mem_map.2 ⟨s, hs, rfl⟩) ρ' a' w' q1 (.same q2) q3
    · cases h
  | .region id ops true, st, l, h => by
    unfold evC cmpC at h
    dsimp only at h
    split at h
    · rename_i sts hs
      cases h
      obtain ⟨⟨h1, h2⟩, h3⟩ := evDraw_s hC hmix hs
      refine ⟨⟨by simpa using h1, fun x hx => ?_⟩, fun ρ a w M hF hR hM hS F hG Q hQ => ?_⟩
      · obtain ⟨s, hs, rfl⟩ := List.mem_map.1 hx; exact h2 s hs
      · exact h3 ρ a w M hF hR (fun s hs => hM (.nrm, s) (List.mem_map.2 ⟨s, hs, rfl⟩)) hS F hG.gf Q id fun s hs ρ' a' w' q1 q2 q3 => hQ (.nrm, s) (List.mem_map.2 ⟨s, hs, rfl⟩) ρ' a' w' q1 (.same q2) q3
    · cases h
  | .seq x y, st, l, h => by
    unfold evC cmpC at h
    dsimp only at h
    split at h
    · cases h
    rename_i lx hx
    have := seq_like (evC_s hC hmix x hx) h (fun Q F => y.wpIn F 0 P Q) fun z hz _ rx hrx => evC_s hC hmix y hrx
    exact ⟨this.1, fun ρ a w M hF hR hM hS F hG Q hQ => wpIn_seq (this.2 ρ a w M hF hR hM hS F hG Q hQ)⟩
  | .cond c x y, st, l, h => by
    unfold evC cmpC at h
    dsimp only at h
    split at h
    · rename_i hc
      obtain ⟨h1, h2⟩ := evC_s hC hmix x h
      refine ⟨h1, fun ρ a w M hF hR hM hS F hG Q hQ => wpIn_cond_true ?_ (h2 ρ a w M hF hR hM hS F hG Q hQ)⟩
      have := hF.ev hc
      generalize a.eval c = u at this
      cases this; rfl
    · rename_i hc
      obtain ⟨h1, h2⟩ := evC_s hC hmix y h
      refine ⟨h1, fun ρ a w M hF hR hM hS F hG Q hQ => wpIn_cond_false ?_ (h2 ρ a w M hF hR hM hS F hG Q hQ)⟩
      have := hF.ev hc
      generalize a.eval c = u at this
      cases this; rfl
    · cases h
  | .block id c, st, l, h => by
    unfold evC cmpC at h
    dsimp only at h
    split at h
    · rename_i lc hc
      cases h
      obtain ⟨⟨h1, h2⟩, h3⟩ := evC_s hC hmix c hc
      have hu2 : ∀ x : Ex × St, (unblock id x).2 = x.2 := fun x => by
        unfold unblock
        split
        · split <;> rfl
        · rfl
      refine ⟨⟨by simpa using h1, fun x hx => ?_⟩, fun ρ a w M hF hR hM hS F hG Q hQ => wpIn_block ?_⟩
      · obtain ⟨s, hs, rfl⟩ := List.mem_map.1 hx
        rw [hu2]; exact h2 s hs
      · refine h3 ρ a w M hF hR (fun x hx => by have := hM (unblock id x) (List.mem_map.2 ⟨x, hx, rfl⟩); rwa [hu2] at this) hS F hG _ fun x hx ρ' a' w' q1 q2 q3 => ?_
        have := hQ (unblock id x) (List.mem_map.2 ⟨x, hx, rfl⟩) ρ' a' w' (by rw [hu2]; exact q1) (by rw [hu2]; exact q2) (by rw [hu2]; exact q3)
        unfold unblock at this
        cases hx1 : x.1 with
        | nrm => rw [hx1] at this; exact (by rw [hx1] at this; exact this)
        | ret => rw [hx1] at this; exact (by rw [hx1] at this; exact this)
        | exit i =>
          rw [hx1] at this
          show if i = id then Q .normal a' w' else Q (.exit i) a' w'
          by_cases e : i = id
          · subst e
            rw [if_pos rfl]
            simp only [Tr.beqT] at this
            exact this
          · rw [if_neg e]
            simp only [Tr.beqF e] at this
            rw [hx1] at this
            exact this
    · cases h
  | .loop c, st, l, h => by
    unfold evC cmpC at h
    dsimp only at h
    have hf : ∀ st l, evC P X call n lf c st = some l → CodeS P n c st l := fun st l h => evC_s hC hmix c h
    have key : ∀ (k : Nat) {st : St} {l : List (Ex × St)}, evLoop (fun s => evC P X call n lf c s) k st = some l → (l ≠ [] ∧ ∀ x ∈ l, Bhd st x.2) ∧ ∀ (ρ : Rn) (a : Act) (w : World) (M : Nat), FrR n ρ a st.env → Rep ρ st.H w → (∀ x ∈ l, x.2.nx ≤ M) → Fsh ρ st.nx M → ∀ (F : Fence), FW F ρ st.H w → ∀ (Q : Exit → Act → World → Prop),
        (∀ x ∈ l, ∀ ρ' a' w', FrR n ρ' a' x.2.env → DX w a.defers a'.defers ρ' x.2.H w' → Aft ρ st.H w st.nx ρ' x.2.H w' x.2.nx → Q x.1.to a' w') → Code.roundsIn F 0 P c Q k a w := by
      intro k
      induction k with
      | zero => intro st l h; cases h
      | succ k ih =>
        intro st l h
        unfold evLoop at h
        split at h
        · cases h
        rename_i lx hx
        have := seq_like (hf _ _ hx) h (fun Q F => Code.roundsIn F 0 P c Q k) fun z hz _ rx hrx => ih hrx
        exact ⟨this.1, fun ρ a w M hF hR hM hS F hG Q hQ => this.2 ρ a w M hF hR hM hS F hG Q hQ⟩
    obtain ⟨h1, h2⟩ := key lf h
    exact ⟨h1, fun ρ a w M hF hR hM hS F hG Q hQ => wpIn_loop_rounds lf (h2 ρ a w M hF hR hM hS F hG Q hQ)⟩
  | .rangeFunc g ps as bd, st, l, h => by unfold evC cmpC at h; dsimp only at h; exact range_s hC h
  | .scope c, st, l, h => by
    unfold evC cmpC at h
    dsimp only at h
    obtain ⟨h1, h2⟩ := evC_s hC hmix c h
    refine ⟨h1, fun ρ a w M hF hR hM hS F hG Q hQ => wpIn_scope (h2 ρ a w M hF hR hM hS F hG (noGo Q) fun x hx ρ' a' w' q1 q2 q3 => ?_)⟩
    have := hQ x hx ρ' a' w' q1 q2 q3
    revert this
    cases x.1 <;> exact id
  | .goto _, _, _, h => by cases h
  | .refuse _, _, _, h => by cases h
end code
end
end Go.Proofs.YtljpjfefjidakaaGreat.Run

namespace Go.Proofs.YtljpjfefjidakaaGreat.Run
noncomputable section
open Go.RowKit

/-! ## Sameness -/
def eqO (a b : Option Nat) : Bool := match a, b with
  | none, none => true
  | some x, some y => Nat.beq x y
  | _, _ => false
theorem eqO_at {a b : Option Nat} (h : eqO a b = true) : a = b := by
  unfold eqO at h
  split at h
  · rfl
  · rw [Nat.eq_of_beq_eq_true h]
  · cases h
def eqA (a b : Addr) : Bool := Nat.beq a.block b.block && Nat.beq a.off b.off && eqO a.spot b.spot
theorem eqA_at {a b : Addr} (h : eqA a b = true) : a = b := by
  obtain ⟨a1, a2, a3⟩ := a
  obtain ⟨b1, b2, b3⟩ := b
  simp only [eqA, Bool.and_eq_true] at h
  obtain ⟨⟨h1, h2⟩, h3⟩ := h
  rw [Nat.eq_of_beq_eq_true h1, Nat.eq_of_beq_eq_true h2, eqO_at h3]
def eqLs (f : Value → Value → Bool) : List Value → List Value → Bool
  | [], [] => true
  | x :: r, y :: s => match f x y with | true => eqLs f r s | false => false
  | _, _ => false
theorem eqLs_at {f : Value → Value → Bool} (hf : ∀ x y, f x y = true → x = y) : ∀ {a b : List Value}, eqLs f a b = true → a = b
  | [], [], _ => rfl
  | x :: r, y :: s, h => by
    unfold eqLs at h
    split at h
    · rename_i h1
      rw [hf x y h1, eqLs_at hf h]
    · cases h
  | [], y :: s, h => by cases h
  | x :: r, [], h => by cases h
def eqV : Nat → Value → Value → Bool
  | 0, _, _ => false
  | n + 1, x, y => match x, y with
    | .bool true, .bool true => true
    | .bool false, .bool false => true
    | .int k a, .int j b => decide (k = j) && decide (a = b)
    | .string ⟨⟨l⟩⟩, .string ⟨⟨m⟩⟩ => eqL l m
    | .pointer none, .pointer none => true
    | .pointer (some a), .pointer (some b) => eqA a b
    | .slice none i j, .slice none i' j' => Nat.beq i i' && Nat.beq j j'
    | .slice (some a) i j, .slice (some b) i' j' => eqA a b && Nat.beq i i' && Nat.beq j j'
    | .map a, .map b => eqO a b
    | .func (.func f) ⟨p⟩ ⟨q⟩, .func (.func g) ⟨p'⟩ ⟨q'⟩ => Nat.beq f g && eqLs (eqV n) p p' && eqLs (eqV n) q q'
    | .func (.yield f) ⟨[]⟩ ⟨[]⟩, .func (.yield g) ⟨[]⟩ ⟨[]⟩ => Nat.beq f g
    | .nilFunc, .nilFunc => true
    | .nilIface, .nilIface => true
    | .iface t v, .iface t' v' => Nat.beq t t' && eqV n v v'
    | .agg ⟨p⟩, .agg ⟨p'⟩ => eqLs (eqV n) p p'
    | .tuple ⟨p⟩, .tuple ⟨p'⟩ => eqLs (eqV n) p p'
    | _, _ => false
theorem eqV_at : ∀ (n : Nat) (x y : Value), eqV n x y = true → x = y
  | 0, _, _, h => by cases h
  | n + 1, x, y, h => by
    have ih := eqV_at n
    unfold eqV at h
    split at h
    · rfl
    · rfl
    · simp only [Bool.and_eq_true, decide_eq_true_eq] at h; rw [h.1, h.2]
    · rw [eqL_iff.1 h]
    · rfl
    · rw [eqA_at h]
    · simp only [Bool.and_eq_true] at h; rw [Nat.eq_of_beq_eq_true h.1, Nat.eq_of_beq_eq_true h.2]
    · simp only [Bool.and_eq_true] at h; rw [eqA_at h.1.1, Nat.eq_of_beq_eq_true h.1.2, Nat.eq_of_beq_eq_true h.2]
    · rw [eqO_at h]
    · simp only [Bool.and_eq_true] at h; rw [Nat.eq_of_beq_eq_true h.1.1, eqLs_at ih h.1.2, eqLs_at ih h.2]
    · rw [Nat.eq_of_beq_eq_true h]
    · rfl
    · rfl
    · simp only [Bool.and_eq_true] at h; rw [Nat.eq_of_beq_eq_true h.1, ih _ _ h.2]
    · rw [eqLs_at ih h]
    · rw [eqLs_at ih h]
    · cases h
abbrev eV : Value → Value → Bool := eqV 12
theorem eV_at {x y : Value} (h : eV x y = true) : x = y := eqV_at 12 x y h
def eqE : List (Value × Value × Nat) → List (Value × Value × Nat) → Bool
  | [], [] => true
  | (k, v, b) :: r, (k', v', b') :: s => match eV k k' && eV v v' && Nat.beq b b' with | true => eqE r s | false => false
  | _, _ => false
theorem eqE_at : ∀ {a b : List (Value × Value × Nat)}, eqE a b = true → a = b
  | [], [], _ => rfl
  | (k, v, b) :: r, (k', v', b') :: s, h => by
    unfold eqE at h
    split at h
    · rename_i h1
      simp only [Bool.and_eq_true] at h1
      rw [eV_at h1.1.1, eV_at h1.1.2, Nat.eq_of_beq_eq_true h1.2, eqE_at h]
    · cases h
  | [], y :: s, h => by cases h
  | x :: r, [], h => by cases h
def eqR (a b : Option AO) : Bool := match a, b with
  | none, none => true
  | some (.cells t ex cs), some (.cells t' ex' cs') => Nat.beq t t' && eqO ex ex' && eqLs eV cs cs'
  | some (.map es k), some (.map es' k') => eqE es es' && Nat.beq k k'
  | _, _ => false
theorem eqR_at {a b : Option AO} (h : eqR a b = true) : a = b := by
  unfold eqR at h
  split at h
  · rfl
  · simp only [Bool.and_eq_true] at h
    rw [Nat.eq_of_beq_eq_true h.1.1, eqO_at h.1.2, eqLs_at (fun x y => eV_at) h.2]
  · simp only [Bool.and_eq_true] at h
    rw [eqE_at h.1, Nat.eq_of_beq_eq_true h.2]
  · cases h

/-! ## What can be reached -/
def idsD : Nat → Value → List Nat
  | 0, _ => []
  | n + 1, v => match v with
    | .pointer (some ⟨i, _, none⟩) => [i]
    | .slice (some ⟨i, _, none⟩) _ _ => [i]
    | .map (some i) => [i]
    | .func (.func _) ⟨p⟩ ⟨q⟩ => p.flatMap (idsD n) ++ q.flatMap (idsD n)
    | .func (.yield i) _ _ => [i]
    | .iface _ u => idsD n u
    | .agg ⟨p⟩ => p.flatMap (idsD n)
    | .tuple ⟨p⟩ => p.flatMap (idsD n)
    | _ => []
def rowIds : AO → List Nat
  | .cells _ _ cs => cs.flatMap (idsD 12)
  | .map es _ => es.flatMap fun e => idsD 12 e.1 ++ idsD 12 e.2.1
  | _ => []
def mem (k : Nat) : List Nat → Bool
  | [] => false
  | j :: r => match Nat.beq k j with | true => true | false => mem k r
def reach (H : Tr AO) (nx : Nat) (wr : List Nat) : Nat → List Nat → List Nat → Option (List Nat)
  | 0, _, _ => none
  | _ + 1, [], seen => some seen
  | f + 1, k :: r, seen => match mem k seen || (Nat.blt k nx && !mem k wr) with
    | true => reach H nx wr f r seen
    | false => match H.get k with
      | some o => reach H nx wr f (rowIds o ++ r) (k :: seen)
      | none => reach H nx wr f r (k :: seen)
def same (nx : Nat) (x y : Out) : Bool := match eV x.v y.v with
  | false => false
  | true => match reach x.H nx (x.wr ++ y.wr) 4000 (idsD 12 x.v ++ (x.wr ++ y.wr)) [] with
    | none => false
    | some l => l.all fun k => eqR (x.H.get k) (y.H.get k)
/-- rows that are not the same are forgotten -/
def drops (H2 : Tr AO) : List Nat → Tr AO → Tr AO
  | [], C => C
  | k :: r, C => match eqR (C.get k) (H2.get k) with
    | true => drops H2 r C
    | false => drops H2 r (put C k none)
def meet (nx : Nat) (x y : Out) : Option Out :=
  let hi := max x.nx y.nx
  let ks := rng nx (hi - nx) ++ (x.wr ++ y.wr)
  match ks.all inT && Nat.ble nx x.nx && Nat.ble nx y.nx && eV x.v y.v with
  | true => some ⟨x.v, drops y.H ks x.H, hi, x.wr ++ y.wr⟩
  | false => none
def into (nx : Nat) (y : Out) : List Out → List Out
  | [] => [y]
  | x :: r => match same nx x y with
    | true => match meet nx x y with
      | some z => z :: r
      | none => x :: into nx y r
    | false => x :: into nx y r
def merge (nx : Nat) : List Out → List Out → List Out
  | [], acc => acc
  | y :: r, acc => merge nx r (into nx y acc)
def mergeO (nx : Nat) (outs : List Out) : List Out := match outs with
  | _ :: _ :: _ => merge nx outs []
  | _ => outs
def Sub (y x : Out) : Prop := y.v = x.v ∧ x.nx ≤ y.nx ∧ ∀ k o, y.H.get k = some o → x.H.get k = some o
theorem Sub.refl (x : Out) : Sub x x := ⟨rfl, Nat.le_refl _, fun _ _ h => h⟩
theorem Sub.trans {x y z : Out} (h : Sub x y) (h' : Sub y z) : Sub x z := ⟨h.1.trans h'.1, Nat.le_trans h'.2.1 h.2.1, fun k o q => h'.2.2 k o (h.2.2 k o q)⟩
theorem drops_get {H2 : Tr AO} {k : Nat} : ∀ {l : List Nat} {C : Tr AO}, l.all inT = true → ((drops H2 l C).get k = C.get k ∧ (k ∈ l → C.get k = H2.get k)) ∨ ((drops H2 l C).get k = none ∧ k ∈ l)
  | [], C, _ => .inl ⟨rfl, fun h => by simp at h⟩
  | j :: r, C, h => by
    rw [List.all_cons, Bool.and_eq_true] at h
    unfold drops
    split
    · rename_i hq
      have hq := eqR_at hq
      rcases drops_get (H2 := H2) (k := k) (C := C) h.2 with ⟨h1, h2⟩ | ⟨h1, h2⟩
      · refine .inl ⟨h1, fun hm => ?_⟩
        rcases List.mem_cons.1 hm with rfl | hm
        · exact hq
        · exact h2 hm
      · exact .inr ⟨h1, by simp [h2]⟩
    · rcases drops_get (H2 := H2) (k := k) (C := put C j none) h.2 with ⟨h1, h2⟩ | ⟨h1, h2⟩
      · by_cases e : k = j
        · subst e
          refine .inr ⟨?_, by simp⟩
          rw [h1, get_put h.1, if_pos rfl]
        · rw [get_put h.1, if_neg e] at h1
          refine .inl ⟨h1, fun hm => ?_⟩
          rcases List.mem_cons.1 hm with rfl | hm
          · exact absurd rfl e
          · have := h2 hm
            rwa [get_put h.1, if_neg e] at this
      · exact .inr ⟨h1, by simp [h2]⟩
def Gd (H : Tr AO) (nx : Nat) (x : Out) : Prop := nx ≤ x.nx ∧ Wr H x.H nx x.nx x.wr
theorem meet_ok {H : Tr AO} {nx : Nat} {x y z : Out} (h : meet nx x y = some z) (hx : Gd H nx x) (hy : Gd H nx y) : Gd H nx z ∧ Sub z x ∧ Sub z y := by
  unfold meet at h
  simp only at h
  split at h
  · rename_i hb
    cases h
    simp only [Bool.and_eq_true] at hb
    obtain ⟨⟨⟨b1, b2⟩, b3⟩, b4⟩ := hb
    have hv := eV_at b4
    have key := fun k => drops_get (H2 := y.H) (k := k) (C := x.H) b1
    have hmem : ∀ k, k ∈ rng nx (max x.nx y.nx - nx) ++ (x.wr ++ y.wr) ↔ (nx ≤ k ∧ k < max x.nx y.nx) ∨ k ∈ x.wr ∨ k ∈ y.wr := fun k => by
      have h1 := hx.1
      rw [List.mem_append, List.mem_append, mem_rng, show nx + (max x.nx y.nx - nx) = max x.nx y.nx by omega]
    refine ⟨⟨Nat.le_trans hx.1 (Nat.le_max_left _ _), fun k hk hb => ?_⟩, ⟨rfl, Nat.le_max_left _ _, fun k o hk => ?_⟩, ⟨hv, Nat.le_max_right _ _, fun k o hk => ?_⟩⟩
    · rw [List.mem_append, not_or] at hk
      have hb : k < nx ∨ max x.nx y.nx ≤ k := hb
      rcases key k with ⟨h1, _⟩ | ⟨_, h2⟩
      · rw [h1]
        exact hx.2 k hk.1 (by have := Nat.le_max_left x.nx y.nx; omega)
      · rcases (hmem k).1 h2 with h3 | h3 | h3
        · omega
        · exact absurd h3 hk.1
        · exact absurd h3 hk.2
    · rcases key k with ⟨h1, _⟩ | ⟨h1, _⟩
      · rw [h1] at hk; exact hk
      · rw [h1] at hk; cases hk
    · rcases key k with ⟨h1, h2⟩ | ⟨h1, _⟩
      · rw [h1] at hk
        by_cases hm : k ∈ rng nx (max x.nx y.nx - nx) ++ (x.wr ++ y.wr)
        · rw [← h2 hm]; exact hk
        · have hn := fun q => hm ((hmem k).2 q)
          have q1 : k ∉ x.wr := fun q => hn (.inr (.inl q))
          have q2 : k ∉ y.wr := fun q => hn (.inr (.inr q))
          have q3 : ¬ (nx ≤ k ∧ k < max x.nx y.nx) := fun q => hn (.inl q)
          have m1 := Nat.le_max_left x.nx y.nx
          have m2 := Nat.le_max_right x.nx y.nx
          rw [hy.2 k q2 (by omega), ← hx.2 k q1 (by omega)]; exact hk
      · rw [h1] at hk; cases hk
  · cases h
theorem into_ok {H : Tr AO} {nx : Nat} {y : Out} (hy : Gd H nx y) : ∀ {l : List Out}, (∀ x ∈ l, Gd H nx x) → (∀ z ∈ into nx y l, Gd H nx z) ∧ (∀ x ∈ l, ∃ z ∈ into nx y l, Sub z x) ∧ (∃ z ∈ into nx y l, Sub z y)
  | [], _ => ⟨fun z hz => by simp [into] at hz; subst hz; exact hy, fun x hx => by simp at hx, ⟨y, by simp [into], .refl y⟩⟩
  | x :: r, hl => by
    have hx := hl x (by simp)
    have more : (∀ z ∈ x :: into nx y r, Gd H nx z) ∧ (∀ p ∈ x :: r, ∃ z ∈ x :: into nx y r, Sub z p) ∧ (∃ z ∈ x :: into nx y r, Sub z y) := by
      obtain ⟨h1, h2, z, h3, h4⟩ := into_ok hy (l := r) fun p hp => hl p (by simp [hp])
      refine ⟨fun z hz => ?_, fun p hp => ?_, ⟨z, by simp [h3], h4⟩⟩
      · rcases List.mem_cons.1 hz with rfl | hz
        · exact hx
        · exact h1 z hz
      · rcases List.mem_cons.1 hp with rfl | hp
        · exact ⟨p, by simp, .refl p⟩
        · obtain ⟨z, q1, q2⟩ := h2 p hp; exact ⟨z, by simp [q1], q2⟩
    unfold into
    split
    · split
      · rename_i z hz
        obtain ⟨h1, h2, h3⟩ := meet_ok hz hx hy
        refine ⟨fun p hp => ?_, fun p hp => ?_, ⟨z, by simp, h3⟩⟩
        · rcases List.mem_cons.1 hp with rfl | hp
          · exact h1
          · exact hl p (by simp [hp])
        · rcases List.mem_cons.1 hp with rfl | hp
          · exact ⟨z, by simp, h2⟩
          · exact ⟨p, by simp [hp], .refl p⟩
      · exact more
    · exact more
theorem merge_ok {H : Tr AO} {nx : Nat} : ∀ {l acc : List Out}, (∀ x ∈ l, Gd H nx x) → (∀ x ∈ acc, Gd H nx x) → (∀ z ∈ merge nx l acc, Gd H nx z) ∧ (∀ x ∈ acc, ∃ z ∈ merge nx l acc, Sub z x) ∧ (∀ x ∈ l, ∃ z ∈ merge nx l acc, Sub z x)
  | [], acc, _, ha => ⟨ha, fun x hx => ⟨x, hx, .refl x⟩, fun x hx => by simp at hx⟩
  | y :: r, acc, hl, ha => by
    unfold merge
    obtain ⟨h1, h2, w, h3, h4⟩ := into_ok (hl y (by simp)) ha
    obtain ⟨h5, h6, h7⟩ := merge_ok (l := r) (fun x hx => hl x (by simp [hx])) h1
    refine ⟨h5, fun x hx => ?_, fun x hx => ?_⟩
    · obtain ⟨z, q1, q2⟩ := h2 x hx
      obtain ⟨u, q3, q4⟩ := h6 z q1
      exact ⟨u, q3, q4.trans q2⟩
    · rcases List.mem_cons.1 hx with rfl | hx
      · obtain ⟨u, q3, q4⟩ := h6 w h3
        exact ⟨u, q3, q4.trans h4⟩
      · exact h7 x hx
theorem CallS.merge {P : Program} {fv : Value} {args : List Value} {H : Tr AO} {nx : Nat} {outs : List Out} (h : CallS P fv args H nx outs) : CallS P fv args H nx (mergeO nx outs) := by
  obtain ⟨⟨h1, h2⟩, h3⟩ := h
  unfold mergeO
  split
  · rename_i a b r
    obtain ⟨g1, _, g2⟩ := merge_ok (H := H) (nx := nx) (l := a :: b :: r) (acc := []) h2 (fun x hx => by simp at hx)
    refine ⟨⟨fun e => ?_, g1⟩, fun ρ w M fu us hfu hv hR hM hS R hK => ?_⟩
    · obtain ⟨z, hz, _⟩ := g2 a (by simp)
      rw [e] at hz; simp at hz
    · refine h3 ρ w M fu us hfu hv hR (fun x hx => ?_) hS R fun x hx ρ' w' u hA hvu => ?_
      · obtain ⟨z, hz, hs⟩ := g2 x hx
        exact Nat.le_trans hs.2.1 (hM z hz)
      · obtain ⟨z, hz, hs⟩ := g2 x hx
        refine hK z hz ρ' w' u ⟨fun k hk => hA.ext k (by have := hs.2.1; omega), hA.rep.sub hs.2.2, ⟨hA.stp.os, hA.stp.tape, hA.stp.output, hA.stp.size, hA.stp.block, fun g hg hb => hA.stp.own g hg (hb.sub hs.2.2)⟩⟩ (by rw [hs.1]; exact hvu)
  · exact ⟨⟨h1, h2⟩, h3⟩
end
end Go.Proofs.YtljpjfefjidakaaGreat.Run
