/-
  MapS · MapT · EntM · Each · CmdK
-/
import Derived.Test.YtjcfimmcogkopaaGreatYA06
import Derived.Test.YtjcfimmcogkopaaGreatYA07
import Derived.Test.YtjcfimmcogkopaaGreatYA08
import Derived.Maps.RangeRun
import Derived.MapKept
set_option linter.unusedSimpArgs false
set_option linter.unusedVariables false
namespace Go.Proofs.YtjcfimmcogkopaaGreat.Sep
open Go.RowKit
open Go.ChangeMaps (setBlock)
open Go.Proofs.YtjcfimmcogkopaaGreat.Mem (AZ Ci Chg Au)
def AH {κ ν : Type} (l : List (κ × ν)) : List κ := l.map (·.1)
section lists
variable {κ ν : Type} [DecidableEq κ]
def EG (k : κ) : List (κ × ν) → Nat → Option (Nat × ν)
  | [], _ => none
  | p :: r, i => if p.1 = k then some (i, p.2) else EG k r (i + 1)
def AL (l : List (κ × ν)) (k : κ) : Option ν := (EG k l 0).map (·.2)
def Bx (l : List (κ × ν)) (k : κ) (x : ν) : List (κ × ν) := match EG k l 0 with | some q => l.set q.1 (k, x) | none => l ++ [(k, x)]
def BR (l : List (κ × ν)) (k : κ) : List (κ × ν) := match EG k l 0 with | some q => l.eraseIdx q.1 | none => l
theorem Dt {k : κ} : ∀ {l : List (κ × ν)} {i : Nat} {q : Nat × ν}, EG k l i = some q → i ≤ q.1 ∧ l[q.1 - i]? = some (k, q.2)
  | [], _, _, h => by cases h
  | p :: r, i, q, h => by
    unfold EG at h
    split at h
    · rename_i hk
      cases h
      refine ⟨Nat.le_refl _, ?_⟩
      rw [Nat.sub_self, List.getElem?_cons_zero, ← hk]
    · obtain ⟨h1, h2⟩ := Dt h
      refine ⟨by omega, ?_⟩
      rw [show q.1 - i = (q.1 - (i + 1)) + 1 by omega, List.getElem?_cons_succ]
      exact h2
theorem Ku {k : κ} : ∀ {l : List (κ × ν)} {i : Nat}, EG k l i = none → k ∉ AH l
  | [], _, _, hm => by cases hm
  | p :: r, i, h, hm => by
    unfold EG at h
    split at h
    · cases h
    · rename_i hk
      rcases List.mem_cons.1 hm with e | hm
      · exact hk e.symm
      · exact Ku h hm
theorem O5 {k : κ} {x : ν} : ∀ {l : List (κ × ν)} {i j : Nat}, (AH l).Nodup → l[j]? = some (k, x) → EG k l i = some (i + j, x)
  | [], _, _, _, h => by simp at h
  | p :: r, i, 0, hn, h => by
    simp only [List.getElem?_cons_zero, Option.some.injEq] at h
    subst h
    unfold EG
    rw [if_pos rfl]; rfl
  | p :: r, i, j + 1, hn, h => by
    simp only [List.getElem?_cons_succ] at h
    have hm := List.mem_of_getElem? h
    obtain ⟨h1, h2⟩ := List.nodup_cons.1 (show (p.1 :: AH r).Nodup from hn)
    unfold EG
    have hk : p.1 ≠ k := fun e => h1 (by rw [e]; exact List.mem_map_of_mem (f := (·.1)) hm)
    rw [if_neg hk, O5 h2 h]
    congr 2; omega
theorem Cn {l : List (κ × ν)} {k : κ} {x : ν} (hn : (AH l).Nodup) : AL l k = some x ↔ (k, x) ∈ l := by
  constructor
  · intro h
    unfold AL at h
    obtain ⟨q, hq, rfl⟩ := Option.map_eq_some_iff.1 h
    obtain ⟨_, h2⟩ := Dt hq
    exact List.mem_of_getElem? h2
  · intro h
    obtain ⟨j, hj⟩ := List.getElem?_of_mem h
    unfold AL
    rw [O5 hn hj]; rfl
theorem Cw {l : List (κ × ν)} {k : κ} : AL l k = none ↔ k ∉ AH l := by
  constructor
  · intro h
    unfold AL at h
    exact Ku (Option.map_eq_none_iff.1 h)
  · intro h
    unfold AL
    cases hq : EG k l 0 with
    | none => rfl
    | some q =>
      obtain ⟨_, h2⟩ := Dt hq
      exact absurd (List.mem_map_of_mem (f := (·.1)) (List.mem_of_getElem? h2)) h
theorem IA {l : List (κ × ν)} {k : κ} {x y : ν} (h : AL l k = some y) : AH (Bx l k x) = AH l := by
  unfold AL at h
  obtain ⟨q, hq, _⟩ := Option.map_eq_some_iff.1 h
  obtain ⟨_, h2⟩ := Dt hq
  unfold Bx AH
  rw [hq]
  simp only
  rw [List.map_set]
  refine List.ext_getElem? fun i => ?_
  rw [List.getElem?_set]
  rw [Nat.sub_zero] at h2
  by_cases hi : q.1 = i
  · subst hi
    have hlt := (List.getElem?_eq_some_iff.1 h2).1
    rw [if_pos rfl, if_pos (by simpa using hlt), List.getElem?_map, h2]; rfl
  · rw [if_neg hi]
theorem ES {l : List (κ × ν)} {k : κ} {x : ν} (h : AL l k = none) : Bx l k x = l ++ [(k, x)] := by
 unfold AL at h
 unfold Bx
 rw [Option.map_eq_none_iff.1 h]
theorem B6 {l : List (κ × ν)} {k : κ} {x : ν} (hn : (AH l).Nodup) : (AH (Bx l k x)).Nodup := by
  cases h : AL l k with
  | some y => rw [IA h]; exact hn
  | none =>
    rw [ES h]
    unfold AH
    rw [List.map_append]
    exact List.nodup_append.2 ⟨hn, by simp, fun a ha b hb e => Cw.1 h (by simp at hb; rw [← hb, ← e]; exact ha)⟩
theorem BW {l : List (κ × ν)} {k : κ} (hn : (AH l).Nodup) : (AH (BR l k)).Nodup := by
  unfold BR
  split
  · unfold AH
    exact List.Nodup.sublist ((List.eraseIdx_sublist ..).map _) hn
  · exact hn
theorem ET {l : List (κ × ν)} {k : κ} {x : ν} (hn : (AH l).Nodup) (p : κ × ν) : p ∈ Bx l k x ↔ p = (k, x) ∨ (p ∈ l ∧ p.1 ≠ k) := by
  cases h : AL l k with
  | none =>
    rw [ES h, List.mem_append, List.mem_singleton]
    constructor
    · rintro (h1 | h1)
      · exact .inr ⟨h1, fun e => Cw.1 h (e ▸ List.mem_map_of_mem h1)⟩
      · exact .inl h1
    · rintro (h1 | h1)
      · exact .inr h1
      · exact .inl h1.1
  | some y =>
    have h0 := h
    unfold AL at h
    obtain ⟨q, hq, _⟩ := Option.map_eq_some_iff.1 h
    obtain ⟨_, h2⟩ := Dt hq
    rw [Nat.sub_zero] at h2
    have hlt := (List.getElem?_eq_some_iff.1 h2).1
    have hn2 : (AH (Bx l k x)).Nodup := B6 hn
    have e : Bx l k x = l.set q.1 (k, x) := by unfold Bx; rw [hq]
    constructor
    · intro hp
      rw [e] at hp
      rcases List.mem_or_eq_of_mem_set hp with hp | hp
      · by_cases hk : p.1 = k
        · left
          have h3 : (k, x) ∈ Bx l k x := by rw [e]; exact List.mem_set hlt _
          have h4 : p ∈ Bx l k x := by rw [e]; assumption
          have a := (Cn hn2).2 h3
          have h5 : (k, p.2) = p := Prod.ext hk.symm rfl
          have b := (Cn (x := p.2) hn2).2 (show (k, p.2) ∈ Bx l k x by rw [h5]; exact h4)
          have := a.symm.trans b
          simp at this
          exact Prod.ext hk this.symm
        · exact .inr ⟨hp, hk⟩
      · exact .inl hp
    · rintro (rfl | ⟨h1, h3⟩)
      · rw [e]; exact List.mem_set hlt _
      · rw [e]
        obtain ⟨j, hj⟩ := List.getElem?_of_mem h1
        have hne : q.1 ≠ j := fun e => by
          subst e
          rw [h2] at hj
          simp at hj
          exact h3 (by rw [← hj])
        refine List.mem_of_getElem? (i := j) ?_
        rw [List.getElem?_set, if_neg hne]; exact hj
theorem Dn {l : List (κ × ν)} {k : κ} (hn : (AH l).Nodup) (p : κ × ν) : p ∈ BR l k ↔ p ∈ l ∧ p.1 ≠ k := by
  unfold BR
  cases hq : EG k l 0 with
  | none =>
    simp only
    exact ⟨fun h => ⟨h, fun e => Ku hq (e ▸ List.mem_map_of_mem h)⟩, fun h => h.1⟩
  | some q =>
    obtain ⟨_, h2⟩ := Dt hq
    rw [Nat.sub_zero] at h2
    simp only
    rw [List.mem_eraseIdx_iff_getElem?]
    constructor
    · rintro ⟨j, hj, he⟩
      refine ⟨List.mem_of_getElem? he, fun e => hj ?_⟩
      have h3 := O5 (i := 0) hn (show l[j]? = some (k, p.2) by rw [he, ← e])
      have h4 := congrArg Prod.fst (Option.some.inj (hq.symm.trans h3))
      simp only at h4
      omega
    · rintro ⟨h1, h3⟩
      obtain ⟨j, hj⟩ := List.getElem?_of_mem h1
      refine ⟨j, fun e => ?_, hj⟩
      subst e
      rw [h2] at hj
      simp at hj
      exact h3 (by rw [← hj])
theorem CO {l : List (κ × ν)} {k k' : κ} {x : ν} (hn : (AH l).Nodup) : AL (Bx l k x) k' = if k' = k then some x else AL l k' := by
  split
  · rename_i e
    exact (Cn (B6 hn)).2 ((ET hn _).2 (.inl (by rw [e])))
  · rename_i e
    cases h : AL l k' with
    | some y => exact (Cn (B6 hn)).2 ((ET hn _).2 (.inr ⟨(Cn hn).1 h, e⟩))
    | none =>
      rw [Cw]
      intro hm
      obtain ⟨p, hp, e2⟩ := List.mem_map.1 hm
      rcases (ET hn p).1 hp with h1 | ⟨h1, _⟩
      · exact e (by rw [← e2, h1])
      · exact Cw.1 h (e2 ▸ List.mem_map_of_mem h1)
theorem FD {l : List (κ × ν)} {k k' : κ} (hn : (AH l).Nodup) : AL (BR l k) k' = if k' = k then none else AL l k' := by
  split
  · rename_i e
    rw [Cw]
    intro hm
    obtain ⟨p, hp, e2⟩ := List.mem_map.1 hm
    exact ((Dn hn p).1 hp).2 (e2.trans e)
  · rename_i e
    cases h : AL l k' with
    | some y => exact (Cn (BW hn)).2 ((Dn hn _).2 ⟨(Cn hn).1 h, e⟩)
    | none =>
      rw [Cw]
      intro hm
      obtain ⟨p, hp, e2⟩ := List.mem_map.1 hm
      exact Cw.1 h (e2 ▸ List.mem_map_of_mem ((Dn hn p).1 hp).1)
end lists
structure MapTy (P : Program) (mt kt vt : TypeId) (kd : TypeDesc) {κ : Type} [DecidableEq κ] (kk : κ → Value) (z : Value) : Prop where
  ht : P.underlying mt = some (.map kt vt)
  hk : P.underlying kt = some kd
  same : ∀ a b, Instr.sameNow kd (kk a) (kk b) = some (decide (a = b))
  chk : ∀ (w : World) (e : Bool) (a : κ), (Instr.checkKey e 10000 kt (kk a)).run P w = .ok () w
  stays : ∀ a, Instr.sameBits 10000 (kk a) (kk a) = true
  hz : ∀ w : World, (zeroValue vt).run P w = .ok z w
theorem SV (a b : List UInt8) : (bs a == bs b) = decide (a = b) := by
  show ((bs a).data == (bs b).data) = _
  rw [Bool.eq_iff_iff, beq_iff_eq, decide_eq_true_eq]
  constructor
  · intro h
    have : bs a = bs b := by
      have e : ∀ z : ByteArray, z = ⟨z.data⟩ := fun z => rfl
      rw [e (bs a), e (bs b), h]
    exact SG this
  · intro h; rw [h]
section keys
variable {P : Program} {mt kt vt : TypeId} {z : Value}
theorem Rr (ht : P.underlying mt = some (.map kt vt)) (hk : P.underlying kt = some .string) (hz : ∀ w : World, (zeroValue vt).run P w = .ok z w) : MapTy P mt kt vt .string (fun s : List UInt8 => .string (bs s)) z where
 ht := ht
 hk := hk
 same a b := by
  show some (bs a == bs b) = _
  rw [SV]
 chk w e a := by
  have h : ∀ n, (Instr.checkKey e (n + 1) kt (.string (bs a))).run P w = .ok () w := fun n => by simp [Instr.checkKey, run_underlying hk]
  exact h 9999
 stays a := by
  show (bs a == bs a) = true
  rw [SV]; simp
 hz := hz
end keys
section mapl0
variable {κ ν : Type} {kk : κ → Value} {vv : ν → Value} {es : Array MapEntry} {c : Nat} {l : List (κ × ν)}
structure MapL (kk : κ → Value) (vv : ν → Value) (es : Array MapEntry) (c : Nat) (l : List (κ × ν)) : Prop where
  at_ : es.toList.map (fun x => (x.key, x.val)) = l.map fun p => (kk p.1, vv p.2)
  keys : (AH l).Nodup
  born : (es.toList.map (·.born)).Nodup
  old : ∀ x ∈ es.toList, x.born < c
theorem Kv : MapL kk vv #[] c [] := ⟨rfl, List.nodup_nil, by simp, by simp⟩
theorem MapL.len (h : MapL kk vv es c l) : es.size = l.length := by
 have := congrArg List.length h.at_
 simpa using this
theorem MapL.erase (h : MapL kk vv es c l) {j : Nat} : MapL kk vv (es.eraseIdxIfInBounds j) c (l.eraseIdx j) := by
  have e : (es.eraseIdxIfInBounds j).toList = es.toList.eraseIdx j := by
    unfold Array.eraseIdxIfInBounds
    split
    · simp
    · rename_i hj
      rw [List.eraseIdx_of_length_le (by simpa using Nat.le_of_not_lt hj)]
  refine ⟨?_, ?_, ?_, ?_⟩
  · rw [e, Go.ChangeMaps.map_eraseIdx, h.at_, Go.ChangeMaps.map_eraseIdx]
  · exact List.Nodup.sublist ((List.eraseIdx_sublist ..).map _) h.keys
  · rw [e]; exact List.Nodup.sublist ((List.eraseIdx_sublist ..).map _) h.born
  · intro y hy
    rw [e] at hy
    exact h.old y (List.mem_of_mem_eraseIdx hy)
end mapl0
section mapl
variable {κ ν : Type} [DecidableEq κ] {kk : κ → Value} {vv : ν → Value} {es : Array MapEntry} {c : Nat} {l : List (κ × ν)}
theorem NG {kd : TypeDesc} (hs : ∀ a b, Instr.sameNow kd (kk a) (kk b) = some (decide (a = b))) (k : κ) : ∀ (E : List MapEntry) (l : List (κ × ν)) (i : Nat), E.map (fun x => (x.key, x.val)) = l.map (fun p => (kk p.1, vv p.2)) → Instr.findNow kd (kk k) E i = some ((EG k l i).map fun q => (q.1, vv q.2))
  | [], [], i, _ => rfl
  | [], p :: r, i, h => by simp at h
  | x :: E, [], i, h => by simp at h
  | x :: E, p :: r, i, h => by
    simp only [List.map_cons, List.cons.injEq, Prod.mk.injEq] at h
    obtain ⟨⟨h1, h2⟩, h3⟩ := h
    unfold Instr.findNow EG
    rw [h1, hs]
    by_cases e : p.1 = k
    · rw [decide_eq_true (Eq.symm e), if_pos e]
      simp [h2]
    · rw [decide_eq_false (fun e' => e e'.symm), if_neg e]
      exact NG hs k E r (i + 1) h3
theorem MapL.put (h : MapL kk vv es c l) {k : κ} {x : ν} {q : Nat × ν} (hq : EG k l 0 = some q) : MapL kk vv (es.modify q.1 fun e => { e with key := kk k, val := vv x }) c (Bx l k x) := by
  obtain ⟨_, h2⟩ := Dt hq
  rw [Nat.sub_zero] at h2
  have hlt := (List.getElem?_eq_some_iff.1 h2).1
  have e : Bx l k x = l.set q.1 (k, x) := by unfold Bx; rw [hq]
  refine ⟨?_, B6 h.keys, ?_, ?_⟩
  · rw [e, Array.toList_modify, List.map_set]
    refine List.ext_getElem? fun i => ?_
    rw [List.getElem?_map, List.getElem?_modify, List.getElem?_set]
    have hi := congrArg (fun z => z[i]?) h.at_
    simp only [List.getElem?_map] at hi
    by_cases hqi : q.1 = i
    · subst hqi
      rw [if_pos rfl, if_pos (by simpa using hlt)]
      rw [h2] at hi
      cases hE : es.toList[q.1]? with
      | none => rw [hE] at hi; simp at hi
      | some y => simp
    · rw [if_neg hqi]
      cases hE : es.toList[i]? with
      | none => rw [hE] at hi; simp [hqi] at hi ⊢; exact hi
      | some y => rw [hE] at hi; simp [hqi] at hi ⊢; exact hi
  · rw [Array.toList_modify]
    have e2 : (es.toList.modify q.1 fun e => { e with key := kk k, val := vv x }).map (·.born) = es.toList.map (·.born) := by
      refine List.ext_getElem? fun i => ?_
      rw [List.getElem?_map, List.getElem?_modify, List.getElem?_map]
      cases es.toList[i]? with
      | none => rfl
      | some y => simp; split <;> rfl
    rw [e2]; exact h.born
  · intro y hy
    rw [Array.toList_modify] at hy
    obtain ⟨i, hi⟩ := List.getElem?_of_mem hy
    rw [List.getElem?_modify] at hi
    cases hE : es.toList[i]? with
    | none => rw [hE] at hi; simp at hi
    | some u =>
      rw [hE] at hi
      have := h.old u (List.mem_of_getElem? hE)
      simp at hi
      rw [← hi]
      split <;> exact this
theorem MapL.push (h : MapL kk vv es c l) {k : κ} {x : ν} (hq : EG k l 0 = none) : MapL kk vv (es.push { key := kk k, val := vv x, born := c }) (c + 1) (Bx l k x) := by
  have e : Bx l k x = l ++ [(k, x)] := by unfold Bx; rw [hq]
  refine ⟨?_, B6 h.keys, ?_, ?_⟩
  · rw [e, Array.toList_push, List.map_append, List.map_append, h.at_]; rfl
  · rw [Array.toList_push, List.map_append]
    refine List.nodup_append.2 ⟨h.born, by simp, fun a ha b hb e => ?_⟩
    obtain ⟨y, hy, rfl⟩ := List.mem_map.1 ha
    have := h.old y hy
    simp at hb
    omega
  · intro y hy
    rw [Array.toList_push] at hy
    rcases List.mem_append.1 hy with hy | hy
    · have := h.old y hy; omega
    · rw [List.mem_singleton.1 hy]; show c < c + 1; omega
end mapl
section runs
variable {P : Program} {κ ν : Type} [DecidableEq κ] {kk : κ → Value} {vv : ν → Value} {es : Array MapEntry} {c g : Nat} {l : List (κ × ν)} {w : World} {mt kt vt : TypeId} {kd : TypeDesc} {z : Value}
theorem FE (hT : MapTy P mt kt vt kd kk z) (h : MapL kk vv es c l) (k : κ) : (Instr.findKey kt (kk k) es.toList).run P w = .ok ((EG k l 0).map fun q => (q.1, vv q.2)) w := by
 unfold Instr.findKey
 simp only [Sem.run_bind, run_underlying hT.hk, Result.andThen_ok, NG hT.same k es.toList l 0 h.at_]
 rfl
theorem Kw (hT : MapTy P mt kt vt kd kk z) (h : MapL kk vv es c l) (hb : w.heap[g]? = some (.map es c)) (k : κ) (ok : Bool) : (Instr.lookup mt (.map (some g)) (kk k) ok).run P w = .ok (if ok then .tuple #[((AL l k).map vv).getD z, .bool (AL l k).isSome] else ((AL l k).map vv).getD z) w := by
  unfold Instr.lookup
  simp only [Sem.run_bind, run_underlying hT.ht, Result.andThen_ok, Go.MapKept.run_getObj_map hb, Sem.run_pure, hT.chk, FE hT h]
  unfold AL
  cases EG k l 0 with
  | none => simp [hT.hz]
  | some q => simp
theorem Gx (hT : MapTy P mt kt vt kd kk z) (k : κ) (ok : Bool) : (Instr.lookup mt (.map none) (kk k) ok).run P w = .ok (if ok then .tuple #[z, .bool false] else z) w := by
 unfold Instr.lookup
 have hf : (Instr.findKey kt (kk k) ([] : List MapEntry)).run P w = .ok none w := by
  have := FE (w := w) hT (Kv (kk := kk) (vv := fun _ : Unit => z) (c := 0)) k
  simpa [EG] using this
 simp only [Sem.run_bind, run_underlying hT.ht, Result.andThen_ok, Sem.run_pure, hT.chk]
 simp [hf, hT.hz]
theorem UE (hT : MapTy P mt kt vt kd kk z) (h : MapL kk vv es c l) (hb : w.heap[g]? = some (.map es c)) (k : κ) (x : ν) : ∃ es' c', (Instr.mapUpdate mt (.map (some g)) (kk k) (vv x)).run P w = .ok () (setBlock w g (.map es' c')) ∧ MapL kk vv es' c' (Bx l k x) := by
  have hs : ∀ o, (setObj g o).run P w = .ok () (setBlock w g o) := fun o => by simp [setObj, Sem.run, hb, setBlock]
  cases hq : EG k l 0 with
  | none =>
    refine ⟨_, _, ?_, h.push hq⟩
    unfold Instr.mapUpdate
    simp only [Sem.run_bind, run_underlying hT.ht, Result.andThen_ok, Go.MapKept.run_getObj_map hb, hT.chk, FE hT h, hq, Option.map_none, hs]
  | some q =>
    obtain ⟨_, h2⟩ := Dt hq
    rw [Nat.sub_zero] at h2
    have hi := congrArg (fun z => z[q.1]?) h.at_
    simp only [List.getElem?_map, h2, Option.map_some] at hi
    obtain ⟨y, hy, he⟩ := Option.map_eq_some_iff.1 hi
    have hyk : y.key = kk k := by have := congrArg Prod.fst he; simpa using this
    have hy2 : es[q.1]? = some y := by rw [← hy, Array.getElem?_toList]
    refine ⟨_, _, ?_, h.put (x := x) hq⟩
    unfold Instr.mapUpdate
    simp only [Sem.run_bind, run_underlying hT.ht, Result.andThen_ok, Go.MapKept.run_getObj_map hb, hT.chk, FE hT h, hq, Option.map_some, hy2, Option.getD_some, hyk, Instr.keyThatStays, hT.stays, if_true, Sem.run_pure, hs]
theorem UF (hT : MapTy P mt kt vt kd kk z) (h : MapL kk vv es c l) (hb : w.heap[g]? = some (.map es c)) (k : κ) (ty : TypeId) : ∃ es', (Builtin.delete_ #[mt, kt] ty #[.map (some g), kk k]).run P w = .ok (.tuple #[]) (setBlock w g (.map es' c)) ∧ MapL kk vv es' c (BR l k) := by
  have hs : ∀ o, (setObj g o).run P w = .ok () (setBlock w g o) := fun o => by simp [setObj, Sem.run, hb, setBlock]
  have hv : (#[Value.map (some g), kk k] : Array Value)[1]? = some (kk k) := rfl
  cases hq : EG k l 0 with
  | none =>
    refine ⟨es, ?_, by unfold BR; rw [hq]; exact h⟩
    unfold Builtin.delete_
    simp [Sem.run_bind, run_underlying hT.ht, Go.MapKept.run_getObj_map hb, hT.chk, FE hT h, hq, hs]
  | some q =>
    refine ⟨es.eraseIdxIfInBounds q.1, ?_, by unfold BR; rw [hq]; exact h.erase⟩
    unfold Builtin.delete_
    simp [Sem.run_bind, run_underlying hT.ht, Go.MapKept.run_getObj_map hb, hT.chk, FE hT h, hq, hs]
end runs
end Go.Proofs.YtjcfimmcogkopaaGreat.Sep
namespace Go.Proofs.YtjcfimmcogkopaaGreat.Sep
open Go.RowKit
open Go.ChangeMaps (setBlock)
open Go.Proofs.YtjcfimmcogkopaaGreat.Mem (AZ Ci Chg Au)
def BB {κ ν : Type} (kk : κ → Value) (vv : ν → Value) (v : Value) (l : List (κ × ν)) : Ass := fun rs => ∃ g es c, v = .map (some g) ∧ rs = [(g, none, EH es c)] ∧ MapL kk vv es c l
section mapt
variable {P : Program} {κ ν : Type} {kk : κ → Value} {vv : ν → Value} {l : List (κ × ν)} {v : Value} {B : Nat → Prop} {w0 w w' : World} {os : List Ass} {mt kt vt : TypeId} {kd : TypeDesc} {z : Value} {n : Nat} {env : List (Nat × Value)} {Q : Exit → Act → World → Prop} {o : Oper} {act : Act}
theorem BB.is : ∀ rs, BB kk vv v l rs → ∃ g, v = .map (some g) := fun _ ⟨g, _, _, h, _⟩ => ⟨g, h⟩
theorem BB.nodup : ∀ rs, BB kk vv v l rs → (AH l).Nodup := fun _ ⟨_, _, _, _, _, h⟩ => h.keys
theorem Hp.mapt (h : Hp B w0 w os) (i : Nat) (hi : os[i]? = some (BB kk vv v l)) : ∃ g es c, v = .map (some g) ∧ w.heap[g]? = some (.map es c) ∧ MapL kk vv es c l := by
 obtain ⟨rs, ⟨g, es, c, h1, h2, h3⟩, hr⟩ := h.thing i hi
 subst h2
 exact ⟨g, es, c, h1, Dq.1 hr.1, h3⟩
theorem IB {g : Nat} {o : Obj} : Mod (Hq g) w (setBlock w g o) := ⟨rfl, rfl, rfl, by simp [setBlock], fun k _ hk => by
 have hk : k ≠ g := hk
 simp [setBlock, Array.getElem?_setIfInBounds_ne (Ne.symm hk)]⟩
theorem JG {g : Nat} {o : Obj} (h : g < w.heap.size) : (setBlock w g o).heap[g]? = some o := by simp [setBlock, h]
theorem Hp.mapSet (h : Hp B w0 w os) (i : Nat) {X : Ass} (hi : os[i]? = some X) {g : Nat} {es es' : Array MapEntry} {c c' : Nat} {Y : Ass} (hX : ∀ rs, X rs → RowsOf w rs → rs = [(g, none, EH es c)] ∧ Y [(g, none, EH es' c')]) (hg : g < w.heap.size) : Hp B w0 (setBlock w g (.map es' c')) (os.set i Y) :=
 h.turn i hi fun rs hx hr hd => by
  obtain ⟨e, hy⟩ := hX rs hx hr
  subst e
  exact ⟨_, hy, ⟨IB.weaken fun k _ e => ⟨_, List.mem_singleton.2 rfl, (show k = g from e).symm⟩, ⟨Dq.2 (JG hg), trivial⟩, ⟨(fun _ h => by cases h), trivial⟩, fun x hx _ => by
   rw [List.mem_singleton.1 hx]
   exact ⟨_, List.mem_singleton.2 rfl, rfl⟩⟩⟩
end mapt
section ops
variable {P : Program} {κ ν : Type} [DecidableEq κ] {kk : κ → Value} {vv : ν → Value} {l : List (κ × ν)} {v : Value} {B : Nat → Prop} {w0 w w' : World} {os : List Ass} {mt kt vt : TypeId} {kd : TypeDesc} {z : Value} {n : Nat} {env : List (Nat × Value)} {Q : Exit → Act → World → Prop} {o : Oper} {act : Act}
theorem Jc (i : Nat) (hT : MapTy P mt kt vt kd kk z) (hi : os[i]? = some (BB kk vv v l)) {k : κ} {r : Option ν} (hr : AL l k = r) {x y : Operand} (ho : o.op = .lookup mt x y false) (hx : evs env x = some v) (hy : evs env y = some (kk k)) (hH : Hp B w0 w os) (hF : Fr n act env) : (execOp act.eval o).run P w = .ok (.value ((r.map vv).getD z)) w := by
 obtain ⟨g, es, c, rfl, hb, hL⟩ := hH.mapt i hi
 subst hr
 unfold execOp
 simp only [ho, hF.evs hx, hF.evs hy, Sem.run_bind, Kw hT hL hb, Result.andThen_ok, Sem.run_pure, Bool.false_eq_true, if_false]
theorem VQ (i : Nat) (hT : MapTy P mt kt vt kd kk z) (hi : os[i]? = some (BB kk vv v l)) {k : κ} {r : Option ν} (hr : AL l k = r) {x y : Operand} (ho : o.op = .lookup mt x y true) (hx : evs env x = some v) (hy : evs env y = some (kk k)) (hH : Hp B w0 w os) (hF : Fr n act env) : (execOp act.eval o).run P w = .ok (.value (.tuple #[(r.map vv).getD z, .bool r.isSome])) w := by
 obtain ⟨g, es, c, rfl, hb, hL⟩ := hH.mapt i hi
 subst hr
 unfold execOp
 simp only [ho, hF.evs hx, hF.evs hy, Sem.run_bind, Kw hT hL hb, Result.andThen_ok, Sem.run_pure, if_true]
theorem Jd (i : Nat) (hT : MapTy P mt kt vt kd kk z) (hi : os[i]? = some (BB kk vv v l)) (k : κ) (a : ν) {x y u : Operand} (hd : o.dst = none) (ho : o.op = .mapUpdate mt x y u) (hx : evs env x = some v) (hy : evs env y = some (kk k)) (hu : evs env u = some (vv a)) {r : List (κ × ν)} (hr : Bx l k a = r) :
  Bq P Q n env B w0 os o (fun _ : Unit => undef) (fun _ => os.set i (BB kk vv v r)) := fun act w hH hF K hK => by
 obtain ⟨g, es, c, rfl, hb, hL⟩ := hH.mapt i hi
 subst hr
 obtain ⟨es', c', hrun, hL'⟩ := UE (P := P) hT hL hb k a
 have hrun2 : (execOp act.eval o).run P w = .ok .skip (setBlock w g (.map es' c')) := by
  unfold execOp
  simp only [ho, hF.evs hx, hF.evs hy, hF.evs hu, Sem.run_bind, hrun, Result.andThen_ok, Sem.run_pure]
 unfold Oper.wp
 rw [hrun2, Oper.upon_skip]
 have := hK () _ (hH.mapSet i hi (es := es) (c := c) (fun rs h1 h2 => by
  obtain ⟨g2, es2, c2, e1, e2, h3⟩ := h1
  cases e1
  subst e2
  have h4 := (Dq.1 h2.1 : w.heap[g]? = some (.map es2 c2))
  rw [hb] at h4
  cases h4
  exact ⟨rfl, ⟨g, es', c', rfl, rfl, hL'⟩⟩) (Array.getElem?_eq_some_iff.1 hb).1)
 rw [hd] at this ⊢
 exact this
theorem O6 (i : Nat) (hT : MapTy P mt kt vt kd kk z) (hi : os[i]? = some (BB kk vv v l)) (k : κ) {x y : Operand} (ho : o.op = .call { callee := .builtin .delete, args := #[x, y], argTypes := #[mt, kt] }) (hx : evs env x = some v) (hy : evs env y = some (kk k)) {r : List (κ × ν)} (hr : BR l k = r) :
  Bq P Q n env B w0 os o (fun _ : Unit => .tuple #[]) (fun _ => os.set i (BB kk vv v r)) := fun act w hH hF K hK => by
 obtain ⟨g, es, c, rfl, hb, hL⟩ := hH.mapt i hi
 subst hr
 obtain ⟨es', hrun, hL'⟩ := UF (P := P) hT hL hb k o.type
 have hrun2 : (execOp act.eval o).run P w = .ok (.value (.tuple #[])) (setBlock w g (.map es' c)) := ER ho (vs := [.map (some g), kk k]) (by simp [evl, hx, hy]) (fun cs => by simp [builtin, hrun]) hF
 exact E8 (w0 := w) act hrun2 (hK () _ (hH.mapSet i hi (es := es) (c := c) (fun rs h1 h2 => by
  obtain ⟨g2, es2, c2, e1, e2, h3⟩ := h1
  cases e1
  subst e2
  have h4 := (Dq.1 h2.1 : w.heap[g]? = some (.map es2 c2))
  rw [hb] at h4
  cases h4
  exact ⟨rfl, ⟨g, es', c, rfl, rfl, hL'⟩⟩) (Array.getElem?_eq_some_iff.1 hb).1))
end ops
theorem IC : ∀ {l : List MapEntry} {j : Nat} {e : MapEntry}, (l.map (·.born)).Nodup → l[j]? = some e → l.filter (fun x => !(x.born == e.born)) = l.eraseIdx j
  | [], _, _, _, h => by simp at h
  | x :: r, 0, e, hn, h => by
    simp only [List.getElem?_cons_zero, Option.some.injEq] at h
    subst h
    obtain ⟨h1, _⟩ := List.nodup_cons.1 (show (x.born :: r.map (·.born)).Nodup from hn)
    rw [List.eraseIdx_cons_zero, List.filter_cons, if_neg (by simp)]
    refine List.filter_eq_self.2 fun y hy => ?_
    have : y.born ≠ x.born := fun e => h1 (e ▸ List.mem_map_of_mem (f := (·.born)) hy)
    simpa using this
  | x :: r, j + 1, e, hn, h => by
    simp only [List.getElem?_cons_succ] at h
    obtain ⟨h1, h2⟩ := List.nodup_cons.1 (show (x.born :: r.map (·.born)).Nodup from hn)
    have hx : x.born ≠ e.born := fun e2 => h1 (by rw [e2]; exact List.mem_map_of_mem (f := (·.born)) (List.mem_of_getElem? h))
    rw [List.eraseIdx_cons_succ, List.filter_cons, if_pos (by simpa using hx), IC h2 h]
section more
variable {P : Program} {κ ν : Type} {kk : κ → Value} {vv : ν → Value} {l left : List (κ × ν)} {v it : Value} {B : Nat → Prop} {w0 w w' : World} {os : List Ass} {mt kt vt : TypeId} {n : Nat} {env : List (Nat × Value)} {Q : Exit → Act → World → Prop} {o : Oper} {act : Act}
theorem O7 (i : Nat) (ht : P.underlying mt = some (.map kt vt)) (hi : os[i]? = some (BB kk vv v l)) {x : Operand} (ho : o.op = .call { callee := .builtin .len, args := #[x], argTypes := #[mt] }) (hx : evs env x = some v) (hH : Hp B w0 w os) (hF : Fr n act env) : (execOp act.eval o).run P w = .ok (.value (.int .i64 (l.length : Int))) w := by
 obtain ⟨g, es, c, rfl, hb, hL⟩ := hH.mapt i hi
 exact ER ho (vs := [.map (some g)]) (by simp [evl, hx]) (fun cs => by
  have := hL.len
  simp [builtin, Builtin.len_, run_underlying ht, Builtin.lenOf, Go.MapKept.run_getObj_map hb, goInt, this]) hF
theorem Kx {rs : List RowT} (h : Mem.Hp B w0 w rs) (o : Obj) {cs : Array Value} (hx : CK (w.alloc o) (w.heap.size, none, cs)) : Mem.Hp B w0 (w.alloc o) ((w.heap.size, none, cs) :: rs) :=
  ⟨h.up.alloc _, ⟨hx, h.rows.map_ fun _ _ r => r.alloc _⟩, ⟨fun y hy => by have := (h.rows.mem y hy).lt; show y.1 ≠ w.heap.size; omega, h.apart⟩, fun x hx hlt => by
    rcases List.mem_cons.1 hx with rfl | hx
    · have := h.up.size; exact absurd hlt (by show ¬ w.heap.size < w0.heap.size; omega)
    · exact h.own x hx hlt⟩
theorem Qz {r : Option Operand} (hr : r = none) (ho : o.op = .makeMap mt r) : Bq P Q n env B w0 os o (fun g : Nat => .map (some g)) (fun g => BB kk vv (.map (some g)) [] :: os) := fun act w hH hF K hK => by
 subst hr
 have hrun : (execOp act.eval o).run P w = .ok (.value (.map (some w.heap.size))) (w.alloc (.map #[] 0)) := by
  unfold execOp
  simp [ho, Instr.makeMap, newObj, Sem.run]
 obtain ⟨rs, h1, h2⟩ := hH
 exact E8 (w0 := w) act hrun (hK w.heap.size _ ⟨_, ⟨[(w.heap.size, none, EH #[] 0)], rs, rfl, ⟨w.heap.size, #[], 0, rfl, rfl, Kv⟩, h1⟩, Kx h2 _ (Dq.2 (heap_alloc_new w _))⟩)
def Fv (kk : κ → Value) (vv : ν → Value) (mv it : Value) (l left : List (κ × ν)) (cur : Option (κ × ν)) : Ass := fun rs => ∃ g r es c since seen, mv = .map (some g) ∧ it = .pointer (some ⟨r, 0, none⟩) ∧ rs = [(g, none, EH es c), (r, none, DH g since seen c)] ∧ MapL kk vv es c l ∧ (Go.leftOf es seen).toList.map (fun x => (x.key, x.val)) = left.map (fun p => (kk p.1, vv p.2)) ∧ (∀ x ∈ es.toList, x.born < since) ∧ since ≤ c ∧ g ≠ r ∧ (∀ p, cur = some p → ∃ (seen' : Array Nat) (e : MapEntry), seen = seen'.push e.born ∧ e ∈ es.toList ∧ e.key = kk p.1 ∧ e.val = vv p.2)
def VR : Ass := fun rs => ∃ x, rs = [x]
theorem Je {mv : Value} {cur : Option (κ × ν)} : ∀ rs, Fv kk vv mv it l left cur rs → ∃ _ : Unit, Ak [BB kk vv mv l, VR] rs := fun rs ⟨g, r, es, c, since, seen, h1, _, h3, h4, _⟩ => ⟨(), [(g, none, EH es c)], [(r, none, DH g since seen c)], h3, ⟨g, es, c, h1, rfl, h4⟩, [(r, none, DH g since seen c)], [], rfl, ⟨_, rfl⟩, rfl⟩
theorem Hp.rngt {mv : Value} {cur : Option (κ × ν)} (h : Hp B w0 w os) (i : Nat) (hi : os[i]? = some (Fv kk vv mv it l left cur)) : ∃ g r es c since seen, mv = .map (some g) ∧ it = .pointer (some ⟨r, 0, none⟩) ∧ w.heap[g]? = some (.map es c) ∧ w.heap[r]? = some (.mapIter (some g) since seen c) ∧ MapL kk vv es c l ∧ (Go.leftOf es seen).toList.map (fun x => (x.key, x.val)) = left.map (fun p => (kk p.1, vv p.2)) ∧ (∀ x ∈ es.toList, x.born < since) ∧ since ≤ c ∧ g ≠ r ∧ (∀ p, cur = some p → ∃ (seen' : Array Nat) (e : MapEntry), seen = seen'.push e.born ∧ e ∈ es.toList ∧ e.key = kk p.1 ∧ e.val = vv p.2) := by
 obtain ⟨rs, ⟨g, r, es, c, since, seen, h1, h2, h3, h4, h5⟩, hr⟩ := h.thing i hi
 subst h3
 exact ⟨g, r, es, c, since, seen, h1, h2, Dq.1 hr.1, GZ.1 hr.2.1, h4, h5⟩
theorem My (i : Nat) (ht : P.underlying mt = some (.map kt vt)) (hi : os[i]? = some (BB kk vv v l)) {x : Operand} (ho : o.op = .range mt x) (hx : evs env x = some v) : Bq P Q n env B w0 os o (fun r : Nat => .pointer (some ⟨r, 0, none⟩)) (fun r => os.set i (Fv kk vv v (.pointer (some ⟨r, 0, none⟩)) l l none)) := fun act w hH hF K hK => by
  obtain ⟨g, es, c, rfl, hb, hL⟩ := hH.mapt i hi
  have hg := (Array.getElem?_eq_some_iff.1 hb).1
  have hrun : (execOp act.eval o).run P w = .ok (.value (.pointer (some ⟨w.heap.size, 0, none⟩))) (w.alloc (.mapIter (some g) c #[] c)) := by
    unfold execOp
    simp [ho, hF.evs hx, Instr.range, run_underlying ht, Go.MapKept.run_getObj_map hb, newObj, Sem.run]
  refine E8 (w0 := w) act hrun (hK w.heap.size _ (hH.turn i hi fun rs h1 h2 h3 => ?_))
  obtain ⟨g2, es2, c2, e1, e2, h4⟩ := h1
  cases e1
  subst e2
  have h5 : w.heap[g]? = some (.map es2 c2) := Dq.1 h2.1
  rw [hb] at h5
  cases h5
  refine ⟨[(g, none, EH es c), (w.heap.size, none, DH g c #[] c)], ⟨g, w.heap.size, es, c, c, #[], rfl, rfl, rfl, hL, ?_, hL.old, Nat.le_refl _, by omega, fun p h => by cases h⟩, ?_⟩
  · have : Go.leftOf es #[] = es := by unfold Go.leftOf; simp
    rw [this]; exact hL.at_
  · refine ⟨Mod.of_below ((Below.refl _ w).alloc (Nat.le_refl _) _) _, ⟨(h2.1).alloc _, GZ.2 (heap_alloc_new w _), trivial⟩, ⟨fun y hy => by
      rw [List.mem_singleton.1 hy]; show w.heap.size ≠ g; omega, (fun _ h => by cases h), trivial⟩, fun x hx hlt => ?_⟩
    rcases List.mem_cons.1 hx with rfl | hx
    · exact ⟨_, List.mem_singleton.2 rfl, rfl⟩
    · rw [List.mem_singleton.1 hx] at hlt
      exact absurd hlt (Nat.lt_irrefl _)
theorem Mz (i : Nat) {mv : Value} {cur : Option (κ × ν)} (hi : os[i]? = some (Fv kk vv mv it l left cur)) (hl : left = []) {x : Operand} (ho : o.op = .next x false) (hx : evs env x = some it) (hH : Hp B w0 w os) (hF : Fr n act env) : (execOp act.eval o).run P w = .ok (.value (.tuple #[.bool false])) w := by
  obtain ⟨g, r, es, c, since, seen, rfl, rfl, hb, hr, hL, hle, hold, hsc, hne, _⟩ := hH.rngt i hi
  subst hl
  have hs : (Go.leftOf es seen).toList = [] := by simpa using hle
  unfold execOp
  rcases Go.run_next_at (P := P) w o.type r g since c seen es c hr hb hold hsc with ⟨_, h2⟩ | ⟨e, he, _⟩
  · simp only [ho, hF.evs hx, Sem.run_bind, h2, Result.andThen_ok, Sem.run_pure]
  · rw [hs] at he; cases he
theorem MA (i : Nat) {mv : Value} {cur : Option (κ × ν)} (hi : os[i]? = some (Fv kk vv mv it l left cur)) (hl : left ≠ []) {x : Operand} (ho : o.op = .next x false) (hx : evs env x = some it) :
    Bq P Q n env B w0 os o (fun q : { q : Nat × κ × ν // left[q.1]? = some q.2 } => .tuple #[.bool true, kk q.1.2.1, vv q.1.2.2]) (fun q => os.set i (Fv kk vv mv it l (left.eraseIdx q.1.1) (some q.1.2))) := fun act w hH hF K hK => by
  obtain ⟨g, r, es, c, since, seen, rfl, rfl, hb, hr, hL, hle, hold, hsc, hne, _⟩ := hH.rngt i hi
  rcases Go.run_next_at (P := P) w o.type r g since c seen es c hr hb hold hsc with ⟨h1, _⟩ | ⟨e, he, w1, hw1, hrun⟩
  · exfalso
    have := congrArg List.length hle
    simp only [List.length_map] at this
    have h2 : (Go.leftOf es seen).toList.length = 0 := by simpa using h1
    exact hl (List.eq_nil_of_length_eq_zero (by omega))
  · obtain ⟨j, hj⟩ := List.getElem?_of_mem he
    have hj2 := congrArg (fun z => z[j]?) hle
    simp only [List.getElem?_map, hj, Option.map_some] at hj2
    obtain ⟨p, hp, hpe⟩ := Option.map_eq_some_iff.1 hj2.symm
    have hk : e.key = kk p.1 := (congrArg Prod.fst hpe).symm
    have hv : e.val = vv p.2 := (congrArg Prod.snd hpe).symm
    have hee : e ∈ es.toList := by
      have : e ∈ (Go.leftOf es seen).toList := he
      unfold Go.leftOf at this
      simp at this ⊢
      exact this.1
    have hrun2 : (execOp act.eval o).run P w = .ok (.value (.tuple #[.bool true, kk p.1, vv p.2])) (setBlock w1 r (.mapIter (some g) since (seen.push e.born) c)) := by
      unfold execOp
      simp only [ho, hF.evs hx, Sem.run_bind, hrun, Result.andThen_ok, Sem.run_pure, hk, hv]
    have hH1 : Hp B w0 w1 os := by
      rcases hw1 with rfl | rfl
      · exact hH
      · exact hH.drew
    have hr1 : w1.heap[r]? = some (.mapIter (some g) since seen c) := by rcases hw1 with rfl | rfl <;> exact hr
    have hb1 : w1.heap[g]? = some (.map es c) := by rcases hw1 with rfl | rfl <;> exact hb
    have hrl := (Array.getElem?_eq_some_iff.1 hr1).1
    refine E8 (w0 := w) act hrun2 (hK ⟨(j, p), hp⟩ _ (hH1.turn i hi fun rs h1 h2 h3 => ?_))
    obtain ⟨g2, r2, es2, c2, since2, seen2, e1, e2, e3, _⟩ := h1
    cases e1
    cases e2
    subst e3
    have h5 : w1.heap[g]? = some (.map es2 c2) := Dq.1 h2.1
    have h6 : w1.heap[r]? = some (.mapIter (some g) since2 seen2 c2) := GZ.1 h2.2.1
    rw [hb1] at h5
    cases h5
    rw [hr1] at h6
    cases h6
    refine ⟨[(g, none, EH es c), (r, none, DH g since (seen.push e.born) c)], ⟨g, r, es, c, since, seen.push e.born, rfl, rfl, rfl, hL, ?_, hold, hsc, hne, fun q hq => by cases hq; exact ⟨seen, e, rfl, hee, hk, hv⟩⟩, ?_⟩
    · have h7 : (Go.leftOf es (seen.push e.born)).toList = (Go.leftOf es seen).toList.eraseIdx j := by
        have hnd : ((Go.leftOf es seen).toList.map (·.born)).Nodup := by
          unfold Go.leftOf
          rw [Array.toList_filter]
          exact List.Nodup.sublist (List.Sublist.map _ List.filter_sublist) hL.born
        have h8 : (Go.leftOf es (seen.push e.born)).toList = (Go.leftOf es seen).toList.filter (fun x => !(x.born == e.born)) := by
          unfold Go.leftOf
          rw [Array.toList_filter, Array.toList_filter, List.filter_filter]
          refine List.filter_congr fun x _ => ?_
          rw [Bool.eq_iff_iff]
          simp [not_or, and_comm]
        rw [h8]
        exact IC hnd hj
      rw [h7, Go.ChangeMaps.map_eraseIdx, hle, Go.ChangeMaps.map_eraseIdx]
    · refine ⟨IB.weaken fun k _ e => ⟨(r, none, DH g since seen c), by simp, (show k = r from e).symm⟩, ⟨Dq.2 ?_, GZ.2 (JG hrl), trivial⟩, Bf.2 (by have := Bf.1 h3; simpa using this), fun x hx _ => ?_⟩
      · have : (setBlock w1 r (.mapIter (some g) since (seen.push e.born) c)).heap[g]? = w1.heap[g]? := by simp [setBlock, Array.getElem?_setIfInBounds_ne (Ne.symm hne)]
        rw [this]; exact hb1
      · rcases List.mem_cons.1 hx with rfl | hx
        · exact ⟨(g, none, EH es c), by simp, rfl⟩
        · rw [List.mem_singleton.1 hx]
          exact ⟨(r, none, DH g since seen c), by simp, rfl⟩
theorem MB (i : Nat) {mv : Value} {p : κ × ν} (hi : os[i]? = some (Fv kk vv mv it l left (some p))) {x : Operand} (ho : o.op = .entry x) (hx : evs env x = some it) (hH : Hp B w0 w os) (hF : Fr n act env) : (execOp act.eval o).run P w = .ok (.value (.tuple #[kk p.1, vv p.2])) w := by
 obtain ⟨g, r, es, c, since, seen, rfl, rfl, hb, hr, hL, hle, hold, hsc, hne, hc⟩ := hH.rngt i hi
 obtain ⟨seen', e, rfl, he, hk, hv⟩ := hc p rfl
 unfold execOp
 simp only [ho, hF.evs hx, Sem.run_bind, Go.run_entry_at (P := P) w r g since seen' es c e hr hb he hL.born, Result.andThen_ok, Sem.run_pure, hk, hv]
end more
end Go.Proofs.YtjcfimmcogkopaaGreat.Sep
namespace Go.Proofs.YtjcfimmcogkopaaGreat
structure Good {α : Type} (P : List UInt8 → Nat → α × List UInt8 × Nat) (enc : α → List UInt8) (dom rng : α → Prop) : Prop where
  lay : ∀ x r, dom x → P (enc x ++ r) 0 = (x, r, 0)
  back : ∀ l f, (P l f).2.2 = 0 → f = 0 ∧ l = enc (P l f).1 ++ (P l f).2.1
  ok : ∀ l f, rng (P l f).1
theorem Good.back_of {α : Type} {P : List UInt8 → Nat → α × List UInt8 × Nat} {enc : α → List UInt8} {dom rng : α → Prop} (h : Good P enc dom rng) {l l' : List UInt8} {f : Nat} {x : α} (e : P l f = (x, l', 0)) : f = 0 ∧ l = enc x ++ l' := by
 have := h.back l f (by rw [e])
 rwa [e] at this
theorem Good.ok_of {α : Type} {P : List UInt8 → Nat → α × List UInt8 × Nat} {enc : α → List UInt8} {dom rng : α → Prop} (h : Good P enc dom rng) {l l' : List UInt8} {f f' : Nat} {x : α} (e : P l f = (x, l', f')) : rng x := by
 have := h.ok l f
 rwa [e] at this
theorem EZ (most : Nat) : Good (Ba most) (fun n => [UInt8.ofNat n]) (fun n => n ≤ most ∧ n < 256) (fun n => n < 256) where
 lay n r h := by
  have e := Iz n (by omega)
  exact (Ro most _ r (by omega)).trans (by rw [e])
 back l f h := by
  obtain ⟨h1, _, _, h2⟩ := NE h
  exact ⟨h1, h2⟩
 ok l f := Iy most l f
theorem Ex (most : Nat) : Good (BL most) Dx (fun n => n ≤ most ∧ n < 18446744073709551616) (fun n => n < 18446744073709551616) where
 lay n r h := NB most n r h.1 h.2
 back _ _ h := Rn h
 ok l f := JX most l f
def O8 (t : List UInt8) : List UInt8 := Dx t.length ++ t
theorem LB (most : Int) : Good (BZ most) O8 (fun t => (t.length : Int) ≤ most ∧ t.length < 18446744073709551616) (fun _ => True) where
 lay t r h := Rp most t r h.1 h.2
 back _ _ h := O2 h
 ok _ _ := trivial
def rI {α : Type} (b : Bool) (z : α) (r : α × List UInt8 × Nat) (l : List UInt8) (f : Nat) : α × List UInt8 × Nat := match b with | true => r | false => (z, l, f)
structure EntD where
  k : Int
  t : Int
  i : Int
  d : List UInt8
  c : Int
deriving DecidableEq
def EntD.zero : EntD := ⟨0, 0, 0, [], 0⟩
structure EntD.ok (e : EntD) : Prop where
  k : Qv e.k
  t : M9 e.t
  i : M9 e.i
  d : e.d.length ≤ 9223372036854775807
  c : Qv e.c
def Ge (c : Int) : Bool := decide (c ≥ 0) && decide (c ≤ 254) && decide (c % 2 = 0)
def WV (e : EntD) : Bool :=
  if e.k = 0 then e.d == [] && e.c == 0
  else if e.k = 1 then decide (1 ≤ e.d.length) && decide (e.d.length ≤ 128) && e.c == 0
  else if e.k = 2 then e.d == [] && Ge e.c && e.c != 0
  else false
def HI (e : EntD) : Bool := Ef e.t && (Ef e.i && WV e)
def NH (e : EntD) : List UInt8 := if e.k = 1 then O8 e.d else if e.k = 2 then [UInt8.ofNat e.c.toNat] else []
def VS (e : EntD) : List UInt8 := UInt8.ofNat e.k.toNat :: (Fu e.t ++ (Fu e.i ++ NH e))
def ID (n : Nat) (l : List UInt8) (f : Nat) : (List UInt8 × Nat) × List UInt8 × Nat :=
  if n = 1 then (((BZ 128 l f).1, 0), (BZ 128 l f).2) else if n = 2 then (([], (Ba 254 l f).1), (Ba 254 l f).2) else (([], 0), l, f)
theorem Rs {l l' : List UInt8} {f f' : Nat} {x : List UInt8} (h : BZ 128 l f = (x, l', f')) : ID 1 l f = ((x, 0), l', f') := by
 unfold ID
 rw [if_pos rfl, h]
theorem Rt {l l' : List UInt8} {f f' c : Nat} (h : Ba 254 l f = (c, l', f')) : ID 2 l f = (([], c), l', f') := by
 unfold ID
 rw [if_neg (by omega), if_pos rfl, h]
theorem O9 {n : Nat} (l : List UInt8) (f : Nat) (h1 : n ≠ 1) (h2 : n ≠ 2) : ID n l f = (([], 0), l, f) := by
 unfold ID
 rw [if_neg h1, if_neg h2]
def JH (l : List UInt8) : EntD × List UInt8 × Nat :=
  match Ba 2 l 0 with
  | (n0, l0, f0) => match BL 72057594037927935 l0 f0 with
    | (n1, l1, f1) => match BL 72057594037927935 l1 f1 with
      | (n2, l2, f2) => match ID n0 l2 f2 with
        | ((x, c), l3, f3) => (⟨(n0 : Int), (n1 : Int), (n2 : Int), x, (c : Int)⟩, l3, f3)
theorem SW {l l0 l1 l2 l3 x : List UInt8} {n0 n1 n2 c f0 f1 f2 f3 : Nat} (h0 : Ba 2 l 0 = (n0, l0, f0)) (h1 : BL 72057594037927935 l0 f0 = (n1, l1, f1)) (h2 : BL 72057594037927935 l1 f1 = (n2, l2, f2)) (h3 : ID n0 l2 f2 = ((x, c), l3, f3)) :
  JH l = (⟨(n0 : Int), (n1 : Int), (n2 : Int), x, (c : Int)⟩, l3, f3) := by
 simp only [JH, h0, h1, h2, h3]
def Gy (l : List UInt8) : EntD × Nat :=
  if 160 < l.length then (.zero, 12)
  else match JH l with
    | (e, l', f') => if Dy l' f' ≠ 0 then (.zero, Dy l' f') else if HI e then (e, 0) else (.zero, 11)
theorem Ru {l : List UInt8} (h : 160 < l.length) : Gy l = (.zero, 12) := by
 unfold Gy
 rw [if_pos h]
theorem SX {l l' : List UInt8} {e : EntD} {f' : Nat} (h : ¬ 160 < l.length) (hr : JH l = (e, l', f')) (hf : Dy l' f' ≠ 0) : Gy l = (.zero, Dy l' f') := by
 unfold Gy
 rw [if_neg h, hr]
 simp only
 rw [if_pos hf]
theorem Pa {l l' : List UInt8} {e : EntD} {f' : Nat} (h : ¬ 160 < l.length) (hr : JH l = (e, l', f')) (hf : Dy l' f' = 0) (hR : HI e = false) : Gy l = (.zero, 11) := by
 unfold Gy
 rw [if_neg h, hr]
 simp only
 rw [if_neg (by simp [hf]), hR]
 rfl
theorem Pb {l l' : List UInt8} {e : EntD} {f' : Nat} (h : ¬ 160 < l.length) (hr : JH l = (e, l', f')) (hf : Dy l' f' = 0) (hR : HI e = true) : Gy l = (e, 0) := by
 unfold Gy
 rw [if_neg h, hr]
 simp only
 rw [if_neg (by simp [hf]), hR]
 rfl
theorem Rv {l : List UInt8} {f : Nat} (h : Dy l f = 0) : f = 0 ∧ l = [] := by
  unfold Dy at h
  split at h
  · omega
  · rename_i hn
    refine ⟨h, ?_⟩
    rcases Nat.eq_zero_or_pos l.length with h0 | h0
    · exact List.eq_nil_of_length_eq_zero h0
    · exact absurd ⟨h, h0⟩ hn
theorem Pc {l : List UInt8} {e : EntD} (h : JH l = (e, [], 0)) : l = VS e := by
  obtain ⟨⟨n0, l0, f0⟩, h0⟩ : ∃ R, Ba 2 l 0 = R := ⟨_, rfl⟩
  obtain ⟨⟨n1, l1, f1⟩, h1⟩ : ∃ R, BL 72057594037927935 l0 f0 = R := ⟨_, rfl⟩
  obtain ⟨⟨n2, l2, f2⟩, h2⟩ : ∃ R, BL 72057594037927935 l1 f1 = R := ⟨_, rfl⟩
  obtain ⟨⟨⟨x, c⟩, l3, f3⟩, h3⟩ : ∃ R, ID n0 l2 f2 = R := ⟨_, rfl⟩
  have e' := (SW h0 h1 h2 h3).symm.trans h
  simp only [Prod.mk.injEq] at e'
  obtain ⟨rfl, rfl, rfl⟩ := e'
  have b3 : f2 = 0 ∧ l2 = NH ⟨(n0 : Int), (n1 : Int), (n2 : Int), x, (c : Int)⟩ := by
    by_cases hn : n0 = 1
    · subst hn
      obtain ⟨⟨y, l4, f4⟩, h4⟩ : ∃ R, BZ 128 l2 f2 = R := ⟨_, rfl⟩
      have e4 := (Rs h4).symm.trans h3
      simp only [Prod.mk.injEq] at e4
      obtain ⟨⟨rfl, rfl⟩, rfl, rfl⟩ := e4
      obtain ⟨a, b⟩ := (LB 128).back_of h4
      refine ⟨a, ?_⟩
      unfold NH
      simp only
      rw [if_pos (by rfl), b, List.append_nil]
    · by_cases hn2 : n0 = 2
      · subst hn2
        obtain ⟨⟨y, l4, f4⟩, h4⟩ : ∃ R, Ba 254 l2 f2 = R := ⟨_, rfl⟩
        have e4 := (Rt h4).symm.trans h3
        simp only [Prod.mk.injEq] at e4
        obtain ⟨⟨rfl, rfl⟩, rfl, rfl⟩ := e4
        obtain ⟨a, b⟩ := (EZ 254).back_of h4
        refine ⟨a, ?_⟩
        unfold NH
        simp only
        rw [if_neg (by decide), if_pos (by rfl), b, List.append_nil]
        rfl
      · rw [O9 _ _ hn hn2] at h3
        simp only [Prod.mk.injEq] at h3
        obtain ⟨⟨rfl, rfl⟩, rfl, rfl⟩ := h3
        refine ⟨rfl, ?_⟩
        unfold NH
        simp only
        rw [if_neg (by omega), if_neg (by omega)]
  obtain ⟨rfl, b3⟩ := b3
  obtain ⟨rfl, b2⟩ := (Ex _).back_of h2
  obtain ⟨rfl, b1⟩ := (Ex _).back_of h1
  obtain ⟨_, b0⟩ := (EZ _).back_of h0
  rw [b0, b1, b2, b3]
  simp [VS, Fu]
theorem Rw (l : List UInt8) : ((Gy l).2 ≠ 0 ∧ (Gy l).1 = .zero) ∨ ((Gy l).2 = 0 ∧ HI (Gy l).1 = true ∧ VS (Gy l).1 = l) := by
  by_cases h : 160 < l.length
  · rw [Ru h]; exact .inl ⟨by simp, rfl⟩
  · obtain ⟨⟨e, l', f'⟩, hr⟩ : ∃ R, JH l = R := ⟨_, rfl⟩
    by_cases hf : Dy l' f' = 0
    · cases hR : HI e
      · rw [Pa h hr hf hR]; exact .inl ⟨by simp, rfl⟩
      · rw [Pb h hr hf hR]
        obtain ⟨rfl, rfl⟩ := Rv hf
        exact .inr ⟨rfl, hR, (Pc hr).symm⟩
    · rw [SX h hr hf]; exact .inl ⟨hf, rfl⟩
end Go.Proofs.YtjcfimmcogkopaaGreat
namespace Go.Proofs.YtjcfimmcogkopaaGreat.Sep
open Go.RowKit
open Go.Proofs.YtjcfimmcogkopaaGreat.Mem (AZ Ci Chg)
def De {α : Type} (f : α → Ass) (l : List α) : Ass := fun rs => Ak (l.map f) rs
section
variable {α : Type} {f : α → Ass} {l : List α} {B : Nat → Prop} {w0 w w' : World} {os : List Ass}
theorem Ey : De f [] [] := rfl
theorem De.push {x : α} {a b : List RowT} (h : De f l a) (h' : f x b) : De f (l ++ [x]) (a ++ b) := by
 unfold De
 rw [List.map_append]
 exact Ak.app h (Ak.one h')
theorem HJ {x : α} : ∀ rs, Ak [De f l, f x] rs → De f (l ++ [x]) rs := fun rs h => by
 obtain ⟨a, b, e, h1, h2⟩ := h
 subst e
 exact h1.push (Ak.one' h2)
theorem Rx {j : Nat} {x : α} (hj : l[j]? = some x) : ∀ rs, De f l rs → ∃ _ : Unit, Ak [De f (l.take j), f x, De f (l.drop (j + 1))] rs := fun rs h => by
  have e : l = l.take j ++ (x :: l.drop (j + 1)) := by
    have hlt := (List.getElem?_eq_some_iff.1 hj).1
    have hx := (List.getElem?_eq_some_iff.1 hj).2
    rw [← hx, ← List.drop_eq_getElem_cons hlt, List.take_append_drop]
  unfold De at h
  rw [e, List.map_append] at h
  obtain ⟨a, b, rfl, h1, h2⟩ := h.split
  obtain ⟨c, d, rfl, h3, h4⟩ := h2
  refine ⟨(), a, c ++ d, rfl, ?_, c, d, rfl, h3, d, [], by simp, ?_, rfl⟩
  · exact h1
  · exact h4
theorem Ry {a b : List α} {y : α} : ∀ rs, Ak [De f a, f y, De f b] rs → De f (a ++ y :: b) rs := fun rs h => by
 obtain ⟨p, q, rfl, h1, c, d, rfl, h2, h3⟩ := h
 have h3 := Ak.one' h3
 unfold De
 rw [List.map_append]
 exact Ak.app h1 ⟨c, d, rfl, h2, h3⟩
theorem SY {j : Nat} {y : α} (hj : j < l.length) : l.take j ++ y :: l.drop (j + 1) = l.set j y := by
 rw [List.set_eq_take_append_cons_drop, if_pos hj]
theorem De.at_ {j : Nat} {x : α} {rs : List RowT} (h : De f l rs) (hr : RowsOf w rs) (hj : l[j]? = some x) : ∃ ys, f x ys ∧ RowsOf w ys := by
 obtain ⟨a, y, b, e, h1, _⟩ := Ak.at_ (i := j) (o := f x) h (by simp [hj])
 exact ⟨y, h1, AN.2 fun z hz => AN.1 hr z (by rw [e]; simp [hz])⟩
theorem Hp.each (h : Hp B w0 w os) (i : Nat) (hi : os[i]? = some (De f l)) {j : Nat} {x : α} (hj : l[j]? = some x) : ∃ ys, f x ys ∧ RowsOf w ys := by
 obtain ⟨rs, h1, h2⟩ := h.thing i hi
 exact h1.at_ h2 hj
end
section
variable {P : Program} {ops : Array Oper} {Q : Exit → Act → World → Prop} {n : Nat} {env : List (Nat × Value)} {B : Nat → Prop} {w0 : World} {os : List Ass} {α : Type}
end
section
variable {P : Program} {Q : Exit → Act → World → Prop} {n : Nat} {env : List (Nat × Value)} {B : Nat → Prop} {w0 : World} {os : List Ass} {o : Oper} {e : TypeId} {k : Nat} {α : Type} {enc : α → List Value} {v : Value} {l : List α}
end
structure EntV where
  e : EntD
  A : Option Addr
  c : Nat
def EntV.v (x : EntV) : Value := .slice x.A x.e.d.length x.c
def encV (x : EntV) : List Value := [.int .i64 x.e.k, .int .u64 x.e.t, .int .u64 x.e.i, x.v, .int .i64 x.e.c]
theorem Xq : EncOf 5 encV := ⟨fun _ => rfl, fun x v h => by unfold encV EntV.v at h; simp at h; rcases h with rfl | rfl | rfl | rfl | rfl <;> rfl⟩
def Ky (w : World) (v : Value) (l : List EntV) : Prop := DX w 5 v l.length (flat encV l) ∧ ∀ x, x ∈ l → D6 w x.v x.e.d
section
variable {u w w0 : World} {v : Value} {l : List EntV} {X : Ass} {B : Nat → Prop} {os : List Ass} {rs : List RowT} {te : TypeId}
theorem DX.below {k m : Nat} {a : Value} {ys : List Value} (h : DX u k a m ys) (hb : Below u.heap.size u w) : DX w k a m ys := by
 obtain ⟨h1, A, c, e, hA⟩ := h
 refine ⟨h1, A, c, e, hA.imp id fun ⟨a, ha, hc⟩ => ⟨a, ha, fun j x hx => ?_⟩⟩
 have h0 := hc j x hx
 rw [hb.cell (World.block_lt_of_cell? _ _ h0)]
 exact h0
theorem Ky.below (h : Ky u v l) (hb : Below u.heap.size u w) : Ky w v l := ⟨h.1.below hb, fun x hx => (h.2 x hx).below hb⟩
def WW (te : TypeId) (v : Value) (l : List EntV) : Ass := Do [Ap te 5 encV v l, De (fun x : EntV => Ap 5 1 encB x.v x.e.d) l]
theorem WW.rd (h : WW te v l rs) (hr : RowsOf w rs) : Ky w v l := by
 obtain ⟨a, b, e, h1, h2⟩ := h
 subst e
 have ha : RowsOf w a := AN.2 fun z hz => AN.1 hr z (by simp [hz])
 have hb : RowsOf w b := AN.2 fun z hz => AN.1 hr z (by simp [hz])
 refine ⟨h1.all Xq ha, fun x hx => ?_⟩
 obtain ⟨j, hj⟩ := List.getElem?_of_mem hx
 obtain ⟨ys, h3, h4⟩ := (Ak.one' h2).at_ hb hj
 exact G7 h3 h4
end
def VT (k a b t i lt : Int) (ev : Value) (co : Int) (rf : Bool) (bi bt bc o : Int) (dv : Value) (la : Bool) : List Value :=
  [.int .i64 k, .int .i64 a, .int .i64 b, .int .u64 t, .int .u64 i, .int .u64 lt, ev, .int .u64 co, .bool rf, .int .u64 bi, .int .u64 bt, .int .i64 bc, .int .i64 o, dv, .bool la]
end Go.Proofs.YtjcfimmcogkopaaGreat.Sep
namespace Go.Proofs.YtjcfimmcogkopaaGreat.Sep
open Go.RowKit
open Go.Proofs.YtjcfimmcogkopaaGreat.Mem (AZ Ci Chg Au)
section
variable {P : Program} {n : Nat} {B : Nat → Prop} {w0 w : World} {os : List Ass} {env : List (Nat × Value)} {o : Oper} {a : Act}
theorem MC {T T' : TypeId} {x y : Operand} {k : IntKind} {p q r : Int} (hr : bits .or k p q = r) (ho : o.op = .binOp .or T x y T') (hx : evs env x = some (.int k p)) (hy : evs env y = some (.int k q)) (hF : Fr n a env) : (execOp a.eval o).run P w = .ok (.value (.int k r)) w := by
 unfold execOp
 simp only [ho, hF.evs hx, hF.evs hy]
 simp [eqGuard, binOp, intBits_or, hr]
theorem G9 {T T' e : TypeId} {v : Value} {l : List UInt8} {x : Operand} (hs : P.underlying T = some (.slice e)) (he : P.underlying e = some (.int .u8)) (hi : (P.info? e).map (fun i => (i.zero, i.size, i.bytes)) = some (some (.int .u8 0), 1, 1)) (hd : P.underlying T' = some .string) (h : D6 w v l) (ho : o.op = .convert T T' x) (hx : evs env x = some v) (hF : Fr n a env) : (execOp a.eval o).run P w = .ok (.value (.string (bs l))) w := by
 obtain ⟨A, c, rfl, hb⟩ := h
 have := Uu (P := P) ⟨hs, he, hi⟩ hd hb
 unfold execOp
 simp only [ho, hF.evs hx, Sem.run_bind, Sem.run_pure, Result.andThen_ok, this]
 rfl
end
theorem QA {w : World} {A : Option Addr} {c : Nat} {l : List UInt8} (h : D6 w (.slice A l.length c) l) (hl : l.length ≤ 140737488355328) (most : Nat) (hm : most < 18446744073709551616) (R : Nat × Nat × Nat) (hv : BC most l 0 0 = R) : Calls Tryz.prog 102 #[.slice A l.length c, .int .u64 (most : Int)] w fun e w' => e = .returned (.tuple #[.int .u64 (R.1 : Int), .int .i64 (R.2.1 : Int), .int .i64 (R.2.2 : Int)]) ∧ Below w.heap.size w w' := by
 subst hv
 obtain ⟨A', c', e, hb⟩ := h
 simp only [Value.slice.injEq] at e
 obtain ⟨rfl, _, rfl⟩ := e
 refine (OV w A c l most hb hl hm).mono ?_
 rintro e w' ⟨he, rfl⟩
 exact ⟨he, Below.refl _ _⟩
section
variable {P : Program} {n : Nat} {w : World} {env : List (Nat × Value)} {o : Oper} {a : Act}
end
theorem QB (w : World) : D6 w (.slice none 0 0) [] := ⟨none, 0, rfl, Bs.nil _ _ _ (by decide)⟩
theorem D6.drop {w : World} {A : Option Addr} {c k : Nat} {l : List UInt8} (h : D6 w (.slice A l.length c) l) (hk : k ≤ l.length) : D6 w (.slice (if c = k then A else A.map (·.add k)) (l.drop k).length (c - k)) (l.drop k) := by
  obtain ⟨A', c', e, hb⟩ := h
  simp only [Value.slice.injEq] at e
  obtain ⟨rfl, _, rfl⟩ := e
  exact ⟨_, _, rfl, hb.drop hk⟩
theorem D6.takes {w : World} {A : Option Addr} {c k : Nat} {l : List UInt8} (h : D6 w (.slice A l.length c) l) (hk : k ≤ l.length) : D6 w (.slice A (l.take k).length c) (l.take k) := by
 obtain ⟨A', c', e, hb⟩ := h
 simp only [Value.slice.injEq] at e
 obtain ⟨rfl, _, rfl⟩ := e
 exact ⟨_, _, rfl, hb.take hk⟩
section
variable {P : Program} {n : Nat} {w : World} {env : List (Nat × Value)} {o : Oper} {a : Act}
theorem DT {T T' : TypeId} {x y : Operand} {k : IntKind} {p q r : Int} (ho : o.op = .binOp .rem T x y T') (hx : evs env x = some (.int k p)) (hy : evs env y = some (.int k q)) (hq : q ≠ 0) (hr : p.tmod q = r) (hF : Fr n a env) : (execOp a.eval o).run P w = .ok (.value (.int k r)) w := by
 unfold execOp
 simp only [ho, hF.evs hx, hF.evs hy]
 simp [eqGuard, binOp, Op.intArith, Op.intDiv, hq, hr]
end
section
variable {P : Program} {t e ty : TypeId} {v u : Value} {l m : List UInt8} {w w' : World} {rs : List RowT}
theorem NI (hT : SliceT P t e 1) (h1 : (P.info? e).map (fun i => i.bytes) = some 1) (h : Ap e 1 encB v l rs) (hr : RowsOf w rs) (hd : AZ rs) (hu : DX w 1 u m.length (flat encB m)) (hlen : l.length + m.length ≤ 140737488355328) :
    ∃ v' w', (Builtin.append_ #[t, t] ty #[v, u]).run P w = .ok v' w' ∧ ∃ rs', Ap e 1 encB v' (l ++ m) rs' ∧ Chg w w' rs rs' := by
  obtain ⟨i, z, hi, hz, hk, hby, hzs, _⟩ := hT.inf
  have hb1 : i.bytes = 1 := by simpa [hi] using h1
  obtain ⟨hul, A, c, rfl, hA⟩ := hu
  have hu1 := Kj EK m
  rcases hA with ⟨rfl, hm⟩ | ⟨a, rfl, hcells⟩
  · have hm' : m = [] := List.length_eq_zero_iff.1 hm
    subst hm'
    refine ⟨v, w, ?_, rs, by simpa using h, ⟨Mod.refl _ _, hr, hd, fun x hx _ => ⟨x, hx, rfl⟩⟩⟩
    rcases h with ⟨h1, h2, h3⟩ | ⟨g, c', cs, h1, h2, h3, h4, h5, h6⟩
    · subst h1
      simp [Builtin.append_, run_underlying hT.ht, sizeOf, typeInfo, hi, Builtin.lenOf, Builtin.firstCells]
    · subst h1
      simp [Builtin.append_, run_underlying hT.ht, sizeOf, typeInfo, hi, Builtin.lenOf, Builtin.firstCells, h2, storeCells]
  · have hown : w.ownsRow 0 e 1 v l.length (flat encB l) := by
      refine ⟨D3 EK l, ?_⟩
      rcases h with ⟨h1, h2, h3⟩ | ⟨g, c', cs, h1, h2, h3, h4, h5, h6⟩
      · exact .inl ⟨h1, by rw [h2]; rfl⟩
      · subst h6
        exact .inr ⟨g, c', cs, h1, Nat.zero_le _, hr.1, h2, h3, h4, h5⟩
    obtain ⟨v', w', hrun, h2, h3, _, h5⟩ := run_append_own_at (P := P) w 0 t ty e i z 1 i.bytes hT.ht hi hz hk rfl hzs hT.pos v l.length (flat encB l) hown a m.length c (flat encB m) hul hcells hu1 (by unfold maxLen; omega)
      (by rw [hb1]; omega) (Nat.zero_le _)
    refine ⟨v', w', hrun, ?_⟩
    have hm : Mod (At v) w w' := Mod.of_grown h3 (fun k hk => hk)
    have hmB : Mod (Ci rs) w w' := hm.weaken fun j _ hj => by
      rcases h with ⟨h1, _, _⟩ | ⟨g, c', cs, h1, _, _, _, _, h6⟩
      · subst h1; unfold At at hj; simp [Value.ownBlock] at hj
      · subst h1; subst h6
        unfold At at hj
        simp [Value.ownBlock] at hj
        exact ⟨(g, Ed e, cs), by simp, hj⟩
    rcases h2.2 with ⟨h1, hn⟩ | ⟨g, c', cs, h1, _, hrow, hle, hmx, hsz, htk⟩
    · have : l ++ m = [] := List.length_eq_zero_iff.1 (by rw [List.length_append]; exact hn)
      exact ⟨[], .inl ⟨h1, this, rfl⟩, ⟨hmB, trivial, trivial, fun x hx => by simp at hx⟩⟩
    · refine ⟨[(g, Ed e, cs)], .inr ⟨g, c', cs, by rw [h1, List.length_append], by rw [List.length_append]; exact hle, hmx, hsz, by rw [List.length_append, Io]; exact htk, rfl⟩, ⟨hmB, ⟨hrow, trivial⟩, ⟨(fun _ h => by cases h), trivial⟩, fun x hx hlt => ?_⟩⟩
      have : x = (g, Ed e, cs) := by simpa using hx
      subst this
      rcases h5 with h5 | h5
      · subst h1
        rcases h with ⟨h1, _, _⟩ | ⟨g', c'', cs', h1, _, _, _, _, h6⟩
        · subst h1; simp [Value.ownBlock] at h5
        · subst h1; subst h6
          simp [Value.ownBlock] at h5
          exact ⟨(g', Ed e, cs'), by simp, h5.symm⟩
      · subst h1
        simp [Value.ownBlock] at h5
        exact absurd hlt (by show ¬ g < w.heap.size; omega)
variable {Q : Exit → Act → World → Prop} {n : Nat} {B : Nat → Prop} {w0 : World} {os : List Ass} {env : List (Nat × Value)} {o : Oper}
theorem Co (i : Nat) (hT : SliceT P t e 1) (h1 : (P.info? e).map (fun i => i.bytes) = some 1) (hi : os[i]? = some (Ap e 1 encB v l)) (m : List UInt8) (hu : ∀ w, Hp B w0 w os → DX w 1 u m.length (flat encB m)) (hlen : l.length + m.length ≤ 140737488355328) {x y : Operand} (ho : o.op = .call { callee := .builtin .append, args := #[x, y], argTypes := #[t, t] }) (hx : evs env x = some v) (hy : evs env y = some u) {r : List UInt8} (hr : l ++ m = r) :
  Bq P Q n env B w0 os o (fun v : Value => v) (fun v' => os.set i (Ap e 1 encB v' r)) := fun act w hH hF K hK => by
 subst hr
 have hH' := hH
 obtain ⟨rs0, hp, hm⟩ := hH
 obtain ⟨a, z, b, e1, hz, hb⟩ := hp.at_ hi
 subst e1
 have p : (a ++ (z ++ b)).Perm (z ++ (a ++ b)) := by rw [← List.append_assoc, ← List.append_assoc]; exact List.perm_append_comm.append_right b
 have h5 := CN hm p
 have hd := Bf.1 h5.apart
 rw [List.map_append] at hd
 obtain ⟨v', w', hr, y', hy', hc⟩ := NI (P := P) (ty := o.type) hT h1 hz (AN.2 fun z hz => h5.rows.mem z (by simp [hz])) (Bf.2 (List.nodup_append.1 hd).1) (hu w hH') hlen
 have p' : (y' ++ (a ++ b)).Perm (a ++ (y' ++ b)) := by rw [← List.append_assoc, ← List.append_assoc]; exact List.perm_append_comm.append_right b
 refine E8 (w0 := w) act (ER ho (vs := [v, u]) (by simp [evl, hx, hy]) (fun cs => ?_) hF) (hK v' w' ⟨_, hb _ y' hy', CN (E6 h5 hc) p'⟩)
 simp only [builtin, Sem.run_bind, Sem.run_pure, Result.andThen_ok, hr]
end
section
variable {P : Program} {Q : Exit → Act → World → Prop} {n : Nat} {B : Nat → Prop} {w0 : World} {os : List Ass} {env : List (Nat × Value)} {o : Oper} {t e : TypeId}
end
end Go.Proofs.YtjcfimmcogkopaaGreat.Sep
