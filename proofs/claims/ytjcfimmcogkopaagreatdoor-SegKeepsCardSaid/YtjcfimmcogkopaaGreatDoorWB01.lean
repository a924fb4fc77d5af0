/-
  MapS · MapT · EntM · Each
-/
import Derived.Test.YtjcfimmcogkopaaGreatDoorWA06
import Derived.Test.YtjcfimmcogkopaaGreatDoorWA07
import Derived.Maps.RangeRun
import Derived.MapKept
set_option linter.unusedSimpArgs false
set_option linter.unusedVariables false
namespace Go.Proofs.YtjcfimmcogkopaaGreatDoor.Sep
open Go.RowKit
open Go.ChangeMaps (setBlock)
open Go.Proofs.YtjcfimmcogkopaaGreatDoor.Mem (Bb Ci Chg Aw)
def AW {κ ν : Type} (l : List (κ × ν)) : List κ := l.map (·.1)
section lists
variable {κ ν : Type} [DecidableEq κ]
def Fj (k : κ) : List (κ × ν) → Nat → Option (Nat × ν)
  | [], _ => none
  | p :: r, i => if p.1 = k then some (i, p.2) else Fj k r (i + 1)
def Bw (l : List (κ × ν)) (k : κ) : Option ν := (Fj k l 0).map (·.2)
def BM (l : List (κ × ν)) (k : κ) (x : ν) : List (κ × ν) := match Fj k l 0 with | some q => l.set q.1 (k, x) | none => l ++ [(k, x)]
def CO (l : List (κ × ν)) (k : κ) : List (κ × ν) := match Fj k l 0 with | some q => l.eraseIdx q.1 | none => l
theorem Eg {k : κ} : ∀ {l : List (κ × ν)} {i : Nat} {q : Nat × ν}, Fj k l i = some q → i ≤ q.1 ∧ l[q.1 - i]? = some (k, q.2)
  | [], _, _, h => by cases h
  | p :: r, i, q, h => by
    unfold Fj at h
    split at h
    · rename_i hk
      cases h
      refine ⟨Nat.le_refl _, ?_⟩
      rw [Nat.sub_self, List.getElem?_cons_zero, ← hk]
    · obtain ⟨h1, h2⟩ := Eg h
      refine ⟨by omega, ?_⟩
      rw [show q.1 - i = (q.1 - (i + 1)) + 1 by omega, List.getElem?_cons_succ]
      exact h2
theorem LB {k : κ} : ∀ {l : List (κ × ν)} {i : Nat}, Fj k l i = none → k ∉ AW l
  | [], _, _, hm => by cases hm
  | p :: r, i, h, hm => by
    unfold Fj at h
    split at h
    · cases h
    · rename_i hk
      rcases List.mem_cons.1 hm with e | hm
      · exact hk e.symm
      · exact LB h hm
theorem LC {k : κ} {x : ν} : ∀ {l : List (κ × ν)} {i j : Nat}, (AW l).Nodup → l[j]? = some (k, x) → Fj k l i = some (i + j, x)
  | [], _, _, _, h => by simp at h
  | p :: r, i, 0, hn, h => by
    simp only [List.getElem?_cons_zero, Option.some.injEq] at h
    subst h
    unfold Fj
    rw [if_pos rfl]; rfl
  | p :: r, i, j + 1, hn, h => by
    simp only [List.getElem?_cons_succ] at h
    have hm := List.mem_of_getElem? h
    obtain ⟨h1, h2⟩ := List.nodup_cons.1 (show (p.1 :: AW r).Nodup from hn)
    unfold Fj
    have hk : p.1 ≠ k := fun e => h1 (by rw [e]; exact List.mem_map_of_mem (f := (·.1)) hm)
    rw [if_neg hk, LC h2 h]
    congr 2; omega
theorem Cc {l : List (κ × ν)} {k : κ} {x : ν} (hn : (AW l).Nodup) : Bw l k = some x ↔ (k, x) ∈ l := by
  constructor
  · intro h
    unfold Bw at h
    obtain ⟨q, hq, rfl⟩ := Option.map_eq_some_iff.1 h
    obtain ⟨_, h2⟩ := Eg hq
    exact List.mem_of_getElem? h2
  · intro h
    obtain ⟨j, hj⟩ := List.getElem?_of_mem h
    unfold Bw
    rw [LC hn hj]; rfl
theorem FD {l : List (κ × ν)} {k : κ} : Bw l k = none ↔ k ∉ AW l := by
  constructor
  · intro h
    unfold Bw at h
    exact LB (Option.map_eq_none_iff.1 h)
  · intro h
    unfold Bw
    cases hq : Fj k l 0 with
    | none => rfl
    | some q =>
      obtain ⟨_, h2⟩ := Eg hq
      exact absurd (List.mem_map_of_mem (f := (·.1)) (List.mem_of_getElem? h2)) h
theorem NB {l : List (κ × ν)} {k : κ} {x y : ν} (h : Bw l k = some y) : AW (BM l k x) = AW l := by
  unfold Bw at h
  obtain ⟨q, hq, _⟩ := Option.map_eq_some_iff.1 h
  obtain ⟨_, h2⟩ := Eg hq
  unfold BM AW
  rw [hq]
  simp only
  rw [List.map_set]
  refine List.ext_getElem? fun i => ?_
  rw [List.getElem?_set]
  rw [Nat.sub_zero] at h2
  by_cases hi : q.1 = i
  · subst hi
    have hlt := (List.getElem?_eq_some_iff.1 h2).1
    rw [if_pos rfl, if_pos (by simpa using hlt), List.getElem?_map, h2]; rfl
  · rw [if_neg hi]
theorem ED {l : List (κ × ν)} {k : κ} {x : ν} (h : Bw l k = none) : BM l k x = l ++ [(k, x)] := by
 unfold Bw at h
 unfold BM
 rw [Option.map_eq_none_iff.1 h]
theorem Dw {l : List (κ × ν)} {k : κ} {x : ν} (hn : (AW l).Nodup) : (AW (BM l k x)).Nodup := by
  cases h : Bw l k with
  | some y => rw [NB h]; exact hn
  | none =>
    rw [ED h]
    unfold AW
    rw [List.map_append]
    exact List.nodup_append.2 ⟨hn, by simp, fun a ha b hb e => FD.1 h (by simp at hb; rw [← hb, ← e]; exact ha)⟩
theorem DH {l : List (κ × ν)} {k : κ} (hn : (AW l).Nodup) : (AW (CO l k)).Nodup := by
  unfold CO
  split
  · unfold AW
    exact List.Nodup.sublist ((List.eraseIdx_sublist ..).map _) hn
  · exact hn
theorem GN {l : List (κ × ν)} {k : κ} {x : ν} (hn : (AW l).Nodup) (p : κ × ν) : p ∈ BM l k x ↔ p = (k, x) ∨ (p ∈ l ∧ p.1 ≠ k) := by
  cases h : Bw l k with
  | none =>
    rw [ED h, List.mem_append, List.mem_singleton]
    constructor
    · rintro (h1 | h1)
      · exact .inr ⟨h1, fun e => FD.1 h (e ▸ List.mem_map_of_mem h1)⟩
      · exact .inl h1
    · rintro (h1 | h1)
      · exact .inr h1
      · exact .inl h1.1
  | some y =>
    have h0 := h
    unfold Bw at h
    obtain ⟨q, hq, _⟩ := Option.map_eq_some_iff.1 h
    obtain ⟨_, h2⟩ := Eg hq
    rw [Nat.sub_zero] at h2
    have hlt := (List.getElem?_eq_some_iff.1 h2).1
    have hn2 : (AW (BM l k x)).Nodup := Dw hn
    have e : BM l k x = l.set q.1 (k, x) := by unfold BM; rw [hq]
    constructor
    · intro hp
      rw [e] at hp
      rcases List.mem_or_eq_of_mem_set hp with hp | hp
      · by_cases hk : p.1 = k
        · left
          have h3 : (k, x) ∈ BM l k x := by rw [e]; exact List.mem_set hlt _
          have h4 : p ∈ BM l k x := by rw [e]; assumption
          have a := (Cc hn2).2 h3
          have h5 : (k, p.2) = p := Prod.ext hk.symm rfl
          have b := (Cc (x := p.2) hn2).2 (show (k, p.2) ∈ BM l k x by rw [h5]; exact h4)
          have := a.symm.trans b
          simp at this
          exact Prod.ext hk this.symm
        · exact .inr ⟨hp, hk⟩
      · exact .inl hp
    · rintro (rfl | ⟨h1, h3⟩)
      · rw [e]; exact List.mem_set hlt _
      · rw [e]
        obtain ⟨j, hj⟩ := List.getElem?_of_mem h1
        have hne : q.1 ≠ j := fun e => by
          subst e
          rw [h2] at hj
          simp at hj
          exact h3 (by rw [← hj])
        refine List.mem_of_getElem? (i := j) ?_
        rw [List.getElem?_set, if_neg hne]; exact hj
theorem GO {l : List (κ × ν)} {k : κ} (hn : (AW l).Nodup) (p : κ × ν) : p ∈ CO l k ↔ p ∈ l ∧ p.1 ≠ k := by
  unfold CO
  cases hq : Fj k l 0 with
  | none =>
    simp only
    exact ⟨fun h => ⟨h, fun e => LB hq (e ▸ List.mem_map_of_mem h)⟩, fun h => h.1⟩
  | some q =>
    obtain ⟨_, h2⟩ := Eg hq
    rw [Nat.sub_zero] at h2
    simp only
    rw [List.mem_eraseIdx_iff_getElem?]
    constructor
    · rintro ⟨j, hj, he⟩
      refine ⟨List.mem_of_getElem? he, fun e => hj ?_⟩
      have h3 := LC (i := 0) hn (show l[j]? = some (k, p.2) by rw [he, ← e])
      have h4 := congrArg Prod.fst (Option.some.inj (hq.symm.trans h3))
      simp only at h4
      omega
    · rintro ⟨h1, h3⟩
      obtain ⟨j, hj⟩ := List.getElem?_of_mem h1
      refine ⟨j, fun e => ?_, hj⟩
      subst e
      rw [h2] at hj
      simp at hj
      exact h3 (by rw [← hj])
theorem TL {l : List (κ × ν)} {k k' : κ} {x : ν} (hn : (AW l).Nodup) : Bw (BM l k x) k' = if k' = k then some x else Bw l k' := by
  split
  · rename_i e
    exact (Cc (Dw hn)).2 ((GN hn _).2 (.inl (by rw [e])))
  · rename_i e
    cases h : Bw l k' with
    | some y => exact (Cc (Dw hn)).2 ((GN hn _).2 (.inr ⟨(Cc hn).1 h, e⟩))
    | none =>
      rw [FD]
      intro hm
      obtain ⟨p, hp, e2⟩ := List.mem_map.1 hm
      rcases (GN hn p).1 hp with h1 | ⟨h1, _⟩
      · exact e (by rw [← e2, h1])
      · exact FD.1 h (e2 ▸ List.mem_map_of_mem h1)
end lists
structure MapTy (P : Program) (mt kt vt : TypeId) (kd : TypeDesc) {κ : Type} [DecidableEq κ] (kk : κ → Value) (z : Value) : Prop where
  ht : P.underlying mt = some (.map kt vt)
  hk : P.underlying kt = some kd
  same : ∀ a b, Instr.sameNow kd (kk a) (kk b) = some (decide (a = b))
  chk : ∀ (w : World) (e : Bool) (a : κ), (Instr.checkKey e 10000 kt (kk a)).run P w = .ok () w
  stays : ∀ a, Instr.sameBits 10000 (kk a) (kk a) = true
  hz : ∀ w : World, (zeroValue vt).run P w = .ok z w
theorem TM (a b : List UInt8) : (bs a == bs b) = decide (a = b) := by
  show ((bs a).data == (bs b).data) = _
  rw [Bool.eq_iff_iff, beq_iff_eq, decide_eq_true_eq]
  constructor
  · intro h
    have : bs a = bs b := by
      have e : ∀ z : ByteArray, z = ⟨z.data⟩ := fun z => rfl
      rw [e (bs a), e (bs b), h]
    exact Tp this
  · intro h; rw [h]
section keys
variable {P : Program} {mt kt vt : TypeId} {z : Value}
theorem Sh (ht : P.underlying mt = some (.map kt vt)) (hk : P.underlying kt = some .string) (hz : ∀ w : World, (zeroValue vt).run P w = .ok z w) : MapTy P mt kt vt .string (fun s : List UInt8 => .string (bs s)) z where
 ht := ht
 hk := hk
 same a b := by
  show some (bs a == bs b) = _
  rw [TM]
 chk w e a := by
  have h : ∀ n, (Instr.checkKey e (n + 1) kt (.string (bs a))).run P w = .ok () w := fun n => by simp [Instr.checkKey, run_underlying hk]
  exact h 9999
 stays a := by
  show (bs a == bs a) = true
  rw [TM]; simp
 hz := hz
end keys
section mapl0
variable {κ ν : Type} {kk : κ → Value} {vv : ν → Value} {es : Array MapEntry} {c : Nat} {l : List (κ × ν)}
structure MapL (kk : κ → Value) (vv : ν → Value) (es : Array MapEntry) (c : Nat) (l : List (κ × ν)) : Prop where
  at_ : es.toList.map (fun x => (x.key, x.val)) = l.map fun p => (kk p.1, vv p.2)
  keys : (AW l).Nodup
  born : (es.toList.map (·.born)).Nodup
  old : ∀ x ∈ es.toList, x.born < c
theorem LD : MapL kk vv #[] c [] := ⟨rfl, List.nodup_nil, by simp, by simp⟩
theorem MapL.len (h : MapL kk vv es c l) : es.size = l.length := by
 have := congrArg List.length h.at_
 simpa using this
theorem MapL.erase (h : MapL kk vv es c l) {j : Nat} : MapL kk vv (es.eraseIdxIfInBounds j) c (l.eraseIdx j) := by
  have e : (es.eraseIdxIfInBounds j).toList = es.toList.eraseIdx j := by
    unfold Array.eraseIdxIfInBounds
    split
    · simp
    · rename_i hj
      rw [List.eraseIdx_of_length_le (by simpa using Nat.le_of_not_lt hj)]
  refine ⟨?_, ?_, ?_, ?_⟩
  · rw [e, Go.ChangeMaps.map_eraseIdx, h.at_, Go.ChangeMaps.map_eraseIdx]
  · exact List.Nodup.sublist ((List.eraseIdx_sublist ..).map _) h.keys
  · rw [e]; exact List.Nodup.sublist ((List.eraseIdx_sublist ..).map _) h.born
  · intro y hy
    rw [e] at hy
    exact h.old y (List.mem_of_mem_eraseIdx hy)
end mapl0
section mapl
variable {κ ν : Type} [DecidableEq κ] {kk : κ → Value} {vv : ν → Value} {es : Array MapEntry} {c : Nat} {l : List (κ × ν)}
theorem OC {kd : TypeDesc} (hs : ∀ a b, Instr.sameNow kd (kk a) (kk b) = some (decide (a = b))) (k : κ) : ∀ (E : List MapEntry) (l : List (κ × ν)) (i : Nat), E.map (fun x => (x.key, x.val)) = l.map (fun p => (kk p.1, vv p.2)) → Instr.findNow kd (kk k) E i = some ((Fj k l i).map fun q => (q.1, vv q.2))
  | [], [], i, _ => rfl
  | [], p :: r, i, h => by simp at h
  | x :: E, [], i, h => by simp at h
  | x :: E, p :: r, i, h => by
    simp only [List.map_cons, List.cons.injEq, Prod.mk.injEq] at h
    obtain ⟨⟨h1, h2⟩, h3⟩ := h
    unfold Instr.findNow Fj
    rw [h1, hs]
    by_cases e : p.1 = k
    · rw [decide_eq_true (Eq.symm e), if_pos e]
      simp [h2]
    · rw [decide_eq_false (fun e' => e e'.symm), if_neg e]
      exact OC hs k E r (i + 1) h3
theorem MapL.put (h : MapL kk vv es c l) {k : κ} {x : ν} {q : Nat × ν} (hq : Fj k l 0 = some q) : MapL kk vv (es.modify q.1 fun e => { e with key := kk k, val := vv x }) c (BM l k x) := by
  obtain ⟨_, h2⟩ := Eg hq
  rw [Nat.sub_zero] at h2
  have hlt := (List.getElem?_eq_some_iff.1 h2).1
  have e : BM l k x = l.set q.1 (k, x) := by unfold BM; rw [hq]
  refine ⟨?_, Dw h.keys, ?_, ?_⟩
  · rw [e, Array.toList_modify, List.map_set]
    refine List.ext_getElem? fun i => ?_
    rw [List.getElem?_map, List.getElem?_modify, List.getElem?_set]
    have hi := congrArg (fun z => z[i]?) h.at_
    simp only [List.getElem?_map] at hi
    by_cases hqi : q.1 = i
    · subst hqi
      rw [if_pos rfl, if_pos (by simpa using hlt)]
      rw [h2] at hi
      cases hE : es.toList[q.1]? with
      | none => rw [hE] at hi; simp at hi
      | some y => simp
    · rw [if_neg hqi]
      cases hE : es.toList[i]? with
      | none => rw [hE] at hi; simp [hqi] at hi ⊢; exact hi
      | some y => rw [hE] at hi; simp [hqi] at hi ⊢; exact hi
  · rw [Array.toList_modify]
    have e2 : (es.toList.modify q.1 fun e => { e with key := kk k, val := vv x }).map (·.born) = es.toList.map (·.born) := by
      refine List.ext_getElem? fun i => ?_
      rw [List.getElem?_map, List.getElem?_modify, List.getElem?_map]
      cases es.toList[i]? with
      | none => rfl
      | some y => simp; split <;> rfl
    rw [e2]; exact h.born
  · intro y hy
    rw [Array.toList_modify] at hy
    obtain ⟨i, hi⟩ := List.getElem?_of_mem hy
    rw [List.getElem?_modify] at hi
    cases hE : es.toList[i]? with
    | none => rw [hE] at hi; simp at hi
    | some u =>
      rw [hE] at hi
      have := h.old u (List.mem_of_getElem? hE)
      simp at hi
      rw [← hi]
      split <;> exact this
theorem MapL.push (h : MapL kk vv es c l) {k : κ} {x : ν} (hq : Fj k l 0 = none) : MapL kk vv (es.push { key := kk k, val := vv x, born := c }) (c + 1) (BM l k x) := by
  have e : BM l k x = l ++ [(k, x)] := by unfold BM; rw [hq]
  refine ⟨?_, Dw h.keys, ?_, ?_⟩
  · rw [e, Array.toList_push, List.map_append, List.map_append, h.at_]; rfl
  · rw [Array.toList_push, List.map_append]
    refine List.nodup_append.2 ⟨h.born, by simp, fun a ha b hb e => ?_⟩
    obtain ⟨y, hy, rfl⟩ := List.mem_map.1 ha
    have := h.old y hy
    simp at hb
    omega
  · intro y hy
    rw [Array.toList_push] at hy
    rcases List.mem_append.1 hy with hy | hy
    · have := h.old y hy; omega
    · rw [List.mem_singleton.1 hy]; show c < c + 1; omega
end mapl
section runs
variable {P : Program} {κ ν : Type} [DecidableEq κ] {kk : κ → Value} {vv : ν → Value} {es : Array MapEntry} {c g : Nat} {l : List (κ × ν)} {w : World} {mt kt vt : TypeId} {kd : TypeDesc} {z : Value}
theorem Gs (hT : MapTy P mt kt vt kd kk z) (h : MapL kk vv es c l) (k : κ) : (Instr.findKey kt (kk k) es.toList).run P w = .ok ((Fj k l 0).map fun q => (q.1, vv q.2)) w := by
 unfold Instr.findKey
 simp only [Sem.run_bind, run_underlying hT.hk, Result.andThen_ok, OC hT.same k es.toList l 0 h.at_]
 rfl
theorem LE (hT : MapTy P mt kt vt kd kk z) (h : MapL kk vv es c l) (hb : w.heap[g]? = some (.map es c)) (k : κ) (ok : Bool) : (Instr.lookup mt (.map (some g)) (kk k) ok).run P w = .ok (if ok then .tuple #[((Bw l k).map vv).getD z, .bool (Bw l k).isSome] else ((Bw l k).map vv).getD z) w := by
  unfold Instr.lookup
  simp only [Sem.run_bind, run_underlying hT.ht, Result.andThen_ok, Go.MapKept.run_getObj_map hb, Sem.run_pure, hT.chk, Gs hT h]
  unfold Bw
  cases Fj k l 0 with
  | none => simp [hT.hz]
  | some q => simp
theorem Hq (hT : MapTy P mt kt vt kd kk z) (k : κ) (ok : Bool) : (Instr.lookup mt (.map none) (kk k) ok).run P w = .ok (if ok then .tuple #[z, .bool false] else z) w := by
 unfold Instr.lookup
 have hf : (Instr.findKey kt (kk k) ([] : List MapEntry)).run P w = .ok none w := by
  have := Gs (w := w) hT (LD (kk := kk) (vv := fun _ : Unit => z) (c := 0)) k
  simpa [Fj] using this
 simp only [Sem.run_bind, run_underlying hT.ht, Result.andThen_ok, Sem.run_pure, hT.chk]
 simp [hf, hT.hz]
theorem Vv (hT : MapTy P mt kt vt kd kk z) (h : MapL kk vv es c l) (hb : w.heap[g]? = some (.map es c)) (k : κ) (x : ν) : ∃ es' c', (Instr.mapUpdate mt (.map (some g)) (kk k) (vv x)).run P w = .ok () (setBlock w g (.map es' c')) ∧ MapL kk vv es' c' (BM l k x) := by
  have hs : ∀ o, (setObj g o).run P w = .ok () (setBlock w g o) := fun o => by simp [setObj, Sem.run, hb, setBlock]
  cases hq : Fj k l 0 with
  | none =>
    refine ⟨_, _, ?_, h.push hq⟩
    unfold Instr.mapUpdate
    simp only [Sem.run_bind, run_underlying hT.ht, Result.andThen_ok, Go.MapKept.run_getObj_map hb, hT.chk, Gs hT h, hq, Option.map_none, hs]
  | some q =>
    obtain ⟨_, h2⟩ := Eg hq
    rw [Nat.sub_zero] at h2
    have hi := congrArg (fun z => z[q.1]?) h.at_
    simp only [List.getElem?_map, h2, Option.map_some] at hi
    obtain ⟨y, hy, he⟩ := Option.map_eq_some_iff.1 hi
    have hyk : y.key = kk k := by have := congrArg Prod.fst he; simpa using this
    have hy2 : es[q.1]? = some y := by rw [← hy, Array.getElem?_toList]
    refine ⟨_, _, ?_, h.put (x := x) hq⟩
    unfold Instr.mapUpdate
    simp only [Sem.run_bind, run_underlying hT.ht, Result.andThen_ok, Go.MapKept.run_getObj_map hb, hT.chk, Gs hT h, hq, Option.map_some, hy2, Option.getD_some, hyk, Instr.keyThatStays, hT.stays, if_true, Sem.run_pure, hs]
theorem Vw (hT : MapTy P mt kt vt kd kk z) (h : MapL kk vv es c l) (hb : w.heap[g]? = some (.map es c)) (k : κ) (ty : TypeId) : ∃ es', (Builtin.delete_ #[mt, kt] ty #[.map (some g), kk k]).run P w = .ok (.tuple #[]) (setBlock w g (.map es' c)) ∧ MapL kk vv es' c (CO l k) := by
  have hs : ∀ o, (setObj g o).run P w = .ok () (setBlock w g o) := fun o => by simp [setObj, Sem.run, hb, setBlock]
  have hv : (#[Value.map (some g), kk k] : Array Value)[1]? = some (kk k) := rfl
  cases hq : Fj k l 0 with
  | none =>
    refine ⟨es, ?_, by unfold CO; rw [hq]; exact h⟩
    unfold Builtin.delete_
    simp [Sem.run_bind, run_underlying hT.ht, Go.MapKept.run_getObj_map hb, hT.chk, Gs hT h, hq, hs]
  | some q =>
    refine ⟨es.eraseIdxIfInBounds q.1, ?_, by unfold CO; rw [hq]; exact h.erase⟩
    unfold Builtin.delete_
    simp [Sem.run_bind, run_underlying hT.ht, Go.MapKept.run_getObj_map hb, hT.chk, Gs hT h, hq, hs]
end runs
end Go.Proofs.YtjcfimmcogkopaaGreatDoor.Sep
namespace Go.Proofs.YtjcfimmcogkopaaGreatDoor.Sep
open Go.RowKit
open Go.ChangeMaps (setBlock)
open Go.Proofs.YtjcfimmcogkopaaGreatDoor.Mem (Bb Ci Chg Aw)
def BF {κ ν : Type} (kk : κ → Value) (vv : ν → Value) (v : Value) (l : List (κ × ν)) : Ass := fun rs => ∃ g es c, v = .map (some g) ∧ rs = [(g, none, Fu es c)] ∧ MapL kk vv es c l
section mapt
variable {P : Program} {κ ν : Type} {kk : κ → Value} {vv : ν → Value} {l : List (κ × ν)} {v : Value} {B : Nat → Prop} {w0 w w' : World} {os : List Ass} {mt kt vt : TypeId} {kd : TypeDesc} {z : Value} {n : Nat} {env : List (Nat × Value)} {Q : Exit → Act → World → Prop} {o : Oper} {act : Act}
theorem BF.is : ∀ rs, BF kk vv v l rs → ∃ g, v = .map (some g) := fun _ ⟨g, _, _, h, _⟩ => ⟨g, h⟩
theorem BF.nodup : ∀ rs, BF kk vv v l rs → (AW l).Nodup := fun _ ⟨_, _, _, _, _, h⟩ => h.keys
theorem Hp.mapt (h : Hp B w0 w os) (i : Nat) (hi : os[i]? = some (BF kk vv v l)) : ∃ g es c, v = .map (some g) ∧ w.heap[g]? = some (.map es c) ∧ MapL kk vv es c l := by
 obtain ⟨rs, ⟨g, es, c, h1, h2, h3⟩, hr⟩ := h.thing i hi
 subst h2
 exact ⟨g, es, c, h1, DS.1 hr.1, h3⟩
theorem Jx {g : Nat} {o : Obj} : Mod (N5 g) w (setBlock w g o) := ⟨rfl, rfl, rfl, by simp [setBlock], fun k _ hk => by
 have hk : k ≠ g := hk
 simp [setBlock, Array.getElem?_setIfInBounds_ne (Ne.symm hk)]⟩
theorem KE {g : Nat} {o : Obj} (h : g < w.heap.size) : (setBlock w g o).heap[g]? = some o := by simp [setBlock, h]
theorem Hp.mapSet (h : Hp B w0 w os) (i : Nat) {X : Ass} (hi : os[i]? = some X) {g : Nat} {es es' : Array MapEntry} {c c' : Nat} {Y : Ass} (hX : ∀ rs, X rs → RowsOf w rs → rs = [(g, none, Fu es c)] ∧ Y [(g, none, Fu es' c')]) (hg : g < w.heap.size) : Hp B w0 (setBlock w g (.map es' c')) (os.set i Y) :=
 h.turn i hi fun rs hx hr hd => by
  obtain ⟨e, hy⟩ := hX rs hx hr
  subst e
  exact ⟨_, hy, ⟨Jx.weaken fun k _ e => ⟨_, List.mem_singleton.2 rfl, (show k = g from e).symm⟩, ⟨DS.2 (KE hg), trivial⟩, ⟨(fun _ h => by cases h), trivial⟩, fun x hx _ => by
   rw [List.mem_singleton.1 hx]
   exact ⟨_, List.mem_singleton.2 rfl, rfl⟩⟩⟩
end mapt
section ops
variable {P : Program} {κ ν : Type} [DecidableEq κ] {kk : κ → Value} {vv : ν → Value} {l : List (κ × ν)} {v : Value} {B : Nat → Prop} {w0 w w' : World} {os : List Ass} {mt kt vt : TypeId} {kd : TypeDesc} {z : Value} {n : Nat} {env : List (Nat × Value)} {Q : Exit → Act → World → Prop} {o : Oper} {act : Act}
theorem Hr (i : Nat) (hT : MapTy P mt kt vt kd kk z) (hi : os[i]? = some (BF kk vv v l)) {k : κ} {r : Option ν} (hr : Bw l k = r) {x y : Operand} (ho : o.op = .lookup mt x y false) (hx : evs env x = some v) (hy : evs env y = some (kk k)) (hH : Hp B w0 w os) (hF : Fr n act env) : (execOp act.eval o).run P w = .ok (.value ((r.map vv).getD z)) w := by
 obtain ⟨g, es, c, rfl, hb, hL⟩ := hH.mapt i hi
 subst hr
 unfold execOp
 simp only [ho, hF.evs hx, hF.evs hy, Sem.run_bind, LE hT hL hb, Result.andThen_ok, Sem.run_pure, Bool.false_eq_true, if_false]
theorem W5 (i : Nat) (hT : MapTy P mt kt vt kd kk z) (hi : os[i]? = some (BF kk vv v l)) {k : κ} {r : Option ν} (hr : Bw l k = r) {x y : Operand} (ho : o.op = .lookup mt x y true) (hx : evs env x = some v) (hy : evs env y = some (kk k)) (hH : Hp B w0 w os) (hF : Fr n act env) : (execOp act.eval o).run P w = .ok (.value (.tuple #[(r.map vv).getD z, .bool r.isSome])) w := by
 obtain ⟨g, es, c, rfl, hb, hL⟩ := hH.mapt i hi
 subst hr
 unfold execOp
 simp only [ho, hF.evs hx, hF.evs hy, Sem.run_bind, LE hT hL hb, Result.andThen_ok, Sem.run_pure, if_true]
theorem J8 (i : Nat) (hT : MapTy P mt kt vt kd kk z) (hi : os[i]? = some (BF kk vv v l)) (k : κ) (a : ν) {x y u : Operand} (hd : o.dst = none) (ho : o.op = .mapUpdate mt x y u) (hx : evs env x = some v) (hy : evs env y = some (kk k)) (hu : evs env u = some (vv a)) {r : List (κ × ν)} (hr : BM l k a = r) :
  Bt P Q n env B w0 os o (fun _ : Unit => undef) (fun _ => os.set i (BF kk vv v r)) := fun act w hH hF K hK => by
 obtain ⟨g, es, c, rfl, hb, hL⟩ := hH.mapt i hi
 subst hr
 obtain ⟨es', c', hrun, hL'⟩ := Vv (P := P) hT hL hb k a
 have hrun2 : (execOp act.eval o).run P w = .ok .skip (setBlock w g (.map es' c')) := by
  unfold execOp
  simp only [ho, hF.evs hx, hF.evs hy, hF.evs hu, Sem.run_bind, hrun, Result.andThen_ok, Sem.run_pure]
 unfold Oper.wp
 rw [hrun2, Oper.upon_skip]
 have := hK () _ (hH.mapSet i hi (es := es) (c := c) (fun rs h1 h2 => by
  obtain ⟨g2, es2, c2, e1, e2, h3⟩ := h1
  cases e1
  subst e2
  have h4 := (DS.1 h2.1 : w.heap[g]? = some (.map es2 c2))
  rw [hb] at h4
  cases h4
  exact ⟨rfl, ⟨g, es', c', rfl, rfl, hL'⟩⟩) (Array.getElem?_eq_some_iff.1 hb).1)
 rw [hd] at this ⊢
 exact this
theorem PY (i : Nat) (hT : MapTy P mt kt vt kd kk z) (hi : os[i]? = some (BF kk vv v l)) (k : κ) {x y : Operand} (ho : o.op = .call { callee := .builtin .delete, args := #[x, y], argTypes := #[mt, kt] }) (hx : evs env x = some v) (hy : evs env y = some (kk k)) {r : List (κ × ν)} (hr : CO l k = r) :
  Bt P Q n env B w0 os o (fun _ : Unit => .tuple #[]) (fun _ => os.set i (BF kk vv v r)) := fun act w hH hF K hK => by
 obtain ⟨g, es, c, rfl, hb, hL⟩ := hH.mapt i hi
 subst hr
 obtain ⟨es', hrun, hL'⟩ := Vw (P := P) hT hL hb k o.type
 have hrun2 : (execOp act.eval o).run P w = .ok (.value (.tuple #[])) (setBlock w g (.map es' c)) := Gd ho (vs := [.map (some g), kk k]) (by simp [evl, hx, hy]) (fun cs => by simp [builtin, hrun]) hF
 exact FN (w0 := w) act hrun2 (hK () _ (hH.mapSet i hi (es := es) (c := c) (fun rs h1 h2 => by
  obtain ⟨g2, es2, c2, e1, e2, h3⟩ := h1
  cases e1
  subst e2
  have h4 := (DS.1 h2.1 : w.heap[g]? = some (.map es2 c2))
  rw [hb] at h4
  cases h4
  exact ⟨rfl, ⟨g, es', c, rfl, rfl, hL'⟩⟩) (Array.getElem?_eq_some_iff.1 hb).1))
end ops
theorem Jy : ∀ {l : List MapEntry} {j : Nat} {e : MapEntry}, (l.map (·.born)).Nodup → l[j]? = some e → l.filter (fun x => !(x.born == e.born)) = l.eraseIdx j
  | [], _, _, _, h => by simp at h
  | x :: r, 0, e, hn, h => by
    simp only [List.getElem?_cons_zero, Option.some.injEq] at h
    subst h
    obtain ⟨h1, _⟩ := List.nodup_cons.1 (show (x.born :: r.map (·.born)).Nodup from hn)
    rw [List.eraseIdx_cons_zero, List.filter_cons, if_neg (by simp)]
    refine List.filter_eq_self.2 fun y hy => ?_
    have : y.born ≠ x.born := fun e => h1 (e ▸ List.mem_map_of_mem (f := (·.born)) hy)
    simpa using this
  | x :: r, j + 1, e, hn, h => by
    simp only [List.getElem?_cons_succ] at h
    obtain ⟨h1, h2⟩ := List.nodup_cons.1 (show (x.born :: r.map (·.born)).Nodup from hn)
    have hx : x.born ≠ e.born := fun e2 => h1 (by rw [e2]; exact List.mem_map_of_mem (f := (·.born)) (List.mem_of_getElem? h))
    rw [List.eraseIdx_cons_succ, List.filter_cons, if_pos (by simpa using hx), Jy h2 h]
section more
variable {P : Program} {κ ν : Type} {kk : κ → Value} {vv : ν → Value} {l left : List (κ × ν)} {v it : Value} {B : Nat → Prop} {w0 w w' : World} {os : List Ass} {mt kt vt : TypeId} {n : Nat} {env : List (Nat × Value)} {Q : Exit → Act → World → Prop} {o : Oper} {act : Act}
theorem PZ (i : Nat) (ht : P.underlying mt = some (.map kt vt)) (hi : os[i]? = some (BF kk vv v l)) {x : Operand} (ho : o.op = .call { callee := .builtin .len, args := #[x], argTypes := #[mt] }) (hx : evs env x = some v) (hH : Hp B w0 w os) (hF : Fr n act env) : (execOp act.eval o).run P w = .ok (.value (.int .i64 (l.length : Int))) w := by
 obtain ⟨g, es, c, rfl, hb, hL⟩ := hH.mapt i hi
 exact Gd ho (vs := [.map (some g)]) (by simp [evl, hx]) (fun cs => by
  have := hL.len
  simp [builtin, Builtin.len_, run_underlying ht, Builtin.lenOf, Go.MapKept.run_getObj_map hb, goInt, this]) hF
theorem LF {rs : List RowT} (h : Mem.Hp B w0 w rs) (o : Obj) {cs : Array Value} (hx : Do (w.alloc o) (w.heap.size, none, cs)) : Mem.Hp B w0 (w.alloc o) ((w.heap.size, none, cs) :: rs) :=
  ⟨h.up.alloc _, ⟨hx, h.rows.map_ fun _ _ r => r.alloc _⟩, ⟨fun y hy => by have := (h.rows.mem y hy).lt; show y.1 ≠ w.heap.size; omega, h.apart⟩, fun x hx hlt => by
    rcases List.mem_cons.1 hx with rfl | hx
    · have := h.up.size; exact absurd hlt (by show ¬ w.heap.size < w0.heap.size; omega)
    · exact h.own x hx hlt⟩
theorem Rg {r : Option Operand} (hr : r = none) (ho : o.op = .makeMap mt r) : Bt P Q n env B w0 os o (fun g : Nat => .map (some g)) (fun g => BF kk vv (.map (some g)) [] :: os) := fun act w hH hF K hK => by
 subst hr
 have hrun : (execOp act.eval o).run P w = .ok (.value (.map (some w.heap.size))) (w.alloc (.map #[] 0)) := by
  unfold execOp
  simp [ho, Instr.makeMap, newObj, Sem.run]
 obtain ⟨rs, h1, h2⟩ := hH
 exact FN (w0 := w) act hrun (hK w.heap.size _ ⟨_, ⟨[(w.heap.size, none, Fu #[] 0)], rs, rfl, ⟨w.heap.size, #[], 0, rfl, rfl, LD⟩, h1⟩, LF h2 _ (DS.2 (heap_alloc_new w _))⟩)
def Hs (kk : κ → Value) (vv : ν → Value) (mv it : Value) (l left : List (κ × ν)) (cur : Option (κ × ν)) : Ass := fun rs => ∃ g r es c since seen, mv = .map (some g) ∧ it = .pointer (some ⟨r, 0, none⟩) ∧ rs = [(g, none, Fu es c), (r, none, Et g since seen c)] ∧ MapL kk vv es c l ∧ (Go.leftOf es seen).toList.map (fun x => (x.key, x.val)) = left.map (fun p => (kk p.1, vv p.2)) ∧ (∀ x ∈ es.toList, x.born < since) ∧ since ≤ c ∧ g ≠ r ∧ (∀ p, cur = some p → ∃ (seen' : Array Nat) (e : MapEntry), seen = seen'.push e.born ∧ e ∈ es.toList ∧ e.key = kk p.1 ∧ e.val = vv p.2)
def W6 : Ass := fun rs => ∃ x, rs = [x]
theorem MR {mv : Value} {cur : Option (κ × ν)} : ∀ rs, Hs kk vv mv it l left cur rs → ∃ _ : Unit, Am [BF kk vv mv l, W6] rs := fun rs ⟨g, r, es, c, since, seen, h1, _, h3, h4, _⟩ => ⟨(), [(g, none, Fu es c)], [(r, none, Et g since seen c)], h3, ⟨g, es, c, h1, rfl, h4⟩, [(r, none, Et g since seen c)], [], rfl, ⟨_, rfl⟩, rfl⟩
theorem Hp.rngt {mv : Value} {cur : Option (κ × ν)} (h : Hp B w0 w os) (i : Nat) (hi : os[i]? = some (Hs kk vv mv it l left cur)) : ∃ g r es c since seen, mv = .map (some g) ∧ it = .pointer (some ⟨r, 0, none⟩) ∧ w.heap[g]? = some (.map es c) ∧ w.heap[r]? = some (.mapIter (some g) since seen c) ∧ MapL kk vv es c l ∧ (Go.leftOf es seen).toList.map (fun x => (x.key, x.val)) = left.map (fun p => (kk p.1, vv p.2)) ∧ (∀ x ∈ es.toList, x.born < since) ∧ since ≤ c ∧ g ≠ r ∧ (∀ p, cur = some p → ∃ (seen' : Array Nat) (e : MapEntry), seen = seen'.push e.born ∧ e ∈ es.toList ∧ e.key = kk p.1 ∧ e.val = vv p.2) := by
 obtain ⟨rs, ⟨g, r, es, c, since, seen, h1, h2, h3, h4, h5⟩, hr⟩ := h.thing i hi
 subst h3
 exact ⟨g, r, es, c, since, seen, h1, h2, DS.1 hr.1, Ic.1 hr.2.1, h4, h5⟩
theorem Rh (i : Nat) (ht : P.underlying mt = some (.map kt vt)) (hi : os[i]? = some (BF kk vv v l)) {x : Operand} (ho : o.op = .range mt x) (hx : evs env x = some v) : Bt P Q n env B w0 os o (fun r : Nat => .pointer (some ⟨r, 0, none⟩)) (fun r => os.set i (Hs kk vv v (.pointer (some ⟨r, 0, none⟩)) l l none)) := fun act w hH hF K hK => by
  obtain ⟨g, es, c, rfl, hb, hL⟩ := hH.mapt i hi
  have hg := (Array.getElem?_eq_some_iff.1 hb).1
  have hrun : (execOp act.eval o).run P w = .ok (.value (.pointer (some ⟨w.heap.size, 0, none⟩))) (w.alloc (.mapIter (some g) c #[] c)) := by
    unfold execOp
    simp [ho, hF.evs hx, Instr.range, run_underlying ht, Go.MapKept.run_getObj_map hb, newObj, Sem.run]
  refine FN (w0 := w) act hrun (hK w.heap.size _ (hH.turn i hi fun rs h1 h2 h3 => ?_))
  obtain ⟨g2, es2, c2, e1, e2, h4⟩ := h1
  cases e1
  subst e2
  have h5 : w.heap[g]? = some (.map es2 c2) := DS.1 h2.1
  rw [hb] at h5
  cases h5
  refine ⟨[(g, none, Fu es c), (w.heap.size, none, Et g c #[] c)], ⟨g, w.heap.size, es, c, c, #[], rfl, rfl, rfl, hL, ?_, hL.old, Nat.le_refl _, by omega, fun p h => by cases h⟩, ?_⟩
  · have : Go.leftOf es #[] = es := by unfold Go.leftOf; simp
    rw [this]; exact hL.at_
  · refine ⟨Mod.of_below ((Below.refl _ w).alloc (Nat.le_refl _) _) _, ⟨(h2.1).alloc _, Ic.2 (heap_alloc_new w _), trivial⟩, ⟨fun y hy => by
      rw [List.mem_singleton.1 hy]; show w.heap.size ≠ g; omega, (fun _ h => by cases h), trivial⟩, fun x hx hlt => ?_⟩
    rcases List.mem_cons.1 hx with rfl | hx
    · exact ⟨_, List.mem_singleton.2 rfl, rfl⟩
    · rw [List.mem_singleton.1 hx] at hlt
      exact absurd hlt (Nat.lt_irrefl _)
theorem Ri (i : Nat) {mv : Value} {cur : Option (κ × ν)} (hi : os[i]? = some (Hs kk vv mv it l left cur)) (hl : left = []) {x : Operand} (ho : o.op = .next x false) (hx : evs env x = some it) (hH : Hp B w0 w os) (hF : Fr n act env) : (execOp act.eval o).run P w = .ok (.value (.tuple #[.bool false])) w := by
  obtain ⟨g, r, es, c, since, seen, rfl, rfl, hb, hr, hL, hle, hold, hsc, hne, _⟩ := hH.rngt i hi
  subst hl
  have hs : (Go.leftOf es seen).toList = [] := by simpa using hle
  unfold execOp
  rcases Go.run_next_at (P := P) w o.type r g since c seen es c hr hb hold hsc with ⟨_, h2⟩ | ⟨e, he, _⟩
  · simp only [ho, hF.evs hx, Sem.run_bind, h2, Result.andThen_ok, Sem.run_pure]
  · rw [hs] at he; cases he
theorem Rj (i : Nat) {mv : Value} {cur : Option (κ × ν)} (hi : os[i]? = some (Hs kk vv mv it l left cur)) (hl : left ≠ []) {x : Operand} (ho : o.op = .next x false) (hx : evs env x = some it) :
    Bt P Q n env B w0 os o (fun q : { q : Nat × κ × ν // left[q.1]? = some q.2 } => .tuple #[.bool true, kk q.1.2.1, vv q.1.2.2]) (fun q => os.set i (Hs kk vv mv it l (left.eraseIdx q.1.1) (some q.1.2))) := fun act w hH hF K hK => by
  obtain ⟨g, r, es, c, since, seen, rfl, rfl, hb, hr, hL, hle, hold, hsc, hne, _⟩ := hH.rngt i hi
  rcases Go.run_next_at (P := P) w o.type r g since c seen es c hr hb hold hsc with ⟨h1, _⟩ | ⟨e, he, w1, hw1, hrun⟩
  · exfalso
    have := congrArg List.length hle
    simp only [List.length_map] at this
    have h2 : (Go.leftOf es seen).toList.length = 0 := by simpa using h1
    exact hl (List.eq_nil_of_length_eq_zero (by omega))
  · obtain ⟨j, hj⟩ := List.getElem?_of_mem he
    have hj2 := congrArg (fun z => z[j]?) hle
    simp only [List.getElem?_map, hj, Option.map_some] at hj2
    obtain ⟨p, hp, hpe⟩ := Option.map_eq_some_iff.1 hj2.symm
    have hk : e.key = kk p.1 := (congrArg Prod.fst hpe).symm
    have hv : e.val = vv p.2 := (congrArg Prod.snd hpe).symm
    have hee : e ∈ es.toList := by
      have : e ∈ (Go.leftOf es seen).toList := he
      unfold Go.leftOf at this
      simp at this ⊢
      exact this.1
    have hrun2 : (execOp act.eval o).run P w = .ok (.value (.tuple #[.bool true, kk p.1, vv p.2])) (setBlock w1 r (.mapIter (some g) since (seen.push e.born) c)) := by
      unfold execOp
      simp only [ho, hF.evs hx, Sem.run_bind, hrun, Result.andThen_ok, Sem.run_pure, hk, hv]
    have hH1 : Hp B w0 w1 os := by
      rcases hw1 with rfl | rfl
      · exact hH
      · exact hH.drew
    have hr1 : w1.heap[r]? = some (.mapIter (some g) since seen c) := by rcases hw1 with rfl | rfl <;> exact hr
    have hb1 : w1.heap[g]? = some (.map es c) := by rcases hw1 with rfl | rfl <;> exact hb
    have hrl := (Array.getElem?_eq_some_iff.1 hr1).1
    refine FN (w0 := w) act hrun2 (hK ⟨(j, p), hp⟩ _ (hH1.turn i hi fun rs h1 h2 h3 => ?_))
    obtain ⟨g2, r2, es2, c2, since2, seen2, e1, e2, e3, _⟩ := h1
    cases e1
    cases e2
    subst e3
    have h5 : w1.heap[g]? = some (.map es2 c2) := DS.1 h2.1
    have h6 : w1.heap[r]? = some (.mapIter (some g) since2 seen2 c2) := Ic.1 h2.2.1
    rw [hb1] at h5
    cases h5
    rw [hr1] at h6
    cases h6
    refine ⟨[(g, none, Fu es c), (r, none, Et g since (seen.push e.born) c)], ⟨g, r, es, c, since, seen.push e.born, rfl, rfl, rfl, hL, ?_, hold, hsc, hne, fun q hq => by cases hq; exact ⟨seen, e, rfl, hee, hk, hv⟩⟩, ?_⟩
    · have h7 : (Go.leftOf es (seen.push e.born)).toList = (Go.leftOf es seen).toList.eraseIdx j := by
        have hnd : ((Go.leftOf es seen).toList.map (·.born)).Nodup := by
          unfold Go.leftOf
          rw [Array.toList_filter]
          exact List.Nodup.sublist (List.Sublist.map _ List.filter_sublist) hL.born
        have h8 : (Go.leftOf es (seen.push e.born)).toList = (Go.leftOf es seen).toList.filter (fun x => !(x.born == e.born)) := by
          unfold Go.leftOf
          rw [Array.toList_filter, Array.toList_filter, List.filter_filter]
          refine List.filter_congr fun x _ => ?_
          rw [Bool.eq_iff_iff]
          simp [not_or, and_comm]
        rw [h8]
        exact Jy hnd hj
      rw [h7, Go.ChangeMaps.map_eraseIdx, hle, Go.ChangeMaps.map_eraseIdx]
    · refine ⟨Jx.weaken fun k _ e => ⟨(r, none, Et g since seen c), by simp, (show k = r from e).symm⟩, ⟨DS.2 ?_, Ic.2 (KE hrl), trivial⟩, Bu.2 (by have := Bu.1 h3; simpa using this), fun x hx _ => ?_⟩
      · have : (setBlock w1 r (.mapIter (some g) since (seen.push e.born) c)).heap[g]? = w1.heap[g]? := by simp [setBlock, Array.getElem?_setIfInBounds_ne (Ne.symm hne)]
        rw [this]; exact hb1
      · rcases List.mem_cons.1 hx with rfl | hx
        · exact ⟨(g, none, Fu es c), by simp, rfl⟩
        · rw [List.mem_singleton.1 hx]
          exact ⟨(r, none, Et g since seen c), by simp, rfl⟩
theorem Rk (i : Nat) {mv : Value} {p : κ × ν} (hi : os[i]? = some (Hs kk vv mv it l left (some p))) {x : Operand} (ho : o.op = .entry x) (hx : evs env x = some it) (hH : Hp B w0 w os) (hF : Fr n act env) : (execOp act.eval o).run P w = .ok (.value (.tuple #[kk p.1, vv p.2])) w := by
 obtain ⟨g, r, es, c, since, seen, rfl, rfl, hb, hr, hL, hle, hold, hsc, hne, hc⟩ := hH.rngt i hi
 obtain ⟨seen', e, rfl, he, hk, hv⟩ := hc p rfl
 unfold execOp
 simp only [ho, hF.evs hx, Sem.run_bind, Go.run_entry_at (P := P) w r g since seen' es c e hr hb he hL.born, Result.andThen_ok, Sem.run_pure, hk, hv]
end more
end Go.Proofs.YtjcfimmcogkopaaGreatDoor.Sep
namespace Go.Proofs.YtjcfimmcogkopaaGreatDoor
structure Good {α : Type} (P : List UInt8 → Nat → α × List UInt8 × Nat) (enc : α → List UInt8) (dom rng : α → Prop) : Prop where
  lay : ∀ x r, dom x → P (enc x ++ r) 0 = (x, r, 0)
  back : ∀ l f, (P l f).2.2 = 0 → f = 0 ∧ l = enc (P l f).1 ++ (P l f).2.1
  ok : ∀ l f, rng (P l f).1
theorem Good.back_of {α : Type} {P : List UInt8 → Nat → α × List UInt8 × Nat} {enc : α → List UInt8} {dom rng : α → Prop} (h : Good P enc dom rng) {l l' : List UInt8} {f : Nat} {x : α} (e : P l f = (x, l', 0)) : f = 0 ∧ l = enc x ++ l' := by
 have := h.back l f (by rw [e])
 rwa [e] at this
theorem Io (most : Nat) : Good (Bv most) (fun n => [UInt8.ofNat n]) (fun n => n ≤ most ∧ n < 256) (fun n => n < 256) where
 lay n r h := by
  have e := K7 n (by omega)
  exact (Se most _ r (by omega)).trans (by rw [e])
 back l f h := by
  obtain ⟨h1, _, _, h2⟩ := Oz h
  exact ⟨h1, h2⟩
 ok l f := Ly most l f
theorem Jz (most : Nat) : Good (CN most) Eb (fun n => n ≤ most ∧ n < 18446744073709551616) (fun n => n < 18446744073709551616) where
 lay n r h := TH most n r h.1 h.2
 back _ _ h := Sd h
 ok l f := K6 most l f
def P0 (t : List UInt8) : List UInt8 := Eb t.length ++ t
theorem MS (most : Int) : Good (CQ most) P0 (fun t => (t.length : Int) ≤ most ∧ t.length < 18446744073709551616) (fun _ => True) where
 lay t r h := Sf most t r h.1 h.2
 back _ _ h := PU h
 ok _ _ := trivial
def rI {α : Type} (b : Bool) (z : α) (r : α × List UInt8 × Nat) (l : List UInt8) (f : Nat) : α × List UInt8 × Nat := match b with | true => r | false => (z, l, f)
structure EntD where
  k : Int
  t : Int
  i : Int
  d : List UInt8
  c : Int
deriving DecidableEq
def EntD.zero : EntD := ⟨0, 0, 0, [], 0⟩
structure EntD.ok (e : EntD) : Prop where
  k : Ra e.k
  t : PE e.t
  i : PE e.i
  d : e.d.length ≤ 9223372036854775807
  c : Ra e.c
def K2 (c : Int) : Bool := decide (c ≥ 0) && decide (c ≤ 254) && decide (c % 2 = 0)
theorem TN {c : Int} (h : K2 c = true) : 0 ≤ c ∧ c ≤ 254 ∧ c % 2 = 0 := by
 unfold K2 at h
 simp at h
 omega
def FV (e : EntD) : Bool :=
  if e.k = 0 then e.d == [] && e.c == 0
  else if e.k = 1 then decide (1 ≤ e.d.length) && decide (e.d.length ≤ 128) && e.c == 0
  else if e.k = 2 then e.d == [] && K2 e.c && e.c != 0
  else false
def BN (e : EntD) : Bool := G9 e.t && (G9 e.i && FV e)
theorem E1 {e : EntD} (h : BN e = true) : (1 ≤ e.t ∧ e.t ≤ 72057594037927935) ∧ (1 ≤ e.i ∧ e.i ≤ 72057594037927935) ∧ ((e.k = 0 ∧ e.d = [] ∧ e.c = 0) ∨ (e.k = 1 ∧ 1 ≤ e.d.length ∧ e.d.length ≤ 128 ∧ e.c = 0) ∨ (e.k = 2 ∧ e.d = [] ∧ 0 < e.c ∧ e.c ≤ 254 ∧ e.c % 2 = 0)) := by
  unfold BN at h
  simp only [Bool.and_eq_true] at h
  obtain ⟨h1, h2, h3⟩ := h
  refine ⟨Oy h1, Oy h2, ?_⟩
  unfold FV at h3
  split at h3
  · rename_i hk
    simp at h3
    exact .inl ⟨hk, h3.1, h3.2⟩
  · split at h3
    · rename_i hk
      simp at h3
      exact .inr (.inl ⟨hk, by omega, by omega, h3.2⟩)
    · split at h3
      · rename_i hk
        simp only [Bool.and_eq_true, beq_iff_eq, bne_iff_ne, ne_eq] at h3
        have hs := TN h3.1.2
        have hn := h3.2
        exact .inr (.inr ⟨hk, h3.1.1, by omega, hs.2.1, hs.2.2⟩)
      · cases h3
def EE (e : EntD) : List UInt8 := if e.k = 1 then P0 e.d else if e.k = 2 then [UInt8.ofNat e.c.toNat] else []
def Cj (e : EntD) : List UInt8 := UInt8.ofNat e.k.toNat :: (Gr e.t ++ (Gr e.i ++ EE e))
theorem TO {t : List UInt8} (h : t.length ≤ 128) : (P0 t).length ≤ 130 := by
 unfold P0
 have := Em 1 t.length (by omega)
 rw [List.length_append]
 omega
theorem DX {e : EntD} (h : BN e = true) : (Cj e).length ≤ 147 := by
  obtain ⟨h1, h2, h3⟩ := E1 h
  have a1 := Im h1.2
  have a2 := Im h2.2
  have a3 : (EE e).length ≤ 130 := by
    unfold EE
    split
    · refine TO ?_
      rcases h3 with ⟨_, h, _⟩ | ⟨_, _, h, _⟩ | ⟨_, h, _⟩
      · rw [h]; simp
      · exact h
      · rw [h]; simp
    · split <;> simp
  unfold Cj
  simp only [List.length_cons, List.length_append]
  omega
def G3 (n : Nat) (l : List UInt8) (f : Nat) : (List UInt8 × Nat) × List UInt8 × Nat :=
  if n = 1 then (((CQ 128 l f).1, 0), (CQ 128 l f).2) else if n = 2 then (([], (Bv 254 l f).1), (Bv 254 l f).2) else (([], 0), l, f)
theorem J9 {l l' : List UInt8} {f f' : Nat} {x : List UInt8} (h : CQ 128 l f = (x, l', f')) : G3 1 l f = ((x, 0), l', f') := by
 unfold G3
 rw [if_pos rfl, h]
theorem Ka {l l' : List UInt8} {f f' c : Nat} (h : Bv 254 l f = (c, l', f')) : G3 2 l f = (([], c), l', f') := by
 unfold G3
 rw [if_neg (by omega), if_pos rfl, h]
theorem IW {n : Nat} (l : List UInt8) (f : Nat) (h1 : n ≠ 1) (h2 : n ≠ 2) : G3 n l f = (([], 0), l, f) := by
 unfold G3
 rw [if_neg h1, if_neg h2]
def JA (l : List UInt8) : EntD × List UInt8 × Nat :=
  match Bv 2 l 0 with
  | (n0, l0, f0) => match CN 72057594037927935 l0 f0 with
    | (n1, l1, f1) => match CN 72057594037927935 l1 f1 with
      | (n2, l2, f2) => match G3 n0 l2 f2 with
        | ((x, c), l3, f3) => (⟨(n0 : Int), (n1 : Int), (n2 : Int), x, (c : Int)⟩, l3, f3)
theorem Ht {l l0 l1 l2 l3 x : List UInt8} {n0 n1 n2 c f0 f1 f2 f3 : Nat} (h0 : Bv 2 l 0 = (n0, l0, f0)) (h1 : CN 72057594037927935 l0 f0 = (n1, l1, f1)) (h2 : CN 72057594037927935 l1 f1 = (n2, l2, f2)) (h3 : G3 n0 l2 f2 = ((x, c), l3, f3)) :
  JA l = (⟨(n0 : Int), (n1 : Int), (n2 : Int), x, (c : Int)⟩, l3, f3) := by
 simp only [JA, h0, h1, h2, h3]
def EF (l : List UInt8) : EntD × Nat :=
  if 160 < l.length then (.zero, 12)
  else match JA l with
    | (e, l', f') => if Fl l' f' ≠ 0 then (.zero, Fl l' f') else if BN e then (e, 0) else (.zero, 11)
theorem MT {l : List UInt8} (h : 160 < l.length) : EF l = (.zero, 12) := by
 unfold EF
 rw [if_pos h]
theorem JB {l l' : List UInt8} {e : EntD} {f' : Nat} (h : ¬ 160 < l.length) (hr : JA l = (e, l', f')) (hf : Fl l' f' ≠ 0) : EF l = (.zero, Fl l' f') := by
 unfold EF
 rw [if_neg h, hr]
 simp only
 rw [if_pos hf]
theorem GP {l l' : List UInt8} {e : EntD} {f' : Nat} (h : ¬ 160 < l.length) (hr : JA l = (e, l', f')) (hf : Fl l' f' = 0) (hR : BN e = false) : EF l = (.zero, 11) := by
 unfold EF
 rw [if_neg h, hr]
 simp only
 rw [if_neg (by simp [hf]), hR]
 rfl
theorem FW {l l' : List UInt8} {e : EntD} {f' : Nat} (h : ¬ 160 < l.length) (hr : JA l = (e, l', f')) (hf : Fl l' f' = 0) (hR : BN e = true) : EF l = (e, 0) := by
 unfold EF
 rw [if_neg h, hr]
 simp only
 rw [if_neg (by simp [hf]), hR]
 rfl
theorem Si {l : List UInt8} {f : Nat} (h : Fl l f = 0) : f = 0 ∧ l = [] := by
  unfold Fl at h
  split at h
  · omega
  · rename_i hn
    refine ⟨h, ?_⟩
    rcases Nat.eq_zero_or_pos l.length with h0 | h0
    · exact List.eq_nil_of_length_eq_zero h0
    · exact absurd ⟨h, h0⟩ hn
theorem Sj {e : EntD} (h : BN e = true) : JA (Cj e) = (e, [], 0) := by
  obtain ⟨h1, h2, h3⟩ := E1 h
  have hk : e.k = 0 ∨ e.k = 1 ∨ e.k = 2 := by omega
  have e0 : Bv 2 (Cj e) 0 = (e.k.toNat, Gr e.t ++ (Gr e.i ++ EE e), 0) := (Io 2).lay e.k.toNat _ (by omega)
  have e1 : CN 72057594037927935 (Gr e.t ++ (Gr e.i ++ EE e)) 0 = (e.t.toNat, Gr e.i ++ EE e, 0) := (Jz _).lay e.t.toNat _ (by omega)
  have e2 : CN 72057594037927935 (Gr e.i ++ EE e) 0 = (e.i.toNat, EE e, 0) := (Jz _).lay e.i.toNat _ (by omega)
  have e3 : G3 e.k.toNat (EE e) 0 = ((e.d, e.c.toNat), [], 0) := by
    rcases h3 with ⟨hk, hd, hc⟩ | ⟨hk, hd, hd', hc⟩ | ⟨hk, hd, hc, hc', _⟩
    · rw [IW _ _ (by omega) (by omega), hd, hc]
      unfold EE
      rw [if_neg (by omega), if_neg (by omega)]
      rfl
    · rw [show e.k.toNat = 1 by omega, hc]
      refine J9 ?_
      unfold EE
      rw [if_pos hk]
      have := (MS 128).lay e.d [] ⟨by omega, by omega⟩
      rwa [List.append_nil] at this
    · rw [show e.k.toNat = 2 by omega, hd]
      refine Ka ?_
      unfold EE
      rw [if_neg (by omega), if_pos hk]
      exact (Io 254).lay e.c.toNat [] (by omega)
  have hc : 0 ≤ e.c := by omega
  rw [Ht e0 e1 e2 e3]
  rw [show ((e.k.toNat : Nat) : Int) = e.k by omega, show ((e.t.toNat : Nat) : Int) = e.t by omega, show ((e.i.toNat : Nat) : Int) = e.i by omega, show ((e.c.toNat : Nat) : Int) = e.c by omega]
theorem P1 {l : List UInt8} {e : EntD} (h : JA l = (e, [], 0)) : l = Cj e := by
  obtain ⟨⟨n0, l0, f0⟩, h0⟩ : ∃ R, Bv 2 l 0 = R := ⟨_, rfl⟩
  obtain ⟨⟨n1, l1, f1⟩, h1⟩ : ∃ R, CN 72057594037927935 l0 f0 = R := ⟨_, rfl⟩
  obtain ⟨⟨n2, l2, f2⟩, h2⟩ : ∃ R, CN 72057594037927935 l1 f1 = R := ⟨_, rfl⟩
  obtain ⟨⟨⟨x, c⟩, l3, f3⟩, h3⟩ : ∃ R, G3 n0 l2 f2 = R := ⟨_, rfl⟩
  have e' := (Ht h0 h1 h2 h3).symm.trans h
  simp only [Prod.mk.injEq] at e'
  obtain ⟨rfl, rfl, rfl⟩ := e'
  have b3 : f2 = 0 ∧ l2 = EE ⟨(n0 : Int), (n1 : Int), (n2 : Int), x, (c : Int)⟩ := by
    by_cases hn : n0 = 1
    · subst hn
      obtain ⟨⟨y, l4, f4⟩, h4⟩ : ∃ R, CQ 128 l2 f2 = R := ⟨_, rfl⟩
      have e4 := (J9 h4).symm.trans h3
      simp only [Prod.mk.injEq] at e4
      obtain ⟨⟨rfl, rfl⟩, rfl, rfl⟩ := e4
      obtain ⟨a, b⟩ := (MS 128).back_of h4
      refine ⟨a, ?_⟩
      unfold EE
      simp only
      rw [if_pos (by rfl), b, List.append_nil]
    · by_cases hn2 : n0 = 2
      · subst hn2
        obtain ⟨⟨y, l4, f4⟩, h4⟩ : ∃ R, Bv 254 l2 f2 = R := ⟨_, rfl⟩
        have e4 := (Ka h4).symm.trans h3
        simp only [Prod.mk.injEq] at e4
        obtain ⟨⟨rfl, rfl⟩, rfl, rfl⟩ := e4
        obtain ⟨a, b⟩ := (Io 254).back_of h4
        refine ⟨a, ?_⟩
        unfold EE
        simp only
        rw [if_neg (by decide), if_pos (by rfl), b, List.append_nil]
        rfl
      · rw [IW _ _ hn hn2] at h3
        simp only [Prod.mk.injEq] at h3
        obtain ⟨⟨rfl, rfl⟩, rfl, rfl⟩ := h3
        refine ⟨rfl, ?_⟩
        unfold EE
        simp only
        rw [if_neg (by omega), if_neg (by omega)]
  obtain ⟨rfl, b3⟩ := b3
  obtain ⟨rfl, b2⟩ := (Jz _).back_of h2
  obtain ⟨rfl, b1⟩ := (Jz _).back_of h1
  obtain ⟨_, b0⟩ := (Io _).back_of h0
  rw [b0, b1, b2, b3]
  simp [Cj, Gr]
theorem Sk (l : List UInt8) : ((EF l).2 ≠ 0 ∧ (EF l).1 = .zero) ∨ ((EF l).2 = 0 ∧ BN (EF l).1 = true ∧ Cj (EF l).1 = l) := by
  by_cases h : 160 < l.length
  · rw [MT h]; exact .inl ⟨by simp, rfl⟩
  · obtain ⟨⟨e, l', f'⟩, hr⟩ : ∃ R, JA l = R := ⟨_, rfl⟩
    by_cases hf : Fl l' f' = 0
    · cases hR : BN e
      · rw [GP h hr hf hR]; exact .inl ⟨by simp, rfl⟩
      · rw [FW h hr hf hR]
        obtain ⟨rfl, rfl⟩ := Si hf
        exact .inr ⟨rfl, hR, (P1 hr).symm⟩
    · rw [JB h hr hf]; exact .inl ⟨hf, rfl⟩
end Go.Proofs.YtjcfimmcogkopaaGreatDoor
namespace Go.Proofs.YtjcfimmcogkopaaGreatDoor.Sep
open Go.RowKit
open Go.Proofs.YtjcfimmcogkopaaGreatDoor.Mem (Bb Ci Chg)
def AY {α : Type} (f : α → Ass) (l : List α) : Ass := fun rs => Am (l.map f) rs
section
variable {α : Type} {f : α → Ass} {l : List α} {B : Nat → Prop} {w0 w w' : World} {os : List Ass}
theorem DE : AY f [] [] := rfl
theorem AY.push {x : α} {a b : List RowT} (h : AY f l a) (h' : f x b) : AY f (l ++ [x]) (a ++ b) := by
 unfold AY
 rw [List.map_append]
 exact Am.app h (Am.one h')
theorem GQ {x : α} : ∀ rs, Am [AY f l, f x] rs → AY f (l ++ [x]) rs := fun rs h => by
 obtain ⟨a, b, e, h1, h2⟩ := h
 subst e
 exact h1.push (Am.one' h2)
theorem MU {j : Nat} {x : α} (hj : l[j]? = some x) : ∀ rs, AY f l rs → ∃ _ : Unit, Am [AY f (l.take j), f x, AY f (l.drop (j + 1))] rs := fun rs h => by
  have e : l = l.take j ++ (x :: l.drop (j + 1)) := by
    have hlt := (List.getElem?_eq_some_iff.1 hj).1
    have hx := (List.getElem?_eq_some_iff.1 hj).2
    rw [← hx, ← List.drop_eq_getElem_cons hlt, List.take_append_drop]
  unfold AY at h
  rw [e, List.map_append] at h
  obtain ⟨a, b, rfl, h1, h2⟩ := h.split
  obtain ⟨c, d, rfl, h3, h4⟩ := h2
  refine ⟨(), a, c ++ d, rfl, ?_, c, d, rfl, h3, d, [], by simp, ?_, rfl⟩
  · exact h1
  · exact h4
theorem MV {a b : List α} {y : α} : ∀ rs, Am [AY f a, f y, AY f b] rs → AY f (a ++ y :: b) rs := fun rs h => by
 obtain ⟨p, q, rfl, h1, c, d, rfl, h2, h3⟩ := h
 have h3 := Am.one' h3
 unfold AY
 rw [List.map_append]
 exact Am.app h1 ⟨c, d, rfl, h2, h3⟩
theorem OD {j : Nat} {y : α} (hj : j < l.length) : l.take j ++ y :: l.drop (j + 1) = l.set j y := by
 rw [List.set_eq_take_append_cons_drop, if_pos hj]
theorem AY.at_ {j : Nat} {x : α} {rs : List RowT} (h : AY f l rs) (hr : RowsOf w rs) (hj : l[j]? = some x) : ∃ ys, f x ys ∧ RowsOf w ys := by
 obtain ⟨a, y, b, e, h1, _⟩ := Am.at_ (i := j) (o := f x) h (by simp [hj])
 exact ⟨y, h1, BC.2 fun z hz => BC.1 hr z (by rw [e]; simp [hz])⟩
theorem Hp.each (h : Hp B w0 w os) (i : Nat) (hi : os[i]? = some (AY f l)) {j : Nat} {x : α} (hj : l[j]? = some x) : ∃ ys, f x ys ∧ RowsOf w ys := by
 obtain ⟨rs, h1, h2⟩ := h.thing i hi
 exact h1.at_ h2 hj
end
section
variable {P : Program} {ops : Array Oper} {Q : Exit → Act → World → Prop} {n : Nat} {env : List (Nat × Value)} {B : Nat → Prop} {w0 : World} {os : List Ass} {α : Type}
end
section
variable {P : Program} {Q : Exit → Act → World → Prop} {n : Nat} {env : List (Nat × Value)} {B : Nat → Prop} {w0 : World} {os : List Ass} {o : Oper} {e : TypeId} {k : Nat} {α : Type} {enc : α → List Value} {v : Value} {l : List α}
theorem Sl (he : EncOf k enc) {j off : Nat} {a b : α} (hj : l[j]? = some a) {ys : List Value} (hoff : off + ys.length ≤ k) (hb : over? (enc a) off ys = enc b) :
  (flat enc l).take (j * k + off) ++ ys ++ (flat enc l).drop (j * k + off + ys.length) = flat enc (l.set j b) := by
 have hlt := (List.getElem?_eq_some_iff.1 hj).1
 have hx := (List.getElem?_eq_some_iff.1 hj).2
 rw [← Tw he hlt b, ← hb]
 unfold over?
 have e1 : (flat enc l).take (j * k + off) = (flat enc l).take (j * k) ++ (enc a).take off := by
  rw [List.take_add, ← Nv he hj, List.take_take, Nat.min_eq_left (by omega)]
 have e2 : (flat enc l).drop (j * k + off + ys.length) = (enc a).drop (off + ys.length) ++ (flat enc l).drop (j * k + k) := by
  rw [← Nv he hj, List.drop_take, List.drop_drop, Nat.add_assoc]
  have h1 : (flat enc l).drop (j * k + k) = ((flat enc l).drop (j * k + (off + ys.length))).drop (k - (off + ys.length)) := by
   rw [List.drop_drop]; congr 1; omega
  rw [h1, List.take_append_drop]
 rw [e1, e2]
 simp only [List.append_assoc]
theorem Sm {cs ys : List Value} {p q : Nat} (h : p + ys.length ≤ q) (hq : q ≤ cs.length) : (over? cs p ys).take q = over? (cs.take q) p ys := by
 unfold over?
 have hA : (cs.take p ++ ys).length = p + ys.length := by rw [List.length_append, List.length_take]; omega
 rw [List.take_append, hA, List.take_of_length_le (by omega), List.take_take, Nat.min_eq_left (by omega), List.drop_take]
theorem LG (i : Nat) (he : EncOf k enc) (hi : os[i]? = some (Aj e k enc v l)) (j : Nat) {a b : α} (hj : l[j]? = some a) {T : TypeId} {off q : Nat} (hs : ∀ w, (sizeOf T).run P w = .ok q w) {c : Value} (hq : c.cells.size = q) (hone : Ns c.cells.toList = true) (hoff : off + q ≤ k) (hb : over? (enc a) off c.cells.toList = enc b)
    (hd : o.dst = none) {x y : Operand} (ho : o.op = .store T x y) (hx : evs env x = some (AN v (j * k + off))) (hy : evs env y = some c) : Bt P Q n env B w0 os o (fun _ : Unit => undef) (fun _ => os.set i (Aj e k enc v (l.set j b))) := fun act w hH hF K hK => by
  obtain ⟨rs, hv, hr⟩ := hH.thing i hi
  have hlt := (List.getElem?_eq_some_iff.1 hj).1
  have hql : c.cells.toList.length = q := by simpa using hq
  rcases hv with ⟨_, h2, _⟩ | ⟨g, cap, cs, h2, hle, hmx, hsz, h5, h6⟩
  · subst h2; exact absurd hlt (Nat.not_lt_zero _)
  · subst h6
    have hjk : j * k + k ≤ l.length * k := by
      have := Nat.mul_le_mul_right k (show j + 1 ≤ l.length by omega)
      rwa [Nat.add_mul, Nat.one_mul] at this
    have hlk : l.length * k ≤ cap * k := Nat.mul_le_mul_right k hle
    subst h2
    obtain ⟨w', hrs, hR', hM⟩ := Di (P := P) g e c.cells.toList 0 cs w (j * k + off) hr.1 (by simp only [Array.length_toList] at hql ⊢; omega) (fun u hu => (List.all_eq_true.1 (Hg hone)) u hu)
    have hx' : evs env x = some (.pointer (some ⟨g, j * k + off, none⟩)) := by rw [hx]; simp [AN]
    have hR : Dy w' g e (over? cs.toList (j * k + off) c.cells.toList).toArray := by simpa [over?] using hR'
    have hrun : (execOp act.eval o).run P w = .ok .skip w' := by
      unfold execOp
      simp [ho, hF.evs hx', hF.evs hy, Instr.storeAt, Instr.sureAddr, storeVar, hs, hq, hrs]
    unfold Oper.wp
    rw [hrun, Oper.upon_skip]
    refine (fun hp => (by have := hK () w' hp; rw [hd] at this ⊢; exact this)) (hH.turn i hi fun x hx _ _ => ?_)
    rcases hx with ⟨h0, _, _⟩ | ⟨g', cap', cs', h0, _, _, hsz', h5', h6'⟩
    · simp at h0
    · simp at h0
      obtain ⟨rfl, rfl⟩ := h0
      subst h6'
      have hrow : cs' = cs := by
        have hr0 : RowsOf w [(g, Fa e, cs')] := ‹_›
        have e1 : w.heap[g]? = some (.cells cs' e (0, 0)) := hr0.1
        have e2 : w.heap[g]? = some (.cells cs e (0, 0)) := hr.1
        rw [e1] at e2
        simpa using e2
      subst hrow
      have hcl : cs'.toList.length = cap * k := by simpa using hsz
      refine ⟨[(g, Fa e, (over? cs'.toList (j * k + off) c.cells.toList).toArray)], .inr ⟨g, cap, _, by simp, by simpa using hle, hmx, ?_, ?_, rfl⟩, ⟨hM.weaken fun q _ e' => ⟨(g, Fa e, cs'), by simp, e'.symm⟩, ⟨hR, trivial⟩, ⟨(fun _ h => by cases h), trivial⟩, fun x hx _ => ?_⟩⟩
      · show (over? cs'.toList (j * k + off) c.cells.toList).length = cap * k
        unfold over?
        simp only [List.length_append, List.length_take, List.length_drop, hcl, hql]
        omega
      · show (over? cs'.toList (j * k + off) c.cells.toList).take ((l.set j b).length * k) = _
        rw [List.length_set, Sm (by omega) (by omega), h5]
        exact Sl he hj (by omega) hb
      · have : x = (g, Fa e, (over? cs'.toList (j * k + off) c.cells.toList).toArray) := by simpa using hx
        subst this
        exact ⟨(g, Fa e, cs'), by simp, rfl⟩
end
structure EntV where
  e : EntD
  A : Option Addr
  c : Nat
def EntV.v (x : EntV) : Value := .slice x.A x.e.d.length x.c
def encV (x : EntV) : List Value := [.int .i64 x.e.k, .int .u64 x.e.t, .int .u64 x.e.i, x.v, .int .i64 x.e.c]
theorem Ea : EncOf 5 encV := ⟨fun _ => rfl, fun x v h => by unfold encV EntV.v at h; simp at h; rcases h with rfl | rfl | rfl | rfl | rfl <;> rfl⟩
def Da (w : World) (v : Value) (l : List EntV) : Prop := DP w 5 v l.length (flat encV l) ∧ ∀ x, x ∈ l → Ew w x.v x.e.d
section
variable {u w w0 : World} {v : Value} {l : List EntV} {X : Ass} {B : Nat → Prop} {os : List Ass} {rs : List RowT} {te : TypeId}
theorem DP.below {k m : Nat} {a : Value} {ys : List Value} (h : DP u k a m ys) (hb : Below u.heap.size u w) : DP w k a m ys := by
 obtain ⟨h1, A, c, e, hA⟩ := h
 refine ⟨h1, A, c, e, hA.imp id fun ⟨a, ha, hc⟩ => ⟨a, ha, fun j x hx => ?_⟩⟩
 have h0 := hc j x hx
 rw [hb.cell (World.block_lt_of_cell? _ _ h0)]
 exact h0
theorem Da.below (h : Da u v l) (hb : Below u.heap.size u w) : Da w v l := ⟨h.1.below hb, fun x hx => (h.2 x hx).below hb⟩
theorem DF (h : Da u v l) (hU : Below u.heap.size u w0) (hS : ∀ k, B k → u.heap.size ≤ k) (hH : Hp B w0 w os) : Da w v l := ⟨Vq h.1 hU hS hH, fun x hx => EC (h.2 x hx) hU hS hH⟩
def Cm (te : TypeId) (v : Value) (l : List EntV) : Ass := Fk [Aj te 5 encV v l, AY (fun x : EntV => Aj 5 1 encB x.v x.e.d) l]
theorem Cm.rd (h : Cm te v l rs) (hr : RowsOf w rs) : Da w v l := by
 obtain ⟨a, b, e, h1, h2⟩ := h
 subst e
 have ha : RowsOf w a := BC.2 fun z hz => BC.1 hr z (by simp [hz])
 have hb : RowsOf w b := BC.2 fun z hz => BC.1 hr z (by simp [hz])
 refine ⟨h1.all Ea ha, fun x hx => ?_⟩
 obtain ⟨j, hj⟩ := List.getElem?_of_mem hx
 obtain ⟨ys, h3, h4⟩ := (Am.one' h2).at_ hb hj
 exact In h3 h4
def XQ (X : Ass) (v : Value) (l : List EntV) : Prop := ∀ rs w, X rs → RowsOf w rs → Da w v l
theorem Sn : XQ (Cm te v l) v l := fun _ _ h1 h2 => h1.rd h2
theorem Hp.rdEs (h : Hp B w0 w os) (i : Nat) (hi : os[i]? = some X) (hu : XQ X v l) : Da w v l := by
 obtain ⟨rs, h1, h2⟩ := h.thing i hi
 exact hu rs w h1 h2
theorem Hp.ents (h : Hp B w0 w os) (i : Nat) (hi : os[i]? = some (Cm te v l)) : Da w v l := h.rdEs i hi Sn
theorem C5 : ∀ rs, Cm te v l rs → ∃ _ : Unit, Am [Aj te 5 encV v l, AY (fun x : EntV => Aj 5 1 encB x.v x.e.d) l] rs := fun _ h => ⟨(), h⟩
theorem P2 : ∀ rs, Am [Aj te 5 encV v l, AY (fun x : EntV => Aj 5 1 encB x.v x.e.d) l] rs → Cm te v l rs := fun _ h => h
theorem Gt {x : EntV} : ∀ rs, Am [Aj te 5 encV v (l ++ [x]), AY (fun x : EntV => Aj 5 1 encB x.v x.e.d) l, Aj 5 1 encB x.v x.e.d] rs → Cm te v (l ++ [x]) rs := fun rs h => by
 obtain ⟨a, b, e, h1, h2⟩ := h
 exact ⟨a, b, e, h1, Am.one (GQ _ h2)⟩
theorem MW : Cm te (.slice none 0 0) [] [] := ⟨[], [], rfl, PH _ _ _, [], [], rfl, DE, rfl⟩
end
def W7 (k a b t i lt : Int) (ev : Value) (co : Int) (rf : Bool) (bi bt bc o : Int) (dv : Value) (la : Bool) : List Value :=
  [.int .i64 k, .int .i64 a, .int .i64 b, .int .u64 t, .int .u64 i, .int .u64 lt, ev, .int .u64 co, .bool rf, .int .u64 bi, .int .u64 bt, .int .i64 bc, .int .i64 o, dv, .bool la]
end Go.Proofs.YtjcfimmcogkopaaGreatDoor.Sep
