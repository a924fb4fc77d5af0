/-
  MapS · MapT · EntM · Each
-/
import Derived.Test.YtjcfimmcogkopaaGreatDoorWA06
import Derived.Test.YtjcfimmcogkopaaGreatDoorWA07
import Derived.Maps.RangeRun
import Derived.MapKept
set_option linter.unusedSimpArgs false
set_option linter.unusedVariables false
namespace Go.Proofs.YtjcfimmcogkopaaGreatDoor.Sep
open Go.RowKit
open Go.ChangeMaps (setBlock)
open Go.Proofs.YtjcfimmcogkopaaGreatDoor.Mem (AG BC Chg Ak)
def AC {κ ν : Type} (l : List (κ × ν)) : List κ := l.map (·.1)
section lists
variable {κ ν : Type} [DecidableEq κ]
def EY (k : κ) : List (κ × ν) → Nat → Option (Nat × ν)
  | [], _ => none
  | p :: r, i => if p.1 = k then some (i, p.2) else EY k r (i + 1)
def AW (l : List (κ × ν)) (k : κ) : Option ν := (EY k l 0).map (·.2)
def Bd (l : List (κ × ν)) (k : κ) (x : ν) : List (κ × ν) := match EY k l 0 with | some q => l.set q.1 (k, x) | none => l ++ [(k, x)]
def B8 (l : List (κ × ν)) (k : κ) : List (κ × ν) := match EY k l 0 with | some q => l.eraseIdx q.1 | none => l
theorem DG {k : κ} : ∀ {l : List (κ × ν)} {i : Nat} {q : Nat × ν}, EY k l i = some q → i ≤ q.1 ∧ l[q.1 - i]? = some (k, q.2)
  | [], _, _, h => by cases h
  | p :: r, i, q, h => by
    unfold EY at h
    split at h
    · rename_i hk
      cases h
      refine ⟨Nat.le_refl _, ?_⟩
      rw [Nat.sub_self, List.getElem?_cons_zero, ← hk]
    · obtain ⟨h1, h2⟩ := DG h
      refine ⟨by omega, ?_⟩
      rw [show q.1 - i = (q.1 - (i + 1)) + 1 by omega, List.getElem?_cons_succ]
      exact h2
theorem LD {k : κ} : ∀ {l : List (κ × ν)} {i : Nat}, EY k l i = none → k ∉ AC l
  | [], _, _, hm => by cases hm
  | p :: r, i, h, hm => by
    unfold EY at h
    split at h
    · cases h
    · rename_i hk
      rcases List.mem_cons.1 hm with e | hm
      · exact hk e.symm
      · exact LD h hm
theorem LE {k : κ} {x : ν} : ∀ {l : List (κ × ν)} {i j : Nat}, (AC l).Nodup → l[j]? = some (k, x) → EY k l i = some (i + j, x)
  | [], _, _, _, h => by simp at h
  | p :: r, i, 0, hn, h => by
    simp only [List.getElem?_cons_zero, Option.some.injEq] at h
    subst h
    unfold EY
    rw [if_pos rfl]; rfl
  | p :: r, i, j + 1, hn, h => by
    simp only [List.getElem?_cons_succ] at h
    have hm := List.mem_of_getElem? h
    obtain ⟨h1, h2⟩ := List.nodup_cons.1 (show (p.1 :: AC r).Nodup from hn)
    unfold EY
    have hk : p.1 ≠ k := fun e => h1 (by rw [e]; exact List.mem_map_of_mem (f := (·.1)) hm)
    rw [if_neg hk, LE h2 h]
    congr 2; omega
theorem Bw {l : List (κ × ν)} {k : κ} {x : ν} (hn : (AC l).Nodup) : AW l k = some x ↔ (k, x) ∈ l := by
  constructor
  · intro h
    unfold AW at h
    obtain ⟨q, hq, rfl⟩ := Option.map_eq_some_iff.1 h
    obtain ⟨_, h2⟩ := DG hq
    exact List.mem_of_getElem? h2
  · intro h
    obtain ⟨j, hj⟩ := List.getElem?_of_mem h
    unfold AW
    rw [LE hn hj]; rfl
theorem Fc {l : List (κ × ν)} {k : κ} : AW l k = none ↔ k ∉ AC l := by
  constructor
  · intro h
    unfold AW at h
    exact LD (Option.map_eq_none_iff.1 h)
  · intro h
    unfold AW
    cases hq : EY k l 0 with
    | none => rfl
    | some q =>
      obtain ⟨_, h2⟩ := DG hq
      exact absurd (List.mem_map_of_mem (f := (·.1)) (List.mem_of_getElem? h2)) h
theorem NC {l : List (κ × ν)} {k : κ} {x y : ν} (h : AW l k = some y) : AC (Bd l k x) = AC l := by
  unfold AW at h
  obtain ⟨q, hq, _⟩ := Option.map_eq_some_iff.1 h
  obtain ⟨_, h2⟩ := DG hq
  unfold Bd AC
  rw [hq]
  simp only
  rw [List.map_set]
  refine List.ext_getElem? fun i => ?_
  rw [List.getElem?_set]
  rw [Nat.sub_zero] at h2
  by_cases hi : q.1 = i
  · subst hi
    have hlt := (List.getElem?_eq_some_iff.1 h2).1
    rw [if_pos rfl, if_pos (by simpa using hlt), List.getElem?_map, h2]; rfl
  · rw [if_neg hi]
theorem Eb {l : List (κ × ν)} {k : κ} {x : ν} (h : AW l k = none) : Bd l k x = l ++ [(k, x)] := by
 unfold AW at h
 unfold Bd
 rw [Option.map_eq_none_iff.1 h]
theorem CN {l : List (κ × ν)} {k : κ} {x : ν} (hn : (AC l).Nodup) : (AC (Bd l k x)).Nodup := by
  cases h : AW l k with
  | some y => rw [NC h]; exact hn
  | none =>
    rw [Eb h]
    unfold AC
    rw [List.map_append]
    exact List.nodup_append.2 ⟨hn, by simp, fun a ha b hb e => Fc.1 h (by simp at hb; rw [← hb, ← e]; exact ha)⟩
theorem C6 {l : List (κ × ν)} {k : κ} (hn : (AC l).Nodup) : (AC (B8 l k)).Nodup := by
  unfold B8
  split
  · unfold AC
    exact List.Nodup.sublist ((List.eraseIdx_sublist ..).map _) hn
  · exact hn
theorem Gq {l : List (κ × ν)} {k : κ} {x : ν} (hn : (AC l).Nodup) (p : κ × ν) : p ∈ Bd l k x ↔ p = (k, x) ∨ (p ∈ l ∧ p.1 ≠ k) := by
  cases h : AW l k with
  | none =>
    rw [Eb h, List.mem_append, List.mem_singleton]
    constructor
    · rintro (h1 | h1)
      · exact .inr ⟨h1, fun e => Fc.1 h (e ▸ List.mem_map_of_mem h1)⟩
      · exact .inl h1
    · rintro (h1 | h1)
      · exact .inr h1
      · exact .inl h1.1
  | some y =>
    have h0 := h
    unfold AW at h
    obtain ⟨q, hq, _⟩ := Option.map_eq_some_iff.1 h
    obtain ⟨_, h2⟩ := DG hq
    rw [Nat.sub_zero] at h2
    have hlt := (List.getElem?_eq_some_iff.1 h2).1
    have hn2 : (AC (Bd l k x)).Nodup := CN hn
    have e : Bd l k x = l.set q.1 (k, x) := by unfold Bd; rw [hq]
    constructor
    · intro hp
      rw [e] at hp
      rcases List.mem_or_eq_of_mem_set hp with hp | hp
      · by_cases hk : p.1 = k
        · left
          have h3 : (k, x) ∈ Bd l k x := by rw [e]; exact List.mem_set hlt _
          have h4 : p ∈ Bd l k x := by rw [e]; assumption
          have a := (Bw hn2).2 h3
          have h5 : (k, p.2) = p := Prod.ext hk.symm rfl
          have b := (Bw (x := p.2) hn2).2 (show (k, p.2) ∈ Bd l k x by rw [h5]; exact h4)
          have := a.symm.trans b
          simp at this
          exact Prod.ext hk this.symm
        · exact .inr ⟨hp, hk⟩
      · exact .inl hp
    · rintro (rfl | ⟨h1, h3⟩)
      · rw [e]; exact List.mem_set hlt _
      · rw [e]
        obtain ⟨j, hj⟩ := List.getElem?_of_mem h1
        have hne : q.1 ≠ j := fun e => by
          subst e
          rw [h2] at hj
          simp at hj
          exact h3 (by rw [← hj])
        refine List.mem_of_getElem? (i := j) ?_
        rw [List.getElem?_set, if_neg hne]; exact hj
theorem Gr {l : List (κ × ν)} {k : κ} (hn : (AC l).Nodup) (p : κ × ν) : p ∈ B8 l k ↔ p ∈ l ∧ p.1 ≠ k := by
  unfold B8
  cases hq : EY k l 0 with
  | none =>
    simp only
    exact ⟨fun h => ⟨h, fun e => LD hq (e ▸ List.mem_map_of_mem h)⟩, fun h => h.1⟩
  | some q =>
    obtain ⟨_, h2⟩ := DG hq
    rw [Nat.sub_zero] at h2
    simp only
    rw [List.mem_eraseIdx_iff_getElem?]
    constructor
    · rintro ⟨j, hj, he⟩
      refine ⟨List.mem_of_getElem? he, fun e => hj ?_⟩
      have h3 := LE (i := 0) hn (show l[j]? = some (k, p.2) by rw [he, ← e])
      have h4 := congrArg Prod.fst (Option.some.inj (hq.symm.trans h3))
      simp only at h4
      omega
    · rintro ⟨h1, h3⟩
      obtain ⟨j, hj⟩ := List.getElem?_of_mem h1
      refine ⟨j, fun e => ?_, hj⟩
      subst e
      rw [h2] at hj
      simp at hj
      exact h3 (by rw [← hj])
theorem TY {l : List (κ × ν)} {k k' : κ} {x : ν} (hn : (AC l).Nodup) : AW (Bd l k x) k' = if k' = k then some x else AW l k' := by
  split
  · rename_i e
    exact (Bw (CN hn)).2 ((Gq hn _).2 (.inl (by rw [e])))
  · rename_i e
    cases h : AW l k' with
    | some y => exact (Bw (CN hn)).2 ((Gq hn _).2 (.inr ⟨(Bw hn).1 h, e⟩))
    | none =>
      rw [Fc]
      intro hm
      obtain ⟨p, hp, e2⟩ := List.mem_map.1 hm
      rcases (Gq hn p).1 hp with h1 | ⟨h1, _⟩
      · exact e (by rw [← e2, h1])
      · exact Fc.1 h (e2 ▸ List.mem_map_of_mem h1)
end lists
structure MapTy (P : Program) (mt kt vt : TypeId) (kd : TypeDesc) {κ : Type} [DecidableEq κ] (kk : κ → Value) (z : Value) : Prop where
  ht : P.underlying mt = some (.map kt vt)
  hk : P.underlying kt = some kd
  same : ∀ a b, Instr.sameNow kd (kk a) (kk b) = some (decide (a = b))
  chk : ∀ (w : World) (e : Bool) (a : κ), (Instr.checkKey e 10000 kt (kk a)).run P w = .ok () w
  stays : ∀ a, Instr.sameBits 10000 (kk a) (kk a) = true
  hz : ∀ w : World, (zeroValue vt).run P w = .ok z w
theorem TZ (a b : List UInt8) : (bs a == bs b) = decide (a = b) := by
  show ((bs a).data == (bs b).data) = _
  rw [Bool.eq_iff_iff, beq_iff_eq, decide_eq_true_eq]
  constructor
  · intro h
    have : bs a = bs b := by
      have e : ∀ z : ByteArray, z = ⟨z.data⟩ := fun z => rfl
      rw [e (bs a), e (bs b), h]
    exact TA this
  · intro h; rw [h]
section keys
variable {P : Program} {mt kt vt : TypeId} {z : Value}
theorem Sn (ht : P.underlying mt = some (.map kt vt)) (hk : P.underlying kt = some .string) (hz : ∀ w : World, (zeroValue vt).run P w = .ok z w) : MapTy P mt kt vt .string (fun s : List UInt8 => .string (bs s)) z where
 ht := ht
 hk := hk
 same a b := by
  show some (bs a == bs b) = _
  rw [TZ]
 chk w e a := by
  have h : ∀ n, (Instr.checkKey e (n + 1) kt (.string (bs a))).run P w = .ok () w := fun n => by simp [Instr.checkKey, run_underlying hk]
  exact h 9999
 stays a := by
  show (bs a == bs a) = true
  rw [TZ]; simp
 hz := hz
end keys
section mapl0
variable {κ ν : Type} {kk : κ → Value} {vv : ν → Value} {es : Array MapEntry} {c : Nat} {l : List (κ × ν)}
structure MapL (kk : κ → Value) (vv : ν → Value) (es : Array MapEntry) (c : Nat) (l : List (κ × ν)) : Prop where
  at_ : es.toList.map (fun x => (x.key, x.val)) = l.map fun p => (kk p.1, vv p.2)
  keys : (AC l).Nodup
  born : (es.toList.map (·.born)).Nodup
  old : ∀ x ∈ es.toList, x.born < c
theorem LF : MapL kk vv #[] c [] := ⟨rfl, List.nodup_nil, by simp, by simp⟩
theorem MapL.len (h : MapL kk vv es c l) : es.size = l.length := by
 have := congrArg List.length h.at_
 simpa using this
theorem MapL.erase (h : MapL kk vv es c l) {j : Nat} : MapL kk vv (es.eraseIdxIfInBounds j) c (l.eraseIdx j) := by
  have e : (es.eraseIdxIfInBounds j).toList = es.toList.eraseIdx j := by
    unfold Array.eraseIdxIfInBounds
    split
    · simp
    · rename_i hj
      rw [List.eraseIdx_of_length_le (by simpa using Nat.le_of_not_lt hj)]
  refine ⟨?_, ?_, ?_, ?_⟩
  · rw [e, Go.ChangeMaps.map_eraseIdx, h.at_, Go.ChangeMaps.map_eraseIdx]
  · exact List.Nodup.sublist ((List.eraseIdx_sublist ..).map _) h.keys
  · rw [e]; exact List.Nodup.sublist ((List.eraseIdx_sublist ..).map _) h.born
  · intro y hy
    rw [e] at hy
    exact h.old y (List.mem_of_mem_eraseIdx hy)
end mapl0
section mapl
variable {κ ν : Type} [DecidableEq κ] {kk : κ → Value} {vv : ν → Value} {es : Array MapEntry} {c : Nat} {l : List (κ × ν)}
theorem OG {kd : TypeDesc} (hs : ∀ a b, Instr.sameNow kd (kk a) (kk b) = some (decide (a = b))) (k : κ) : ∀ (E : List MapEntry) (l : List (κ × ν)) (i : Nat), E.map (fun x => (x.key, x.val)) = l.map (fun p => (kk p.1, vv p.2)) → Instr.findNow kd (kk k) E i = some ((EY k l i).map fun q => (q.1, vv q.2))
  | [], [], i, _ => rfl
  | [], p :: r, i, h => by simp at h
  | x :: E, [], i, h => by simp at h
  | x :: E, p :: r, i, h => by
    simp only [List.map_cons, List.cons.injEq, Prod.mk.injEq] at h
    obtain ⟨⟨h1, h2⟩, h3⟩ := h
    unfold Instr.findNow EY
    rw [h1, hs]
    by_cases e : p.1 = k
    · rw [decide_eq_true (Eq.symm e), if_pos e]
      simp [h2]
    · rw [decide_eq_false (fun e' => e e'.symm), if_neg e]
      exact OG hs k E r (i + 1) h3
theorem MapL.put (h : MapL kk vv es c l) {k : κ} {x : ν} {q : Nat × ν} (hq : EY k l 0 = some q) : MapL kk vv (es.modify q.1 fun e => { e with key := kk k, val := vv x }) c (Bd l k x) := by
  obtain ⟨_, h2⟩ := DG hq
  rw [Nat.sub_zero] at h2
  have hlt := (List.getElem?_eq_some_iff.1 h2).1
  have e : Bd l k x = l.set q.1 (k, x) := by unfold Bd; rw [hq]
  refine ⟨?_, CN h.keys, ?_, ?_⟩
  · rw [e, Array.toList_modify, List.map_set]
    refine List.ext_getElem? fun i => ?_
    rw [List.getElem?_map, List.getElem?_modify, List.getElem?_set]
    have hi := congrArg (fun z => z[i]?) h.at_
    simp only [List.getElem?_map] at hi
    by_cases hqi : q.1 = i
    · subst hqi
      rw [if_pos rfl, if_pos (by simpa using hlt)]
      rw [h2] at hi
      cases hE : es.toList[q.1]? with
      | none => rw [hE] at hi; simp at hi
      | some y => simp
    · rw [if_neg hqi]
      cases hE : es.toList[i]? with
      | none => rw [hE] at hi; simp [hqi] at hi ⊢; exact hi
      | some y => rw [hE] at hi; simp [hqi] at hi ⊢; exact hi
  · rw [Array.toList_modify]
    have e2 : (es.toList.modify q.1 fun e => { e with key := kk k, val := vv x }).map (·.born) = es.toList.map (·.born) := by
      refine List.ext_getElem? fun i => ?_
      rw [List.getElem?_map, List.getElem?_modify, List.getElem?_map]
      cases es.toList[i]? with
      | none => rfl
      | some y => simp; split <;> rfl
    rw [e2]; exact h.born
  · intro y hy
    rw [Array.toList_modify] at hy
    obtain ⟨i, hi⟩ := List.getElem?_of_mem hy
    rw [List.getElem?_modify] at hi
    cases hE : es.toList[i]? with
    | none => rw [hE] at hi; simp at hi
    | some u =>
      rw [hE] at hi
      have := h.old u (List.mem_of_getElem? hE)
      simp at hi
      rw [← hi]
      split <;> exact this
theorem MapL.push (h : MapL kk vv es c l) {k : κ} {x : ν} (hq : EY k l 0 = none) : MapL kk vv (es.push { key := kk k, val := vv x, born := c }) (c + 1) (Bd l k x) := by
  have e : Bd l k x = l ++ [(k, x)] := by unfold Bd; rw [hq]
  refine ⟨?_, CN h.keys, ?_, ?_⟩
  · rw [e, Array.toList_push, List.map_append, List.map_append, h.at_]; rfl
  · rw [Array.toList_push, List.map_append]
    refine List.nodup_append.2 ⟨h.born, by simp, fun a ha b hb e => ?_⟩
    obtain ⟨y, hy, rfl⟩ := List.mem_map.1 ha
    have := h.old y hy
    simp at hb
    omega
  · intro y hy
    rw [Array.toList_push] at hy
    rcases List.mem_append.1 hy with hy | hy
    · have := h.old y hy; omega
    · rw [List.mem_singleton.1 hy]; show c < c + 1; omega
end mapl
section runs
variable {P : Program} {κ ν : Type} [DecidableEq κ] {kk : κ → Value} {vv : ν → Value} {es : Array MapEntry} {c g : Nat} {l : List (κ × ν)} {w : World} {mt kt vt : TypeId} {kd : TypeDesc} {z : Value}
theorem F0 (hT : MapTy P mt kt vt kd kk z) (h : MapL kk vv es c l) (k : κ) : (Instr.findKey kt (kk k) es.toList).run P w = .ok ((EY k l 0).map fun q => (q.1, vv q.2)) w := by
 unfold Instr.findKey
 simp only [Sem.run_bind, run_underlying hT.hk, Result.andThen_ok, OG hT.same k es.toList l 0 h.at_]
 rfl
theorem LG (hT : MapTy P mt kt vt kd kk z) (h : MapL kk vv es c l) (hb : w.heap[g]? = some (.map es c)) (k : κ) (ok : Bool) : (Instr.lookup mt (.map (some g)) (kk k) ok).run P w = .ok (if ok then .tuple #[((AW l k).map vv).getD z, .bool (AW l k).isSome] else ((AW l k).map vv).getD z) w := by
  unfold Instr.lookup
  simp only [Sem.run_bind, run_underlying hT.ht, Result.andThen_ok, Go.MapKept.run_getObj_map hb, Sem.run_pure, hT.chk, F0 hT h]
  unfold AW
  cases EY k l 0 with
  | none => simp [hT.hz]
  | some q => simp
theorem G8 (hT : MapTy P mt kt vt kd kk z) (k : κ) (ok : Bool) : (Instr.lookup mt (.map none) (kk k) ok).run P w = .ok (if ok then .tuple #[z, .bool false] else z) w := by
 unfold Instr.lookup
 have hf : (Instr.findKey kt (kk k) ([] : List MapEntry)).run P w = .ok none w := by
  have := F0 (w := w) hT (LF (kk := kk) (vv := fun _ : Unit => z) (c := 0)) k
  simpa [EY] using this
 simp only [Sem.run_bind, run_underlying hT.ht, Result.andThen_ok, Sem.run_pure, hT.chk]
 simp [hf, hT.hz]
theorem VN (hT : MapTy P mt kt vt kd kk z) (h : MapL kk vv es c l) (hb : w.heap[g]? = some (.map es c)) (k : κ) (x : ν) : ∃ es' c', (Instr.mapUpdate mt (.map (some g)) (kk k) (vv x)).run P w = .ok () (setBlock w g (.map es' c')) ∧ MapL kk vv es' c' (Bd l k x) := by
  have hs : ∀ o, (setObj g o).run P w = .ok () (setBlock w g o) := fun o => by simp [setObj, Sem.run, hb, setBlock]
  cases hq : EY k l 0 with
  | none =>
    refine ⟨_, _, ?_, h.push hq⟩
    unfold Instr.mapUpdate
    simp only [Sem.run_bind, run_underlying hT.ht, Result.andThen_ok, Go.MapKept.run_getObj_map hb, hT.chk, F0 hT h, hq, Option.map_none, hs]
  | some q =>
    obtain ⟨_, h2⟩ := DG hq
    rw [Nat.sub_zero] at h2
    have hi := congrArg (fun z => z[q.1]?) h.at_
    simp only [List.getElem?_map, h2, Option.map_some] at hi
    obtain ⟨y, hy, he⟩ := Option.map_eq_some_iff.1 hi
    have hyk : y.key = kk k := by have := congrArg Prod.fst he; simpa using this
    have hy2 : es[q.1]? = some y := by rw [← hy, Array.getElem?_toList]
    refine ⟨_, _, ?_, h.put (x := x) hq⟩
    unfold Instr.mapUpdate
    simp only [Sem.run_bind, run_underlying hT.ht, Result.andThen_ok, Go.MapKept.run_getObj_map hb, hT.chk, F0 hT h, hq, Option.map_some, hy2, Option.getD_some, hyk, Instr.keyThatStays, hT.stays, if_true, Sem.run_pure, hs]
theorem VO (hT : MapTy P mt kt vt kd kk z) (h : MapL kk vv es c l) (hb : w.heap[g]? = some (.map es c)) (k : κ) (ty : TypeId) : ∃ es', (Builtin.delete_ #[mt, kt] ty #[.map (some g), kk k]).run P w = .ok (.tuple #[]) (setBlock w g (.map es' c)) ∧ MapL kk vv es' c (B8 l k) := by
  have hs : ∀ o, (setObj g o).run P w = .ok () (setBlock w g o) := fun o => by simp [setObj, Sem.run, hb, setBlock]
  have hv : (#[Value.map (some g), kk k] : Array Value)[1]? = some (kk k) := rfl
  cases hq : EY k l 0 with
  | none =>
    refine ⟨es, ?_, by unfold B8; rw [hq]; exact h⟩
    unfold Builtin.delete_
    simp [Sem.run_bind, run_underlying hT.ht, Go.MapKept.run_getObj_map hb, hT.chk, F0 hT h, hq, hs]
  | some q =>
    refine ⟨es.eraseIdxIfInBounds q.1, ?_, by unfold B8; rw [hq]; exact h.erase⟩
    unfold Builtin.delete_
    simp [Sem.run_bind, run_underlying hT.ht, Go.MapKept.run_getObj_map hb, hT.chk, F0 hT h, hq, hs]
end runs
end Go.Proofs.YtjcfimmcogkopaaGreatDoor.Sep
namespace Go.Proofs.YtjcfimmcogkopaaGreatDoor.Sep
variable {g : Nat} {mv : Value} {x y : Operand}
open Go.RowKit
open Go.ChangeMaps (setBlock)
open Go.Proofs.YtjcfimmcogkopaaGreatDoor.Mem (AG BC Chg Ak)
def Bn {κ ν : Type} (kk : κ → Value) (vv : ν → Value) (v : Value) (l : List (κ × ν)) : Ass := fun rs => ∃ g es c, v = .map (some g) ∧ rs = [(g, none, E3 es c)] ∧ MapL kk vv es c l
section mapt
variable {P : Program} {κ ν : Type} {kk : κ → Value} {vv : ν → Value} {l : List (κ × ν)} {v : Value} {B : Nat → Prop} {w0 w w' : World} {os : List Ass} {mt kt vt : TypeId} {kd : TypeDesc} {z : Value} {n : Nat} {env : List (Nat × Value)} {Q : Exit → Act → World → Prop} {o : Oper} {act : Act}
theorem Bn.is : ∀ rs, Bn kk vv v l rs → ∃ g, v = .map (some g) := fun _ ⟨g, _, _, h, _⟩ => ⟨g, h⟩
theorem Bn.nodup : ∀ rs, Bn kk vv v l rs → (AC l).Nodup := fun _ ⟨_, _, _, _, _, h⟩ => h.keys
theorem Hp.mapt (h : Hp B w0 w os) (i : Nat) (hi : os[i]? = some (Bn kk vv v l)) : ∃ g es c, v = .map (some g) ∧ w.heap[g]? = some (.map es c) ∧ MapL kk vv es c l := by
 obtain ⟨rs, ⟨g, es, c, h1, h2, h3⟩, hr⟩ := h.thing i hi
 subst h2
 exact ⟨g, es, c, h1, Dk.1 hr.1, h3⟩
theorem Jo {o : Obj} : Mod (N8 g) w (setBlock w g o) := ⟨rfl, rfl, rfl, by simp [setBlock], fun k _ hk => by
 have hk : k ≠ g := hk
 simp [setBlock, Array.getElem?_setIfInBounds_ne (Ne.symm hk)]⟩
theorem KD {o : Obj} (h : g < w.heap.size) : (setBlock w g o).heap[g]? = some o := by simp [setBlock, h]
theorem Hp.mapSet (h : Hp B w0 w os) (i : Nat) {X : Ass} (hi : os[i]? = some X) {es es' : Array MapEntry} {c c' : Nat} {Y : Ass} (hX : ∀ rs, X rs → RowsOf w rs → rs = [(g, none, E3 es c)] ∧ Y [(g, none, E3 es' c')]) (hg : g < w.heap.size) : Hp B w0 (setBlock w g (.map es' c')) (os.set i Y) :=
 h.turn i hi fun rs hx hr hd => by
  obtain ⟨e, hy⟩ := hX rs hx hr
  subst e
  exact ⟨_, hy, ⟨Jo.weaken fun k _ e => ⟨_, List.mem_singleton.2 rfl, (show k = g from e).symm⟩, ⟨Dk.2 (KD hg), trivial⟩, ⟨(fun _ h => by cases h), trivial⟩, fun x hx _ => by
   rw [List.mem_singleton.1 hx]
   exact ⟨_, List.mem_singleton.2 rfl, rfl⟩⟩⟩
end mapt
section ops
variable {P : Program} {κ ν : Type} [DecidableEq κ] {kk : κ → Value} {vv : ν → Value} {l : List (κ × ν)} {v : Value} {B : Nat → Prop} {w0 w w' : World} {os : List Ass} {mt kt vt : TypeId} {kd : TypeDesc} {z : Value} {n : Nat} {env : List (Nat × Value)} {Q : Exit → Act → World → Prop} {o : Oper} {act : Act}
theorem G9 (i : Nat) (hT : MapTy P mt kt vt kd kk z) (hi : os[i]? = some (Bn kk vv v l)) {k : κ} {r : Option ν} (hr : AW l k = r) (ho : o.op = .lookup mt x y false) (hx : evs env x = some v) (hy : evs env y = some (kk k)) (hH : Hp B w0 w os) (hF : Fr n act env) : (execOp act.eval o).run P w = .ok (.value ((r.map vv).getD z)) w := by
 obtain ⟨g, es, c, rfl, hb, hL⟩ := hH.mapt i hi
 subst hr
 unfold execOp
 simp only [ho, hF.evs hx, hF.evs hy, Sem.run_bind, LG hT hL hb, Result.andThen_ok, Sem.run_pure, Bool.false_eq_true, if_false]
theorem Xx (i : Nat) (hT : MapTy P mt kt vt kd kk z) (hi : os[i]? = some (Bn kk vv v l)) {k : κ} {r : Option ν} (hr : AW l k = r) (ho : o.op = .lookup mt x y true) (hx : evs env x = some v) (hy : evs env y = some (kk k)) (hH : Hp B w0 w os) (hF : Fr n act env) : (execOp act.eval o).run P w = .ok (.value (.tuple #[(r.map vv).getD z, .bool r.isSome])) w := by
 obtain ⟨g, es, c, rfl, hb, hL⟩ := hH.mapt i hi
 subst hr
 unfold execOp
 simp only [ho, hF.evs hx, hF.evs hy, Sem.run_bind, LG hT hL hb, Result.andThen_ok, Sem.run_pure, if_true]
theorem J3 (i : Nat) (hT : MapTy P mt kt vt kd kk z) (hi : os[i]? = some (Bn kk vv v l)) (k : κ) (a : ν) {u : Operand} (hd : o.dst = none) (ho : o.op = .mapUpdate mt x y u) (hx : evs env x = some v) (hy : evs env y = some (kk k)) (hu : evs env u = some (vv a)) {r : List (κ × ν)} (hr : Bd l k a = r) :
  AR P Q n env B w0 os o (fun _ : Unit => undef) (fun _ => os.set i (Bn kk vv v r)) := fun act w hH hF K hK => by
 obtain ⟨g, es, c, rfl, hb, hL⟩ := hH.mapt i hi
 subst hr
 obtain ⟨es', c', hrun, hL'⟩ := VN (P := P) hT hL hb k a
 have hrun2 : (execOp act.eval o).run P w = .ok .skip (setBlock w g (.map es' c')) := by
  unfold execOp
  simp only [ho, hF.evs hx, hF.evs hy, hF.evs hu, Sem.run_bind, hrun, Result.andThen_ok, Sem.run_pure]
 unfold Oper.wp
 rw [hrun2, Oper.upon_skip]
 have := hK () _ (hH.mapSet i hi (es := es) (c := c) (fun rs h1 h2 => by
  obtain ⟨g2, es2, c2, e1, e2, h3⟩ := h1
  cases e1
  subst e2
  have h4 := (Dk.1 h2.1 : w.heap[g]? = some (.map es2 c2))
  rw [hb] at h4
  cases h4
  exact ⟨rfl, ⟨g, es', c', rfl, rfl, hL'⟩⟩) (Array.getElem?_eq_some_iff.1 hb).1)
 rw [hd] at this ⊢
 exact this
theorem P2 (i : Nat) (hT : MapTy P mt kt vt kd kk z) (hi : os[i]? = some (Bn kk vv v l)) (k : κ) (ho : o.op = .call { callee := .builtin .delete, args := #[x, y], argTypes := #[mt, kt] }) (hx : evs env x = some v) (hy : evs env y = some (kk k)) {r : List (κ × ν)} (hr : B8 l k = r) :
  AR P Q n env B w0 os o (fun _ : Unit => .tuple #[]) (fun _ => os.set i (Bn kk vv v r)) := fun act w hH hF K hK => by
 obtain ⟨g, es, c, rfl, hb, hL⟩ := hH.mapt i hi
 subst hr
 obtain ⟨es', hrun, hL'⟩ := VO (P := P) hT hL hb k o.type
 have hrun2 : (execOp act.eval o).run P w = .ok (.value (.tuple #[])) (setBlock w g (.map es' c)) := FM ho (vs := [.map (some g), kk k]) (by simp [evl, hx, hy]) (fun cs => by simp [builtin, hrun]) hF
 exact Fm (w0 := w) act hrun2 (hK () _ (hH.mapSet i hi (es := es) (c := c) (fun rs h1 h2 => by
  obtain ⟨g2, es2, c2, e1, e2, h3⟩ := h1
  cases e1
  subst e2
  have h4 := (Dk.1 h2.1 : w.heap[g]? = some (.map es2 c2))
  rw [hb] at h4
  cases h4
  exact ⟨rfl, ⟨g, es', c, rfl, rfl, hL'⟩⟩) (Array.getElem?_eq_some_iff.1 hb).1))
end ops
theorem Jp : ∀ {l : List MapEntry} {j : Nat} {e : MapEntry}, (l.map (·.born)).Nodup → l[j]? = some e → l.filter (fun x => !(x.born == e.born)) = l.eraseIdx j
  | [], _, _, _, h => by simp at h
  | x :: r, 0, e, hn, h => by
    simp only [List.getElem?_cons_zero, Option.some.injEq] at h
    subst h
    obtain ⟨h1, _⟩ := List.nodup_cons.1 (show (x.born :: r.map (·.born)).Nodup from hn)
    rw [List.eraseIdx_cons_zero, List.filter_cons, if_neg (by simp)]
    refine List.filter_eq_self.2 fun y hy => ?_
    have : y.born ≠ x.born := fun e => h1 (e ▸ List.mem_map_of_mem (f := (·.born)) hy)
    simpa using this
  | x :: r, j + 1, e, hn, h => by
    simp only [List.getElem?_cons_succ] at h
    obtain ⟨h1, h2⟩ := List.nodup_cons.1 (show (x.born :: r.map (·.born)).Nodup from hn)
    have hx : x.born ≠ e.born := fun e2 => h1 (by rw [e2]; exact List.mem_map_of_mem (f := (·.born)) (List.mem_of_getElem? h))
    rw [List.eraseIdx_cons_succ, List.filter_cons, if_pos (by simpa using hx), Jp h2 h]
section more
variable {P : Program} {κ ν : Type} {kk : κ → Value} {vv : ν → Value} {l left : List (κ × ν)} {v it : Value} {B : Nat → Prop} {w0 w w' : World} {os : List Ass} {mt kt vt : TypeId} {n : Nat} {env : List (Nat × Value)} {Q : Exit → Act → World → Prop} {o : Oper} {act : Act}
theorem P3 (i : Nat) (ht : P.underlying mt = some (.map kt vt)) (hi : os[i]? = some (Bn kk vv v l)) (ho : o.op = .call { callee := .builtin .len, args := #[x], argTypes := #[mt] }) (hx : evs env x = some v) (hH : Hp B w0 w os) (hF : Fr n act env) : (execOp act.eval o).run P w = .ok (.value (.int .i64 (l.length : Int))) w := by
 obtain ⟨g, es, c, rfl, hb, hL⟩ := hH.mapt i hi
 exact FM ho (vs := [.map (some g)]) (by simp [evl, hx]) (fun cs => by
  have := hL.len
  simp [builtin, Builtin.len_, run_underlying ht, Builtin.lenOf, Go.MapKept.run_getObj_map hb, goInt, this]) hF
theorem LH {rs : List RowT} (h : Mem.Hp B w0 w rs) (o : Obj) {cs : Array Value} (hx : CC (w.alloc o) (w.heap.size, none, cs)) : Mem.Hp B w0 (w.alloc o) ((w.heap.size, none, cs) :: rs) :=
  ⟨h.up.alloc _, ⟨hx, h.rows.map_ fun _ _ r => r.alloc _⟩, ⟨fun y hy => by have := (h.rows.mem y hy).lt; show y.1 ≠ w.heap.size; omega, h.apart⟩, fun x hx hlt => by
    rcases List.mem_cons.1 hx with rfl | hx
    · have := h.up.size; exact absurd hlt (by show ¬ w.heap.size < w0.heap.size; omega)
    · exact h.own x hx hlt⟩
theorem Rk {r : Option Operand} (hr : r = none) (ho : o.op = .makeMap mt r) : AR P Q n env B w0 os o (fun g : Nat => .map (some g)) (fun g => Bn kk vv (.map (some g)) [] :: os) := fun act w hH hF K hK => by
 subst hr
 have hrun : (execOp act.eval o).run P w = .ok (.value (.map (some w.heap.size))) (w.alloc (.map #[] 0)) := by
  unfold execOp
  simp [ho, Instr.makeMap, newObj, Sem.run]
 obtain ⟨rs, h1, h2⟩ := hH
 exact Fm (w0 := w) act hrun (hK w.heap.size _ ⟨_, ⟨[(w.heap.size, none, E3 #[] 0)], rs, rfl, ⟨w.heap.size, #[], 0, rfl, rfl, LF⟩, h1⟩, LH h2 _ (Dk.2 (heap_alloc_new w _))⟩)
def Ij (kk : κ → Value) (vv : ν → Value) (mv it : Value) (l left : List (κ × ν)) (cur : Option (κ × ν)) : Ass := fun rs => ∃ g r es c since seen, mv = .map (some g) ∧ it = .pointer (some ⟨r, 0, none⟩) ∧ rs = [(g, none, E3 es c), (r, none, DT g since seen c)] ∧ MapL kk vv es c l ∧ (Go.leftOf es seen).toList.map (fun x => (x.key, x.val)) = left.map (fun p => (kk p.1, vv p.2)) ∧ (∀ x ∈ es.toList, x.born < since) ∧ since ≤ c ∧ g ≠ r ∧ (∀ p, cur = some p → ∃ (seen' : Array Nat) (e : MapEntry), seen = seen'.push e.born ∧ e ∈ es.toList ∧ e.key = kk p.1 ∧ e.val = vv p.2)
def Xy : Ass := fun rs => ∃ x, rs = [x]
theorem MT {cur : Option (κ × ν)} : ∀ rs, Ij kk vv mv it l left cur rs → ∃ _ : Unit, Ae [Bn kk vv mv l, Xy] rs := fun rs ⟨g, r, es, c, since, seen, h1, _, h3, h4, _⟩ => ⟨(), [(g, none, E3 es c)], [(r, none, DT g since seen c)], h3, ⟨g, es, c, h1, rfl, h4⟩, [(r, none, DT g since seen c)], [], rfl, ⟨_, rfl⟩, rfl⟩
theorem Hp.rngt {cur : Option (κ × ν)} (h : Hp B w0 w os) (i : Nat) (hi : os[i]? = some (Ij kk vv mv it l left cur)) : ∃ g r es c since seen, mv = .map (some g) ∧ it = .pointer (some ⟨r, 0, none⟩) ∧ w.heap[g]? = some (.map es c) ∧ w.heap[r]? = some (.mapIter (some g) since seen c) ∧ MapL kk vv es c l ∧ (Go.leftOf es seen).toList.map (fun x => (x.key, x.val)) = left.map (fun p => (kk p.1, vv p.2)) ∧ (∀ x ∈ es.toList, x.born < since) ∧ since ≤ c ∧ g ≠ r ∧ (∀ p, cur = some p → ∃ (seen' : Array Nat) (e : MapEntry), seen = seen'.push e.born ∧ e ∈ es.toList ∧ e.key = kk p.1 ∧ e.val = vv p.2) := by
 obtain ⟨rs, ⟨g, r, es, c, since, seen, h1, h2, h3, h4, h5⟩, hr⟩ := h.thing i hi
 subst h3
 exact ⟨g, r, es, c, since, seen, h1, h2, Dk.1 hr.1, HP.1 hr.2.1, h4, h5⟩
theorem Rl (i : Nat) (ht : P.underlying mt = some (.map kt vt)) (hi : os[i]? = some (Bn kk vv v l)) (ho : o.op = .range mt x) (hx : evs env x = some v) : AR P Q n env B w0 os o (fun r : Nat => .pointer (some ⟨r, 0, none⟩)) (fun r => os.set i (Ij kk vv v (.pointer (some ⟨r, 0, none⟩)) l l none)) := fun act w hH hF K hK => by
  obtain ⟨g, es, c, rfl, hb, hL⟩ := hH.mapt i hi
  have hg := (Array.getElem?_eq_some_iff.1 hb).1
  have hrun : (execOp act.eval o).run P w = .ok (.value (.pointer (some ⟨w.heap.size, 0, none⟩))) (w.alloc (.mapIter (some g) c #[] c)) := by
    unfold execOp
    simp [ho, hF.evs hx, Instr.range, run_underlying ht, Go.MapKept.run_getObj_map hb, newObj, Sem.run]
  refine Fm (w0 := w) act hrun (hK w.heap.size _ (hH.turn i hi fun rs h1 h2 h3 => ?_))
  obtain ⟨g2, es2, c2, e1, e2, h4⟩ := h1
  cases e1
  subst e2
  have h5 : w.heap[g]? = some (.map es2 c2) := Dk.1 h2.1
  rw [hb] at h5
  cases h5
  refine ⟨[(g, none, E3 es c), (w.heap.size, none, DT g c #[] c)], ⟨g, w.heap.size, es, c, c, #[], rfl, rfl, rfl, hL, ?_, hL.old, Nat.le_refl _, by omega, fun p h => by cases h⟩, ?_⟩
  · have : Go.leftOf es #[] = es := by unfold Go.leftOf; simp
    rw [this]; exact hL.at_
  · refine ⟨Mod.of_below ((Below.refl _ w).alloc (Nat.le_refl _) _) _, ⟨(h2.1).alloc _, HP.2 (heap_alloc_new w _), trivial⟩, ⟨fun y hy => by
      rw [List.mem_singleton.1 hy]; show w.heap.size ≠ g; omega, (fun _ h => by cases h), trivial⟩, fun x hx hlt => ?_⟩
    rcases List.mem_cons.1 hx with rfl | hx
    · exact ⟨_, List.mem_singleton.2 rfl, rfl⟩
    · rw [List.mem_singleton.1 hx] at hlt
      exact absurd hlt (Nat.lt_irrefl _)
theorem Rm (i : Nat) {cur : Option (κ × ν)} (hi : os[i]? = some (Ij kk vv mv it l left cur)) (hl : left = []) (ho : o.op = .next x false) (hx : evs env x = some it) (hH : Hp B w0 w os) (hF : Fr n act env) : (execOp act.eval o).run P w = .ok (.value (.tuple #[.bool false])) w := by
  obtain ⟨g, r, es, c, since, seen, rfl, rfl, hb, hr, hL, hle, hold, hsc, hne, _⟩ := hH.rngt i hi
  subst hl
  have hs : (Go.leftOf es seen).toList = [] := by simpa using hle
  unfold execOp
  rcases Go.run_next_at (P := P) w o.type r g since c seen es c hr hb hold hsc with ⟨_, h2⟩ | ⟨e, he, _⟩
  · simp only [ho, hF.evs hx, Sem.run_bind, h2, Result.andThen_ok, Sem.run_pure]
  · rw [hs] at he; cases he
theorem Rn (i : Nat) {cur : Option (κ × ν)} (hi : os[i]? = some (Ij kk vv mv it l left cur)) (hl : left ≠ []) (ho : o.op = .next x false) (hx : evs env x = some it) :
    AR P Q n env B w0 os o (fun q : { q : Nat × κ × ν // left[q.1]? = some q.2 } => .tuple #[.bool true, kk q.1.2.1, vv q.1.2.2]) (fun q => os.set i (Ij kk vv mv it l (left.eraseIdx q.1.1) (some q.1.2))) := fun act w hH hF K hK => by
  obtain ⟨g, r, es, c, since, seen, rfl, rfl, hb, hr, hL, hle, hold, hsc, hne, _⟩ := hH.rngt i hi
  rcases Go.run_next_at (P := P) w o.type r g since c seen es c hr hb hold hsc with ⟨h1, _⟩ | ⟨e, he, w1, hw1, hrun⟩
  · exfalso
    have := congrArg List.length hle
    simp only [List.length_map] at this
    have h2 : (Go.leftOf es seen).toList.length = 0 := by simpa using h1
    exact hl (List.eq_nil_of_length_eq_zero (by omega))
  · obtain ⟨j, hj⟩ := List.getElem?_of_mem he
    have hj2 := congrArg (fun z => z[j]?) hle
    simp only [List.getElem?_map, hj, Option.map_some] at hj2
    obtain ⟨p, hp, hpe⟩ := Option.map_eq_some_iff.1 hj2.symm
    have hk : e.key = kk p.1 := (congrArg Prod.fst hpe).symm
    have hv : e.val = vv p.2 := (congrArg Prod.snd hpe).symm
    have hee : e ∈ es.toList := by
      have : e ∈ (Go.leftOf es seen).toList := he
      unfold Go.leftOf at this
      simp at this ⊢
      exact this.1
    have hrun2 : (execOp act.eval o).run P w = .ok (.value (.tuple #[.bool true, kk p.1, vv p.2])) (setBlock w1 r (.mapIter (some g) since (seen.push e.born) c)) := by
      unfold execOp
      simp only [ho, hF.evs hx, Sem.run_bind, hrun, Result.andThen_ok, Sem.run_pure, hk, hv]
    have hH1 : Hp B w0 w1 os := by
      rcases hw1 with rfl | rfl
      · exact hH
      · exact hH.drew
    have hr1 : w1.heap[r]? = some (.mapIter (some g) since seen c) := by rcases hw1 with rfl | rfl <;> exact hr
    have hb1 : w1.heap[g]? = some (.map es c) := by rcases hw1 with rfl | rfl <;> exact hb
    have hrl := (Array.getElem?_eq_some_iff.1 hr1).1
    refine Fm (w0 := w) act hrun2 (hK ⟨(j, p), hp⟩ _ (hH1.turn i hi fun rs h1 h2 h3 => ?_))
    obtain ⟨g2, r2, es2, c2, since2, seen2, e1, e2, e3, _⟩ := h1
    cases e1
    cases e2
    subst e3
    have h5 : w1.heap[g]? = some (.map es2 c2) := Dk.1 h2.1
    have h6 : w1.heap[r]? = some (.mapIter (some g) since2 seen2 c2) := HP.1 h2.2.1
    rw [hb1] at h5
    cases h5
    rw [hr1] at h6
    cases h6
    refine ⟨[(g, none, E3 es c), (r, none, DT g since (seen.push e.born) c)], ⟨g, r, es, c, since, seen.push e.born, rfl, rfl, rfl, hL, ?_, hold, hsc, hne, fun q hq => by cases hq; exact ⟨seen, e, rfl, hee, hk, hv⟩⟩, ?_⟩
    · have h7 : (Go.leftOf es (seen.push e.born)).toList = (Go.leftOf es seen).toList.eraseIdx j := by
        have hnd : ((Go.leftOf es seen).toList.map (·.born)).Nodup := by
          unfold Go.leftOf
          rw [Array.toList_filter]
          exact List.Nodup.sublist (List.Sublist.map _ List.filter_sublist) hL.born
        have h8 : (Go.leftOf es (seen.push e.born)).toList = (Go.leftOf es seen).toList.filter (fun x => !(x.born == e.born)) := by
          unfold Go.leftOf
          rw [Array.toList_filter, Array.toList_filter, List.filter_filter]
          refine List.filter_congr fun x _ => ?_
          rw [Bool.eq_iff_iff]
          simp [not_or, and_comm]
        rw [h8]
        exact Jp hnd hj
      rw [h7, Go.ChangeMaps.map_eraseIdx, hle, Go.ChangeMaps.map_eraseIdx]
    · refine ⟨Jo.weaken fun k _ e => ⟨(r, none, DT g since seen c), by simp, (show k = r from e).symm⟩, ⟨Dk.2 ?_, HP.2 (KD hrl), trivial⟩, AT.2 (by have := AT.1 h3; simpa using this), fun x hx _ => ?_⟩
      · have : (setBlock w1 r (.mapIter (some g) since (seen.push e.born) c)).heap[g]? = w1.heap[g]? := by simp [setBlock, Array.getElem?_setIfInBounds_ne (Ne.symm hne)]
        rw [this]; exact hb1
      · rcases List.mem_cons.1 hx with rfl | hx
        · exact ⟨(g, none, E3 es c), by simp, rfl⟩
        · rw [List.mem_singleton.1 hx]
          exact ⟨(r, none, DT g since seen c), by simp, rfl⟩
theorem Ro (i : Nat) {p : κ × ν} (hi : os[i]? = some (Ij kk vv mv it l left (some p))) (ho : o.op = .entry x) (hx : evs env x = some it) (hH : Hp B w0 w os) (hF : Fr n act env) : (execOp act.eval o).run P w = .ok (.value (.tuple #[kk p.1, vv p.2])) w := by
 obtain ⟨g, r, es, c, since, seen, rfl, rfl, hb, hr, hL, hle, hold, hsc, hne, hc⟩ := hH.rngt i hi
 obtain ⟨seen', e, rfl, he, hk, hv⟩ := hc p rfl
 unfold execOp
 simp only [ho, hF.evs hx, Sem.run_bind, Go.run_entry_at (P := P) w r g since seen' es c e hr hb he hL.born, Result.andThen_ok, Sem.run_pure, hk, hv]
end more
end Go.Proofs.YtjcfimmcogkopaaGreatDoor.Sep
namespace Go.Proofs.YtjcfimmcogkopaaGreatDoor
variable {f f' : Nat} {l l' : List UInt8}
structure Good {α : Type} (P : List UInt8 → Nat → α × List UInt8 × Nat) (enc : α → List UInt8) (dom rng : α → Prop) : Prop where
  lay : ∀ x r, dom x → P (enc x ++ r) 0 = (x, r, 0)
  back : ∀ l f, (P l f).2.2 = 0 → f = 0 ∧ l = enc (P l f).1 ++ (P l f).2.1
  ok : ∀ l f, rng (P l f).1
theorem H9 (most : Nat) : Good (AU most) (fun n => [UInt8.ofNat n]) (fun n => n ≤ most ∧ n < 256) (fun n => n < 256) where
 lay n r h := by
  have e := La n (by omega)
  exact (Sk most _ r (by omega)).trans (by rw [e])
 back l f h := by
  obtain ⟨h1, _, _, h2⟩ := OE h
  exact ⟨h1, h2⟩
 ok l f := LA most l f
theorem Jq (most : Nat) : Good (B7 most) DA (fun n => n ≤ most ∧ n < 18446744073709551616) (fun n => n < 18446744073709551616) where
 lay n r h := TV most n r h.1 h.2
 back _ _ h := Sj h
 ok l f := K9 most l f
def P4 (t : List UInt8) : List UInt8 := DA t.length ++ t
theorem MU (most : Int) : Good (Cb most) P4 (fun t => (t.length : Int) ≤ most ∧ t.length < 18446744073709551616) (fun _ => True) where
 lay t r h := Sl most t r h.1 h.2
 back _ _ h := PY h
 ok _ _ := trivial
structure EntD where
  k : Int
  t : Int
  i : Int
  d : List UInt8
  c : Int
deriving DecidableEq
def EntD.zero : EntD := ⟨0, 0, 0, [], 0⟩
structure EntD.ok (e : EntD) : Prop where
  k : Rf e.k
  t : PI e.t
  i : PI e.i
  d : e.d.length ≤ 9223372036854775807
  c : Rf e.c
def K3 (c : Int) : Bool := decide (c ≥ 0) && decide (c ≤ 254) && decide (c % 2 = 0)
theorem T1 {c : Int} (h : K3 c = true) : 0 ≤ c ∧ c ≤ 254 ∧ c % 2 = 0 := by
 unfold K3 at h
 simp at h
 omega
def Fu (e : EntD) : Bool :=
  if e.k = 0 then e.d == [] && e.c == 0
  else if e.k = 1 then decide (1 ≤ e.d.length) && decide (e.d.length ≤ 128) && e.c == 0
  else if e.k = 2 then e.d == [] && K3 e.c && e.c != 0
  else false
def Be (e : EntD) : Bool := GP e.t && (GP e.i && Fu e)
theorem EB {e : EntD} (h : Be e = true) : (1 ≤ e.t ∧ e.t ≤ 72057594037927935) ∧ (1 ≤ e.i ∧ e.i ≤ 72057594037927935) ∧ ((e.k = 0 ∧ e.d = [] ∧ e.c = 0) ∨ (e.k = 1 ∧ 1 ≤ e.d.length ∧ e.d.length ≤ 128 ∧ e.c = 0) ∨ (e.k = 2 ∧ e.d = [] ∧ 0 < e.c ∧ e.c ≤ 254 ∧ e.c % 2 = 0)) := by
  unfold Be at h
  simp only [Bool.and_eq_true] at h
  obtain ⟨h1, h2, h3⟩ := h
  refine ⟨OD h1, OD h2, ?_⟩
  unfold Fu at h3
  split at h3
  · rename_i hk
    simp at h3
    exact .inl ⟨hk, h3.1, h3.2⟩
  · split at h3
    · rename_i hk
      simp at h3
      exact .inr (.inl ⟨hk, by omega, by omega, h3.2⟩)
    · split at h3
      · rename_i hk
        simp only [Bool.and_eq_true, beq_iff_eq, bne_iff_ne, ne_eq] at h3
        have hs := T1 h3.1.2
        have hn := h3.2
        exact .inr (.inr ⟨hk, h3.1.1, by omega, hs.2.1, hs.2.2⟩)
      · cases h3
def Ec (e : EntD) : List UInt8 := if e.k = 1 then P4 e.d else if e.k = 2 then [UInt8.ofNat e.c.toNat] else []
def BR (e : EntD) : List UInt8 := UInt8.ofNat e.k.toNat :: (FZ e.t ++ (FZ e.i ++ Ec e))
theorem T2 {t : List UInt8} (h : t.length ≤ 128) : (P4 t).length ≤ 130 := by
 unfold P4
 have := DL 1 t.length (by omega)
 rw [List.length_append]
 omega
theorem Dq {e : EntD} (h : Be e = true) : (BR e).length ≤ 147 := by
  obtain ⟨h1, h2, h3⟩ := EB h
  have a1 := H7 h1.2
  have a2 := H7 h2.2
  have a3 : (Ec e).length ≤ 130 := by
    unfold Ec
    split
    · refine T2 ?_
      rcases h3 with ⟨_, h, _⟩ | ⟨_, _, h, _⟩ | ⟨_, h, _⟩
      · rw [h]; simp
      · exact h
      · rw [h]; simp
    · split <;> simp
  unfold BR
  simp only [List.length_cons, List.length_append]
  omega
def GH (n : Nat) (l : List UInt8) (f : Nat) : (List UInt8 × Nat) × List UInt8 × Nat :=
  if n = 1 then (((Cb 128 l f).1, 0), (Cb 128 l f).2) else if n = 2 then (([], (AU 254 l f).1), (AU 254 l f).2) else (([], 0), l, f)
theorem J4 {x : List UInt8} (h : Cb 128 l f = (x, l', f')) : GH 1 l f = ((x, 0), l', f') := by
 unfold GH
 rw [if_pos rfl, h]
theorem J5 {c : Nat} (h : AU 254 l f = (c, l', f')) : GH 2 l f = (([], c), l', f') := by
 unfold GH
 rw [if_neg (by omega), if_pos rfl, h]
theorem IK {n : Nat} (l : List UInt8) (f : Nat) (h1 : n ≠ 1) (h2 : n ≠ 2) : GH n l f = (([], 0), l, f) := by
 unfold GH
 rw [if_neg h1, if_neg h2]
def Jr (l : List UInt8) : EntD × List UInt8 × Nat :=
  match AU 2 l 0 with
  | (n0, l0, f0) => match B7 72057594037927935 l0 f0 with
    | (n1, l1, f1) => match B7 72057594037927935 l1 f1 with
      | (n2, l2, f2) => match GH n0 l2 f2 with
        | ((x, c), l3, f3) => (⟨(n0 : Int), (n1 : Int), (n2 : Int), x, (c : Int)⟩, l3, f3)
theorem Ha {l0 l1 l2 l3 x : List UInt8} {n0 n1 n2 c f0 f1 f2 f3 : Nat} (h0 : AU 2 l 0 = (n0, l0, f0)) (h1 : B7 72057594037927935 l0 f0 = (n1, l1, f1)) (h2 : B7 72057594037927935 l1 f1 = (n2, l2, f2)) (h3 : GH n0 l2 f2 = ((x, c), l3, f3)) :
  Jr l = (⟨(n0 : Int), (n1 : Int), (n2 : Int), x, (c : Int)⟩, l3, f3) := by
 simp only [Jr, h0, h1, h2, h3]
def Ed (l : List UInt8) : EntD × Nat :=
  if 160 < l.length then (.zero, 12)
  else match Jr l with
    | (e, l', f') => if EZ l' f' ≠ 0 then (.zero, EZ l' f') else if Be e then (e, 0) else (.zero, 11)
theorem MV (h : 160 < l.length) : Ed l = (.zero, 12) := by
 unfold Ed
 rw [if_pos h]
theorem Js {e : EntD} (h : ¬ 160 < l.length) (hr : Jr l = (e, l', f')) (hf : EZ l' f' ≠ 0) : Ed l = (.zero, EZ l' f') := by
 unfold Ed
 rw [if_neg h, hr]
 simp only
 rw [if_pos hf]
theorem Gs {e : EntD} (h : ¬ 160 < l.length) (hr : Jr l = (e, l', f')) (hf : EZ l' f' = 0) (hR : Be e = false) : Ed l = (.zero, 11) := by
 unfold Ed
 rw [if_neg h, hr]
 simp only
 rw [if_neg (by simp [hf]), hR]
 rfl
theorem Fv {e : EntD} (h : ¬ 160 < l.length) (hr : Jr l = (e, l', f')) (hf : EZ l' f' = 0) (hR : Be e = true) : Ed l = (e, 0) := by
 unfold Ed
 rw [if_neg h, hr]
 simp only
 rw [if_neg (by simp [hf]), hR]
 rfl
theorem Sp {e : EntD} (h : Be e = true) : Jr (BR e) = (e, [], 0) := by
  obtain ⟨h1, h2, h3⟩ := EB h
  have hk : e.k = 0 ∨ e.k = 1 ∨ e.k = 2 := by omega
  have e0 : AU 2 (BR e) 0 = (e.k.toNat, FZ e.t ++ (FZ e.i ++ Ec e), 0) := (H9 2).lay e.k.toNat _ (by omega)
  have e1 : B7 72057594037927935 (FZ e.t ++ (FZ e.i ++ Ec e)) 0 = (e.t.toNat, FZ e.i ++ Ec e, 0) := (Jq _).lay e.t.toNat _ (by omega)
  have e2 : B7 72057594037927935 (FZ e.i ++ Ec e) 0 = (e.i.toNat, Ec e, 0) := (Jq _).lay e.i.toNat _ (by omega)
  have e3 : GH e.k.toNat (Ec e) 0 = ((e.d, e.c.toNat), [], 0) := by
    rcases h3 with ⟨hk, hd, hc⟩ | ⟨hk, hd, hd', hc⟩ | ⟨hk, hd, hc, hc', _⟩
    · rw [IK _ _ (by omega) (by omega), hd, hc]
      unfold Ec
      rw [if_neg (by omega), if_neg (by omega)]
      rfl
    · rw [show e.k.toNat = 1 by omega, hc]
      refine J4 ?_
      unfold Ec
      rw [if_pos hk]
      have := (MU 128).lay e.d [] ⟨by omega, by omega⟩
      rwa [List.append_nil] at this
    · rw [show e.k.toNat = 2 by omega, hd]
      refine J5 ?_
      unfold Ec
      rw [if_neg (by omega), if_pos hk]
      exact (H9 254).lay e.c.toNat [] (by omega)
  have hc : 0 ≤ e.c := by omega
  rw [Ha e0 e1 e2 e3]
  rw [show ((e.k.toNat : Nat) : Int) = e.k by omega, show ((e.t.toNat : Nat) : Int) = e.t by omega, show ((e.i.toNat : Nat) : Int) = e.i by omega, show ((e.c.toNat : Nat) : Int) = e.c by omega]
end Go.Proofs.YtjcfimmcogkopaaGreatDoor
namespace Go.Proofs.YtjcfimmcogkopaaGreatDoor.Sep
variable {j off : Nat} {ys : List Value}
open Go.RowKit
open Go.Proofs.YtjcfimmcogkopaaGreatDoor.Mem (AG BC Chg)
def AE {α : Type} (f : α → Ass) (l : List α) : Ass := fun rs => Ae (l.map f) rs
section
variable {α : Type} {f : α → Ass} {l : List α} {B : Nat → Prop} {w0 w w' : World} {os : List Ass}
theorem C0 : AE f [] [] := rfl
theorem AE.push {x : α} {a b : List RowT} (h : AE f l a) (h' : f x b) : AE f (l ++ [x]) (a ++ b) := by
 unfold AE
 rw [List.map_append]
 exact Ae.app h (Ae.one h')
theorem Gt {x : α} : ∀ rs, Ae [AE f l, f x] rs → AE f (l ++ [x]) rs := fun rs h => by
 obtain ⟨a, b, e, h1, h2⟩ := h
 subst e
 exact h1.push (Ae.one' h2)
theorem MW {x : α} (hj : l[j]? = some x) : ∀ rs, AE f l rs → ∃ _ : Unit, Ae [AE f (l.take j), f x, AE f (l.drop (j + 1))] rs := fun rs h => by
  have e : l = l.take j ++ (x :: l.drop (j + 1)) := by
    have hlt := (List.getElem?_eq_some_iff.1 hj).1
    have hx := (List.getElem?_eq_some_iff.1 hj).2
    rw [← hx, ← List.drop_eq_getElem_cons hlt, List.take_append_drop]
  unfold AE at h
  rw [e, List.map_append] at h
  obtain ⟨a, b, rfl, h1, h2⟩ := h.split
  obtain ⟨c, d, rfl, h3, h4⟩ := h2
  refine ⟨(), a, c ++ d, rfl, ?_, c, d, rfl, h3, d, [], by simp, ?_, rfl⟩
  · exact h1
  · exact h4
theorem MX {a b : List α} {y : α} : ∀ rs, Ae [AE f a, f y, AE f b] rs → AE f (a ++ y :: b) rs := fun rs h => by
 obtain ⟨p, q, rfl, h1, c, d, rfl, h2, h3⟩ := h
 have h3 := Ae.one' h3
 unfold AE
 rw [List.map_append]
 exact Ae.app h1 ⟨c, d, rfl, h2, h3⟩
theorem OH {y : α} (hj : j < l.length) : l.take j ++ y :: l.drop (j + 1) = l.set j y := by
 rw [List.set_eq_take_append_cons_drop, if_pos hj]
theorem AE.at_ {j : Nat} {x : α} {rs : List RowT} (h : AE f l rs) (hr : RowsOf w rs) (hj : l[j]? = some x) : ∃ ys, f x ys ∧ RowsOf w ys := by
 obtain ⟨a, y, b, e, h1, _⟩ := Ae.at_ (i := j) (o := f x) h (by simp [hj])
 exact ⟨y, h1, AZ.2 fun z hz => AZ.1 hr z (by rw [e]; simp [hz])⟩
theorem Hp.each (h : Hp B w0 w os) (i : Nat) (hi : os[i]? = some (AE f l)) {x : α} (hj : l[j]? = some x) : ∃ ys, f x ys ∧ RowsOf w ys := by
 obtain ⟨rs, h1, h2⟩ := h.thing i hi
 exact h1.at_ h2 hj
end
section
variable {P : Program} {ops : Array Oper} {Q : Exit → Act → World → Prop} {n : Nat} {env : List (Nat × Value)} {B : Nat → Prop} {w0 : World} {os : List Ass} {α : Type}
end
section
variable {P : Program} {Q : Exit → Act → World → Prop} {n : Nat} {env : List (Nat × Value)} {B : Nat → Prop} {w0 : World} {os : List Ass} {o : Oper} {e : TypeId} {k : Nat} {α : Type} {enc : α → List Value} {v : Value} {l : List α}
theorem Sr (he : EncOf k enc) {a b : α} (hj : l[j]? = some a) (hoff : off + ys.length ≤ k) (hb : over? (enc a) off ys = enc b) :
  (flat enc l).take (j * k + off) ++ ys ++ (flat enc l).drop (j * k + off + ys.length) = flat enc (l.set j b) := by
 have hlt := (List.getElem?_eq_some_iff.1 hj).1
 have hx := (List.getElem?_eq_some_iff.1 hj).2
 rw [← TL he hlt b, ← hb]
 unfold over?
 have e1 : (flat enc l).take (j * k + off) = (flat enc l).take (j * k) ++ (enc a).take off := by
  rw [List.take_add, ← Ny he hj, List.take_take, Nat.min_eq_left (by omega)]
 have e2 : (flat enc l).drop (j * k + off + ys.length) = (enc a).drop (off + ys.length) ++ (flat enc l).drop (j * k + k) := by
  rw [← Ny he hj, List.drop_take, List.drop_drop, Nat.add_assoc]
  have h1 : (flat enc l).drop (j * k + k) = ((flat enc l).drop (j * k + (off + ys.length))).drop (k - (off + ys.length)) := by
   rw [List.drop_drop]; congr 1; omega
  rw [h1, List.take_append_drop]
 rw [e1, e2]
 simp only [List.append_assoc]
theorem Ss {cs : List Value} {p q : Nat} (h : p + ys.length ≤ q) (hq : q ≤ cs.length) : (over? cs p ys).take q = over? (cs.take q) p ys := by
 unfold over?
 have hA : (cs.take p ++ ys).length = p + ys.length := by rw [List.length_append, List.length_take]; omega
 rw [List.take_append, hA, List.take_of_length_le (by omega), List.take_take, Nat.min_eq_left (by omega), List.drop_take]
theorem LI (i : Nat) (he : EncOf k enc) (hi : os[i]? = some (Af e k enc v l)) (j : Nat) {a b : α} (hj : l[j]? = some a) {T : TypeId} {q : Nat} (hs : ∀ w, (sizeOf T).run P w = .ok q w) {c : Value} (hq : c.cells.size = q) (hone : MI c.cells.toList = true) (hoff : off + q ≤ k) (hb : over? (enc a) off c.cells.toList = enc b)
    (hd : o.dst = none) {x y : Operand} (ho : o.op = .store T x y) (hx : evs env x = some (AN v (j * k + off))) (hy : evs env y = some c) : AR P Q n env B w0 os o (fun _ : Unit => undef) (fun _ => os.set i (Af e k enc v (l.set j b))) := fun act w hH hF K hK => by
  obtain ⟨rs, hv, hr⟩ := hH.thing i hi
  have hlt := (List.getElem?_eq_some_iff.1 hj).1
  have hql : c.cells.toList.length = q := by simpa using hq
  rcases hv with ⟨_, h2, _⟩ | ⟨g, cap, cs, h2, hle, hmx, hsz, h5, h6⟩
  · subst h2; exact absurd hlt (Nat.not_lt_zero _)
  · subst h6
    have hjk : j * k + k ≤ l.length * k := by
      have := Nat.mul_le_mul_right k (show j + 1 ≤ l.length by omega)
      rwa [Nat.add_mul, Nat.one_mul] at this
    have hlk : l.length * k ≤ cap * k := Nat.mul_le_mul_right k hle
    subst h2
    obtain ⟨w', hrs, hR', hM⟩ := Cw (P := P) g e c.cells.toList 0 cs w (j * k + off) hr.1 (by simp only [Array.length_toList] at hql ⊢; omega) (fun u hu => (List.all_eq_true.1 (GZ hone)) u hu)
    have hx' : evs env x = some (.pointer (some ⟨g, j * k + off, none⟩)) := by rw [hx]; simp [AN]
    have hR : CQ w' g e (over? cs.toList (j * k + off) c.cells.toList).toArray := by simpa [over?] using hR'
    have hrun : (execOp act.eval o).run P w = .ok .skip w' := by
      unfold execOp
      simp [ho, hF.evs hx', hF.evs hy, Instr.storeAt, Instr.sureAddr, storeVar, hs, hq, hrs]
    unfold Oper.wp
    rw [hrun, Oper.upon_skip]
    refine (fun hp => (by have := hK () w' hp; rw [hd] at this ⊢; exact this)) (hH.turn i hi fun x hx _ _ => ?_)
    rcases hx with ⟨h0, _, _⟩ | ⟨g', cap', cs', h0, _, _, hsz', h5', h6'⟩
    · simp at h0
    · simp at h0
      obtain ⟨rfl, rfl⟩ := h0
      subst h6'
      have hrow : cs' = cs := by
        have hr0 : RowsOf w [(g, EO e, cs')] := ‹_›
        have e1 : w.heap[g]? = some (.cells cs' e (0, 0)) := hr0.1
        have e2 : w.heap[g]? = some (.cells cs e (0, 0)) := hr.1
        rw [e1] at e2
        simpa using e2
      subst hrow
      have hcl : cs'.toList.length = cap * k := by simpa using hsz
      refine ⟨[(g, EO e, (over? cs'.toList (j * k + off) c.cells.toList).toArray)], .inr ⟨g, cap, _, by simp, by simpa using hle, hmx, ?_, ?_, rfl⟩, ⟨hM.weaken fun q _ e' => ⟨(g, EO e, cs'), by simp, e'.symm⟩, ⟨hR, trivial⟩, ⟨(fun _ h => by cases h), trivial⟩, fun x hx _ => ?_⟩⟩
      · show (over? cs'.toList (j * k + off) c.cells.toList).length = cap * k
        unfold over?
        simp only [List.length_append, List.length_take, List.length_drop, hcl, hql]
        omega
      · show (over? cs'.toList (j * k + off) c.cells.toList).take ((l.set j b).length * k) = _
        rw [List.length_set, Ss (by omega) (by omega), h5]
        exact Sr he hj (by omega) hb
      · have : x = (g, EO e, (over? cs'.toList (j * k + off) c.cells.toList).toArray) := by simpa using hx
        subst this
        exact ⟨(g, EO e, cs'), by simp, rfl⟩
end
structure EntV where
  e : EntD
  A : Option Addr
  c : Nat
def EntV.v (x : EntV) : Value := .slice x.A x.e.d.length x.c
def encV (x : EntV) : List Value := [.int .i64 x.e.k, .int .u64 x.e.t, .int .u64 x.e.i, x.v, .int .i64 x.e.c]
theorem Dy : EncOf 5 encV := ⟨fun _ => rfl, fun x v h => by unfold encV EntV.v at h; simp at h; rcases h with rfl | rfl | rfl | rfl | rfl <;> rfl⟩
def Cr (w : World) (v : Value) (l : List EntV) : Prop := Dh w 5 v l.length (flat encV l) ∧ ∀ x, x ∈ l → D1 w x.v x.e.d
section
variable {u w w0 : World} {v : Value} {l : List EntV} {X : Ass} {B : Nat → Prop} {os : List Ass} {rs : List RowT} {te : TypeId}
theorem Dh.below {k m : Nat} {a : Value} (h : Dh u k a m ys) (hb : Below u.heap.size u w) : Dh w k a m ys := by
 obtain ⟨h1, A, c, e, hA⟩ := h
 refine ⟨h1, A, c, e, hA.imp id fun ⟨a, ha, hc⟩ => ⟨a, ha, fun j x hx => ?_⟩⟩
 have h0 := hc j x hx
 rw [hb.cell (World.block_lt_of_cell? _ _ h0)]
 exact h0
theorem Cr.below (h : Cr u v l) (hb : Below u.heap.size u w) : Cr w v l := ⟨h.1.below hb, fun x hx => (h.2 x hx).below hb⟩
theorem C4 (h : Cr u v l) (hU : Below u.heap.size u w0) (hS : ∀ k, B k → u.heap.size ≤ k) (hH : Hp B w0 w os) : Cr w v l := ⟨VI h.1 hU hS hH, fun x hx => Ea (h.2 x hx) hU hS hH⟩
def B9 (te : TypeId) (v : Value) (l : List EntV) : Ass := Fk [Af te 5 encV v l, AE (fun x : EntV => Af 5 1 encB x.v x.e.d) l]
theorem Cm : ∀ rs, B9 te v l rs → ∃ _ : Unit, Ae [Af te 5 encV v l, AE (fun x : EntV => Af 5 1 encB x.v x.e.d) l] rs := fun _ h => ⟨(), h⟩
theorem P6 : ∀ rs, Ae [Af te 5 encV v l, AE (fun x : EntV => Af 5 1 encB x.v x.e.d) l] rs → B9 te v l rs := fun _ h => h
theorem F2 {x : EntV} : ∀ rs, Ae [Af te 5 encV v (l ++ [x]), AE (fun x : EntV => Af 5 1 encB x.v x.e.d) l, Af 5 1 encB x.v x.e.d] rs → B9 te v (l ++ [x]) rs := fun rs h => by
 obtain ⟨a, b, e, h1, h2⟩ := h
 exact ⟨a, b, e, h1, Ae.one (Gt _ h2)⟩
theorem MY : B9 te (.slice none 0 0) [] [] := ⟨[], [], rfl, PL _ _ _, [], [], rfl, C0, rfl⟩
end
end Go.Proofs.YtjcfimmcogkopaaGreatDoor.Sep
