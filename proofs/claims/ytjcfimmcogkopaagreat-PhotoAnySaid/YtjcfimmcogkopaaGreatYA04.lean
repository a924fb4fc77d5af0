/-
  Sep
-/
import Derived.Test.YtjcfimmcogkopaaGreatYA03
set_option linter.unusedSimpArgs false
set_option linter.unusedVariables false
namespace Go.Proofs.YtjcfimmcogkopaaGreat.Sep
open Go.RowKit
open Go.Proofs.YtjcfimmcogkopaaGreat.Mem (AZ Ci Chg Uo WH EQ Au)
abbrev Ass := List RowT → Prop
def cell (g : Nat) (t : TypeId) (cs : Array Value) : Ass := fun rs => rs = [(g, Ed t, cs)]
def fact (p : Prop) : Ass := fun rs => rs = [] ∧ p
def ex {α : Type} (A : α → Ass) : Ass := fun rs => ∃ x, A x rs
def Ak : List Ass → List RowT → Prop
  | [], rs => rs = []
  | o :: os, rs => ∃ a b, rs = a ++ b ∧ o a ∧ Ak os b
def Do (l : List Ass) : Ass := Ak l
section parts
variable {os os' : List Ass} {rs : List RowT}
theorem Ak.app : ∀ {os os' : List Ass} {a b : List RowT}, Ak os a → Ak os' b → Ak (os ++ os') (a ++ b)
  | [], _, a, b, h, h' => by unfold Ak at h; subst h; exact h'
  | o :: os, os', a, b, h, h' => by
    obtain ⟨x, y, e, h1, h2⟩ := h
    exact ⟨x, y ++ b, by rw [e, List.append_assoc], h1, h2.app h'⟩
theorem Ak.split : ∀ {os os' : List Ass} {rs : List RowT}, Ak (os ++ os') rs → ∃ a b, rs = a ++ b ∧ Ak os a ∧ Ak os' b
  | [], _, rs, h => ⟨[], rs, rfl, rfl, h⟩
  | o :: os, os', rs, h => by
    obtain ⟨x, y, e, h1, h2⟩ := h
    obtain ⟨a, b, e', h3, h4⟩ := Ak.split h2
    exact ⟨x ++ a, b, by rw [e, e', List.append_assoc], ⟨x, a, rfl, h1, h3⟩, h4⟩
theorem Ak.perm {os os' : List Ass} (hp : os.Perm os') : ∀ {rs : List RowT}, Ak os rs → ∃ rs', rs.Perm rs' ∧ Ak os' rs' := by
  induction hp with
  | nil => exact fun {rs} h => ⟨rs, .refl _, h⟩
  | cons o _ ih =>
    rintro rs ⟨a, b, e, h1, h2⟩
    obtain ⟨b', hp, h3⟩ := ih h2
    exact ⟨a ++ b', e ▸ hp.append_left a, a, b', rfl, h1, h3⟩
  | swap o o' l =>
    rintro rs ⟨a, b, e, h1, c, d, e', h2, h3⟩
    refine ⟨c ++ (a ++ d), ?_, c, a ++ d, rfl, h2, a, d, rfl, h1, h3⟩
    rw [e, e', ← List.append_assoc, ← List.append_assoc]
    exact List.perm_append_comm.append_right d
  | trans _ _ ih1 ih2 =>
    intro rs h
    obtain ⟨r1, p1, h1⟩ := ih1 h
    obtain ⟨r2, p2, h2⟩ := ih2 h1
    exact ⟨r2, p1.trans p2, h2⟩
theorem Ak.one {o : Ass} {rs : List RowT} (h : o rs) : Ak [o] rs := ⟨rs, [], by simp, h, rfl⟩
theorem Ak.one' {o : Ass} {rs : List RowT} (h : Ak [o] rs) : o rs := by
 obtain ⟨a, b, e, h1, h2⟩ := h
 unfold Ak at h2
 subst h2
 rw [List.append_nil] at e
 exact e ▸ h1
def WN : List Ass → List Ass → Prop
  | [], [] => True
  | o :: os, o' :: os' => (∀ rs, o rs → o' rs) ∧ WN os os'
  | _, _ => False
theorem Ak.imp : ∀ {os os' : List Ass} {rs : List RowT}, WN os os' → Ak os rs → Ak os' rs
  | [], [], _, _, h => h
  | o :: os, o' :: os', _, hi, ⟨a, b, e, h1, h2⟩ => ⟨a, b, e, hi.1 a h1, h2.imp hi.2⟩
  | [], _ :: _, _, hi, _ => hi.elim
  | _ :: _, [], _, hi, _ => hi.elim
end parts
def Ee (ids : List Nat) (os : List Ass) : List Ass := ids.filterMap (os[·]?)
def Cl (ids : List Nat) : Nat → List Ass → List Ass
  | _, [] => []
  | k, x :: r => match ids.elem k with | true => Cl ids (k + 1) r | false => x :: Cl ids (k + 1) r
def DI (ids : List Nat) (os : List Ass) : List Ass := Cl ids 0 os
theorem Kh {ids : List Nat} {k : Nat} {x : Ass} {r : List Ass} (h : ids.elem k = true) : Cl ids k (x :: r) = Cl ids (k + 1) r := by
 conv => lhs; unfold Cl
 rw [h]
theorem Lj {ids : List Nat} {k : Nat} {x : Ass} {r : List Ass} (h : ids.elem k = false) : Cl ids k (x :: r) = x :: Cl ids (k + 1) r := by
 conv => lhs; unfold Cl
 rw [h]
theorem Mr {ids : List Nat} {i k : Nat} (h : k ≠ i) : (i :: ids).elem k = ids.elem k := by
  have : (k == i) = false := by simpa using h
  show (match k == i with | true => true | false => ids.elem k) = _
  rw [this]
theorem Ux {ids : List Nat} {k : Nat} : (k :: ids).elem k = true := by
  show (match k == k with | true => true | false => ids.elem k) = _
  simp
theorem In : ∀ (k : Nat) (os : List Ass), Cl [] k os = os
  | _, [] => rfl
  | k, x :: r => by rw [Lj rfl, In (k + 1) r]
theorem FX {i : Nat} {ids : List Nat} : ∀ {k : Nat} {os : List Ass}, i < k → Cl (i :: ids) k os = Cl ids k os
  | _, [], _ => rfl
  | k, x :: r, h => by
    have e : (i :: ids).elem k = ids.elem k := Mr (by omega)
    cases hk : ids.elem k with
    | true => rw [Kh (e.trans hk), Kh hk, FX (by omega)]
    | false => rw [Lj (e.trans hk), Lj hk, FX (by omega)]
theorem Hs {ids : List Nat} : ∀ {os : List Ass} {o : Ass} {k i : Nat}, k + i ∉ ids → os[i]? = some o → (Cl ids k os).Perm (o :: Cl ((k + i) :: ids) k os)
  | [], o, k, i, _, h => by simp at h
  | x :: r, o, k, 0, hm, h => by
    simp only [List.getElem?_cons_zero, Option.some.injEq] at h
    subst h
    have h1 : ids.elem k = false := by
      cases hk : ids.elem k with
      | false => rfl
      | true => exact absurd (List.elem_iff.1 hk) hm
    rw [Lj h1]
    show List.Perm _ (x :: Cl (k :: ids) k (x :: r))
    rw [Kh Ux, FX (by omega)]
  | x :: r, o, k, i + 1, hm, h => by
    simp only [List.getElem?_cons_succ] at h
    have := Hs (k := k + 1) (by rwa [show k + 1 + i = k + (i + 1) by omega]) h
    rw [show k + 1 + i = k + (i + 1) by omega] at this
    have e : ((k + (i + 1)) :: ids).elem k = ids.elem k := Mr (by omega)
    cases hk : ids.elem k with
    | true => rw [Kh hk, Kh (e.trans hk)]; exact this
    | false => rw [Lj hk, Lj (e.trans hk)]; exact (this.cons x).trans (.swap o x _)
theorem Ht {ids : List Nat} : ∀ {os : List Ass} {k i : Nat}, os[i]? = none → Cl ((k + i) :: ids) k os = Cl ids k os
  | [], _, _, _ => rfl
  | x :: r, k, 0, h => by simp at h
  | x :: r, k, i + 1, h => by
    simp only [List.getElem?_cons_succ] at h
    have := Ht (ids := ids) (k := k + 1) h
    rw [show k + 1 + i = k + (i + 1) by omega] at this
    have e : ((k + (i + 1)) :: ids).elem k = ids.elem k := Mr (by omega)
    cases hk : ids.elem k with
    | true => rw [Kh hk, Kh (e.trans hk)]; exact this
    | false => rw [Lj hk, Lj (e.trans hk), this]
theorem C1 : ∀ {ids : List Nat} {os : List Ass}, ids.Nodup → (Ee ids os ++ DI ids os).Perm os := by
  intro ids os
  induction ids with
  | nil => intro _; unfold DI; rw [In]; exact .refl _
  | cons i ids ih =>
    intro hn
    obtain ⟨h1, h2⟩ := List.nodup_cons.1 hn
    refine .trans ?_ (ih h2)
    cases hi : os[i]? with
    | none =>
      have e : DI (i :: ids) os = DI ids os := by
        have := Ht (ids := ids) (k := 0) hi
        rwa [Nat.zero_add] at this
      rw [e]
      show (List.filterMap _ (i :: ids) ++ _).Perm _
      rw [List.filterMap_cons_none hi]
      exact .refl _
    | some o =>
      have h := Hs (k := 0) (by rwa [Nat.zero_add]) hi
      rw [Nat.zero_add] at h
      show (List.filterMap _ (i :: ids) ++ _).Perm _
      rw [List.filterMap_cons_some hi]
      have e : (Ee ids os ++ o :: DI (i :: ids) os).Perm (Ee ids os ++ DI ids os) := List.Perm.append_left _ h.symm
      refine .trans ?_ e
      exact List.perm_middle.symm
theorem Bf : ∀ {rs : List RowT}, AZ rs ↔ (rs.map (·.1)).Nodup
  | [] => by simp [AZ]
  | x :: r => by
    unfold AZ
    rw [List.map_cons, List.nodup_cons, Bf (rs := r)]
    refine and_congr ⟨fun h hm => ?_, fun h y hy e => h ?_⟩ Iff.rfl
    · obtain ⟨y, hy, e⟩ := List.mem_map.1 hm
      exact h y hy e
    · exact List.mem_map.2 ⟨y, hy, e⟩
theorem AN {w : World} {rs : List RowT} : RowsOf w rs ↔ ∀ x ∈ rs, CK w x := ⟨fun h => h.mem, fun h => Mem.RowsOf.ofAll h⟩
section known
variable {B : Nat → Prop} {w0 w w' : World} {rs rs' a b c : List RowT}
theorem CN (h : Mem.Hp B w0 w rs) (hp : rs.Perm rs') : Mem.Hp B w0 w rs' :=
 ⟨h.up, AN.2 fun x hx => h.rows.mem x (hp.mem_iff.2 hx), Bf.2 ((hp.map _).nodup_iff.1 (Bf.1 h.apart)), fun x hx => h.own x (hp.mem_iff.2 hx)⟩
theorem Nr {w' : World} (h : Chg w w' a b) (hp : a.Perm c) : Chg w w' c b := ⟨h.mod.weaken fun j _ ⟨x, hx, e⟩ => ⟨x, hp.mem_iff.1 hx, e⟩, h.rows, h.dist, fun x hx hlt => by obtain ⟨y, hy, e⟩ := h.from_ x hx hlt; exact ⟨y, hp.mem_iff.1 hy, e⟩⟩
theorem I3 {w' : World} (h : Chg w w' a b) (hp : b.Perm c) : Chg w w' a c := ⟨h.mod, AN.2 fun x hx => h.rows.mem x (hp.mem_iff.2 hx), Bf.2 ((hp.map _).nodup_iff.1 (Bf.1 h.dist)), fun x hx => h.from_ x (hp.mem_iff.2 hx)⟩
theorem E6 (h : Mem.Hp B w0 w (a ++ b)) (hc : Chg w w' a c) : Mem.Hp B w0 w' (c ++ b) := by
  have hd := Bf.1 h.apart
  rw [List.map_append] at hd
  have hne : ∀ x ∈ a, ∀ y ∈ b, y.1 ≠ x.1 := fun x hx y hy e => (List.nodup_append.1 hd).2.2 x.1 (List.mem_map.2 ⟨x, hx, rfl⟩) y.1 (List.mem_map.2 ⟨y, hy, rfl⟩) e.symm
  have hnb : ∀ y ∈ b, ¬ Ci a y.1 := fun y hy ⟨x, hx, e⟩ => hne x hx y hy e.symm
  have hold : ∀ y ∈ b, CK w y := fun y hy => h.rows.mem y (by simp [hy])
  refine ⟨h.up.trans hc.mod (fun j hj ⟨x, hx, e⟩ => e ▸ h.own x (by simp [hx]) (e ▸ hj)), ?_, ?_, ?_⟩
  · refine AN.2 fun x hx => ?_
    rcases List.mem_append.1 hx with hx | hx
    · exact hc.rows.mem x hx
    · exact (hold x hx).mod hc.mod (hnb x hx)
  · refine Mem.dist_app hc.dist (Bf.2 (List.nodup_append.1 hd).2.1) fun x hx y hy e => ?_
    have hlt := (hold y hy).lt
    rw [e] at hlt
    exact hnb y hy (e ▸ hc.from_ x hx hlt)
  · intro x hx hlt
    rcases List.mem_append.1 hx with hx | hx
    · have := h.up.size
      obtain ⟨y, hy, e⟩ := hc.from_ x hx (by omega)
      exact e ▸ h.own y (by simp [hy]) (e ▸ hlt)
    · exact h.own x (by simp [hx]) hlt
end known
def Hp (B : Nat → Prop) (w0 w : World) (os : List Ass) : Prop := ∃ rs, Ak os rs ∧ Mem.Hp B w0 w rs
section hp
variable {B : Nat → Prop} {w0 w w' : World} {os os' : List Ass} {rs : List RowT}
theorem Hp.up (h : Hp B w0 w os) : Mod B w0 w := by obtain ⟨_, _, h⟩ := h; exact h.up
theorem Hp.perm (h : Hp B w0 w os) (hp : os.Perm os') : Hp B w0 w os' := by
 obtain ⟨rs, h1, h2⟩ := h
 obtain ⟨rs', p, h3⟩ := h1.perm hp
 exact ⟨rs', h3, CN h2 p⟩
theorem Hp.start (w : World) : Hp Nil w w [] := ⟨[], rfl, Mem.Hp.start w⟩
theorem Hp.given (h1 : Ak os rs) (h2 : RowsOf w rs) (h3 : AZ rs) : Hp (Ci rs) w w os := ⟨rs, h1, Mem.Hp.given h2 h3⟩
theorem Hp.call (h : Hp B w0 w os) (hb : Below w.heap.size w w') : Hp B w0 w' os := by obtain ⟨rs, h1, h2⟩ := h; exact ⟨rs, h1, h2.call hb⟩
theorem Hp.drew (h : Hp B w0 w os) : Hp B w0 w.drew os := by obtain ⟨rs, h1, h2⟩ := h; exact ⟨rs, h1, h2.drew⟩
theorem Hp.new (h : Hp B w0 w os) (t : TypeId) (cs : Array Value) : Hp B w0 (w.alloc (.cells cs t)) (cell w.heap.size t cs :: os) := by
 obtain ⟨rs, h1, h2⟩ := h
 exact ⟨(w.heap.size, Ed t, cs) :: rs, ⟨[(w.heap.size, Ed t, cs)], rs, rfl, rfl, h1⟩, h2.new t cs⟩
theorem Ak.at_ : ∀ {os : List Ass} {rs : List RowT} {i : Nat} {o : Ass}, Ak os rs → os[i]? = some o → ∃ a x b, rs = a ++ (x ++ b) ∧ o x ∧ ∀ (o' : Ass) (y : List RowT), o' y → Ak (os.set i o') (a ++ (y ++ b))
  | [], _, i, o, _, hi => by simp at hi
  | p :: os, rs, 0, o, ⟨a, b, e, h1, h2⟩, hi => by
    simp only [List.getElem?_cons_zero, Option.some.injEq] at hi
    subst hi
    exact ⟨[], a, b, by simpa using e, h1, fun o' y h => ⟨y, b, rfl, h, h2⟩⟩
  | p :: os, rs, i + 1, o, ⟨a, b, e, h1, h2⟩, hi => by
    simp only [List.getElem?_cons_succ] at hi
    obtain ⟨a', x, b', e', h3, h4⟩ := Ak.at_ h2 hi
    exact ⟨a ++ a', x, b', by rw [e, e', List.append_assoc], h3, fun o' y h => ⟨a, a' ++ (y ++ b'), by rw [List.append_assoc], h1, h4 o' y h⟩⟩
theorem Hp.thing (h : Hp B w0 w os) (i : Nat) {o : Ass} (hi : os[i]? = some o) : ∃ x, o x ∧ RowsOf w x := by
 obtain ⟨rs, h1, h2⟩ := h
 obtain ⟨a, x, b, e, h3, _⟩ := h1.at_ hi
 refine ⟨x, h3, AN.2 fun y hy => h2.rows.mem y ?_⟩
 rw [e]; simp [hy]
theorem Hp.row (h : Hp B w0 w os) (i : Nat) {g : Nat} {t : TypeId} {cs : Array Value} (hi : os[i]? = some (cell g t cs)) : CY w g t cs := by
 obtain ⟨x, hx, hr⟩ := h.thing i hi
 unfold cell at hx
 subst hx
 exact hr.1
theorem Hp.turn (h : Hp B w0 w os) (i : Nat) {o o' : Ass} (hi : os[i]? = some o) (hc : ∀ x, o x → RowsOf w x → AZ x → ∃ y, o' y ∧ Chg w w' x y) : Hp B w0 w' (os.set i o') := by
 obtain ⟨rs, h1, h2⟩ := h
 obtain ⟨a, x, b, e, h3, h4⟩ := h1.at_ hi
 subst e
 have p : (a ++ (x ++ b)).Perm (x ++ (a ++ b)) := by rw [← List.append_assoc, ← List.append_assoc]; exact List.perm_append_comm.append_right b
 have h5 := CN h2 p
 have hd := Bf.1 h5.apart
 rw [List.map_append] at hd
 obtain ⟨y, hy, hch⟩ := hc x h3 (AN.2 fun z hz => h5.rows.mem z (by simp [hz])) (Bf.2 (List.nodup_append.1 hd).1)
 have p' : (y ++ (a ++ b)).Perm (a ++ (y ++ b)) := by rw [← List.append_assoc, ← List.append_assoc]; exact List.perm_append_comm.append_right b
 exact ⟨_, h4 o' y hy, CN (E6 h5 hch) p'⟩
theorem Hp.set (h : Hp B w0 w os) (i : Nat) {g : Nat} {t : TypeId} {cs c : Array Value} (hi : os[i]? = some (cell g t cs)) (hm : Mod (Hq g) w w') (hR : CY w' g t c) : Hp B w0 w' (os.set i (cell g t c)) :=
 h.turn i hi fun x hx _ _ => ⟨[(g, t, c)], rfl, by
  unfold cell at hx
  subst hx
  refine ⟨hm.weaken fun j _ e => ⟨(g, Ed t, cs), by simp, e.symm⟩, ⟨hR, trivial⟩, ⟨(fun _ h => by cases h), trivial⟩, fun x hx _ => ?_⟩
  have : x = (g, Ed t, c) := by simpa using hx
  subst this
  exact ⟨(g, Ed t, cs), by simp, rfl⟩⟩
theorem Hp.drop (h : Hp B w0 w os) (k : Nat) : Hp B w0 w (os.drop k) := by
 obtain ⟨rs, h1, h2⟩ := h
 rw [← List.take_append_drop k os] at h1
 obtain ⟨a, b, e, _, h3⟩ := h1.split
 subst e
 have hd := Bf.1 h2.apart
 rw [List.map_append] at hd
 exact ⟨b, h3, h2.up, AN.2 fun x hx => h2.rows.mem x (by simp [hx]), Bf.2 (List.nodup_append.1 hd).2.1, fun x hx => h2.own x (by simp [hx])⟩
theorem Hp.chg (h : Hp B w0 w os) (ids : List Nat) (hn : ids.Nodup) {post : List Ass} (hc : ∀ x, Ak (Ee ids os) x → RowsOf w x → AZ x → ∃ y, Ak post y ∧ Chg w w' x y) : Hp B w0 w' (post ++ DI ids os) := by
 obtain ⟨rs, h1, h2⟩ := h.perm (C1 (os := os) hn).symm
 obtain ⟨a, b, e, h3, h4⟩ := h1.split
 subst e
 have hd := Bf.1 h2.apart
 rw [List.map_append] at hd
 obtain ⟨y, hy, hch⟩ := hc a h3 (AN.2 fun z hz => h2.rows.mem z (by simp [hz])) (Bf.2 (List.nodup_append.1 hd).1)
 exact ⟨y ++ b, hy.app h4, E6 h2 hch⟩
theorem Hp.give (h : Hp B w0 w os) (ids : List Nat) (hn : ids.Nodup) : ∃ x, Ak (Ee ids os) x ∧ RowsOf w x ∧ AZ x ∧ ∀ (post : List Ass) (y : List RowT) (w' : World), Ak post y → Chg w w' x y → Hp B w0 w' (post ++ DI ids os) := by
 obtain ⟨rs, h1, h2⟩ := h.perm (C1 (os := os) hn).symm
 obtain ⟨a, b, e, h3, h4⟩ := h1.split
 subst e
 have hd := Bf.1 h2.apart
 rw [List.map_append] at hd
 exact ⟨a, h3, AN.2 fun z hz => h2.rows.mem z (by simp [hz]), Bf.2 (List.nodup_append.1 hd).1, fun post y w' hy hch => ⟨y ++ b, hy.app h4, E6 h2 hch⟩⟩
theorem Hp.tell (h : Hp (Ci rs) w0 w os) (ids : List Nat) (hn : ids.Nodup) : ∃ y, Ak (Ee ids os) y ∧ Chg w0 w rs y := by
 obtain ⟨rs', h1, h2⟩ := h.perm (C1 (os := os) hn).symm
 obtain ⟨a, b, e, h3, h4⟩ := h1.split
 subst e
 have hd := Bf.1 h2.apart
 rw [List.map_append] at hd
 exact ⟨a, h3, h2.up, AN.2 fun z hz => h2.rows.mem z (by simp [hz]), Bf.2 (List.nodup_append.1 hd).1, fun x hx => h2.own x (by simp [hx])⟩
theorem Hp.imp (h : Hp B w0 w os) (hi : ∀ rs, Ak os rs → ∃ rs', rs.Perm rs' ∧ Ak os' rs') : Hp B w0 w os' := by
 obtain ⟨rs, h1, h2⟩ := h
 obtain ⟨rs', p, h3⟩ := hi rs h1
 exact ⟨rs', h3, CN h2 p⟩
end hp
def AW {X : Type} (P : Program) (F : FuncId) (args : Array Value) (pre : List Ass) (val : X → Value) (post : X → List Ass) : Prop :=
  ∀ w rs, Ak pre rs → RowsOf w rs → AZ rs → Calls P F args w fun e w' => ∃ x, e = .returned (val x) ∧ ∃ rs', Ak (post x) rs' ∧ Chg w w' rs rs'
inductive Res2 (P : Program) (env : List (Nat × Value)) (rs : List Ass) : ResultVar → Value → Prop
  | tmp {t : Tmp} {v : Value} (h : look env t = some v) : Res2 P env rs (.tmp t) v
  | cell (i : Nat) {s : Tmp} {T : TypeId} {g off : Nat} {t : TypeId} {cs : Array Value} {v : Value} (hv : JB P T cs off v) (h : look env s = some (.pointer (some ⟨g, off, none⟩))) (hi : rs[i]? = some (Sep.cell g t cs)) : Res2 P env rs (.cell s T) v
def Ce (P : Program) (ops : Array Oper) (Q : Exit → Act → World → Prop) (n : Nat) (env : List (Nat × Value)) (B : Nat → Prop) (w0 : World) (rs : List Ass) (l : List Oper) : Prop := ∀ a w, Fr n a env → Hp B w0 w rs → wpList P ops Q l a w
def Bv (P : Program) (Q : Exit → Act → World → Prop) (n : Nat) (env : List (Nat × Value)) (B : Nat → Prop) (w0 : World) (rs : List Ass) (c : Code) : Prop := ∀ a w, Fr n a env → Hp B w0 w rs → c.wp P Q a w
def CA (Q : Exit → Act → World → Prop) (n : Nat) (env : List (Nat × Value)) (B : Nat → Prop) (w0 : World) (rs : List Ass) (e : Exit) : Prop := ∀ a w, Fr n a env → Hp B w0 w rs → Q e a w
section wl2
variable {P : Program} {ops : Array Oper} {Q : Exit → Act → World → Prop} {n : Nat} {B : Nat → Prop} {w0 : World} {rs rs' : List Ass} {env env' : List (Nat × Value)} {l rest : List Oper} {o : Oper} {d : Nat} {fl : List ((Nat × Nat) × Nat)}
theorem Af (hfl : Ke P fl) : ∀ {l : List Oper} {env : List (Nat × Value)}, Kf fl ops n l env = some (env', rest) → Ce P ops Q n env' B w0 rs rest → Ce P ops Q n env B w0 rs l
  | [], env, h, hk => by
    simp only [Kf, Option.some.injEq, Prod.mk.injEq] at h
    obtain ⟨rfl, rfl⟩ := h
    exact hk
  | o :: r, env, h, hk => by
    unfold Kf at h
    cases hw : wants ops o env with
    | none =>
      simp only [hw, Option.some.injEq, Prod.mk.injEq] at h
      obtain ⟨rfl, rfl⟩ := h
      exact hk
    | some b =>
      cases b with
      | false =>
        simp only [hw] at h
        cases hd : o.dst with
        | none => simp [hd] at h
        | some d =>
          simp only [hd] at h
          cases hn : Nat.blt d n with
          | false => simp [hn] at h
          | true =>
            simp only [hn] at h
            exact fun a w hF hH => Mi hF hw hd (El hn) fun b hb => Af hfl h hk b w hb hH
      | true =>
        simp only [hw] at h
        cases hq : q1 fl o env with
        | none =>
          simp only [hq, Option.some.injEq, Prod.mk.injEq] at h
          obtain ⟨rfl, rfl⟩ := h
          exact hk
        | some v =>
          simp only [hq] at h
          cases hd : o.dst with
          | none => simp [hd] at h
          | some d =>
            simp only [hd] at h
            cases hn : Nat.blt d n with
            | false => simp [hn] at h
            | true =>
              simp only [hn] at h
              exact fun a w hF hH => Rf hF hw hd (El hn) v (fun b hb => Ae hfl hq hb) fun b hb => Af hfl h hk b w hb hH
theorem Ac (h1 : Vq ops n o env = some d) (v : Value) (hrun : ∀ b w, Fr n b env → Hp B w0 w rs → (execOp b.eval o).run P w = .ok (.value v) w) (h : Ce P ops Q n ((d, v) :: env) B w0 rs rest) : Ce P ops Q n env B w0 rs (o :: rest) :=
 fun a w hF hH => Rf hF (B8 h1).1 (B8 h1).2.1 (B8 h1).2.2 v (fun b hb => hrun b w hb hH) fun b hb => h b w hb hH
theorem Bi (h : CA Q n env B w0 rs .normal) : Ce P ops Q n env B w0 rs [] := h
theorem Ab {y : Code} (h : Bv P Q n env B w0 rs y) : Ce P ops (Exit.then (fun a w => y.wp P Q a w) Q) n env B w0 rs [] := h
theorem Ce.keep (hs : FQ env env') (h : Ce P ops Q n env' B w0 rs l) : Ce P ops Q n env B w0 rs l := fun a w hF hH => h a w (hF.keep hs) hH
theorem Bv.keep {c : Code} (hs : FQ env env') (h : Bv P Q n env' B w0 rs c) : Bv P Q n env B w0 rs c := fun a w hF hH => h a w (hF.keep hs) hH
theorem CA.keep {e : Exit} (hs : FQ env env') (h : CA Q n env' B w0 rs e) : CA Q n env B w0 rs e := fun a w hF hH => h a w (hF.keep hs) hH
end wl2
section wc2
variable {P : Program} {Q : Exit → Act → World → Prop} {n : Nat} {B : Nat → Prop} {w0 : World} {rs : List Ass} {env : List (Nat × Value)}
theorem Ad {id : Nat} {l : List Oper} {y : Code} (h : Ce P l.toArray (Exit.then (fun a w => y.wp P Q a w) Q) n env B w0 rs l) : Bv P Q n env B w0 rs (.seq (.region id l.toArray false) y) := fun a w hF hH => wp_seq (wp_region_lit (h a w hF hH))
theorem BV {id : Nat} {l : List Oper} (h : Ce P l.toArray Q n env B w0 rs l) : Bv P Q n env B w0 rs (.region id l.toArray false) := fun a w hF hH => wp_region_lit (h a w hF hH)
theorem Aq {x y : Code} (h : Bv P (Exit.then (fun a w => y.wp P Q a w) Q) n env B w0 rs x) : Bv P Q n env B w0 rs (.seq x y) := fun a w hF hH => wp_seq (h a w hF hH)
theorem AI {c : Operand} {x y : Code} (hc : evs env c = some (.bool true)) (h : Bv P Q n env B w0 rs x) : Bv P Q n env B w0 rs (.cond c x y) := fun a w hF hH => Mk hF hc (h a w hF hH)
theorem Aw {c : Operand} {x y : Code} (hc : evs env c = some (.bool false)) (h : Bv P Q n env B w0 rs y) : Bv P Q n env B w0 rs (.cond c x y) := fun a w hF hH => Ml hF hc (h a w hF hH)
theorem AC (h : CA Q n env B w0 rs .normal) : Bv P Q n env B w0 rs .skip := fun a w hF hH => wp_skip (h a w hF hH)
theorem Av (h : CA Q n env B w0 rs .ret) : Bv P Q n env B w0 rs .ret := fun a w hF hH => wp_ret (h a w hF hH)
theorem Bm {id : Nat} {c : Code} (h : Bv P (Exit.inBlock id Q) n env B w0 rs c) : Bv P Q n env B w0 rs (.block id c) := fun a w hF hH => wp_block (h a w hF hH)
theorem CQ {id : Nat} (h : CA Q n env B w0 rs (.exit id)) : Bv P Q n env B w0 rs (.exit id) := fun a w hF hH => wp_exit (h a w hF hH)
theorem AO {y : Code} (h : Bv P Q n env B w0 rs y) : CA (Exit.then (fun a w => y.wp P Q a w) Q) n env B w0 rs .normal := h
theorem B3 {id : Nat} (h : CA Q n env B w0 rs .normal) : CA (Exit.inBlock id Q) n env B w0 rs .normal := h
theorem C0 {K : Act → World → Prop} (h : CA Q n env B w0 rs .ret) : CA (Exit.then K Q) n env B w0 rs .ret := h
theorem Bw {id : Nat} (h : CA Q n env B w0 rs .ret) : CA (Exit.inBlock id Q) n env B w0 rs .ret := h
theorem FR {K : Act → World → Prop} {id : Nat} (h : CA Q n env B w0 rs (.exit id)) : CA (Exit.then K Q) n env B w0 rs (.exit id) := h
theorem Br {id : Nat} (h : CA Q n env B w0 rs .normal) : CA (Exit.inBlock id Q) n env B w0 rs (.exit id) := fun a w hF hH => (if_pos rfl).mpr (h a w hF hH)
variable {fn : Func} {R : Ending → World → Prop}
theorem Res2.res {r : ResultVar} {v : Value} {w : World} (h : Res2 P env rs r v) (hH : Hp B w0 w rs) : Res P env w r v := by
  cases h with
  | tmp h => exact .tmp h
  | cell i hv h hi => exact .cell h hv (hH.row i hi)
theorem DN {r : ResultVar} {v : Value} {w : World} (h : Res2 P env rs r v) (hH : Hp B w0 w rs) : Res P env w r v := by
  cases h with
  | tmp h => exact .tmp h
  | cell i hv h hi => exact .cell h hv (hH.row i hi)
theorem As {r1 : ResultVar} {v1 : Value} (h1 : Res2 P env rs r1 v1) (hR : ∀ w, Hp B w0 w rs → R (.returned v1) w) (hr : fn.results = #[r1]) : CA (bodyPost P fn R) n env B w0 rs .ret := fun _ w hF hH => VE hF hr (DN h1 hH) (hR w hH)
theorem Cr {r1 r2 : ResultVar} {v1 v2 : Value} (h1 : Res2 P env rs r1 v1) (h2 : Res2 P env rs r2 v2) (hR : ∀ w, Hp B w0 w rs → R (.returned (.tuple #[v1, v2])) w) (hr : fn.results = #[r1, r2]) : CA (bodyPost P fn R) n env B w0 rs .ret := fun _ w hF hH => VF hF hr (DN h1 hH) (DN h2 hH) (hR w hH)
theorem Em {r1 r2 r3 : ResultVar} {v1 v2 v3 : Value} (h1 : Res2 P env rs r1 v1) (h2 : Res2 P env rs r2 v2) (h3 : Res2 P env rs r3 v3) (hR : ∀ w, Hp B w0 w rs → R (.returned (.tuple #[v1, v2, v3])) w) (hr : fn.results = #[r1, r2, r3]) : CA (bodyPost P fn R) n env B w0 rs .ret := fun _ w hF hH => VG hF hr (DN h1 hH) (DN h2 hH) (DN h3 hH) (hR w hH)
theorem Mp (hR : ∀ w, Hp B w0 w rs → R (.returned (.tuple #[])) w) (hr : fn.results = #[]) : CA (bodyPost P fn R) n env B w0 rs .ret := fun _ w hF hH => VH hF hr (hR w hH)
theorem DM (hR : ∀ w, Hp B w0 w rs → R (.returned (.tuple #[])) w) (hr : fn.results = #[]) : CA (bodyPost P fn R) n env B w0 rs .normal := fun _ w hF hH => SD hF hr (hR w hH)
theorem Fz {f : FuncId} {c : Code} {args : List Value} {w : World} (n : Nat) (hf : P.funcs[f]? = some fn) (hb : fn.body = some c) (hn : fn.ntmps = n) (hs : Nat.ble args.length n = true) (h : Bv P (bodyPost P fn R) n (Fs 0 args) Nil w [] c) : Calls P f args.toArray w R := Gl n hf hb hn (Nat.le_of_ble_eq_true hs) fun a hF => h a w hF (Hp.start w)
end wc2
section par2
variable {P : Program} {ops : Array Oper} {Q : Exit → Act → World → Prop} {n : Nat} {B : Nat → Prop} {w0 : World} {rs : List Ass} {env env0 : List (Nat × Value)} {jobs : List Job} {o : Oper} {deps : List Nat} {v : Value} {fl : List ((Nat × Nat) × Nat)} {kk : Nat}
def WM (P : Program) (ops : Array Oper) (Q : Exit → Act → World → Prop) (n : Nat) (jobs : List Job) (env0 : List (Nat × Value)) (B : Nat → Prop) (w0 : World) (rs : List Ass) (o : Oper) (j : Job) : Prop := ∀ w, Hp B w0 w rs → OB P ops Q n jobs env0 w o j
def D2 (P : Program) (ops : Array Oper) (Q : Exit → Act → World → Prop) (n : Nat) (jobs : List Job) (env0 : List (Nat × Value)) (B : Nat → Prop) (w0 : World) (rs : List Ass) : List Oper → List Job → Prop
  | o :: os, j :: js => WM P ops Q n jobs env0 B w0 rs o j ∧ D2 P ops Q n jobs env0 B w0 rs os js
  | _, _ => True
theorem D2.all : ∀ {os : List Oper} {js : List Job}, D2 P ops Q n jobs env0 B w0 rs os js → ∀ w, Hp B w0 w rs → Eh P ops Q n w.heap.size jobs env0 (WF w) os js
  | [], _, _, _, _ => by unfold Eh; trivial
  | _ :: _, [], _, _, _ => by unfold Eh; trivial
  | _ :: _, _ :: _, h, w, hH => ⟨h.1 w hH, D2.all h.2 w hH⟩
end par2
section orders2
variable {P : Program} {ops : Array Oper} {Q : Exit → Act → World → Prop} {n f i d : Nat} {B : Nat → Prop} {w0 : World} {rs : List Ass} {env env' : List (Nat × Value)} {listed : Array Bool} {o : Oper} {fl : List ((Nat × Nat) × Nat)}
def Np (P : Program) (ops : Array Oper) (Q : Exit → Act → World → Prop) (n : Nat) (env : List (Nat × Value)) (B : Nat → Prop) (w0 : World) (rs : List Ass) (f : Nat) (listed : Array Bool) : Prop := ∀ a w, Fr n a env → Hp B w0 w rs → wpAny P .any ops Q f listed a w
end orders2
section loops
variable {P : Program} {Q : Exit → Act → World → Prop} {n : Nat} {B : Nat → Prop} {w0 : World} {rs rs' : List Ass} {env env' : List (Nat × Value)} {c : Code} {α : Type}
theorem Bv.less (k : Nat) (h : Bv P Q n env B w0 (rs.drop k) c) : Bv P Q n env B w0 rs c := fun a w hF hH => h a w hF (hH.drop k)
theorem Bv.at_ (hs : FQ env env') (hr : rs = rs') (h : Bv P Q n env' B w0 rs' c) : Bv P Q n env B w0 rs c := fun a w hF hH => h a w (hF.keep hs) (hr ▸ hH)
def JD (n : Nat) (B : Nat → Prop) (w0 : World) (E : α → List (Nat × Value)) (R : α → List Ass) (Inv : α → Prop) (μ : α → Nat) (x : α) : Act → World → Prop := fun a w => ∃ y, Inv y ∧ μ y < μ x ∧ Fr n a (E y) ∧ Hp B w0 w (R y)
theorem C9 (E : α → List (Nat × Value)) (R : α → List Ass) (Inv : α → Prop) (μ : α → Nat) (x : α) (hx : Inv x) (hE : FQ env (E x)) (hR : rs = R x) (h : ∀ x, Inv x → Bv P (Exit.then (JD n B w0 E R Inv μ x) Q) n (E x) B w0 (R x) c) : Bv P Q n env B w0 rs (.loop c) := by
  subst hR
  intro a w hF hH
  have key : ∀ m x, μ x < m → Inv x → ∀ a w, Fr n a (E x) → Hp B w0 w (R x) → Code.rounds P c Q m a w := by
    intro m
    induction m with
    | zero => intro x hx; omega
    | succ m ih =>
      intro x hm hx a w hF hH
      refine Code.wp_mono (fun e a' w' q => ?_) (h x hx a w hF hH)
      cases e with
      | normal =>
        obtain ⟨y, hy, hlt, hF', hH'⟩ := q
        exact ih y (by omega) hy a' w' hF' hH'
      | _ => exact q
  exact wp_loop_rounds _ (key _ x (Nat.lt_succ_self _) hx a w (hF.keep hE) hH)
theorem CM {E : α → List (Nat × Value)} {R : α → List Ass} {Inv : α → Prop} {μ : α → Nat} {x : α} (y : α) (k : Nat) (hy : Inv y) (hμ : μ y < μ x) (hs : FQ env (E y)) (hr : rs.drop k = R y) : CA (Exit.then (JD n B w0 E R Inv μ x) Q) n env B w0 rs .normal := fun _ _ hF hH => ⟨y, hy, hμ, hF.keep hs, hr ▸ hH.drop k⟩
end loops
section orders3
variable {P : Program} {ops : Array Oper} {Q : Exit → Act → World → Prop} {n fu i d : Nat} {B : Nat → Prop} {w0 : World} {rs : List Ass} {env : List (Nat × Value)} {listed : Array Bool} {o : Oper}
end orders3
section textsBs
variable {P : Program} {ops : Array Oper} {Q : Exit → Act → World → Prop} {n d : Nat} {B : Nat → Prop} {w0 : World} {rs : List Ass} {env env0 : List (Nat × Value)} {rest : List Oper} {o : Oper} {a : Act} {w : World} {jobs : List Job} {deps : List Nat} {kk : Nat}
end textsBs
section textsBytes
variable {P : Program} {ops : Array Oper} {Q : Exit → Act → World → Prop} {n : Nat} {B : Nat → Prop} {w0 w : World} {rs : List Ass} {env : List (Nat × Value)} {rest : List Oper} {o : Oper} {d : Nat}
end textsBytes
section par3
variable {P : Program} {ops : Array Oper} {Q : Exit → Act → World → Prop} {n : Nat} {B : Nat → Prop} {w0 : World} {rs : List Ass} {env : List (Nat × Value)}
theorem Np.keep {f : Nat} {env' : List (Nat × Value)} {listed : Array Bool} (hs : FQ env env') (h : Np P ops Q n env' B w0 rs f listed) : Np P ops Q n env B w0 rs f listed := fun a w hF hH => h a w (hF.keep hs) hH
end par3
section par4
variable {P : Program} {ops : Array Oper} {Q : Exit → Act → World → Prop} {n : Nat} {B : Nat → Prop} {w0 : World} {rs : List Ass} {env : List (Nat × Value)}
def SH (n : Nat) (B : Nat → Prop) (w0 : World) (E : List (Nat × Value)) (R : List Ass) : Exit → Act → World → Prop := fun e a w => e = .normal ∧ Fr n a E ∧ Hp B w0 w R
theorem Ql {c : Code} (E : List (Nat × Value)) (R : List Ass) (h1 : Bv P (SH n B w0 E R) n env B w0 rs c) (h2 : CA Q n E B w0 R .normal) : Bv P Q n env B w0 rs c := fun a w hF hH => Code.wp_mono (fun e a' w' (h : SH n B w0 E R e a' w') => by obtain ⟨he, hF', hH'⟩ := h; subst he; exact h2 a' w' hF' hH') (h1 a w hF hH)
theorem Lu {E : List (Nat × Value)} {R : List Ass} (k : Nat) (hs : FQ env E) (hr : rs.drop k = R) : CA (SH n B w0 E R) n env B w0 rs .normal := fun _ _ hF hH => ⟨rfl, hF.keep hs, hr ▸ hH.drop k⟩
end par4
section does
variable {P : Program} {ops : Array Oper} {Q : Exit → Act → World → Prop} {n d : Nat} {B : Nat → Prop} {w0 : World} {os : List Ass} {env : List (Nat × Value)} {rest l : List Oper} {o : Oper} {c : Code} {e : Exit} {fu : Nat} {ids : List Nat} {listed : Array Bool}
def EF : Ass := fun rs => rs = []
def E7 : Nat → List Ass → List Ass
  | 0, _ => []
  | k + 1, [] => EF :: E7 k []
  | k + 1, x :: r => x :: E7 k r
def EN : List Nat → List Ass → List Ass → List Ass
  | i :: ids, x :: xs, os => EN ids xs (os.set i x)
  | _, _, os => os
def Da : List Nat → Bool
  | [] => true
  | i :: r => !r.elem i && Da r
theorem BX : ∀ {l : List Nat}, Da l = true → l.Nodup
  | [], _ => List.nodup_nil
  | i :: r, h => by
    unfold Da at h
    simp only [Bool.and_eq_true, Bool.not_eq_true'] at h
    refine List.nodup_cons.2 ⟨fun hm => ?_, BX h.2⟩
    rw [List.elem_iff.2 hm] at h
    cases h.1
theorem Eo : ∀ {k : Nat} {rs : List RowT}, Ak (List.replicate k EF) rs ↔ rs = []
  | 0, rs => by simp [Ak]
  | k + 1, rs => by
    rw [List.replicate_succ]
    constructor
    · rintro ⟨a, b, e, h1, h2⟩
      have := (Eo (k := k)).1 h2
      unfold EF at h1
      subst h1; subst this
      exact e
    · rintro rfl
      exact ⟨[], [], rfl, rfl, Eo.2 rfl⟩
theorem AW.pad {X : Type} {F : FuncId} {args : Array Value} {pre : List Ass} {val : X → Value} {post : X → List Ass} (h : AW P F args pre val post) (k : Nat) : AW P F args (pre ++ List.replicate k EF) val post := fun w rs h1 h2 h3 => by
 obtain ⟨a, b, e, ha, hb⟩ := h1.split
 have := Eo.1 hb
 subst this
 rw [List.append_nil] at e
 subst e
 exact h w _ ha h2 h3
theorem I4 : ∀ (k : Nat) (l : List Ass), (E7 k l).length = k
  | 0, _ => rfl
  | k + 1, [] => by simp [E7, I4 k []]
  | k + 1, x :: r => by simp [E7, I4 k r]
theorem Ev : ∀ {k : Nat} {l : List Ass} {rs : List RowT}, Ak l rs → ∃ rs', rs.Perm rs' ∧ Ak (l.drop k ++ E7 k l) rs'
  | 0, l, rs, h => ⟨rs, .refl _, by simpa [E7] using h⟩
  | k + 1, [], rs, h => by
    obtain ⟨rs', p, h'⟩ := Ev (k := k) (l := []) h
    refine ⟨rs', p, ?_⟩
    simp only [List.drop_nil, List.nil_append] at h' ⊢
    exact ⟨[], rs', rfl, rfl, h'⟩
  | k + 1, x :: r, rs, ⟨a, b, e, h1, h2⟩ => by
    obtain ⟨b', p, h'⟩ := Ev (k := k) h2
    have h3 : Ak (x :: (r.drop k ++ E7 k r)) (a ++ b') := ⟨a, b', rfl, h1, h'⟩
    obtain ⟨c, p2, h4⟩ := h3.perm (os' := r.drop k ++ x :: E7 k r) List.perm_middle.symm
    exact ⟨c, (e ▸ p.append_left a).trans p2, h4⟩
theorem Qm {ids : List Nat} : ∀ {os : List Ass} {k i : Nat} {x : Ass}, (k + i) ∈ ids → Cl ids k (os.set i x) = Cl ids k os
  | [], _, _, _, _ => by simp
  | y :: r, k, 0, x, h => by
    have : ids.elem k = true := List.elem_iff.2 h
    rw [List.set_cons_zero, Kh this, Kh this]
  | y :: r, k, i + 1, x, h => by
    have ih := Qm (os := r) (k := k + 1) (i := i) (x := x) (by rwa [show k + 1 + i = k + (i + 1) by omega])
    rw [List.set_cons_succ]
    cases hk : ids.elem k with
    | true => rw [Kh hk, Kh hk, ih]
    | false => rw [Lj hk, Lj hk, ih]
theorem Ns {ids0 : List Nat} : ∀ {ids : List Nat} {xs os : List Ass}, (∀ i ∈ ids, i ∈ ids0) → DI ids0 (EN ids xs os) = DI ids0 os
  | [], _, _, _ => by unfold EN; rfl
  | i :: ids, [], _, _ => by unfold EN; rfl
  | i :: ids, x :: xs, os, h => by
    show DI ids0 (EN ids xs (os.set i x)) = _
    rw [Ns fun j hj => h j (by simp [hj])]
    exact Qm (k := 0) (by rw [Nat.zero_add]; exact h i (by simp))
theorem Nt : ∀ {ids : List Nat} {xs os : List Ass} {i : Nat}, i ∉ ids → (EN ids xs os)[i]? = os[i]?
  | [], _, _, _, _ => by unfold EN; rfl
  | j :: ids, [], _, _, _ => by unfold EN; rfl
  | j :: ids, x :: xs, os, i, h => by
    show (EN ids xs (os.set j x))[i]? = _
    rw [Nt fun hm => h (by simp [hm]), List.getElem?_set_ne (fun e => h (by simp [e]))]
theorem Nu : ∀ {ids : List Nat} {xs os : List Ass}, ids.Nodup → (∀ i ∈ ids, i < os.length) → xs.length = ids.length → Ee ids (EN ids xs os) = xs
  | [], xs, _, _, _, hl => by
    have : xs = [] := List.length_eq_zero_iff.1 hl
    subst this; rfl
  | i :: ids, [], _, _, _, hl => by simp at hl
  | i :: ids, x :: xs, os, hn, hb, hl => by
    obtain ⟨h1, h2⟩ := List.nodup_cons.1 hn
    have e1 : (EN ids xs (os.set i x))[i]? = some x := by
      rw [Nt h1]
      simp [hb i (by simp)]
    have ih := Nu (ids := ids) (xs := xs) (os := os.set i x) h2 (fun j hj => by rw [List.length_set]; exact hb j (by simp [hj])) (by simpa using hl)
    show List.filterMap _ (i :: ids) = _
    rw [List.filterMap_cons_some (b := x) (by exact e1)]
    exact congrArg _ ih
theorem I5 {ids : List Nat} {xs os : List Ass} (hn : ids.Nodup) (hb : (ids.all fun i => Nat.blt i os.length) = true) : (E7 ids.length xs ++ DI ids os).Perm (EN ids (E7 ids.length xs) os) := by
 have hb' : ∀ i ∈ ids, i < os.length := fun i hi => El (List.all_eq_true.1 hb i hi)
 have := C1 (ids := ids) (os := EN ids (E7 ids.length xs) os) hn
 rwa [Nu hn hb' (I4 _ _), Ns (fun _ h => h)] at this
theorem AW.calls {X : Type} {F : FuncId} {vs : List Value} {pre : List Ass} {val : X → Value} {post : X → List Ass} {w : World} (ids : List Nat) (hc : AW P F vs.toArray pre val post) (hp : Ee ids os = pre) (hn : ids.Nodup) (h : Hp B w0 w os) : Calls P F vs.toArray w fun e w' => ∃ x, e = .returned (val x) ∧ Hp B w0 w' (post x ++ DI ids os) := by
 subst hp
 obtain ⟨x, h1, h2, h3, h4⟩ := h.give ids hn
 exact (hc w x h1 h2 h3).mono fun e w' ⟨v, he, y, hy, hch⟩ => ⟨v, he, h4 _ y w' hy hch⟩
def Bq {X : Type} (P : Program) (Q : Exit → Act → World → Prop) (n : Nat) (env : List (Nat × Value)) (B : Nat → Prop) (w0 : World) (os : List Ass) (o : Oper) (val : X → Value) (post : X → List Ass) : Prop :=
  ∀ (b : Act) (w : World), Hp B w0 w os → Fr n b env → ∀ K : Act → World → Prop, (∀ x w', Hp B w0 w' (post x) → K (b.put o.dst (val x)) w') → o.wp P b w K Q
theorem Aj {X : Type} {val : X → Value} {post : X → List Ass} (h1 : Vq ops n o env = some d) (ha : Bq P Q n env B w0 os o val post) (h : ∀ x, Ce P ops Q n ((d, val x) :: env) B w0 (post x) rest) : Ce P ops Q n env B w0 os (o :: rest) := fun a w hF hH =>
 I2 hF (B8 h1).1 fun K hK => ha a w hH hF K fun x w' hp => by
  rw [(B8 h1).2.1]
  exact hK _ _ (h x _ _ (hF.put (B8 h1).2.2 _) hp)
theorem AU {X : Type} {val : X → Value} {post : X → List Ass} (hg : wants ops o env = some true) (hd : o.dst = none) (ha : Bq P Q n env B w0 os o val post) (h : ∀ x, Ce P ops Q n env B w0 (post x) rest) : Ce P ops Q n env B w0 os (o :: rest) := fun a w hF hH =>
 I2 hF hg fun K hK => ha a w hH hF K fun x w' hp => by
  rw [hd]
  exact hK _ _ (h x _ _ hF hp)
theorem E8 {r : Value} {w' : World} (b : Act) (hrun : (execOp b.eval o).run P w0 = .ok (.value r) w') {K : Act → World → Prop} (h : K (b.put o.dst r) w') : o.wp P b w0 K Q := by
 unfold Oper.wp
 rw [hrun, Oper.upon_value]
 exact h
theorem Am {X : Type} {F : FuncId} {f : Operand} {args : Array Operand} {ats : Array TypeId} {vs : List Value} {pre : List Ass} {val : X → Value} {post : X → List Ass} {os' : X → List Ass} (ids : List Nat) (pads : Nat) (hE : Uv P F) (hc : AW P F vs.toArray pre val post) (hp : Ee ids os = pre ++ List.replicate pads EF) (hn : Da ids = true) (hb : (ids.all fun i => Nat.blt i os.length) = true) (he : ∀ x, (post x).drop ids.length ++ EN ids (E7 ids.length (post x)) os = os' x) (ho : o.op = .call { callee := .value f, args := args, argTypes := ats }) (hf : evs env f = some (.func (.func F) #[] #[])) (hx : evl env args.toList = some vs) :
  Bq P Q n env B w0 os o val os' := fun b w hH hb' K hK => by
 unfold Oper.wp
 rw [GX hE ho hf hx hb', Oper.upon_enter]
 refine (AW.calls ids (hc.pad pads) hp (BX hn) hH).mono ?_
 rintro e w' ⟨x, rfl, hq⟩
 refine hK x w' (he x ▸ Hp.imp hq fun rs h => ?_)
 obtain ⟨a, c, e, ha, hc'⟩ := h.split
 obtain ⟨a', p, ha'⟩ := Ev (k := ids.length) ha
 have h2 := Ak.app ha' hc'
 rw [List.append_assoc] at h2
 obtain ⟨r2, p2, h3⟩ := h2.perm ((I5 (xs := post x) (BX hn) hb).append_left _)
 exact ⟨r2, e ▸ (p.append_right c).trans p2, h3⟩
theorem Bg {F : FuncId} {f : Operand} {args : Array Operand} {ats : Array TypeId} {vs : List Value} {v : Value} (hE : Uv P F) (hc : ∀ w, Hp B w0 w os → Calls P F vs.toArray w fun e w' => e = .returned v ∧ Below w.heap.size w w') (ho : o.op = .call { callee := .value f, args := args, argTypes := ats }) (hf : evs env f = some (.func (.func F) #[] #[])) (hx : evl env args.toList = some vs) :
  Bq P Q n env B w0 os o (fun _ : Unit => v) (fun _ => os) := fun b w hH hb K hK => by
 unfold Oper.wp
 rw [GX hE ho hf hx hb, Oper.upon_enter]
 refine (hc w hH).mono ?_
 rintro e w' ⟨rfl, hbl⟩
 exact hK () w' (hH.call hbl)
theorem Bq.to {X : Type} {val : X → Value} {post post' : X → List Ass} (h : Bq P Q n env B w0 os o val post) (he : ∀ x, post x = post' x) : Bq P Q n env B w0 os o val post' := fun b w hH hb K hK => h b w hH hb K fun x w' hp => hK x w' (he x ▸ hp)
theorem Bq.imp {X : Type} {val : X → Value} {post post' : X → List Ass} (h : Bq P Q n env B w0 os o val post) (he : ∀ x rs, Ak (post x) rs → ∃ rs', rs.Perm rs' ∧ Ak (post' x) rs') : Bq P Q n env B w0 os o val post' := fun b w hH hb K hK => h b w hH hb K fun x w' hp => hK x w' (hp.imp (he x))
theorem Bq.s {X : Type} {val : X → Value} {post : X → List Ass} {S : Value → List Ass} (h : Bq P Q n env B w0 os o val post) (he : ∀ x, post x = S (val x)) : ∀ (b : Act) (w : World), Hp B w0 w os → Fr n b env → ∀ K : Act → World → Prop, (∀ v w', Hp B w0 w' (S v) → K (b.put o.dst v) w') → o.wp P b w K Q := fun b w hH hb K hK => h b w hH hb K fun x w' hp => hK _ w' (he x ▸ hp)
theorem Bq.su {v0 : Value} {post : Unit → List Ass} {os' : Value → List Ass} (h : Bq P Q n env B w0 os o (fun _ : Unit => v0) post) (he : post () = os' undef) : ∀ (b : Act) (w : World), Hp B w0 w os → Fr n b env → ∀ K : Act → World → Prop, (∀ v w', Hp B w0 w' (os' v) → K (b.put o.dst v0) w') → o.wp P b w K Q := fun b w hH hb K hK => h b w hH hb K fun x w' hp => hK undef w' (he ▸ hp)
theorem CU {T : TypeId} {x : Operand} {v : Value} {cs : Array Value} (ho : o.op = .box T x) (hx : evs env x = some v) (hc : v.cells = cs) : Bq P Q n env B w0 os o (fun g : Nat => .pointer (some ⟨g, 0, none⟩)) (fun g => cell g T cs :: os) := fun b w hH hb K hK => by
 have hrun : (execOp b.eval o).run P w = .ok (.value (.pointer (some ⟨w.heap.size, 0, none⟩))) (w.alloc (.cells cs T)) := by
  unfold execOp
  simp [ho, hb.evs hx, Instr.box, newVar, newRow, hc]
 unfold Oper.wp
 rw [hrun, Oper.upon_value]
 exact hK _ _ (hH.new T cs)
theorem Ch {T : TypeId} {zs : Array Value} (hz : Nh P T zs) (ho : o.op = .alloc T) : Bq P Q n env B w0 os o (fun g : Nat => .pointer (some ⟨g, 0, none⟩)) (fun g => cell g T zs :: os) := fun b w hH hb K hK => by
 unfold Oper.wp
 rw [OK ho hz, Oper.upon_value]
 exact hK _ _ (hH.new T zs)
theorem AQ (i : Nat) {T : TypeId} {x y : Operand} {g off k : Nat} {t : TypeId} {cs : Array Value} {v : Value} (c : Array Value) (hs : ∀ w, (sizeOf T).run P w = .ok k w) (hk : v.cells.size = k) (hl : Nat.ble (off + k) cs.size = true) (hone : Nj v.cells.toList = true) (hc : (over? cs.toList off v.cells.toList).toArray = c) (hd : o.dst = none) (ho : o.op = .store T x y)
  (hx : evs env x = some (.pointer (some ⟨g, off, none⟩))) (hy : evs env y = some v) (hi : os[i]? = some (cell g t cs)) : Bq P Q n env B w0 os o (fun _ : Unit => undef) (fun _ => os.set i (cell g t c)) := fun a w hH hF K hK => by
 obtain ⟨w', hr, hR', hm⟩ := D0 (P := P) g t v.cells.toList 0 cs w off (hH.row i hi) (by have := Nat.le_of_ble_eq_true hl; simp; omega) (fun u hu => (List.all_eq_true.1 (Il hone)) u hu)
 have hrun : (execOp a.eval o).run P w = .ok .skip w' := by
  unfold execOp
  simp [ho, hF.evs hx, hF.evs hy, Instr.storeAt, Instr.sureAddr, storeVar, hs, hk, hr]
 have hR2 : CY w' g t c := by rw [← hc]; simpa [over?] using hR'
 unfold Oper.wp
 rw [hrun, Oper.upon_skip]
 have := hK () w' (hH.set i hi hm hR2)
 rw [hd] at this ⊢
 exact this
theorem Ce.via {X : Type} (os' : X → List Ass) (hi : ∀ rs, Ak os rs → ∃ x, ∃ rs', rs.Perm rs' ∧ Ak (os' x) rs') (h : ∀ x, Ce P ops Q n env B w0 (os' x) l) : Ce P ops Q n env B w0 os l := fun a w hF ⟨rs, h1, h2⟩ => by
 obtain ⟨x, rs', p, h3⟩ := hi rs h1
 exact h x a w hF ⟨rs', h3, CN h2 p⟩
theorem Bv.via {X : Type} (os' : X → List Ass) (hi : ∀ rs, Ak os rs → ∃ x, ∃ rs', rs.Perm rs' ∧ Ak (os' x) rs') (h : ∀ x, Bv P Q n env B w0 (os' x) c) : Bv P Q n env B w0 os c := fun a w hF ⟨rs, h1, h2⟩ => by
 obtain ⟨x, rs', p, h3⟩ := hi rs h1
 exact h x a w hF ⟨rs', h3, CN h2 p⟩
theorem CA.via {X : Type} (os' : X → List Ass) (hi : ∀ rs, Ak os rs → ∃ x, ∃ rs', rs.Perm rs' ∧ Ak (os' x) rs') (h : ∀ x, CA Q n env B w0 (os' x) e) : CA Q n env B w0 os e := fun a w hF ⟨rs, h1, h2⟩ => by
 obtain ⟨x, rs', p, h3⟩ := hi rs h1
 exact h x a w hF ⟨rs', h3, CN h2 p⟩
theorem Np.via {X : Type} (os' : X → List Ass) (hi : ∀ rs, Ak os rs → ∃ x, ∃ rs', rs.Perm rs' ∧ Ak (os' x) rs') (h : ∀ x, Np P ops Q n env B w0 (os' x) fu listed) : Np P ops Q n env B w0 os fu listed := fun a w hF ⟨rs, h1, h2⟩ => by
 obtain ⟨x, rs', p, h3⟩ := hi rs h1
 exact h x a w hF ⟨rs', h3, CN h2 p⟩
theorem Ce.mid (os' : List Ass) (hp : os.Perm os') (h : Ce P ops Q n env B w0 os' l) : Ce P ops Q n env B w0 os l := fun a w hF hH => h a w hF (hH.perm hp)
theorem Bv.mid (os' : List Ass) (hp : os.Perm os') (h : Bv P Q n env B w0 os' c) : Bv P Q n env B w0 os c := fun a w hF hH => h a w hF (hH.perm hp)
theorem CA.mid (os' : List Ass) (hp : os.Perm os') (h : CA Q n env B w0 os' e) : CA Q n env B w0 os e := fun a w hF hH => h a w hF (hH.perm hp)
theorem Np.mid (os' : List Ass) (hp : os.Perm os') (h : Np P ops Q n env B w0 os' fu listed) : Np P ops Q n env B w0 os fu listed := fun a w hF hH => h a w hF (hH.perm hp)
theorem SK {i : Nat} {o : Ass} (hi : os[i]? = some o) : os.Perm (o :: DI [i] os) := by
 have := (C1 (ids := [i]) (os := os) (by simp)).symm
 unfold Ee at this
 rw [List.filterMap_cons_some hi] at this
 exact this
theorem FA {p : Prop} {o : Ass} (i : Nat) (hi : os[i]? = some o) (hp : ∀ rs, o rs → p) {w : World} (h : Hp B w0 w os) : p := by
 obtain ⟨x, hx, _⟩ := h.thing i hi
 exact hp x hx
theorem Ce.fact {p : Prop} {o : Ass} (i : Nat) (hi : os[i]? = some o) (hp : ∀ rs, o rs → p) (h : p → Ce P ops Q n env B w0 os l) : Ce P ops Q n env B w0 os l := fun a w hF hH => h (FA i hi hp hH) a w hF hH
theorem Bv.fact {p : Prop} {o : Ass} (i : Nat) (hi : os[i]? = some o) (hp : ∀ rs, o rs → p) (h : p → Bv P Q n env B w0 os c) : Bv P Q n env B w0 os c := fun a w hF hH => h (FA i hi hp hH) a w hF hH
theorem CA.fact {p : Prop} {o : Ass} (i : Nat) (hi : os[i]? = some o) (hp : ∀ rs, o rs → p) (h : p → CA Q n env B w0 os e) : CA Q n env B w0 os e := fun a w hF hH => h (FA i hi hp hH) a w hF hH
theorem Ms {α : Type} {A : α → List Ass} {i : Nat} {o : Ass} (hi : os[i]? = some o) (ho : ∀ rs, o rs → ∃ x, Ak (A x) rs) : ∀ rs, Ak os rs → ∃ x, ∃ rs', rs.Perm rs' ∧ Ak (A x ++ DI [i] os) rs' := fun rs h => by
 obtain ⟨rs1, p, a, b, e, h1, h2⟩ := h.perm (SK hi)
 obtain ⟨x, h3⟩ := ho a h1
 exact ⟨x, rs1, p, e ▸ h3.app h2⟩
theorem Bd {α : Type} {A : α → List Ass} {t : Ass} {os' : α → List Ass} (i : Nat) (hi : os[i]? = some t) (ho : ∀ rs, t rs → ∃ x, Ak (A x) rs) (he : ∀ x, A x ++ DI [i] os = os' x) (h : ∀ x, Bv P Q n env B w0 (os' x) c) : Bv P Q n env B w0 os c := Bv.via _ (Ms hi ho) fun x => he x ▸ h x
theorem Ki {t : Ass} (ids : List Nat) (hn : Da ids = true) (ht : ∀ rs, Ak (Ee ids os) rs → t rs) : ∀ rs, Ak os rs → ∃ _ : Unit, ∃ rs', rs.Perm rs' ∧ Ak (t :: DI ids os) rs' := fun rs h => by
 obtain ⟨rs1, p, h1⟩ := h.perm (C1 (os := os) (BX hn)).symm
 obtain ⟨a, b, e, h2, h3⟩ := h1.split
 exact ⟨(), rs1, p, a, b, e, ht a h2, h3⟩
theorem Qn {t : Ass} {os' : List Ass} (ids : List Nat) (hn : Da ids = true) (ht : ∀ rs, Ak (Ee ids os) rs → t rs) (he : t :: DI ids os = os') (h : Ce P ops Q n env B w0 os' l) : Ce P ops Q n env B w0 os l := Ce.via (fun _ : Unit => _) (Ki ids hn ht) fun _ => he ▸ h
theorem Bk {t : Ass} {os' : List Ass} (ids : List Nat) (hn : Da ids = true) (ht : ∀ rs, Ak (Ee ids os) rs → t rs) (he : t :: DI ids os = os') (h : Bv P Q n env B w0 os' c) : Bv P Q n env B w0 os c := Bv.via (fun _ : Unit => _) (Ki ids hn ht) fun _ => he ▸ h
theorem Qo {t : Ass} {os' : List Ass} (ids : List Nat) (hn : Da ids = true) (ht : ∀ rs, Ak (Ee ids os) rs → t rs) (he : t :: DI ids os = os') (h : CA Q n env B w0 os' e) : CA Q n env B w0 os e := CA.via (fun _ : Unit => _) (Ki ids hn ht) fun _ => he ▸ h
theorem Ep (k : Nat) {os' : List Ass} (he : List.replicate k EF ++ os = os') (h : Bv P Q n env B w0 os' c) : Bv P Q n env B w0 os c := Bv.via (fun _ : Unit => os') (fun rs hp => ⟨(), rs, .refl _, he ▸ (Ak.app (Eo.2 rfl) hp : Ak _ ([] ++ rs))⟩) fun _ => h
theorem Bv.leave {os' : List Ass} (ids : List Nat) (hn : Da ids = true) (he : DI ids os = os') (h : Bv P Q n env B w0 os' c) : Bv P Q n env B w0 os c := fun a w hF hH => h a w hF (by
 have := (hH.perm (C1 (os := os) (BX hn)).symm).drop (Ee ids os).length
 rw [List.drop_left] at this
 exact he ▸ this)
theorem Ce.leave {os' : List Ass} (ids : List Nat) (hn : Da ids = true) (he : DI ids os = os') (h : Ce P ops Q n env B w0 os' l) : Ce P ops Q n env B w0 os l := fun a w hF hH => h a w hF (by
 have := (hH.perm (C1 (os := os) (BX hn)).symm).drop (Ee ids os).length
 rw [List.drop_left] at this
 exact he ▸ this)
theorem CA.leave {os' : List Ass} (ids : List Nat) (hn : Da ids = true) (he : DI ids os = os') (h : CA Q n env B w0 os' e) : CA Q n env B w0 os e := fun a w hF hH => h a w hF (by
 have := (hH.perm (C1 (os := os) (BX hn)).symm).drop (Ee ids os).length
 rw [List.drop_left] at this
 exact he ▸ this)
def CJ (r : Option Value) (f : Value → Ass) (d : Ass) : Ass := match r with | some v => f v | none => d
end does
section entry
variable {P : Program} {fn : Func}
theorem Be {X : Type} {f : FuncId} {c : Code} {args : List Value} {pre : List Ass} {val : X → Value} {post : X → List Ass} (n : Nat) (hf : P.funcs[f]? = some fn) (hb : fn.body = some c) (hn : fn.ntmps = n) (hs : Nat.ble args.length n = true)
  (h : ∀ (w : World) (rs : List RowT), Bv P (bodyPost P fn fun e w' => ∃ x, e = .returned (val x) ∧ ∃ rs', Ak (post x) rs' ∧ Chg w w' rs rs') n (Fs 0 args) (Ci rs) w pre c) : AW P f args.toArray pre val post :=
 fun w rs h1 h2 h3 => Gl n hf hb hn (Nat.le_of_ble_eq_true hs) fun a hF => h w rs a w hF (Hp.given h1 h2 h3)
theorem AG {X : Type} {w0 w' : World} {rs : List RowT} {os : List Ass} {val : X → Value} {post : X → List Ass} (x : X) {v : Value} (hv : v = val x) (ids : List Nat) (hn : Da ids = true) (h : Hp (Ci rs) w0 w' os) (hp : ∀ y, Ak (Ee ids os) y → ∃ z, y.Perm z ∧ Ak (post x) z) : ∃ x, Ending.returned v = .returned (val x) ∧ ∃ rs', Ak (post x) rs' ∧ Chg w0 w' rs rs' := by
 obtain ⟨y, h1, h2⟩ := h.tell ids (BX hn)
 obtain ⟨z, p, h3⟩ := hp y h1
 exact ⟨x, by rw [hv], z, h3, I3 h2 p⟩
theorem AW.frame {X : Type} {F : FuncId} {args : Array Value} {pre more : List Ass} {val : X → Value} {post : X → List Ass} (h : AW P F args pre val post) : AW P F args (pre ++ more) val (fun x => post x ++ more) := fun w rs h1 h2 h3 => by
 obtain ⟨a, b, e, ha, hb⟩ := h1.split
 subst e
 have hd := Bf.1 h3
 rw [List.map_append] at hd
 have hh : Mem.Hp (Ci (a ++ b)) w w (a ++ b) := Mem.Hp.given h2 h3
 refine (h w a ha (AN.2 fun z hz => h2.mem z (by simp [hz])) (Bf.2 (List.nodup_append.1 hd).1)).mono ?_
 rintro e w' ⟨x, he, y, hy, hc⟩
 have := E6 hh hc
 exact ⟨x, he, y ++ b, hy.app hb, this.up, this.rows, this.apart, fun z hz hlt => this.own z hz hlt⟩
theorem AW.imp {X : Type} {F : FuncId} {args : Array Value} {pre pre' : List Ass} {val : X → Value} {post : X → List Ass} (h : AW P F args pre val post) (hi : ∀ rs, Ak pre' rs → ∃ rs', rs.Perm rs' ∧ Ak pre rs') : AW P F args pre' val post := fun w rs h1 h2 h3 => by
 obtain ⟨rs', p, h4⟩ := hi rs h1
 refine (h w rs' h4 (AN.2 fun z hz => h2.mem z (p.mem_iff.2 hz)) (Bf.2 ((p.map _).nodup_iff.1 (Bf.1 h3)))).mono ?_
 rintro e w' ⟨x, he, y, hy, hc⟩
 exact ⟨x, he, y, hy, Nr hc p.symm⟩
theorem CV {os : List Ass} : ∀ y, Ak os y → ∃ z, y.Perm z ∧ Ak os z := fun y h => ⟨y, .refl _, h⟩
end entry
end Go.Proofs.YtjcfimmcogkopaaGreat.Sep
