/-
  Sep
-/
import Derived.Test.YtnknboibmifacaaGreatDoorVA03
set_option linter.unusedSimpArgs false
set_option linter.unusedVariables false
namespace Go.Proofs.YtnknboibmifacaaGreatDoor.Sep
open Go.RowKit
open Go.Proofs.YtnknboibmifacaaGreatDoor.Mem (AR B3 Chg Ug WV E5 Av)
abbrev Ass := List RowT → Prop
def cell (g : Nat) (t : TypeId) (cs : Array Value) : Ass := fun rs => rs = [(g, EO t, cs)]
def fact (p : Prop) : Ass := fun rs => rs = [] ∧ p
def ex {α : Type} (A : α → Ass) : Ass := fun rs => ∃ x, A x rs
def Al : List Ass → List RowT → Prop
  | [], rs => rs = []
  | o :: os, rs => ∃ a b, rs = a ++ b ∧ o a ∧ Al os b
def Fq (l : List Ass) : Ass := Al l
section parts
variable {os os' : List Ass} {rs : List RowT}
theorem Al.app : ∀ {os os' : List Ass} {a b : List RowT}, Al os a → Al os' b → Al (os ++ os') (a ++ b)
  | [], _, a, b, h, h' => by unfold Al at h; subst h; exact h'
  | o :: os, os', a, b, h, h' => by
    obtain ⟨x, y, e, h1, h2⟩ := h
    exact ⟨x, y ++ b, by rw [e, List.append_assoc], h1, h2.app h'⟩
theorem Al.split : ∀ {os os' : List Ass} {rs : List RowT}, Al (os ++ os') rs → ∃ a b, rs = a ++ b ∧ Al os a ∧ Al os' b
  | [], _, rs, h => ⟨[], rs, rfl, rfl, h⟩
  | o :: os, os', rs, h => by
    obtain ⟨x, y, e, h1, h2⟩ := h
    obtain ⟨a, b, e', h3, h4⟩ := Al.split h2
    exact ⟨x ++ a, b, by rw [e, e', List.append_assoc], ⟨x, a, rfl, h1, h3⟩, h4⟩
theorem Al.perm {os os' : List Ass} (hp : os.Perm os') : ∀ {rs : List RowT}, Al os rs → ∃ rs', rs.Perm rs' ∧ Al os' rs' := by
  induction hp with
  | nil => exact fun {rs} h => ⟨rs, .refl _, h⟩
  | cons o _ ih =>
    rintro rs ⟨a, b, e, h1, h2⟩
    obtain ⟨b', hp, h3⟩ := ih h2
    exact ⟨a ++ b', e ▸ hp.append_left a, a, b', rfl, h1, h3⟩
  | swap o o' l =>
    rintro rs ⟨a, b, e, h1, c, d, e', h2, h3⟩
    refine ⟨c ++ (a ++ d), ?_, c, a ++ d, rfl, h2, a, d, rfl, h1, h3⟩
    rw [e, e', ← List.append_assoc, ← List.append_assoc]
    exact List.perm_append_comm.append_right d
  | trans _ _ ih1 ih2 =>
    intro rs h
    obtain ⟨r1, p1, h1⟩ := ih1 h
    obtain ⟨r2, p2, h2⟩ := ih2 h1
    exact ⟨r2, p1.trans p2, h2⟩
theorem Al.one {o : Ass} {rs : List RowT} (h : o rs) : Al [o] rs := ⟨rs, [], by simp, h, rfl⟩
theorem Al.one' {o : Ass} {rs : List RowT} (h : Al [o] rs) : o rs := by
 obtain ⟨a, b, e, h1, h2⟩ := h
 unfold Al at h2
 subst h2
 rw [List.append_nil] at e
 exact e ▸ h1
def W3 : List Ass → List Ass → Prop
  | [], [] => True
  | o :: os, o' :: os' => (∀ rs, o rs → o' rs) ∧ W3 os os'
  | _, _ => False
theorem Al.imp : ∀ {os os' : List Ass} {rs : List RowT}, W3 os os' → Al os rs → Al os' rs
  | [], [], _, _, h => h
  | o :: os, o' :: os', _, hi, ⟨a, b, e, h1, h2⟩ => ⟨a, b, e, hi.1 a h1, h2.imp hi.2⟩
  | [], _ :: _, _, hi, _ => hi.elim
  | _ :: _, [], _, hi, _ => hi.elim
end parts
def DN (ids : List Nat) (os : List Ass) : List Ass := ids.filterMap (os[·]?)
def Ci (ids : List Nat) : Nat → List Ass → List Ass
  | _, [] => []
  | k, x :: r => match ids.elem k with | true => Ci ids (k + 1) r | false => x :: Ci ids (k + 1) r
def Di (ids : List Nat) (os : List Ass) : List Ass := Ci ids 0 os
theorem Kt {ids : List Nat} {k : Nat} {x : Ass} {r : List Ass} (h : ids.elem k = true) : Ci ids k (x :: r) = Ci ids (k + 1) r := by
 conv => lhs; unfold Ci
 rw [h]
theorem LL {ids : List Nat} {k : Nat} {x : Ass} {r : List Ass} (h : ids.elem k = false) : Ci ids k (x :: r) = x :: Ci ids (k + 1) r := by
 conv => lhs; unfold Ci
 rw [h]
theorem MF {ids : List Nat} {i k : Nat} (h : k ≠ i) : (i :: ids).elem k = ids.elem k := by
  have : (k == i) = false := by simpa using h
  show (match k == i with | true => true | false => ids.elem k) = _
  rw [this]
theorem Un {ids : List Nat} {k : Nat} : (k :: ids).elem k = true := by
  show (match k == k with | true => true | false => ids.elem k) = _
  simp
theorem ID : ∀ (k : Nat) (os : List Ass), Ci [] k os = os
  | _, [] => rfl
  | k, x :: r => by rw [LL rfl, ID (k + 1) r]
theorem Gg {i : Nat} {ids : List Nat} : ∀ {k : Nat} {os : List Ass}, i < k → Ci (i :: ids) k os = Ci ids k os
  | _, [], _ => rfl
  | k, x :: r, h => by
    have e : (i :: ids).elem k = ids.elem k := MF (by omega)
    cases hk : ids.elem k with
    | true => rw [Kt (e.trans hk), Kt hk, Gg (by omega)]
    | false => rw [LL (e.trans hk), LL hk, Gg (by omega)]
theorem HU {ids : List Nat} : ∀ {os : List Ass} {o : Ass} {k i : Nat}, k + i ∉ ids → os[i]? = some o → (Ci ids k os).Perm (o :: Ci ((k + i) :: ids) k os)
  | [], o, k, i, _, h => by simp at h
  | x :: r, o, k, 0, hm, h => by
    simp only [List.getElem?_cons_zero, Option.some.injEq] at h
    subst h
    have h1 : ids.elem k = false := by
      cases hk : ids.elem k with
      | false => rfl
      | true => exact absurd (List.elem_iff.1 hk) hm
    rw [LL h1]
    show List.Perm _ (x :: Ci (k :: ids) k (x :: r))
    rw [Kt Un, Gg (by omega)]
  | x :: r, o, k, i + 1, hm, h => by
    simp only [List.getElem?_cons_succ] at h
    have := HU (k := k + 1) (by rwa [show k + 1 + i = k + (i + 1) by omega]) h
    rw [show k + 1 + i = k + (i + 1) by omega] at this
    have e : ((k + (i + 1)) :: ids).elem k = ids.elem k := MF (by omega)
    cases hk : ids.elem k with
    | true => rw [Kt hk, Kt (e.trans hk)]; exact this
    | false => rw [LL hk, LL (e.trans hk)]; exact (this.cons x).trans (.swap o x _)
theorem HW {ids : List Nat} : ∀ {os : List Ass} {k i : Nat}, os[i]? = none → Ci ((k + i) :: ids) k os = Ci ids k os
  | [], _, _, _ => rfl
  | x :: r, k, 0, h => by simp at h
  | x :: r, k, i + 1, h => by
    simp only [List.getElem?_cons_succ] at h
    have := HW (ids := ids) (k := k + 1) h
    rw [show k + 1 + i = k + (i + 1) by omega] at this
    have e : ((k + (i + 1)) :: ids).elem k = ids.elem k := MF (by omega)
    cases hk : ids.elem k with
    | true => rw [Kt hk, Kt (e.trans hk)]; exact this
    | false => rw [LL hk, LL (e.trans hk), this]
theorem CU : ∀ {ids : List Nat} {os : List Ass}, ids.Nodup → (DN ids os ++ Di ids os).Perm os := by
  intro ids os
  induction ids with
  | nil => intro _; unfold Di; rw [ID]; exact .refl _
  | cons i ids ih =>
    intro hn
    obtain ⟨h1, h2⟩ := List.nodup_cons.1 hn
    refine .trans ?_ (ih h2)
    cases hi : os[i]? with
    | none =>
      have e : Di (i :: ids) os = Di ids os := by
        have := HW (ids := ids) (k := 0) hi
        rwa [Nat.zero_add] at this
      rw [e]
      show (List.filterMap _ (i :: ids) ++ _).Perm _
      rw [List.filterMap_cons_none hi]
      exact .refl _
    | some o =>
      have h := HU (k := 0) (by rwa [Nat.zero_add]) hi
      rw [Nat.zero_add] at h
      show (List.filterMap _ (i :: ids) ++ _).Perm _
      rw [List.filterMap_cons_some hi]
      have e : (DN ids os ++ o :: Di (i :: ids) os).Perm (DN ids os ++ Di ids os) := List.Perm.append_left _ h.symm
      refine .trans ?_ e
      exact List.perm_middle.symm
theorem Bk : ∀ {rs : List RowT}, AR rs ↔ (rs.map (·.1)).Nodup
  | [] => by simp [AR]
  | x :: r => by
    unfold AR
    rw [List.map_cons, List.nodup_cons, Bk (rs := r)]
    refine and_congr ⟨fun h hm => ?_, fun h y hy e => h ?_⟩ Iff.rfl
    · obtain ⟨y, hy, e⟩ := List.mem_map.1 hm
      exact h y hy e
    · exact List.mem_map.2 ⟨y, hy, e⟩
theorem Bt {w : World} {rs : List RowT} : RowsOf w rs ↔ ∀ x ∈ rs, CX w x := ⟨fun h => h.mem, fun h => Mem.RowsOf.ofAll h⟩
section known
variable {B : Nat → Prop} {w0 w w' : World} {rs rs' a b c : List RowT}
theorem CV (h : Mem.Hp B w0 w rs) (hp : rs.Perm rs') : Mem.Hp B w0 w rs' :=
 ⟨h.up, Bt.2 fun x hx => h.rows.mem x (hp.mem_iff.2 hx), Bk.2 ((hp.map _).nodup_iff.1 (Bk.1 h.apart)), fun x hx => h.own x (hp.mem_iff.2 hx)⟩
theorem Nv {w' : World} (h : Chg w w' a b) (hp : a.Perm c) : Chg w w' c b := ⟨h.mod.weaken fun j _ ⟨x, hx, e⟩ => ⟨x, hp.mem_iff.1 hx, e⟩, h.rows, h.dist, fun x hx hlt => by obtain ⟨y, hy, e⟩ := h.from_ x hx hlt; exact ⟨y, hp.mem_iff.1 hy, e⟩⟩
theorem Hm {w' : World} (h : Chg w w' a b) (hp : b.Perm c) : Chg w w' a c := ⟨h.mod, Bt.2 fun x hx => h.rows.mem x (hp.mem_iff.2 hx), Bk.2 ((hp.map _).nodup_iff.1 (Bk.1 h.dist)), fun x hx => h.from_ x (hp.mem_iff.2 hx)⟩
theorem Fs (h : Mem.Hp B w0 w (a ++ b)) (hc : Chg w w' a c) : Mem.Hp B w0 w' (c ++ b) := by
  have hd := Bk.1 h.apart
  rw [List.map_append] at hd
  have hne : ∀ x ∈ a, ∀ y ∈ b, y.1 ≠ x.1 := fun x hx y hy e => (List.nodup_append.1 hd).2.2 x.1 (List.mem_map.2 ⟨x, hx, rfl⟩) y.1 (List.mem_map.2 ⟨y, hy, rfl⟩) e.symm
  have hnb : ∀ y ∈ b, ¬ B3 a y.1 := fun y hy ⟨x, hx, e⟩ => hne x hx y hy e.symm
  have hold : ∀ y ∈ b, CX w y := fun y hy => h.rows.mem y (by simp [hy])
  refine ⟨h.up.trans hc.mod (fun j hj ⟨x, hx, e⟩ => e ▸ h.own x (by simp [hx]) (e ▸ hj)), ?_, ?_, ?_⟩
  · refine Bt.2 fun x hx => ?_
    rcases List.mem_append.1 hx with hx | hx
    · exact hc.rows.mem x hx
    · exact (hold x hx).mod hc.mod (hnb x hx)
  · refine Mem.dist_app hc.dist (Bk.2 (List.nodup_append.1 hd).2.1) fun x hx y hy e => ?_
    have hlt := (hold y hy).lt
    rw [e] at hlt
    exact hnb y hy (e ▸ hc.from_ x hx hlt)
  · intro x hx hlt
    rcases List.mem_append.1 hx with hx | hx
    · have := h.up.size
      obtain ⟨y, hy, e⟩ := hc.from_ x hx (by omega)
      exact e ▸ h.own y (by simp [hy]) (e ▸ hlt)
    · exact h.own x (by simp [hx]) hlt
end known
def Hp (B : Nat → Prop) (w0 w : World) (os : List Ass) : Prop := ∃ rs, Al os rs ∧ Mem.Hp B w0 w rs
section hp
variable {B : Nat → Prop} {w0 w w' : World} {os os' : List Ass} {rs : List RowT}
theorem Hp.up (h : Hp B w0 w os) : Mod B w0 w := by obtain ⟨_, _, h⟩ := h; exact h.up
theorem Hp.perm (h : Hp B w0 w os) (hp : os.Perm os') : Hp B w0 w os' := by
 obtain ⟨rs, h1, h2⟩ := h
 obtain ⟨rs', p, h3⟩ := h1.perm hp
 exact ⟨rs', h3, CV h2 p⟩
theorem Hp.start (w : World) : Hp Nil w w [] := ⟨[], rfl, Mem.Hp.start w⟩
theorem Hp.given (h1 : Al os rs) (h2 : RowsOf w rs) (h3 : AR rs) : Hp (B3 rs) w w os := ⟨rs, h1, Mem.Hp.given h2 h3⟩
theorem Hp.call (h : Hp B w0 w os) (hb : Below w.heap.size w w') : Hp B w0 w' os := by obtain ⟨rs, h1, h2⟩ := h; exact ⟨rs, h1, h2.call hb⟩
theorem Hp.drew (h : Hp B w0 w os) : Hp B w0 w.drew os := by obtain ⟨rs, h1, h2⟩ := h; exact ⟨rs, h1, h2.drew⟩
theorem Hp.new (h : Hp B w0 w os) (t : TypeId) (cs : Array Value) : Hp B w0 (w.alloc (.cells cs t)) (cell w.heap.size t cs :: os) := by
 obtain ⟨rs, h1, h2⟩ := h
 exact ⟨(w.heap.size, EO t, cs) :: rs, ⟨[(w.heap.size, EO t, cs)], rs, rfl, rfl, h1⟩, h2.new t cs⟩
theorem Al.at_ : ∀ {os : List Ass} {rs : List RowT} {i : Nat} {o : Ass}, Al os rs → os[i]? = some o → ∃ a x b, rs = a ++ (x ++ b) ∧ o x ∧ ∀ (o' : Ass) (y : List RowT), o' y → Al (os.set i o') (a ++ (y ++ b))
  | [], _, i, o, _, hi => by simp at hi
  | p :: os, rs, 0, o, ⟨a, b, e, h1, h2⟩, hi => by
    simp only [List.getElem?_cons_zero, Option.some.injEq] at hi
    subst hi
    exact ⟨[], a, b, by simpa using e, h1, fun o' y h => ⟨y, b, rfl, h, h2⟩⟩
  | p :: os, rs, i + 1, o, ⟨a, b, e, h1, h2⟩, hi => by
    simp only [List.getElem?_cons_succ] at hi
    obtain ⟨a', x, b', e', h3, h4⟩ := Al.at_ h2 hi
    exact ⟨a ++ a', x, b', by rw [e, e', List.append_assoc], h3, fun o' y h => ⟨a, a' ++ (y ++ b'), by rw [List.append_assoc], h1, h4 o' y h⟩⟩
theorem Hp.thing (h : Hp B w0 w os) (i : Nat) {o : Ass} (hi : os[i]? = some o) : ∃ x, o x ∧ RowsOf w x := by
 obtain ⟨rs, h1, h2⟩ := h
 obtain ⟨a, x, b, e, h3, _⟩ := h1.at_ hi
 refine ⟨x, h3, Bt.2 fun y hy => h2.rows.mem y ?_⟩
 rw [e]; simp [hy]
theorem Hp.row (h : Hp B w0 w os) (i : Nat) {g : Nat} {t : TypeId} {cs : Array Value} (hi : os[i]? = some (cell g t cs)) : C5 w g t cs := by
 obtain ⟨x, hx, hr⟩ := h.thing i hi
 unfold cell at hx
 subst hx
 exact hr.1
theorem Hp.turn (h : Hp B w0 w os) (i : Nat) {o o' : Ass} (hi : os[i]? = some o) (hc : ∀ x, o x → RowsOf w x → AR x → ∃ y, o' y ∧ Chg w w' x y) : Hp B w0 w' (os.set i o') := by
 obtain ⟨rs, h1, h2⟩ := h
 obtain ⟨a, x, b, e, h3, h4⟩ := h1.at_ hi
 subst e
 have p : (a ++ (x ++ b)).Perm (x ++ (a ++ b)) := by rw [← List.append_assoc, ← List.append_assoc]; exact List.perm_append_comm.append_right b
 have h5 := CV h2 p
 have hd := Bk.1 h5.apart
 rw [List.map_append] at hd
 obtain ⟨y, hy, hch⟩ := hc x h3 (Bt.2 fun z hz => h5.rows.mem z (by simp [hz])) (Bk.2 (List.nodup_append.1 hd).1)
 have p' : (y ++ (a ++ b)).Perm (a ++ (y ++ b)) := by rw [← List.append_assoc, ← List.append_assoc]; exact List.perm_append_comm.append_right b
 exact ⟨_, h4 o' y hy, CV (Fs h5 hch) p'⟩
theorem Hp.set (h : Hp B w0 w os) (i : Nat) {g : Nat} {t : TypeId} {cs c : Array Value} (hi : os[i]? = some (cell g t cs)) (hm : Mod (Ni g) w w') (hR : C5 w' g t c) : Hp B w0 w' (os.set i (cell g t c)) :=
 h.turn i hi fun x hx _ _ => ⟨[(g, t, c)], rfl, by
  unfold cell at hx
  subst hx
  refine ⟨hm.weaken fun j _ e => ⟨(g, EO t, cs), by simp, e.symm⟩, ⟨hR, trivial⟩, ⟨(fun _ h => by cases h), trivial⟩, fun x hx _ => ?_⟩
  have : x = (g, EO t, c) := by simpa using hx
  subst this
  exact ⟨(g, EO t, cs), by simp, rfl⟩⟩
theorem Hp.drop (h : Hp B w0 w os) (k : Nat) : Hp B w0 w (os.drop k) := by
 obtain ⟨rs, h1, h2⟩ := h
 rw [← List.take_append_drop k os] at h1
 obtain ⟨a, b, e, _, h3⟩ := h1.split
 subst e
 have hd := Bk.1 h2.apart
 rw [List.map_append] at hd
 exact ⟨b, h3, h2.up, Bt.2 fun x hx => h2.rows.mem x (by simp [hx]), Bk.2 (List.nodup_append.1 hd).2.1, fun x hx => h2.own x (by simp [hx])⟩
theorem Hp.chg (h : Hp B w0 w os) (ids : List Nat) (hn : ids.Nodup) {post : List Ass} (hc : ∀ x, Al (DN ids os) x → RowsOf w x → AR x → ∃ y, Al post y ∧ Chg w w' x y) : Hp B w0 w' (post ++ Di ids os) := by
 obtain ⟨rs, h1, h2⟩ := h.perm (CU (os := os) hn).symm
 obtain ⟨a, b, e, h3, h4⟩ := h1.split
 subst e
 have hd := Bk.1 h2.apart
 rw [List.map_append] at hd
 obtain ⟨y, hy, hch⟩ := hc a h3 (Bt.2 fun z hz => h2.rows.mem z (by simp [hz])) (Bk.2 (List.nodup_append.1 hd).1)
 exact ⟨y ++ b, hy.app h4, Fs h2 hch⟩
theorem Hp.give (h : Hp B w0 w os) (ids : List Nat) (hn : ids.Nodup) : ∃ x, Al (DN ids os) x ∧ RowsOf w x ∧ AR x ∧ ∀ (post : List Ass) (y : List RowT) (w' : World), Al post y → Chg w w' x y → Hp B w0 w' (post ++ Di ids os) := by
 obtain ⟨rs, h1, h2⟩ := h.perm (CU (os := os) hn).symm
 obtain ⟨a, b, e, h3, h4⟩ := h1.split
 subst e
 have hd := Bk.1 h2.apart
 rw [List.map_append] at hd
 exact ⟨a, h3, Bt.2 fun z hz => h2.rows.mem z (by simp [hz]), Bk.2 (List.nodup_append.1 hd).1, fun post y w' hy hch => ⟨y ++ b, hy.app h4, Fs h2 hch⟩⟩
theorem Hp.tell (h : Hp (B3 rs) w0 w os) (ids : List Nat) (hn : ids.Nodup) : ∃ y, Al (DN ids os) y ∧ Chg w0 w rs y := by
 obtain ⟨rs', h1, h2⟩ := h.perm (CU (os := os) hn).symm
 obtain ⟨a, b, e, h3, h4⟩ := h1.split
 subst e
 have hd := Bk.1 h2.apart
 rw [List.map_append] at hd
 exact ⟨a, h3, h2.up, Bt.2 fun z hz => h2.rows.mem z (by simp [hz]), Bk.2 (List.nodup_append.1 hd).1, fun x hx => h2.own x (by simp [hx])⟩
theorem Hp.imp (h : Hp B w0 w os) (hi : ∀ rs, Al os rs → ∃ rs', rs.Perm rs' ∧ Al os' rs') : Hp B w0 w os' := by
 obtain ⟨rs, h1, h2⟩ := h
 obtain ⟨rs', p, h3⟩ := hi rs h1
 exact ⟨rs', h3, CV h2 p⟩
end hp
def AP {X : Type} (P : Program) (F : FuncId) (args : Array Value) (pre : List Ass) (val : X → Value) (post : X → List Ass) : Prop :=
  ∀ w rs, Al pre rs → RowsOf w rs → AR rs → Calls P F args w fun e w' => ∃ x, e = .returned (val x) ∧ ∃ rs', Al (post x) rs' ∧ Chg w w' rs rs'
inductive Res2 (P : Program) (env : List (Nat × Value)) (rs : List Ass) : ResultVar → Value → Prop
  | tmp {t : Tmp} {v : Value} (h : look env t = some v) : Res2 P env rs (.tmp t) v
  | cell (i : Nat) {s : Tmp} {T : TypeId} {g off : Nat} {t : TypeId} {cs : Array Value} {v : Value} (hv : JL P T cs off v) (h : look env s = some (.pointer (some ⟨g, off, none⟩))) (hi : rs[i]? = some (Sep.cell g t cs)) : Res2 P env rs (.cell s T) v
def BT (P : Program) (ops : Array Oper) (Q : Exit → Act → World → Prop) (n : Nat) (env : List (Nat × Value)) (B : Nat → Prop) (w0 : World) (rs : List Ass) (l : List Oper) : Prop := ∀ a w, Fr n a env → Hp B w0 w rs → wpList P ops Q l a w
def AN (P : Program) (Q : Exit → Act → World → Prop) (n : Nat) (env : List (Nat × Value)) (B : Nat → Prop) (w0 : World) (rs : List Ass) (c : Code) : Prop := ∀ a w, Fr n a env → Hp B w0 w rs → c.wp P Q a w
def CC (Q : Exit → Act → World → Prop) (n : Nat) (env : List (Nat × Value)) (B : Nat → Prop) (w0 : World) (rs : List Ass) (e : Exit) : Prop := ∀ a w, Fr n a env → Hp B w0 w rs → Q e a w
section wl2
variable {P : Program} {ops : Array Oper} {Q : Exit → Act → World → Prop} {n : Nat} {B : Nat → Prop} {w0 : World} {rs rs' : List Ass} {env env' : List (Nat × Value)} {l rest : List Oper} {o : Oper} {d : Nat} {fl : List ((Nat × Nat) × Nat)}
theorem Af (hfl : LK P fl) : ∀ {l : List Oper} {env : List (Nat × Value)}, Kp fl ops n l env = some (env', rest) → BT P ops Q n env' B w0 rs rest → BT P ops Q n env B w0 rs l
  | [], env, h, hk => by
    simp only [Kp, Option.some.injEq, Prod.mk.injEq] at h
    obtain ⟨rfl, rfl⟩ := h
    exact hk
  | o :: r, env, h, hk => by
    unfold Kp at h
    cases hw : wants ops o env with
    | none =>
      simp only [hw, Option.some.injEq, Prod.mk.injEq] at h
      obtain ⟨rfl, rfl⟩ := h
      exact hk
    | some b =>
      cases b with
      | false =>
        simp only [hw] at h
        cases hd : o.dst with
        | none => simp [hd] at h
        | some d =>
          simp only [hd] at h
          cases hn : Nat.blt d n with
          | false => simp [hn] at h
          | true =>
            simp only [hn] at h
            exact fun a w hF hH => My hF hw hd (Ev hn) fun b hb => Af hfl h hk b w hb hH
      | true =>
        simp only [hw] at h
        cases hq : q1 fl o env with
        | none =>
          simp only [hq, Option.some.injEq, Prod.mk.injEq] at h
          obtain ⟨rfl, rfl⟩ := h
          exact hk
        | some v =>
          simp only [hq] at h
          cases hd : o.dst with
          | none => simp [hd] at h
          | some d =>
            simp only [hd] at h
            cases hn : Nat.blt d n with
            | false => simp [hn] at h
            | true =>
              simp only [hn] at h
              exact fun a w hF hH => Q4 hF hw hd (Ev hn) v (fun b hb => Ah hfl hq hb) fun b hb => Af hfl h hk b w hb hH
theorem Aa (h1 : VB ops n o env = some d) (v : Value) (hrun : ∀ b w, Fr n b env → Hp B w0 w rs → (execOp b.eval o).run P w = .ok (.value v) w) (h : BT P ops Q n ((d, v) :: env) B w0 rs rest) : BT P ops Q n env B w0 rs (o :: rest) :=
 fun a w hF hH => Q4 hF (B2 h1).1 (B2 h1).2.1 (B2 h1).2.2 v (fun b hb => hrun b w hb hH) fun b hb => h b w hb hH
theorem AD (h : CC Q n env B w0 rs .normal) : BT P ops Q n env B w0 rs [] := h
theorem Ab {y : Code} (h : AN P Q n env B w0 rs y) : BT P ops (Exit.then (fun a w => y.wp P Q a w) Q) n env B w0 rs [] := h
theorem BT.keep (hs : GC env env') (h : BT P ops Q n env' B w0 rs l) : BT P ops Q n env B w0 rs l := fun a w hF hH => h a w (hF.keep hs) hH
theorem AN.keep {c : Code} (hs : GC env env') (h : AN P Q n env' B w0 rs c) : AN P Q n env B w0 rs c := fun a w hF hH => h a w (hF.keep hs) hH
theorem CC.keep {e : Exit} (hs : GC env env') (h : CC Q n env' B w0 rs e) : CC Q n env B w0 rs e := fun a w hF hH => h a w (hF.keep hs) hH
end wl2
section wc2
variable {P : Program} {Q : Exit → Act → World → Prop} {n : Nat} {B : Nat → Prop} {w0 : World} {rs : List Ass} {env : List (Nat × Value)}
theorem Ad {id : Nat} {l : List Oper} {y : Code} (h : BT P l.toArray (Exit.then (fun a w => y.wp P Q a w) Q) n env B w0 rs l) : AN P Q n env B w0 rs (.seq (.region id l.toArray false) y) := fun a w hF hH => wp_seq (wp_region_lit (h a w hF hH))
theorem BJ {id : Nat} {l : List Oper} (h : BT P l.toArray Q n env B w0 rs l) : AN P Q n env B w0 rs (.region id l.toArray false) := fun a w hF hH => wp_region_lit (h a w hF hH)
theorem An {x y : Code} (h : AN P (Exit.then (fun a w => y.wp P Q a w) Q) n env B w0 rs x) : AN P Q n env B w0 rs (.seq x y) := fun a w hF hH => wp_seq (h a w hF hH)
theorem AI {c : Operand} {x y : Code} (hc : evs env c = some (.bool true)) (h : AN P Q n env B w0 rs x) : AN P Q n env B w0 rs (.cond c x y) := fun a w hF hH => Mz hF hc (h a w hF hH)
theorem As {c : Operand} {x y : Code} (hc : evs env c = some (.bool false)) (h : AN P Q n env B w0 rs y) : AN P Q n env B w0 rs (.cond c x y) := fun a w hF hH => MA hF hc (h a w hF hH)
theorem Aw (h : CC Q n env B w0 rs .normal) : AN P Q n env B w0 rs .skip := fun a w hF hH => wp_skip (h a w hF hH)
theorem Az (h : CC Q n env B w0 rs .ret) : AN P Q n env B w0 rs .ret := fun a w hF hH => wp_ret (h a w hF hH)
theorem AQ {id : Nat} {c : Code} (h : AN P (Exit.inBlock id Q) n env B w0 rs c) : AN P Q n env B w0 rs (.block id c) := fun a w hF hH => wp_block (h a w hF hH)
theorem C8 {id : Nat} (h : CC Q n env B w0 rs (.exit id)) : AN P Q n env B w0 rs (.exit id) := fun a w hF hH => wp_exit (h a w hF hH)
theorem AB {y : Code} (h : AN P Q n env B w0 rs y) : CC (Exit.then (fun a w => y.wp P Q a w) Q) n env B w0 rs .normal := h
theorem AW {id : Nat} (h : CC Q n env B w0 rs .normal) : CC (Exit.inBlock id Q) n env B w0 rs .normal := h
theorem D8 {K : Act → World → Prop} (h : CC Q n env B w0 rs .ret) : CC (Exit.then K Q) n env B w0 rs .ret := h
theorem BC {id : Nat} (h : CC Q n env B w0 rs .ret) : CC (Exit.inBlock id Q) n env B w0 rs .ret := h
theorem Gx {K : Act → World → Prop} {id : Nat} (h : CC Q n env B w0 rs (.exit id)) : CC (Exit.then K Q) n env B w0 rs (.exit id) := h
theorem Br {id : Nat} (h : CC Q n env B w0 rs .normal) : CC (Exit.inBlock id Q) n env B w0 rs (.exit id) := fun a w hF hH => (if_pos rfl).mpr (h a w hF hH)
variable {fn : Func} {R : Ending → World → Prop}
theorem Res2.res {r : ResultVar} {v : Value} {w : World} (h : Res2 P env rs r v) (hH : Hp B w0 w rs) : Res P env w r v := by
  cases h with
  | tmp h => exact .tmp h
  | cell i hv h hi => exact .cell h hv (hH.row i hi)
theorem GQ {r : ResultVar} {v : Value} {w : World} (h : Res2 P env rs r v) (hH : Hp B w0 w rs) : Res P env w r v := by
  cases h with
  | tmp h => exact .tmp h
  | cell i hv h hi => exact .cell h hv (hH.row i hi)
theorem Ay {r1 : ResultVar} {v1 : Value} (h1 : Res2 P env rs r1 v1) (hR : ∀ w, Hp B w0 w rs → R (.returned v1) w) (hr : fn.results = #[r1]) : CC (bodyPost P fn R) n env B w0 rs .ret := fun _ w hF hH => V0 hF hr (GQ h1 hH) (hR w hH)
theorem Ch {r1 r2 : ResultVar} {v1 v2 : Value} (h1 : Res2 P env rs r1 v1) (h2 : Res2 P env rs r2 v2) (hR : ∀ w, Hp B w0 w rs → R (.returned (.tuple #[v1, v2])) w) (hr : fn.results = #[r1, r2]) : CC (bodyPost P fn R) n env B w0 rs .ret := fun _ w hF hH => V1 hF hr (GQ h1 hH) (GQ h2 hH) (hR w hH)
theorem Kq (hR : ∀ w, Hp B w0 w rs → R (.returned (.tuple #[])) w) (hr : fn.results = #[]) : CC (bodyPost P fn R) n env B w0 rs .ret := fun _ w hF hH => V2 hF hr (hR w hH)
theorem Eb (hR : ∀ w, Hp B w0 w rs → R (.returned (.tuple #[])) w) (hr : fn.results = #[]) : CC (bodyPost P fn R) n env B w0 rs .normal := fun _ w hF hH => St hF hr (hR w hH)
theorem FW {f : FuncId} {c : Code} {args : List Value} {w : World} (n : Nat) (hf : P.funcs[f]? = some fn) (hb : fn.body = some c) (hn : fn.ntmps = n) (hs : Nat.ble args.length n = true) (h : AN P (bodyPost P fn R) n (Fm 0 args) Nil w [] c) : Calls P f args.toArray w R := FV n hf hb hn (Nat.le_of_ble_eq_true hs) fun a hF => h a w hF (Hp.start w)
end wc2
section par2
variable {P : Program} {ops : Array Oper} {Q : Exit → Act → World → Prop} {n : Nat} {B : Nat → Prop} {w0 : World} {rs : List Ass} {env env0 : List (Nat × Value)} {jobs : List Job} {o : Oper} {deps : List Nat} {v : Value} {fl : List ((Nat × Nat) × Nat)} {kk : Nat}
def W2 (P : Program) (ops : Array Oper) (Q : Exit → Act → World → Prop) (n : Nat) (jobs : List Job) (env0 : List (Nat × Value)) (B : Nat → Prop) (w0 : World) (rs : List Ass) (o : Oper) (j : Job) : Prop := ∀ w, Hp B w0 w rs → OB P ops Q n jobs env0 w o j
def Ec (P : Program) (ops : Array Oper) (Q : Exit → Act → World → Prop) (n : Nat) (jobs : List Job) (env0 : List (Nat × Value)) (B : Nat → Prop) (w0 : World) (rs : List Ass) : List Oper → List Job → Prop
  | o :: os, j :: js => W2 P ops Q n jobs env0 B w0 rs o j ∧ Ec P ops Q n jobs env0 B w0 rs os js
  | _, _ => True
theorem Ec.all : ∀ {os : List Oper} {js : List Job}, Ec P ops Q n jobs env0 B w0 rs os js → ∀ w, Hp B w0 w rs → Ep P ops Q n w.heap.size jobs env0 (WT w) os js
  | [], _, _, _, _ => by unfold Ep; trivial
  | _ :: _, [], _, _, _ => by unfold Ep; trivial
  | _ :: _, _ :: _, h, w, hH => ⟨h.1 w hH, Ec.all h.2 w hH⟩
end par2
section orders2
variable {P : Program} {ops : Array Oper} {Q : Exit → Act → World → Prop} {n f i d : Nat} {B : Nat → Prop} {w0 : World} {rs : List Ass} {env env' : List (Nat × Value)} {listed : Array Bool} {o : Oper} {fl : List ((Nat × Nat) × Nat)}
def Nt (P : Program) (ops : Array Oper) (Q : Exit → Act → World → Prop) (n : Nat) (env : List (Nat × Value)) (B : Nat → Prop) (w0 : World) (rs : List Ass) (f : Nat) (listed : Array Bool) : Prop := ∀ a w, Fr n a env → Hp B w0 w rs → wpAny P .any ops Q f listed a w
end orders2
section loops
variable {P : Program} {Q : Exit → Act → World → Prop} {n : Nat} {B : Nat → Prop} {w0 : World} {rs rs' : List Ass} {env env' : List (Nat × Value)} {c : Code} {α : Type}
theorem AN.at_ (hs : GC env env') (hr : rs = rs') (h : AN P Q n env' B w0 rs' c) : AN P Q n env B w0 rs c := fun a w hF hH => h a w (hF.keep hs) (hr ▸ hH)
def JN (n : Nat) (B : Nat → Prop) (w0 : World) (E : α → List (Nat × Value)) (R : α → List Ass) (Inv : α → Prop) (μ : α → Nat) (x : α) : Act → World → Prop := fun a w => ∃ y, Inv y ∧ μ y < μ x ∧ Fr n a (E y) ∧ Hp B w0 w (R y)
theorem CY (E : α → List (Nat × Value)) (R : α → List Ass) (Inv : α → Prop) (μ : α → Nat) (x : α) (hx : Inv x) (hE : GC env (E x)) (hR : rs = R x) (h : ∀ x, Inv x → AN P (Exit.then (JN n B w0 E R Inv μ x) Q) n (E x) B w0 (R x) c) : AN P Q n env B w0 rs (.loop c) := by
  subst hR
  intro a w hF hH
  have key : ∀ m x, μ x < m → Inv x → ∀ a w, Fr n a (E x) → Hp B w0 w (R x) → Code.rounds P c Q m a w := by
    intro m
    induction m with
    | zero => intro x hx; omega
    | succ m ih =>
      intro x hm hx a w hF hH
      refine Code.wp_mono (fun e a' w' q => ?_) (h x hx a w hF hH)
      cases e with
      | normal =>
        obtain ⟨y, hy, hlt, hF', hH'⟩ := q
        exact ih y (by omega) hy a' w' hF' hH'
      | _ => exact q
  exact wp_loop_rounds _ (key _ x (Nat.lt_succ_self _) hx a w (hF.keep hE) hH)
theorem Cm {E : α → List (Nat × Value)} {R : α → List Ass} {Inv : α → Prop} {μ : α → Nat} {x : α} (y : α) (k : Nat) (hy : Inv y) (hμ : μ y < μ x) (hs : GC env (E y)) (hr : rs.drop k = R y) : CC (Exit.then (JN n B w0 E R Inv μ x) Q) n env B w0 rs .normal := fun _ _ hF hH => ⟨y, hy, hμ, hF.keep hs, hr ▸ hH.drop k⟩
end loops
section orders3
variable {P : Program} {ops : Array Oper} {Q : Exit → Act → World → Prop} {n fu i d : Nat} {B : Nat → Prop} {w0 : World} {rs : List Ass} {env : List (Nat × Value)} {listed : Array Bool} {o : Oper}
end orders3
section textsBs
variable {P : Program} {ops : Array Oper} {Q : Exit → Act → World → Prop} {n d : Nat} {B : Nat → Prop} {w0 : World} {rs : List Ass} {env env0 : List (Nat × Value)} {rest : List Oper} {o : Oper} {a : Act} {w : World} {jobs : List Job} {deps : List Nat} {kk : Nat}
end textsBs
section textsBytes
variable {P : Program} {ops : Array Oper} {Q : Exit → Act → World → Prop} {n : Nat} {B : Nat → Prop} {w0 w : World} {rs : List Ass} {env : List (Nat × Value)} {rest : List Oper} {o : Oper} {d : Nat}
end textsBytes
section par3
variable {P : Program} {ops : Array Oper} {Q : Exit → Act → World → Prop} {n : Nat} {B : Nat → Prop} {w0 : World} {rs : List Ass} {env : List (Nat × Value)}
theorem Nt.keep {f : Nat} {env' : List (Nat × Value)} {listed : Array Bool} (hs : GC env env') (h : Nt P ops Q n env' B w0 rs f listed) : Nt P ops Q n env B w0 rs f listed := fun a w hF hH => h a w (hF.keep hs) hH
end par3
section par4
variable {P : Program} {ops : Array Oper} {Q : Exit → Act → World → Prop} {n : Nat} {B : Nat → Prop} {w0 : World} {rs : List Ass} {env : List (Nat × Value)}
end par4
section does
variable {P : Program} {ops : Array Oper} {Q : Exit → Act → World → Prop} {n d : Nat} {B : Nat → Prop} {w0 : World} {os : List Ass} {env : List (Nat × Value)} {rest l : List Oper} {o : Oper} {c : Code} {e : Exit} {fu : Nat} {ids : List Nat} {listed : Array Bool}
def GE : Ass := fun rs => rs = []
def E2 : Nat → List Ass → List Ass
  | 0, _ => []
  | k + 1, [] => GE :: E2 k []
  | k + 1, x :: r => x :: E2 k r
def EP : List Nat → List Ass → List Ass → List Ass
  | i :: ids, x :: xs, os => EP ids xs (os.set i x)
  | _, _, os => os
def CH : List Nat → Bool
  | [] => true
  | i :: r => !r.elem i && CH r
theorem BK : ∀ {l : List Nat}, CH l = true → l.Nodup
  | [], _ => List.nodup_nil
  | i :: r, h => by
    unfold CH at h
    simp only [Bool.and_eq_true, Bool.not_eq_true'] at h
    refine List.nodup_cons.2 ⟨fun hm => ?_, BK h.2⟩
    rw [List.elem_iff.2 hm] at h
    cases h.1
theorem Ey : ∀ {k : Nat} {rs : List RowT}, Al (List.replicate k GE) rs ↔ rs = []
  | 0, rs => by simp [Al]
  | k + 1, rs => by
    rw [List.replicate_succ]
    constructor
    · rintro ⟨a, b, e, h1, h2⟩
      have := (Ey (k := k)).1 h2
      unfold GE at h1
      subst h1; subst this
      exact e
    · rintro rfl
      exact ⟨[], [], rfl, rfl, Ey.2 rfl⟩
theorem AP.pad {X : Type} {F : FuncId} {args : Array Value} {pre : List Ass} {val : X → Value} {post : X → List Ass} (h : AP P F args pre val post) (k : Nat) : AP P F args (pre ++ List.replicate k GE) val post := fun w rs h1 h2 h3 => by
 obtain ⟨a, b, e, ha, hb⟩ := h1.split
 have := Ey.1 hb
 subst this
 rw [List.append_nil] at e
 subst e
 exact h w _ ha h2 h3
theorem Jc : ∀ (k : Nat) (l : List Ass), (E2 k l).length = k
  | 0, _ => rfl
  | k + 1, [] => by simp [E2, Jc k []]
  | k + 1, x :: r => by simp [E2, Jc k r]
theorem D4 : ∀ {k : Nat} {l : List Ass} {rs : List RowT}, Al l rs → ∃ rs', rs.Perm rs' ∧ Al (l.drop k ++ E2 k l) rs'
  | 0, l, rs, h => ⟨rs, .refl _, by simpa [E2] using h⟩
  | k + 1, [], rs, h => by
    obtain ⟨rs', p, h'⟩ := D4 (k := k) (l := []) h
    refine ⟨rs', p, ?_⟩
    simp only [List.drop_nil, List.nil_append] at h' ⊢
    exact ⟨[], rs', rfl, rfl, h'⟩
  | k + 1, x :: r, rs, ⟨a, b, e, h1, h2⟩ => by
    obtain ⟨b', p, h'⟩ := D4 (k := k) h2
    have h3 : Al (x :: (r.drop k ++ E2 k r)) (a ++ b') := ⟨a, b', rfl, h1, h'⟩
    obtain ⟨c, p2, h4⟩ := h3.perm (os' := r.drop k ++ x :: E2 k r) List.perm_middle.symm
    exact ⟨c, (e ▸ p.append_left a).trans p2, h4⟩
theorem Qi {ids : List Nat} : ∀ {os : List Ass} {k i : Nat} {x : Ass}, (k + i) ∈ ids → Ci ids k (os.set i x) = Ci ids k os
  | [], _, _, _, _ => by simp
  | y :: r, k, 0, x, h => by
    have : ids.elem k = true := List.elem_iff.2 h
    rw [List.set_cons_zero, Kt this, Kt this]
  | y :: r, k, i + 1, x, h => by
    have ih := Qi (os := r) (k := k + 1) (i := i) (x := x) (by rwa [show k + 1 + i = k + (i + 1) by omega])
    rw [List.set_cons_succ]
    cases hk : ids.elem k with
    | true => rw [Kt hk, Kt hk, ih]
    | false => rw [LL hk, LL hk, ih]
theorem Nw {ids0 : List Nat} : ∀ {ids : List Nat} {xs os : List Ass}, (∀ i ∈ ids, i ∈ ids0) → Di ids0 (EP ids xs os) = Di ids0 os
  | [], _, _, _ => by unfold EP; rfl
  | i :: ids, [], _, _ => by unfold EP; rfl
  | i :: ids, x :: xs, os, h => by
    show Di ids0 (EP ids xs (os.set i x)) = _
    rw [Nw fun j hj => h j (by simp [hj])]
    exact Qi (k := 0) (by rw [Nat.zero_add]; exact h i (by simp))
theorem Nx : ∀ {ids : List Nat} {xs os : List Ass} {i : Nat}, i ∉ ids → (EP ids xs os)[i]? = os[i]?
  | [], _, _, _, _ => by unfold EP; rfl
  | j :: ids, [], _, _, _ => by unfold EP; rfl
  | j :: ids, x :: xs, os, i, h => by
    show (EP ids xs (os.set j x))[i]? = _
    rw [Nx fun hm => h (by simp [hm]), List.getElem?_set_ne (fun e => h (by simp [e]))]
theorem Ny : ∀ {ids : List Nat} {xs os : List Ass}, ids.Nodup → (∀ i ∈ ids, i < os.length) → xs.length = ids.length → DN ids (EP ids xs os) = xs
  | [], xs, _, _, _, hl => by
    have : xs = [] := List.length_eq_zero_iff.1 hl
    subst this; rfl
  | i :: ids, [], _, _, _, hl => by simp at hl
  | i :: ids, x :: xs, os, hn, hb, hl => by
    obtain ⟨h1, h2⟩ := List.nodup_cons.1 hn
    have e1 : (EP ids xs (os.set i x))[i]? = some x := by
      rw [Nx h1]
      simp [hb i (by simp)]
    have ih := Ny (ids := ids) (xs := xs) (os := os.set i x) h2 (fun j hj => by rw [List.length_set]; exact hb j (by simp [hj])) (by simpa using hl)
    show List.filterMap _ (i :: ids) = _
    rw [List.filterMap_cons_some (b := x) (by exact e1)]
    exact congrArg _ ih
theorem Hn {ids : List Nat} {xs os : List Ass} (hn : ids.Nodup) (hb : (ids.all fun i => Nat.blt i os.length) = true) : (E2 ids.length xs ++ Di ids os).Perm (EP ids (E2 ids.length xs) os) := by
 have hb' : ∀ i ∈ ids, i < os.length := fun i hi => Ev (List.all_eq_true.1 hb i hi)
 have := CU (ids := ids) (os := EP ids (E2 ids.length xs) os) hn
 rwa [Ny hn hb' (Jc _ _), Nw (fun _ h => h)] at this
theorem AP.calls {X : Type} {F : FuncId} {vs : List Value} {pre : List Ass} {val : X → Value} {post : X → List Ass} {w : World} (ids : List Nat) (hc : AP P F vs.toArray pre val post) (hp : DN ids os = pre) (hn : ids.Nodup) (h : Hp B w0 w os) : Calls P F vs.toArray w fun e w' => ∃ x, e = .returned (val x) ∧ Hp B w0 w' (post x ++ Di ids os) := by
 subst hp
 obtain ⟨x, h1, h2, h3, h4⟩ := h.give ids hn
 exact (hc w x h1 h2 h3).mono fun e w' ⟨v, he, y, hy, hch⟩ => ⟨v, he, h4 _ y w' hy hch⟩
def Bm {X : Type} (P : Program) (Q : Exit → Act → World → Prop) (n : Nat) (env : List (Nat × Value)) (B : Nat → Prop) (w0 : World) (os : List Ass) (o : Oper) (val : X → Value) (post : X → List Ass) : Prop :=
  ∀ (b : Act) (w : World), Hp B w0 w os → Fr n b env → ∀ K : Act → World → Prop, (∀ x w', Hp B w0 w' (post x) → K (b.put o.dst (val x)) w') → o.wp P b w K Q
theorem Am {X : Type} {val : X → Value} {post : X → List Ass} (h1 : VB ops n o env = some d) (ha : Bm P Q n env B w0 os o val post) (h : ∀ x, BT P ops Q n ((d, val x) :: env) B w0 (post x) rest) : BT P ops Q n env B w0 os (o :: rest) := fun a w hF hH =>
 Jb hF (B2 h1).1 fun K hK => ha a w hH hF K fun x w' hp => by
  rw [(B2 h1).2.1]
  exact hK _ _ (h x _ _ (hF.put (B2 h1).2.2 _) hp)
theorem AL {X : Type} {val : X → Value} {post : X → List Ass} (hg : wants ops o env = some true) (hd : o.dst = none) (ha : Bm P Q n env B w0 os o val post) (h : ∀ x, BT P ops Q n env B w0 (post x) rest) : BT P ops Q n env B w0 os (o :: rest) := fun a w hF hH =>
 Jb hF hg fun K hK => ha a w hH hF K fun x w' hp => by
  rw [hd]
  exact hK _ _ (h x _ _ hF hp)
theorem Ft {r : Value} {w' : World} (b : Act) (hrun : (execOp b.eval o).run P w0 = .ok (.value r) w') {K : Act → World → Prop} (h : K (b.put o.dst r) w') : o.wp P b w0 K Q := by
 unfold Oper.wp
 rw [hrun, Oper.upon_value]
 exact h
theorem Au {X : Type} {F : FuncId} {f : Operand} {args : Array Operand} {ats : Array TypeId} {vs : List Value} {pre : List Ass} {val : X → Value} {post : X → List Ass} {os' : X → List Ass} (ids : List Nat) (pads : Nat) (hE : Q7 P F) (hc : AP P F vs.toArray pre val post) (hp : DN ids os = pre ++ List.replicate pads GE) (hn : CH ids = true) (hb : (ids.all fun i => Nat.blt i os.length) = true) (he : ∀ x, (post x).drop ids.length ++ EP ids (E2 ids.length (post x)) os = os' x) (ho : o.op = .call { callee := .value f, args := args, argTypes := ats }) (hf : evs env f = some (.func (.func F) #[] #[])) (hx : evl env args.toList = some vs) :
  Bm P Q n env B w0 os o val os' := fun b w hH hb' K hK => by
 unfold Oper.wp
 rw [Hi hE ho hf hx hb', Oper.upon_enter]
 refine (AP.calls ids (hc.pad pads) hp (BK hn) hH).mono ?_
 rintro e w' ⟨x, rfl, hq⟩
 refine hK x w' (he x ▸ Hp.imp hq fun rs h => ?_)
 obtain ⟨a, c, e, ha, hc'⟩ := h.split
 obtain ⟨a', p, ha'⟩ := D4 (k := ids.length) ha
 have h2 := Al.app ha' hc'
 rw [List.append_assoc] at h2
 obtain ⟨r2, p2, h3⟩ := h2.perm ((Hn (xs := post x) (BK hn) hb).append_left _)
 exact ⟨r2, e ▸ (p.append_right c).trans p2, h3⟩
theorem Bc {F : FuncId} {f : Operand} {args : Array Operand} {ats : Array TypeId} {vs : List Value} {v : Value} (hE : Q7 P F) (hc : ∀ w, Hp B w0 w os → Calls P F vs.toArray w fun e w' => e = .returned v ∧ Below w.heap.size w w') (ho : o.op = .call { callee := .value f, args := args, argTypes := ats }) (hf : evs env f = some (.func (.func F) #[] #[])) (hx : evl env args.toList = some vs) :
  Bm P Q n env B w0 os o (fun _ : Unit => v) (fun _ => os) := fun b w hH hb K hK => by
 unfold Oper.wp
 rw [Hi hE ho hf hx hb, Oper.upon_enter]
 refine (hc w hH).mono ?_
 rintro e w' ⟨rfl, hbl⟩
 exact hK () w' (hH.call hbl)
theorem Bm.to {X : Type} {val : X → Value} {post post' : X → List Ass} (h : Bm P Q n env B w0 os o val post) (he : ∀ x, post x = post' x) : Bm P Q n env B w0 os o val post' := fun b w hH hb K hK => h b w hH hb K fun x w' hp => hK x w' (he x ▸ hp)
theorem Bm.imp {X : Type} {val : X → Value} {post post' : X → List Ass} (h : Bm P Q n env B w0 os o val post) (he : ∀ x rs, Al (post x) rs → ∃ rs', rs.Perm rs' ∧ Al (post' x) rs') : Bm P Q n env B w0 os o val post' := fun b w hH hb K hK => h b w hH hb K fun x w' hp => hK x w' (hp.imp (he x))
theorem Bm.s {X : Type} {val : X → Value} {post : X → List Ass} {S : Value → List Ass} (h : Bm P Q n env B w0 os o val post) (he : ∀ x, post x = S (val x)) : ∀ (b : Act) (w : World), Hp B w0 w os → Fr n b env → ∀ K : Act → World → Prop, (∀ v w', Hp B w0 w' (S v) → K (b.put o.dst v) w') → o.wp P b w K Q := fun b w hH hb K hK => h b w hH hb K fun x w' hp => hK _ w' (he x ▸ hp)
theorem Bm.su {v0 : Value} {post : Unit → List Ass} {os' : Value → List Ass} (h : Bm P Q n env B w0 os o (fun _ : Unit => v0) post) (he : post () = os' undef) : ∀ (b : Act) (w : World), Hp B w0 w os → Fr n b env → ∀ K : Act → World → Prop, (∀ v w', Hp B w0 w' (os' v) → K (b.put o.dst v0) w') → o.wp P b w K Q := fun b w hH hb K hK => h b w hH hb K fun x w' hp => hK undef w' (he ▸ hp)
theorem Bm.sw {v0 : Value} {post : Value → List Ass} {os' : Value → List Ass} (h : Bm P Q n env B w0 os o (fun _ : Value => v0) post) (he : ∀ x, post x = os' x) : ∀ (b : Act) (w : World), Hp B w0 w os → Fr n b env → ∀ K : Act → World → Prop, (∀ v w', Hp B w0 w' (os' v) → K (b.put o.dst v0) w') → o.wp P b w K Q := fun b w hH hb K hK => h b w hH hb K fun x w' hp => hK x w' (he x ▸ hp)
theorem CD {T : TypeId} {x : Operand} {v : Value} {cs : Array Value} (ho : o.op = .box T x) (hx : evs env x = some v) (hc : v.cells = cs) : Bm P Q n env B w0 os o (fun g : Nat => .pointer (some ⟨g, 0, none⟩)) (fun g => cell g T cs :: os) := fun b w hH hb K hK => by
 have hrun : (execOp b.eval o).run P w = .ok (.value (.pointer (some ⟨w.heap.size, 0, none⟩))) (w.alloc (.cells cs T)) := by
  unfold execOp
  simp [ho, hb.evs hx, Instr.box, newVar, newRow, hc]
 unfold Oper.wp
 rw [hrun, Oper.upon_value]
 exact hK _ _ (hH.new T cs)
theorem BW {T : TypeId} {zs : Array Value} (hz : LJ P T zs) (ho : o.op = .alloc T) : Bm P Q n env B w0 os o (fun g : Nat => .pointer (some ⟨g, 0, none⟩)) (fun g => cell g T zs :: os) := fun b w hH hb K hK => by
 unfold Oper.wp
 rw [OV ho hz, Oper.upon_value]
 exact hK _ _ (hH.new T zs)
theorem AU (i : Nat) {T : TypeId} {x y : Operand} {g off k : Nat} {t : TypeId} {cs : Array Value} {v : Value} (c : Array Value) (hs : ∀ w, (sizeOf T).run P w = .ok k w) (hk : v.cells.size = k) (hl : Nat.ble (off + k) cs.size = true) (hone : MC v.cells.toList = true) (hc : (over? cs.toList off v.cells.toList).toArray = c) (hd : o.dst = none) (ho : o.op = .store T x y)
  (hx : evs env x = some (.pointer (some ⟨g, off, none⟩))) (hy : evs env y = some v) (hi : os[i]? = some (cell g t cs)) : Bm P Q n env B w0 os o (fun _ : Unit => undef) (fun _ => os.set i (cell g t c)) := fun a w hH hF K hK => by
 obtain ⟨w', hr, hR', hm⟩ := Cg (P := P) g t v.cells.toList 0 cs w off (hH.row i hi) (by have := Nat.le_of_ble_eq_true hl; simp; omega) (fun u hu => (List.all_eq_true.1 (GN hone)) u hu)
 have hrun : (execOp a.eval o).run P w = .ok .skip w' := by
  unfold execOp
  simp [ho, hF.evs hx, hF.evs hy, Instr.storeAt, Instr.sureAddr, storeVar, hs, hk, hr]
 have hR2 : C5 w' g t c := by rw [← hc]; simpa [over?] using hR'
 unfold Oper.wp
 rw [hrun, Oper.upon_skip]
 have := hK () w' (hH.set i hi hm hR2)
 rw [hd] at this ⊢
 exact this
theorem BT.via {X : Type} (os' : X → List Ass) (hi : ∀ rs, Al os rs → ∃ x, ∃ rs', rs.Perm rs' ∧ Al (os' x) rs') (h : ∀ x, BT P ops Q n env B w0 (os' x) l) : BT P ops Q n env B w0 os l := fun a w hF ⟨rs, h1, h2⟩ => by
 obtain ⟨x, rs', p, h3⟩ := hi rs h1
 exact h x a w hF ⟨rs', h3, CV h2 p⟩
theorem AN.via {X : Type} (os' : X → List Ass) (hi : ∀ rs, Al os rs → ∃ x, ∃ rs', rs.Perm rs' ∧ Al (os' x) rs') (h : ∀ x, AN P Q n env B w0 (os' x) c) : AN P Q n env B w0 os c := fun a w hF ⟨rs, h1, h2⟩ => by
 obtain ⟨x, rs', p, h3⟩ := hi rs h1
 exact h x a w hF ⟨rs', h3, CV h2 p⟩
theorem CC.via {X : Type} (os' : X → List Ass) (hi : ∀ rs, Al os rs → ∃ x, ∃ rs', rs.Perm rs' ∧ Al (os' x) rs') (h : ∀ x, CC Q n env B w0 (os' x) e) : CC Q n env B w0 os e := fun a w hF ⟨rs, h1, h2⟩ => by
 obtain ⟨x, rs', p, h3⟩ := hi rs h1
 exact h x a w hF ⟨rs', h3, CV h2 p⟩
theorem Nt.via {X : Type} (os' : X → List Ass) (hi : ∀ rs, Al os rs → ∃ x, ∃ rs', rs.Perm rs' ∧ Al (os' x) rs') (h : ∀ x, Nt P ops Q n env B w0 (os' x) fu listed) : Nt P ops Q n env B w0 os fu listed := fun a w hF ⟨rs, h1, h2⟩ => by
 obtain ⟨x, rs', p, h3⟩ := hi rs h1
 exact h x a w hF ⟨rs', h3, CV h2 p⟩
theorem BT.mid (os' : List Ass) (hp : os.Perm os') (h : BT P ops Q n env B w0 os' l) : BT P ops Q n env B w0 os l := fun a w hF hH => h a w hF (hH.perm hp)
theorem AN.mid (os' : List Ass) (hp : os.Perm os') (h : AN P Q n env B w0 os' c) : AN P Q n env B w0 os c := fun a w hF hH => h a w hF (hH.perm hp)
theorem CC.mid (os' : List Ass) (hp : os.Perm os') (h : CC Q n env B w0 os' e) : CC Q n env B w0 os e := fun a w hF hH => h a w hF (hH.perm hp)
theorem Nt.mid (os' : List Ass) (hp : os.Perm os') (h : Nt P ops Q n env B w0 os' fu listed) : Nt P ops Q n env B w0 os fu listed := fun a w hF hH => h a w hF (hH.perm hp)
theorem SC {i : Nat} {o : Ass} (hi : os[i]? = some o) : os.Perm (o :: Di [i] os) := by
 have := (CU (ids := [i]) (os := os) (by simp)).symm
 unfold DN at this
 rw [List.filterMap_cons_some hi] at this
 exact this
theorem EQ {p : Prop} {o : Ass} (i : Nat) (hi : os[i]? = some o) (hp : ∀ rs, o rs → p) {w : World} (h : Hp B w0 w os) : p := by
 obtain ⟨x, hx, _⟩ := h.thing i hi
 exact hp x hx
theorem BT.fact {p : Prop} {o : Ass} (i : Nat) (hi : os[i]? = some o) (hp : ∀ rs, o rs → p) (h : p → BT P ops Q n env B w0 os l) : BT P ops Q n env B w0 os l := fun a w hF hH => h (EQ i hi hp hH) a w hF hH
theorem AN.fact {p : Prop} {o : Ass} (i : Nat) (hi : os[i]? = some o) (hp : ∀ rs, o rs → p) (h : p → AN P Q n env B w0 os c) : AN P Q n env B w0 os c := fun a w hF hH => h (EQ i hi hp hH) a w hF hH
theorem CC.fact {p : Prop} {o : Ass} (i : Nat) (hi : os[i]? = some o) (hp : ∀ rs, o rs → p) (h : p → CC Q n env B w0 os e) : CC Q n env B w0 os e := fun a w hF hH => h (EQ i hi hp hH) a w hF hH
theorem IE {α : Type} {A : α → List Ass} {i : Nat} {o : Ass} (hi : os[i]? = some o) (ho : ∀ rs, o rs → ∃ x, Al (A x) rs) : ∀ rs, Al os rs → ∃ x, ∃ rs', rs.Perm rs' ∧ Al (A x ++ Di [i] os) rs' := fun rs h => by
 obtain ⟨rs1, p, a, b, e, h1, h2⟩ := h.perm (SC hi)
 obtain ⟨x, h3⟩ := ho a h1
 exact ⟨x, rs1, p, e ▸ h3.app h2⟩
theorem Jd {α : Type} {A : α → List Ass} {t : Ass} {os' : α → List Ass} (i : Nat) (hi : os[i]? = some t) (ho : ∀ rs, t rs → ∃ x, Al (A x) rs) (he : ∀ x, A x ++ Di [i] os = os' x) (h : ∀ x, BT P ops Q n env B w0 (os' x) l) : BT P ops Q n env B w0 os l := BT.via _ (IE hi ho) fun x => he x ▸ h x
theorem A7 {α : Type} {A : α → List Ass} {t : Ass} {os' : α → List Ass} (i : Nat) (hi : os[i]? = some t) (ho : ∀ rs, t rs → ∃ x, Al (A x) rs) (he : ∀ x, A x ++ Di [i] os = os' x) (h : ∀ x, AN P Q n env B w0 (os' x) c) : AN P Q n env B w0 os c := AN.via _ (IE hi ho) fun x => he x ▸ h x
theorem V6 {α : Type} {A : α → List Ass} {t : Ass} {os' : α → List Ass} (i : Nat) (hi : os[i]? = some t) (ho : ∀ rs, t rs → ∃ x, Al (A x) rs) (he : ∀ x, A x ++ Di [i] os = os' x) (h : ∀ x, CC Q n env B w0 (os' x) e) : CC Q n env B w0 os e := CC.via _ (IE hi ho) fun x => he x ▸ h x
theorem GR {t : Ass} (ids : List Nat) (hn : CH ids = true) (ht : ∀ rs, Al (DN ids os) rs → t rs) : ∀ rs, Al os rs → ∃ _ : Unit, ∃ rs', rs.Perm rs' ∧ Al (t :: Di ids os) rs' := fun rs h => by
 obtain ⟨rs1, p, h1⟩ := h.perm (CU (os := os) (BK hn)).symm
 obtain ⟨a, b, e, h2, h3⟩ := h1.split
 exact ⟨(), rs1, p, a, b, e, ht a h2, h3⟩
theorem MG {t : Ass} {os' : List Ass} (ids : List Nat) (hn : CH ids = true) (ht : ∀ rs, Al (DN ids os) rs → t rs) (he : t :: Di ids os = os') (h : BT P ops Q n env B w0 os' l) : BT P ops Q n env B w0 os l := BT.via (fun _ : Unit => _) (GR ids hn ht) fun _ => he ▸ h
theorem Bg {t : Ass} {os' : List Ass} (ids : List Nat) (hn : CH ids = true) (ht : ∀ rs, Al (DN ids os) rs → t rs) (he : t :: Di ids os = os') (h : AN P Q n env B w0 os' c) : AN P Q n env B w0 os c := AN.via (fun _ : Unit => _) (GR ids hn ht) fun _ => he ▸ h
theorem CN {t : Ass} {os' : List Ass} (ids : List Nat) (hn : CH ids = true) (ht : ∀ rs, Al (DN ids os) rs → t rs) (he : t :: Di ids os = os') (h : CC Q n env B w0 os' e) : CC Q n env B w0 os e := CC.via (fun _ : Unit => _) (GR ids hn ht) fun _ => he ▸ h
theorem Gh (k : Nat) {os' : List Ass} (he : List.replicate k GE ++ os = os') (h : AN P Q n env B w0 os' c) : AN P Q n env B w0 os c := AN.via (fun _ : Unit => os') (fun rs hp => ⟨(), rs, .refl _, he ▸ (Al.app (Ey.2 rfl) hp : Al _ ([] ++ rs))⟩) fun _ => h
theorem AN.leave {os' : List Ass} (ids : List Nat) (hn : CH ids = true) (he : Di ids os = os') (h : AN P Q n env B w0 os' c) : AN P Q n env B w0 os c := fun a w hF hH => h a w hF (by
 have := (hH.perm (CU (os := os) (BK hn)).symm).drop (DN ids os).length
 rw [List.drop_left] at this
 exact he ▸ this)
theorem BT.leave {os' : List Ass} (ids : List Nat) (hn : CH ids = true) (he : Di ids os = os') (h : BT P ops Q n env B w0 os' l) : BT P ops Q n env B w0 os l := fun a w hF hH => h a w hF (by
 have := (hH.perm (CU (os := os) (BK hn)).symm).drop (DN ids os).length
 rw [List.drop_left] at this
 exact he ▸ this)
theorem CC.leave {os' : List Ass} (ids : List Nat) (hn : CH ids = true) (he : Di ids os = os') (h : CC Q n env B w0 os' e) : CC Q n env B w0 os e := fun a w hF hH => h a w hF (by
 have := (hH.perm (CU (os := os) (BK hn)).symm).drop (DN ids os).length
 rw [List.drop_left] at this
 exact he ▸ this)
def DR (r : Option Value) (f : Value → Ass) (d : Ass) : Ass := match r with | some v => f v | none => d
end does
section entry
variable {P : Program} {fn : Func}
theorem Bj {X : Type} {f : FuncId} {c : Code} {args : List Value} {pre : List Ass} {val : X → Value} {post : X → List Ass} (n : Nat) (hf : P.funcs[f]? = some fn) (hb : fn.body = some c) (hn : fn.ntmps = n) (hs : Nat.ble args.length n = true)
  (h : ∀ (w : World) (rs : List RowT), AN P (bodyPost P fn fun e w' => ∃ x, e = .returned (val x) ∧ ∃ rs', Al (post x) rs' ∧ Chg w w' rs rs') n (Fm 0 args) (B3 rs) w pre c) : AP P f args.toArray pre val post :=
 fun w rs h1 h2 h3 => FV n hf hb hn (Nat.le_of_ble_eq_true hs) fun a hF => h w rs a w hF (Hp.given h1 h2 h3)
theorem AC {X : Type} {w0 w' : World} {rs : List RowT} {os : List Ass} {val : X → Value} {post : X → List Ass} (x : X) {v : Value} (hv : v = val x) (ids : List Nat) (hn : CH ids = true) (h : Hp (B3 rs) w0 w' os) (hp : ∀ y, Al (DN ids os) y → ∃ z, y.Perm z ∧ Al (post x) z) : ∃ x, Ending.returned v = .returned (val x) ∧ ∃ rs', Al (post x) rs' ∧ Chg w0 w' rs rs' := by
 obtain ⟨y, h1, h2⟩ := h.tell ids (BK hn)
 obtain ⟨z, p, h3⟩ := hp y h1
 exact ⟨x, by rw [hv], z, h3, Hm h2 p⟩
theorem AP.frame {X : Type} {F : FuncId} {args : Array Value} {pre more : List Ass} {val : X → Value} {post : X → List Ass} (h : AP P F args pre val post) : AP P F args (pre ++ more) val (fun x => post x ++ more) := fun w rs h1 h2 h3 => by
 obtain ⟨a, b, e, ha, hb⟩ := h1.split
 subst e
 have hd := Bk.1 h3
 rw [List.map_append] at hd
 have hh : Mem.Hp (B3 (a ++ b)) w w (a ++ b) := Mem.Hp.given h2 h3
 refine (h w a ha (Bt.2 fun z hz => h2.mem z (by simp [hz])) (Bk.2 (List.nodup_append.1 hd).1)).mono ?_
 rintro e w' ⟨x, he, y, hy, hc⟩
 have := Fs hh hc
 exact ⟨x, he, y ++ b, hy.app hb, this.up, this.rows, this.apart, fun z hz hlt => this.own z hz hlt⟩
theorem AP.imp {X : Type} {F : FuncId} {args : Array Value} {pre pre' : List Ass} {val : X → Value} {post : X → List Ass} (h : AP P F args pre val post) (hi : ∀ rs, Al pre' rs → ∃ rs', rs.Perm rs' ∧ Al pre rs') : AP P F args pre' val post := fun w rs h1 h2 h3 => by
 obtain ⟨rs', p, h4⟩ := hi rs h1
 refine (h w rs' h4 (Bt.2 fun z hz => h2.mem z (p.mem_iff.2 hz)) (Bk.2 ((p.map _).nodup_iff.1 (Bk.1 h3)))).mono ?_
 rintro e w' ⟨x, he, y, hy, hc⟩
 exact ⟨x, he, y, hy, Nv hc p.symm⟩
theorem Ed {os : List Ass} : ∀ y, Al os y → ∃ z, y.Perm z ∧ Al os z := fun y h => ⟨y, .refl _, h⟩
end entry
end Go.Proofs.YtnknboibmifacaaGreatDoor.Sep
