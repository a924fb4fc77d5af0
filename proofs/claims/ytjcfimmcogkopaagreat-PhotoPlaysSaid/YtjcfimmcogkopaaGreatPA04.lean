/-
  Sep
-/
import Derived.Test.YtjcfimmcogkopaaGreatPA03
set_option linter.unusedSimpArgs false
set_option linter.unusedVariables false
namespace Go.Proofs.YtjcfimmcogkopaaGreat.Sep
open Go.RowKit
open Go.Proofs.YtjcfimmcogkopaaGreat.Mem (Bh Cs Chg Vf XH Fk AA)
abbrev Ass := List RowT → Prop
def cell (g : Nat) (t : TypeId) (cs : Array Value) : Ass := fun rs => rs = [(g, Ez t, cs)]
def fact (p : Prop) : Ass := fun rs => rs = [] ∧ p
def ex {α : Type} (A : α → Ass) : Ass := fun rs => ∃ x, A x rs
def Al : List Ass → List RowT → Prop
  | [], rs => rs = []
  | o :: os, rs => ∃ a b, rs = a ++ b ∧ o a ∧ Al os b
def FQ (l : List Ass) : Ass := Al l
section parts
variable {os os' : List Ass} {rs : List RowT}
theorem Al.app : ∀ {os os' : List Ass} {a b : List RowT}, Al os a → Al os' b → Al (os ++ os') (a ++ b)
  | [], _, a, b, h, h' => by unfold Al at h; subst h; exact h'
  | o :: os, os', a, b, h, h' => by
    obtain ⟨x, y, e, h1, h2⟩ := h
    exact ⟨x, y ++ b, by rw [e, List.append_assoc], h1, h2.app h'⟩
theorem Al.split : ∀ {os os' : List Ass} {rs : List RowT}, Al (os ++ os') rs → ∃ a b, rs = a ++ b ∧ Al os a ∧ Al os' b
  | [], _, rs, h => ⟨[], rs, rfl, rfl, h⟩
  | o :: os, os', rs, h => by
    obtain ⟨x, y, e, h1, h2⟩ := h
    obtain ⟨a, b, e', h3, h4⟩ := Al.split h2
    exact ⟨x ++ a, b, by rw [e, e', List.append_assoc], ⟨x, a, rfl, h1, h3⟩, h4⟩
theorem Al.perm {os os' : List Ass} (hp : os.Perm os') : ∀ {rs : List RowT}, Al os rs → ∃ rs', rs.Perm rs' ∧ Al os' rs' := by
  induction hp with
  | nil => exact fun {rs} h => ⟨rs, .refl _, h⟩
  | cons o _ ih =>
    rintro rs ⟨a, b, e, h1, h2⟩
    obtain ⟨b', hp, h3⟩ := ih h2
    exact ⟨a ++ b', e ▸ hp.append_left a, a, b', rfl, h1, h3⟩
  | swap o o' l =>
    rintro rs ⟨a, b, e, h1, c, d, e', h2, h3⟩
    refine ⟨c ++ (a ++ d), ?_, c, a ++ d, rfl, h2, a, d, rfl, h1, h3⟩
    rw [e, e', ← List.append_assoc, ← List.append_assoc]
    exact List.perm_append_comm.append_right d
  | trans _ _ ih1 ih2 =>
    intro rs h
    obtain ⟨r1, p1, h1⟩ := ih1 h
    obtain ⟨r2, p2, h2⟩ := ih2 h1
    exact ⟨r2, p1.trans p2, h2⟩
theorem Al.one {o : Ass} {rs : List RowT} (h : o rs) : Al [o] rs := ⟨rs, [], by simp, h, rfl⟩
theorem Al.one' {o : Ass} {rs : List RowT} (h : Al [o] rs) : o rs := by
 obtain ⟨a, b, e, h1, h2⟩ := h
 unfold Al at h2
 subst h2
 rw [List.append_nil] at e
 exact e ▸ h1
def XM : List Ass → List Ass → Prop
  | [], [] => True
  | o :: os, o' :: os' => (∀ rs, o rs → o' rs) ∧ XM os os'
  | _, _ => False
theorem Al.imp : ∀ {os os' : List Ass} {rs : List RowT}, XM os os' → Al os rs → Al os' rs
  | [], [], _, _, h => h
  | o :: os, o' :: os', _, hi, ⟨a, b, e, h1, h2⟩ => ⟨a, b, e, hi.1 a h1, h2.imp hi.2⟩
  | [], _ :: _, _, hi, _ => hi.elim
  | _ :: _, [], _, hi, _ => hi.elim
end parts
def EB (ids : List Nat) (os : List Ass) : List Ass := ids.filterMap (os[·]?)
def Cu (ids : List Nat) : Nat → List Ass → List Ass
  | _, [] => []
  | k, x :: r => match ids.elem k with | true => Cu ids (k + 1) r | false => x :: Cu ids (k + 1) r
def D0 (ids : List Nat) (os : List Ass) : List Ass := Cu ids 0 os
theorem KS {ids : List Nat} {k : Nat} {x : Ass} {r : List Ass} (h : ids.elem k = true) : Cu ids k (x :: r) = Cu ids (k + 1) r := by
 conv => lhs; unfold Cu
 rw [h]
theorem LV {ids : List Nat} {k : Nat} {x : Ass} {r : List Ass} (h : ids.elem k = false) : Cu ids k (x :: r) = x :: Cu ids (k + 1) r := by
 conv => lhs; unfold Cu
 rw [h]
theorem MX {ids : List Nat} {i k : Nat} (h : k ≠ i) : (i :: ids).elem k = ids.elem k := by
  have : (k == i) = false := by simpa using h
  show (match k == i with | true => true | false => ids.elem k) = _
  rw [this]
theorem Vn {ids : List Nat} {k : Nat} : (k :: ids).elem k = true := by
  show (match k == k with | true => true | false => ids.elem k) = _
  simp
theorem IZ : ∀ (k : Nat) (os : List Ass), Cu [] k os = os
  | _, [] => rfl
  | k, x :: r => by rw [LV rfl, IZ (k + 1) r]
theorem Gz {i : Nat} {ids : List Nat} : ∀ {k : Nat} {os : List Ass}, i < k → Cu (i :: ids) k os = Cu ids k os
  | _, [], _ => rfl
  | k, x :: r, h => by
    have e : (i :: ids).elem k = ids.elem k := MX (by omega)
    cases hk : ids.elem k with
    | true => rw [KS (e.trans hk), KS hk, Gz (by omega)]
    | false => rw [LV (e.trans hk), LV hk, Gz (by omega)]
theorem In {ids : List Nat} : ∀ {os : List Ass} {o : Ass} {k i : Nat}, k + i ∉ ids → os[i]? = some o → (Cu ids k os).Perm (o :: Cu ((k + i) :: ids) k os)
  | [], o, k, i, _, h => by simp at h
  | x :: r, o, k, 0, hm, h => by
    simp only [List.getElem?_cons_zero, Option.some.injEq] at h
    subst h
    have h1 : ids.elem k = false := by
      cases hk : ids.elem k with
      | false => rfl
      | true => exact absurd (List.elem_iff.1 hk) hm
    rw [LV h1]
    show List.Perm _ (x :: Cu (k :: ids) k (x :: r))
    rw [KS Vn, Gz (by omega)]
  | x :: r, o, k, i + 1, hm, h => by
    simp only [List.getElem?_cons_succ] at h
    have := In (k := k + 1) (by rwa [show k + 1 + i = k + (i + 1) by omega]) h
    rw [show k + 1 + i = k + (i + 1) by omega] at this
    have e : ((k + (i + 1)) :: ids).elem k = ids.elem k := MX (by omega)
    cases hk : ids.elem k with
    | true => rw [KS hk, KS (e.trans hk)]; exact this
    | false => rw [LV hk, LV (e.trans hk)]; exact (this.cons x).trans (.swap o x _)
theorem Io {ids : List Nat} : ∀ {os : List Ass} {k i : Nat}, os[i]? = none → Cu ((k + i) :: ids) k os = Cu ids k os
  | [], _, _, _ => rfl
  | x :: r, k, 0, h => by simp at h
  | x :: r, k, i + 1, h => by
    simp only [List.getElem?_cons_succ] at h
    have := Io (ids := ids) (k := k + 1) h
    rw [show k + 1 + i = k + (i + 1) by omega] at this
    have e : ((k + (i + 1)) :: ids).elem k = ids.elem k := MX (by omega)
    cases hk : ids.elem k with
    | true => rw [KS hk, KS (e.trans hk)]; exact this
    | false => rw [LV hk, LV (e.trans hk), this]
theorem Dj : ∀ {ids : List Nat} {os : List Ass}, ids.Nodup → (EB ids os ++ D0 ids os).Perm os := by
  intro ids os
  induction ids with
  | nil => intro _; unfold D0; rw [IZ]; exact .refl _
  | cons i ids ih =>
    intro hn
    obtain ⟨h1, h2⟩ := List.nodup_cons.1 hn
    refine .trans ?_ (ih h2)
    cases hi : os[i]? with
    | none =>
      have e : D0 (i :: ids) os = D0 ids os := by
        have := Io (ids := ids) (k := 0) hi
        rwa [Nat.zero_add] at this
      rw [e]
      show (List.filterMap _ (i :: ids) ++ _).Perm _
      rw [List.filterMap_cons_none hi]
      exact .refl _
    | some o =>
      have h := In (k := 0) (by rwa [Nat.zero_add]) hi
      rw [Nat.zero_add] at h
      show (List.filterMap _ (i :: ids) ++ _).Perm _
      rw [List.filterMap_cons_some hi]
      have e : (EB ids os ++ o :: D0 (i :: ids) os).Perm (EB ids os ++ D0 ids os) := List.Perm.append_left _ h.symm
      refine .trans ?_ e
      exact List.perm_middle.symm
theorem Bq : ∀ {rs : List RowT}, Bh rs ↔ (rs.map (·.1)).Nodup
  | [] => by simp [Bh]
  | x :: r => by
    unfold Bh
    rw [List.map_cons, List.nodup_cons, Bq (rs := r)]
    refine and_congr ⟨fun h hm => ?_, fun h y hy e => h ?_⟩ Iff.rfl
    · obtain ⟨y, hy, e⟩ := List.mem_map.1 hm
      exact h y hy e
    · exact List.mem_map.2 ⟨y, hy, e⟩
theorem AT {w : World} {rs : List RowT} : RowsOf w rs ↔ ∀ x ∈ rs, C3 w x := ⟨fun h => h.mem, fun h => Mem.RowsOf.ofAll h⟩
section known
variable {B : Nat → Prop} {w0 w w' : World} {rs rs' a b c : List RowT}
theorem C7 (h : Mem.Hp B w0 w rs) (hp : rs.Perm rs') : Mem.Hp B w0 w rs' :=
 ⟨h.up, AT.2 fun x hx => h.rows.mem x (hp.mem_iff.2 hx), Bq.2 ((hp.map _).nodup_iff.1 (Bq.1 h.apart)), fun x hx => h.own x (hp.mem_iff.2 hx)⟩
theorem NO {w' : World} (h : Chg w w' a b) (hp : a.Perm c) : Chg w w' c b := ⟨h.mod.weaken fun j _ ⟨x, hx, e⟩ => ⟨x, hp.mem_iff.1 hx, e⟩, h.rows, h.dist, fun x hx hlt => by obtain ⟨y, hy, e⟩ := h.from_ x hx hlt; exact ⟨y, hp.mem_iff.1 hy, e⟩⟩
theorem JB {w' : World} (h : Chg w w' a b) (hp : b.Perm c) : Chg w w' a c := ⟨h.mod, AT.2 fun x hx => h.rows.mem x (hp.mem_iff.2 hx), Bq.2 ((hp.map _).nodup_iff.1 (Bq.1 h.dist)), fun x hx => h.from_ x (hp.mem_iff.2 hx)⟩
theorem FF (h : Mem.Hp B w0 w (a ++ b)) (hc : Chg w w' a c) : Mem.Hp B w0 w' (c ++ b) := by
  have hd := Bq.1 h.apart
  rw [List.map_append] at hd
  have hne : ∀ x ∈ a, ∀ y ∈ b, y.1 ≠ x.1 := fun x hx y hy e => (List.nodup_append.1 hd).2.2 x.1 (List.mem_map.2 ⟨x, hx, rfl⟩) y.1 (List.mem_map.2 ⟨y, hy, rfl⟩) e.symm
  have hnb : ∀ y ∈ b, ¬ Cs a y.1 := fun y hy ⟨x, hx, e⟩ => hne x hx y hy e.symm
  have hold : ∀ y ∈ b, C3 w y := fun y hy => h.rows.mem y (by simp [hy])
  refine ⟨h.up.trans hc.mod (fun j hj ⟨x, hx, e⟩ => e ▸ h.own x (by simp [hx]) (e ▸ hj)), ?_, ?_, ?_⟩
  · refine AT.2 fun x hx => ?_
    rcases List.mem_append.1 hx with hx | hx
    · exact hc.rows.mem x hx
    · exact (hold x hx).mod hc.mod (hnb x hx)
  · refine Mem.dist_app hc.dist (Bq.2 (List.nodup_append.1 hd).2.1) fun x hx y hy e => ?_
    have hlt := (hold y hy).lt
    rw [e] at hlt
    exact hnb y hy (e ▸ hc.from_ x hx hlt)
  · intro x hx hlt
    rcases List.mem_append.1 hx with hx | hx
    · have := h.up.size
      obtain ⟨y, hy, e⟩ := hc.from_ x hx (by omega)
      exact e ▸ h.own y (by simp [hy]) (e ▸ hlt)
    · exact h.own x (by simp [hx]) hlt
end known
def Hp (B : Nat → Prop) (w0 w : World) (os : List Ass) : Prop := ∃ rs, Al os rs ∧ Mem.Hp B w0 w rs
section hp
variable {B : Nat → Prop} {w0 w w' : World} {os os' : List Ass} {rs : List RowT}
theorem Hp.up (h : Hp B w0 w os) : Mod B w0 w := by obtain ⟨_, _, h⟩ := h; exact h.up
theorem Hp.perm (h : Hp B w0 w os) (hp : os.Perm os') : Hp B w0 w os' := by
 obtain ⟨rs, h1, h2⟩ := h
 obtain ⟨rs', p, h3⟩ := h1.perm hp
 exact ⟨rs', h3, C7 h2 p⟩
theorem Hp.start (w : World) : Hp Nil w w [] := ⟨[], rfl, Mem.Hp.start w⟩
theorem Hp.given (h1 : Al os rs) (h2 : RowsOf w rs) (h3 : Bh rs) : Hp (Cs rs) w w os := ⟨rs, h1, Mem.Hp.given h2 h3⟩
theorem Hp.call (h : Hp B w0 w os) (hb : Below w.heap.size w w') : Hp B w0 w' os := by obtain ⟨rs, h1, h2⟩ := h; exact ⟨rs, h1, h2.call hb⟩
theorem Hp.drew (h : Hp B w0 w os) : Hp B w0 w.drew os := by obtain ⟨rs, h1, h2⟩ := h; exact ⟨rs, h1, h2.drew⟩
theorem Hp.new (h : Hp B w0 w os) (t : TypeId) (cs : Array Value) : Hp B w0 (w.alloc (.cells cs t)) (cell w.heap.size t cs :: os) := by
 obtain ⟨rs, h1, h2⟩ := h
 exact ⟨(w.heap.size, Ez t, cs) :: rs, ⟨[(w.heap.size, Ez t, cs)], rs, rfl, rfl, h1⟩, h2.new t cs⟩
theorem Al.at_ : ∀ {os : List Ass} {rs : List RowT} {i : Nat} {o : Ass}, Al os rs → os[i]? = some o → ∃ a x b, rs = a ++ (x ++ b) ∧ o x ∧ ∀ (o' : Ass) (y : List RowT), o' y → Al (os.set i o') (a ++ (y ++ b))
  | [], _, i, o, _, hi => by simp at hi
  | p :: os, rs, 0, o, ⟨a, b, e, h1, h2⟩, hi => by
    simp only [List.getElem?_cons_zero, Option.some.injEq] at hi
    subst hi
    exact ⟨[], a, b, by simpa using e, h1, fun o' y h => ⟨y, b, rfl, h, h2⟩⟩
  | p :: os, rs, i + 1, o, ⟨a, b, e, h1, h2⟩, hi => by
    simp only [List.getElem?_cons_succ] at hi
    obtain ⟨a', x, b', e', h3, h4⟩ := Al.at_ h2 hi
    exact ⟨a ++ a', x, b', by rw [e, e', List.append_assoc], h3, fun o' y h => ⟨a, a' ++ (y ++ b'), by rw [List.append_assoc], h1, h4 o' y h⟩⟩
theorem Hp.thing (h : Hp B w0 w os) (i : Nat) {o : Ass} (hi : os[i]? = some o) : ∃ x, o x ∧ RowsOf w x := by
 obtain ⟨rs, h1, h2⟩ := h
 obtain ⟨a, x, b, e, h3, _⟩ := h1.at_ hi
 refine ⟨x, h3, AT.2 fun y hy => h2.rows.mem y ?_⟩
 rw [e]; simp [hy]
theorem Hp.row (h : Hp B w0 w os) (i : Nat) {g : Nat} {t : TypeId} {cs : Array Value} (hi : os[i]? = some (cell g t cs)) : Di w g t cs := by
 obtain ⟨x, hx, hr⟩ := h.thing i hi
 unfold cell at hx
 subst hx
 exact hr.1
theorem Hp.turn (h : Hp B w0 w os) (i : Nat) {o o' : Ass} (hi : os[i]? = some o) (hc : ∀ x, o x → RowsOf w x → Bh x → ∃ y, o' y ∧ Chg w w' x y) : Hp B w0 w' (os.set i o') := by
 obtain ⟨rs, h1, h2⟩ := h
 obtain ⟨a, x, b, e, h3, h4⟩ := h1.at_ hi
 subst e
 have p : (a ++ (x ++ b)).Perm (x ++ (a ++ b)) := by rw [← List.append_assoc, ← List.append_assoc]; exact List.perm_append_comm.append_right b
 have h5 := C7 h2 p
 have hd := Bq.1 h5.apart
 rw [List.map_append] at hd
 obtain ⟨y, hy, hch⟩ := hc x h3 (AT.2 fun z hz => h5.rows.mem z (by simp [hz])) (Bq.2 (List.nodup_append.1 hd).1)
 have p' : (y ++ (a ++ b)).Perm (a ++ (y ++ b)) := by rw [← List.append_assoc, ← List.append_assoc]; exact List.perm_append_comm.append_right b
 exact ⟨_, h4 o' y hy, C7 (FF h5 hch) p'⟩
theorem Hp.set (h : Hp B w0 w os) (i : Nat) {g : Nat} {t : TypeId} {cs c : Array Value} (hi : os[i]? = some (cell g t cs)) (hm : Mod (Il g) w w') (hR : Di w' g t c) : Hp B w0 w' (os.set i (cell g t c)) :=
 h.turn i hi fun x hx _ _ => ⟨[(g, t, c)], rfl, by
  unfold cell at hx
  subst hx
  refine ⟨hm.weaken fun j _ e => ⟨(g, Ez t, cs), by simp, e.symm⟩, ⟨hR, trivial⟩, ⟨(fun _ h => by cases h), trivial⟩, fun x hx _ => ?_⟩
  have : x = (g, Ez t, c) := by simpa using hx
  subst this
  exact ⟨(g, Ez t, cs), by simp, rfl⟩⟩
theorem Hp.drop (h : Hp B w0 w os) (k : Nat) : Hp B w0 w (os.drop k) := by
 obtain ⟨rs, h1, h2⟩ := h
 rw [← List.take_append_drop k os] at h1
 obtain ⟨a, b, e, _, h3⟩ := h1.split
 subst e
 have hd := Bq.1 h2.apart
 rw [List.map_append] at hd
 exact ⟨b, h3, h2.up, AT.2 fun x hx => h2.rows.mem x (by simp [hx]), Bq.2 (List.nodup_append.1 hd).2.1, fun x hx => h2.own x (by simp [hx])⟩
theorem Hp.chg (h : Hp B w0 w os) (ids : List Nat) (hn : ids.Nodup) {post : List Ass} (hc : ∀ x, Al (EB ids os) x → RowsOf w x → Bh x → ∃ y, Al post y ∧ Chg w w' x y) : Hp B w0 w' (post ++ D0 ids os) := by
 obtain ⟨rs, h1, h2⟩ := h.perm (Dj (os := os) hn).symm
 obtain ⟨a, b, e, h3, h4⟩ := h1.split
 subst e
 have hd := Bq.1 h2.apart
 rw [List.map_append] at hd
 obtain ⟨y, hy, hch⟩ := hc a h3 (AT.2 fun z hz => h2.rows.mem z (by simp [hz])) (Bq.2 (List.nodup_append.1 hd).1)
 exact ⟨y ++ b, hy.app h4, FF h2 hch⟩
theorem Hp.give (h : Hp B w0 w os) (ids : List Nat) (hn : ids.Nodup) : ∃ x, Al (EB ids os) x ∧ RowsOf w x ∧ Bh x ∧ ∀ (post : List Ass) (y : List RowT) (w' : World), Al post y → Chg w w' x y → Hp B w0 w' (post ++ D0 ids os) := by
 obtain ⟨rs, h1, h2⟩ := h.perm (Dj (os := os) hn).symm
 obtain ⟨a, b, e, h3, h4⟩ := h1.split
 subst e
 have hd := Bq.1 h2.apart
 rw [List.map_append] at hd
 exact ⟨a, h3, AT.2 fun z hz => h2.rows.mem z (by simp [hz]), Bq.2 (List.nodup_append.1 hd).1, fun post y w' hy hch => ⟨y ++ b, hy.app h4, FF h2 hch⟩⟩
theorem Hp.tell (h : Hp (Cs rs) w0 w os) (ids : List Nat) (hn : ids.Nodup) : ∃ y, Al (EB ids os) y ∧ Chg w0 w rs y := by
 obtain ⟨rs', h1, h2⟩ := h.perm (Dj (os := os) hn).symm
 obtain ⟨a, b, e, h3, h4⟩ := h1.split
 subst e
 have hd := Bq.1 h2.apart
 rw [List.map_append] at hd
 exact ⟨a, h3, h2.up, AT.2 fun z hz => h2.rows.mem z (by simp [hz]), Bq.2 (List.nodup_append.1 hd).1, fun x hx => h2.own x (by simp [hx])⟩
theorem Hp.imp (h : Hp B w0 w os) (hi : ∀ rs, Al os rs → ∃ rs', rs.Perm rs' ∧ Al os' rs') : Hp B w0 w os' := by
 obtain ⟨rs, h1, h2⟩ := h
 obtain ⟨rs', p, h3⟩ := hi rs h1
 exact ⟨rs', h3, C7 h2 p⟩
end hp
def AX {X : Type} (P : Program) (F : FuncId) (args : Array Value) (pre : List Ass) (val : X → Value) (post : X → List Ass) : Prop :=
  ∀ w rs, Al pre rs → RowsOf w rs → Bh rs → Calls P F args w fun e w' => ∃ x, e = .returned (val x) ∧ ∃ rs', Al (post x) rs' ∧ Chg w w' rs rs'
inductive Res2 (P : Program) (env : List (Nat × Value)) (rs : List Ass) : ResultVar → Value → Prop
  | tmp {t : Tmp} {v : Value} (h : look env t = some v) : Res2 P env rs (.tmp t) v
  | cell (i : Nat) {s : Tmp} {T : TypeId} {g off : Nat} {t : TypeId} {cs : Array Value} {v : Value} (hv : Ka P T cs off v) (h : look env s = some (.pointer (some ⟨g, off, none⟩))) (hi : rs[i]? = some (Sep.cell g t cs)) : Res2 P env rs (.cell s T) v
def Cf (P : Program) (ops : Array Oper) (Q : Exit → Act → World → Prop) (n : Nat) (env : List (Nat × Value)) (B : Nat → Prop) (w0 : World) (rs : List Ass) (l : List Oper) : Prop := ∀ a w, Fr n a env → Hp B w0 w rs → wpList P ops Q l a w
def BB (P : Program) (Q : Exit → Act → World → Prop) (n : Nat) (env : List (Nat × Value)) (B : Nat → Prop) (w0 : World) (rs : List Ass) (c : Code) : Prop := ∀ a w, Fr n a env → Hp B w0 w rs → c.wp P Q a w
def CT (Q : Exit → Act → World → Prop) (n : Nat) (env : List (Nat × Value)) (B : Nat → Prop) (w0 : World) (rs : List Ass) (e : Exit) : Prop := ∀ a w, Fr n a env → Hp B w0 w rs → Q e a w
section wl2
variable {P : Program} {ops : Array Oper} {Q : Exit → Act → World → Prop} {n : Nat} {B : Nat → Prop} {w0 : World} {rs rs' : List Ass} {env env' : List (Nat × Value)} {l rest : List Oper} {o : Oper} {d : Nat} {fl : List ((Nat × Nat) × Nat)}
theorem Ae (hfl : KP P fl) : ∀ {l : List Oper} {env : List (Nat × Value)}, KQ fl ops n l env = some (env', rest) → Cf P ops Q n env' B w0 rs rest → Cf P ops Q n env B w0 rs l
  | [], env, h, hk => by
    simp only [KQ, Option.some.injEq, Prod.mk.injEq] at h
    obtain ⟨rfl, rfl⟩ := h
    exact hk
  | o :: r, env, h, hk => by
    unfold KQ at h
    cases hw : wants ops o env with
    | none =>
      simp only [hw, Option.some.injEq, Prod.mk.injEq] at h
      obtain ⟨rfl, rfl⟩ := h
      exact hk
    | some b =>
      cases b with
      | false =>
        simp only [hw] at h
        cases hd : o.dst with
        | none => simp [hd] at h
        | some d =>
          simp only [hd] at h
          cases hn : Nat.blt d n with
          | false => simp [hn] at h
          | true =>
            simp only [hn] at h
            exact fun a w hF hH => MN hF hw hd (EL hn) fun b hb => Ae hfl h hk b w hb hH
      | true =>
        simp only [hw] at h
        cases hq : q1 fl o env with
        | none =>
          simp only [hq, Option.some.injEq, Prod.mk.injEq] at h
          obtain ⟨rfl, rfl⟩ := h
          exact hk
        | some v =>
          simp only [hq] at h
          cases hd : o.dst with
          | none => simp [hd] at h
          | some d =>
            simp only [hd] at h
            cases hn : Nat.blt d n with
            | false => simp [hn] at h
            | true =>
              simp only [hn] at h
              exact fun a w hF hH => RL hF hw hd (EL hn) v (fun b hb => Af hfl hq hb) fun b hb => Ae hfl h hk b w hb hH
theorem Aa (h1 : Wj ops n o env = some d) (v : Value) (hrun : ∀ b w, Fr n b env → Hp B w0 w rs → (execOp b.eval o).run P w = .ok (.value v) w) (h : Cf P ops Q n ((d, v) :: env) B w0 rs rest) : Cf P ops Q n env B w0 rs (o :: rest) :=
 fun a w hF hH => RL hF (Cj h1).1 (Cj h1).2.1 (Cj h1).2.2 v (fun b hb => hrun b w hb hH) fun b hb => h b w hb hH
theorem AV (h : CT Q n env B w0 rs .normal) : Cf P ops Q n env B w0 rs [] := h
theorem Ab {y : Code} (h : BB P Q n env B w0 rs y) : Cf P ops (Exit.then (fun a w => y.wp P Q a w) Q) n env B w0 rs [] := h
theorem Cf.keep (hs : Gv env env') (h : Cf P ops Q n env' B w0 rs l) : Cf P ops Q n env B w0 rs l := fun a w hF hH => h a w (hF.keep hs) hH
theorem BB.keep {c : Code} (hs : Gv env env') (h : BB P Q n env' B w0 rs c) : BB P Q n env B w0 rs c := fun a w hF hH => h a w (hF.keep hs) hH
theorem CT.keep {e : Exit} (hs : Gv env env') (h : CT Q n env' B w0 rs e) : CT Q n env B w0 rs e := fun a w hF hH => h a w (hF.keep hs) hH
end wl2
section wc2
variable {P : Program} {Q : Exit → Act → World → Prop} {n : Nat} {B : Nat → Prop} {w0 : World} {rs : List Ass} {env : List (Nat × Value)}
theorem Ad {id : Nat} {l : List Oper} {y : Code} (h : Cf P l.toArray (Exit.then (fun a w => y.wp P Q a w) Q) n env B w0 rs l) : BB P Q n env B w0 rs (.seq (.region id l.toArray false) y) := fun a w hF hH => wp_seq (wp_region_lit (h a w hF hH))
theorem Bp {id : Nat} {l : List Oper} (h : Cf P l.toArray Q n env B w0 rs l) : BB P Q n env B w0 rs (.region id l.toArray false) := fun a w hF hH => wp_region_lit (h a w hF hH)
theorem Av {x y : Code} (h : BB P (Exit.then (fun a w => y.wp P Q a w) Q) n env B w0 rs x) : BB P Q n env B w0 rs (.seq x y) := fun a w hF hH => wp_seq (h a w hF hH)
theorem AI {c : Operand} {x y : Code} (hc : evs env c = some (.bool true)) (h : BB P Q n env B w0 rs x) : BB P Q n env B w0 rs (.cond c x y) := fun a w hF hH => MQ hF hc (h a w hF hH)
theorem As {c : Operand} {x y : Code} (hc : evs env c = some (.bool false)) (h : BB P Q n env B w0 rs y) : BB P Q n env B w0 rs (.cond c x y) := fun a w hF hH => MR hF hc (h a w hF hH)
theorem AB (h : CT Q n env B w0 rs .normal) : BB P Q n env B w0 rs .skip := fun a w hF hH => wp_skip (h a w hF hH)
theorem Ax (h : CT Q n env B w0 rs .ret) : BB P Q n env B w0 rs .ret := fun a w hF hH => wp_ret (h a w hF hH)
theorem Bo {id : Nat} {c : Code} (h : BB P (Exit.inBlock id Q) n env B w0 rs c) : BB P Q n env B w0 rs (.block id c) := fun a w hF hH => wp_block (h a w hF hH)
theorem CP {id : Nat} (h : CT Q n env B w0 rs (.exit id)) : BB P Q n env B w0 rs (.exit id) := fun a w hF hH => wp_exit (h a w hF hH)
theorem AL {y : Code} (h : BB P Q n env B w0 rs y) : CT (Exit.then (fun a w => y.wp P Q a w) Q) n env B w0 rs .normal := h
theorem BC {id : Nat} (h : CT Q n env B w0 rs .normal) : CT (Exit.inBlock id Q) n env B w0 rs .normal := h
theorem C4 {K : Act → World → Prop} (h : CT Q n env B w0 rs .ret) : CT (Exit.then K Q) n env B w0 rs .ret := h
theorem BG {id : Nat} (h : CT Q n env B w0 rs .ret) : CT (Exit.inBlock id Q) n env B w0 rs .ret := h
theorem FP {K : Act → World → Prop} {id : Nat} (h : CT Q n env B w0 rs (.exit id)) : CT (Exit.then K Q) n env B w0 rs (.exit id) := h
theorem Br {id : Nat} (h : CT Q n env B w0 rs .normal) : CT (Exit.inBlock id Q) n env B w0 rs (.exit id) := fun a w hF hH => (if_pos rfl).mpr (h a w hF hH)
variable {fn : Func} {R : Ending → World → Prop}
theorem Res2.res {r : ResultVar} {v : Value} {w : World} (h : Res2 P env rs r v) (hH : Hp B w0 w rs) : Res P env w r v := by
  cases h with
  | tmp h => exact .tmp h
  | cell i hv h hi => exact .cell h hv (hH.row i hi)
theorem D5 {r : ResultVar} {v : Value} {w : World} (h : Res2 P env rs r v) (hH : Hp B w0 w rs) : Res P env w r v := by
  cases h with
  | tmp h => exact .tmp h
  | cell i hv h hi => exact .cell h hv (hH.row i hi)
theorem Aw {r1 : ResultVar} {v1 : Value} (h1 : Res2 P env rs r1 v1) (hR : ∀ w, Hp B w0 w rs → R (.returned v1) w) (hr : fn.results = #[r1]) : CT (bodyPost P fn R) n env B w0 rs .ret := fun _ w hF hH => Wy hF hr (D5 h1 hH) (hR w hH)
theorem CC {r1 r2 : ResultVar} {v1 v2 : Value} (h1 : Res2 P env rs r1 v1) (h2 : Res2 P env rs r2 v2) (hR : ∀ w, Hp B w0 w rs → R (.returned (.tuple #[v1, v2])) w) (hr : fn.results = #[r1, r2]) : CT (bodyPost P fn R) n env B w0 rs .ret := fun _ w hF hH => Wz hF hr (D5 h1 hH) (D5 h2 hH) (hR w hH)
theorem EM {r1 r2 r3 : ResultVar} {v1 v2 v3 : Value} (h1 : Res2 P env rs r1 v1) (h2 : Res2 P env rs r2 v2) (h3 : Res2 P env rs r3 v3) (hR : ∀ w, Hp B w0 w rs → R (.returned (.tuple #[v1, v2, v3])) w) (hr : fn.results = #[r1, r2, r3]) : CT (bodyPost P fn R) n env B w0 rs .ret := fun _ w hF hH => WB hF hr (D5 h1 hH) (D5 h2 hH) (D5 h3 hH) (hR w hH)
theorem MV (hR : ∀ w, Hp B w0 w rs → R (.returned (.tuple #[])) w) (hr : fn.results = #[]) : CT (bodyPost P fn R) n env B w0 rs .ret := fun _ w hF hH => WD hF hr (hR w hH)
theorem CQ (hR : ∀ w, Hp B w0 w rs → R (.returned (.tuple #[])) w) (hr : fn.results = #[]) : CT (bodyPost P fn R) n env B w0 rs .normal := fun _ w hF hH => Th hF hr (hR w hH)
theorem Fj {f : FuncId} {c : Code} {args : List Value} {w : World} (n : Nat) (hf : P.funcs[f]? = some fn) (hb : fn.body = some c) (hn : fn.ntmps = n) (hs : Nat.ble args.length n = true) (h : BB P (bodyPost P fn R) n (F4 0 args) Nil w [] c) : Calls P f args.toArray w R := GZ n hf hb hn (Nat.le_of_ble_eq_true hs) fun a hF => h a w hF (Hp.start w)
end wc2
section par2
variable {P : Program} {ops : Array Oper} {Q : Exit → Act → World → Prop} {n : Nat} {B : Nat → Prop} {w0 : World} {rs : List Ass} {env env0 : List (Nat × Value)} {jobs : List Job} {o : Oper} {deps : List Nat} {v : Value} {fl : List ((Nat × Nat) × Nat)} {kk : Nat}
def XL (P : Program) (ops : Array Oper) (Q : Exit → Act → World → Prop) (n : Nat) (jobs : List Job) (env0 : List (Nat × Value)) (B : Nat → Prop) (w0 : World) (rs : List Ass) (o : Oper) (j : Job) : Prop := ∀ w, Hp B w0 w rs → OB P ops Q n jobs env0 w o j
def Ek (P : Program) (ops : Array Oper) (Q : Exit → Act → World → Prop) (n : Nat) (jobs : List Job) (env0 : List (Nat × Value)) (B : Nat → Prop) (w0 : World) (rs : List Ass) : List Oper → List Job → Prop
  | o :: os, j :: js => XL P ops Q n jobs env0 B w0 rs o j ∧ Ek P ops Q n jobs env0 B w0 rs os js
  | _, _ => True
theorem Ek.all : ∀ {os : List Oper} {js : List Job}, Ek P ops Q n jobs env0 B w0 rs os js → ∀ w, Hp B w0 w rs → EF P ops Q n w.heap.size jobs env0 (XF w) os js
  | [], _, _, _, _ => by unfold EF; trivial
  | _ :: _, [], _, _, _ => by unfold EF; trivial
  | _ :: _, _ :: _, h, w, hH => ⟨h.1 w hH, Ek.all h.2 w hH⟩
end par2
section orders2
variable {P : Program} {ops : Array Oper} {Q : Exit → Act → World → Prop} {n f i d : Nat} {B : Nat → Prop} {w0 : World} {rs : List Ass} {env env' : List (Nat × Value)} {listed : Array Bool} {o : Oper} {fl : List ((Nat × Nat) × Nat)}
def NL (P : Program) (ops : Array Oper) (Q : Exit → Act → World → Prop) (n : Nat) (env : List (Nat × Value)) (B : Nat → Prop) (w0 : World) (rs : List Ass) (f : Nat) (listed : Array Bool) : Prop := ∀ a w, Fr n a env → Hp B w0 w rs → wpAny P .any ops Q f listed a w
end orders2
section loops
variable {P : Program} {Q : Exit → Act → World → Prop} {n : Nat} {B : Nat → Prop} {w0 : World} {rs rs' : List Ass} {env env' : List (Nat × Value)} {c : Code} {α : Type}
theorem BB.less (k : Nat) (h : BB P Q n env B w0 (rs.drop k) c) : BB P Q n env B w0 rs c := fun a w hF hH => h a w hF (hH.drop k)
theorem BB.at_ (hs : Gv env env') (hr : rs = rs') (h : BB P Q n env' B w0 rs' c) : BB P Q n env B w0 rs c := fun a w hF hH => h a w (hF.keep hs) (hr ▸ hH)
def Kc (n : Nat) (B : Nat → Prop) (w0 : World) (E : α → List (Nat × Value)) (R : α → List Ass) (Inv : α → Prop) (μ : α → Nat) (x : α) : Act → World → Prop := fun a w => ∃ y, Inv y ∧ μ y < μ x ∧ Fr n a (E y) ∧ Hp B w0 w (R y)
theorem Dd (E : α → List (Nat × Value)) (R : α → List Ass) (Inv : α → Prop) (μ : α → Nat) (x : α) (hx : Inv x) (hE : Gv env (E x)) (hR : rs = R x) (h : ∀ x, Inv x → BB P (Exit.then (Kc n B w0 E R Inv μ x) Q) n (E x) B w0 (R x) c) : BB P Q n env B w0 rs (.loop c) := by
  subst hR
  intro a w hF hH
  have key : ∀ m x, μ x < m → Inv x → ∀ a w, Fr n a (E x) → Hp B w0 w (R x) → Code.rounds P c Q m a w := by
    intro m
    induction m with
    | zero => intro x hx; omega
    | succ m ih =>
      intro x hm hx a w hF hH
      refine Code.wp_mono (fun e a' w' q => ?_) (h x hx a w hF hH)
      cases e with
      | normal =>
        obtain ⟨y, hy, hlt, hF', hH'⟩ := q
        exact ih y (by omega) hy a' w' hF' hH'
      | _ => exact q
  exact wp_loop_rounds _ (key _ x (Nat.lt_succ_self _) hx a w (hF.keep hE) hH)
theorem Cr {E : α → List (Nat × Value)} {R : α → List Ass} {Inv : α → Prop} {μ : α → Nat} {x : α} (y : α) (k : Nat) (hy : Inv y) (hμ : μ y < μ x) (hs : Gv env (E y)) (hr : rs.drop k = R y) : CT (Exit.then (Kc n B w0 E R Inv μ x) Q) n env B w0 rs .normal := fun _ _ hF hH => ⟨y, hy, hμ, hF.keep hs, hr ▸ hH.drop k⟩
end loops
section orders3
variable {P : Program} {ops : Array Oper} {Q : Exit → Act → World → Prop} {n fu i d : Nat} {B : Nat → Prop} {w0 : World} {rs : List Ass} {env : List (Nat × Value)} {listed : Array Bool} {o : Oper}
end orders3
section textsBs
variable {P : Program} {ops : Array Oper} {Q : Exit → Act → World → Prop} {n d : Nat} {B : Nat → Prop} {w0 : World} {rs : List Ass} {env env0 : List (Nat × Value)} {rest : List Oper} {o : Oper} {a : Act} {w : World} {jobs : List Job} {deps : List Nat} {kk : Nat}
end textsBs
section textsBytes
variable {P : Program} {ops : Array Oper} {Q : Exit → Act → World → Prop} {n : Nat} {B : Nat → Prop} {w0 w : World} {rs : List Ass} {env : List (Nat × Value)} {rest : List Oper} {o : Oper} {d : Nat}
end textsBytes
section par3
variable {P : Program} {ops : Array Oper} {Q : Exit → Act → World → Prop} {n : Nat} {B : Nat → Prop} {w0 : World} {rs : List Ass} {env : List (Nat × Value)}
theorem NL.keep {f : Nat} {env' : List (Nat × Value)} {listed : Array Bool} (hs : Gv env env') (h : NL P ops Q n env' B w0 rs f listed) : NL P ops Q n env B w0 rs f listed := fun a w hF hH => h a w (hF.keep hs) hH
end par3
section par4
variable {P : Program} {ops : Array Oper} {Q : Exit → Act → World → Prop} {n : Nat} {B : Nat → Prop} {w0 : World} {rs : List Ass} {env : List (Nat × Value)}
def Tk (n : Nat) (B : Nat → Prop) (w0 : World) (E : List (Nat × Value)) (R : List Ass) : Exit → Act → World → Prop := fun e a w => e = .normal ∧ Fr n a E ∧ Hp B w0 w R
theorem NM {c : Code} (E : List (Nat × Value)) (R : List Ass) (h1 : BB P (Tk n B w0 E R) n env B w0 rs c) (h2 : CT Q n E B w0 R .normal) : BB P Q n env B w0 rs c := fun a w hF hH => Code.wp_mono (fun e a' w' (h : Tk n B w0 E R e a' w') => by obtain ⟨he, hF', hH'⟩ := h; subst he; exact h2 a' w' hF' hH') (h1 a w hF hH)
theorem Kd {E : List (Nat × Value)} {R : List Ass} (k : Nat) (hs : Gv env E) (hr : rs.drop k = R) : CT (Tk n B w0 E R) n env B w0 rs .normal := fun _ _ hF hH => ⟨rfl, hF.keep hs, hr ▸ hH.drop k⟩
end par4
section does
variable {P : Program} {ops : Array Oper} {Q : Exit → Act → World → Prop} {n d : Nat} {B : Nat → Prop} {w0 : World} {os : List Ass} {env : List (Nat × Value)} {rest l : List Oper} {o : Oper} {c : Code} {e : Exit} {fu : Nat} {ids : List Nat} {listed : Array Bool}
def DN : Ass := fun rs => rs = []
def FG : Nat → List Ass → List Ass
  | 0, _ => []
  | k + 1, [] => DN :: FG k []
  | k + 1, x :: r => x :: FG k r
def Fh : List Nat → List Ass → List Ass → List Ass
  | i :: ids, x :: xs, os => Fh ids xs (os.set i x)
  | _, _, os => os
def Dr : List Nat → Bool
  | [] => true
  | i :: r => !r.elem i && Dr r
theorem B5 : ∀ {l : List Nat}, Dr l = true → l.Nodup
  | [], _ => List.nodup_nil
  | i :: r, h => by
    unfold Dr at h
    simp only [Bool.and_eq_true, Bool.not_eq_true'] at h
    refine List.nodup_cons.2 ⟨fun hm => ?_, B5 h.2⟩
    rw [List.elem_iff.2 hm] at h
    cases h.1
theorem EO : ∀ {k : Nat} {rs : List RowT}, Al (List.replicate k DN) rs ↔ rs = []
  | 0, rs => by simp [Al]
  | k + 1, rs => by
    rw [List.replicate_succ]
    constructor
    · rintro ⟨a, b, e, h1, h2⟩
      have := (EO (k := k)).1 h2
      unfold DN at h1
      subst h1; subst this
      exact e
    · rintro rfl
      exact ⟨[], [], rfl, rfl, EO.2 rfl⟩
theorem AX.pad {X : Type} {F : FuncId} {args : Array Value} {pre : List Ass} {val : X → Value} {post : X → List Ass} (h : AX P F args pre val post) (k : Nat) : AX P F args (pre ++ List.replicate k DN) val post := fun w rs h1 h2 h3 => by
 obtain ⟨a, b, e, ha, hb⟩ := h1.split
 have := EO.1 hb
 subst this
 rw [List.append_nil] at e
 subst e
 exact h w _ ha h2 h3
theorem JC : ∀ (k : Nat) (l : List Ass), (FG k l).length = k
  | 0, _ => rfl
  | k + 1, [] => by simp [FG, JC k []]
  | k + 1, x :: r => by simp [FG, JC k r]
theorem E1 : ∀ {k : Nat} {l : List Ass} {rs : List RowT}, Al l rs → ∃ rs', rs.Perm rs' ∧ Al (l.drop k ++ FG k l) rs'
  | 0, l, rs, h => ⟨rs, .refl _, by simpa [FG] using h⟩
  | k + 1, [], rs, h => by
    obtain ⟨rs', p, h'⟩ := E1 (k := k) (l := []) h
    refine ⟨rs', p, ?_⟩
    simp only [List.drop_nil, List.nil_append] at h' ⊢
    exact ⟨[], rs', rfl, rfl, h'⟩
  | k + 1, x :: r, rs, ⟨a, b, e, h1, h2⟩ => by
    obtain ⟨b', p, h'⟩ := E1 (k := k) h2
    have h3 : Al (x :: (r.drop k ++ FG k r)) (a ++ b') := ⟨a, b', rfl, h1, h'⟩
    obtain ⟨c, p2, h4⟩ := h3.perm (os' := r.drop k ++ x :: FG k r) List.perm_middle.symm
    exact ⟨c, (e ▸ p.append_left a).trans p2, h4⟩
theorem QM {ids : List Nat} : ∀ {os : List Ass} {k i : Nat} {x : Ass}, (k + i) ∈ ids → Cu ids k (os.set i x) = Cu ids k os
  | [], _, _, _, _ => by simp
  | y :: r, k, 0, x, h => by
    have : ids.elem k = true := List.elem_iff.2 h
    rw [List.set_cons_zero, KS this, KS this]
  | y :: r, k, i + 1, x, h => by
    have ih := QM (os := r) (k := k + 1) (i := i) (x := x) (by rwa [show k + 1 + i = k + (i + 1) by omega])
    rw [List.set_cons_succ]
    cases hk : ids.elem k with
    | true => rw [KS hk, KS hk, ih]
    | false => rw [LV hk, LV hk, ih]
theorem NP {ids0 : List Nat} : ∀ {ids : List Nat} {xs os : List Ass}, (∀ i ∈ ids, i ∈ ids0) → D0 ids0 (Fh ids xs os) = D0 ids0 os
  | [], _, _, _ => by unfold Fh; rfl
  | i :: ids, [], _, _ => by unfold Fh; rfl
  | i :: ids, x :: xs, os, h => by
    show D0 ids0 (Fh ids xs (os.set i x)) = _
    rw [NP fun j hj => h j (by simp [hj])]
    exact QM (k := 0) (by rw [Nat.zero_add]; exact h i (by simp))
theorem NQ : ∀ {ids : List Nat} {xs os : List Ass} {i : Nat}, i ∉ ids → (Fh ids xs os)[i]? = os[i]?
  | [], _, _, _, _ => by unfold Fh; rfl
  | j :: ids, [], _, _, _ => by unfold Fh; rfl
  | j :: ids, x :: xs, os, i, h => by
    show (Fh ids xs (os.set j x))[i]? = _
    rw [NQ fun hm => h (by simp [hm]), List.getElem?_set_ne (fun e => h (by simp [e]))]
theorem NR : ∀ {ids : List Nat} {xs os : List Ass}, ids.Nodup → (∀ i ∈ ids, i < os.length) → xs.length = ids.length → EB ids (Fh ids xs os) = xs
  | [], xs, _, _, _, hl => by
    have : xs = [] := List.length_eq_zero_iff.1 hl
    subst this; rfl
  | i :: ids, [], _, _, _, hl => by simp at hl
  | i :: ids, x :: xs, os, hn, hb, hl => by
    obtain ⟨h1, h2⟩ := List.nodup_cons.1 hn
    have e1 : (Fh ids xs (os.set i x))[i]? = some x := by
      rw [NQ h1]
      simp [hb i (by simp)]
    have ih := NR (ids := ids) (xs := xs) (os := os.set i x) h2 (fun j hj => by rw [List.length_set]; exact hb j (by simp [hj])) (by simpa using hl)
    show List.filterMap _ (i :: ids) = _
    rw [List.filterMap_cons_some (b := x) (by exact e1)]
    exact congrArg _ ih
theorem JD {ids : List Nat} {xs os : List Ass} (hn : ids.Nodup) (hb : (ids.all fun i => Nat.blt i os.length) = true) : (FG ids.length xs ++ D0 ids os).Perm (Fh ids (FG ids.length xs) os) := by
 have hb' : ∀ i ∈ ids, i < os.length := fun i hi => EL (List.all_eq_true.1 hb i hi)
 have := Dj (ids := ids) (os := Fh ids (FG ids.length xs) os) hn
 rwa [NR hn hb' (JC _ _), NP (fun _ h => h)] at this
theorem AX.calls {X : Type} {F : FuncId} {vs : List Value} {pre : List Ass} {val : X → Value} {post : X → List Ass} {w : World} (ids : List Nat) (hc : AX P F vs.toArray pre val post) (hp : EB ids os = pre) (hn : ids.Nodup) (h : Hp B w0 w os) : Calls P F vs.toArray w fun e w' => ∃ x, e = .returned (val x) ∧ Hp B w0 w' (post x ++ D0 ids os) := by
 subst hp
 obtain ⟨x, h1, h2, h3, h4⟩ := h.give ids hn
 exact (hc w x h1 h2 h3).mono fun e w' ⟨v, he, y, hy, hch⟩ => ⟨v, he, h4 _ y w' hy hch⟩
def Bk {X : Type} (P : Program) (Q : Exit → Act → World → Prop) (n : Nat) (env : List (Nat × Value)) (B : Nat → Prop) (w0 : World) (os : List Ass) (o : Oper) (val : X → Value) (post : X → List Ass) : Prop :=
  ∀ (b : Act) (w : World), Hp B w0 w os → Fr n b env → ∀ K : Act → World → Prop, (∀ x w', Hp B w0 w' (post x) → K (b.put o.dst (val x)) w') → o.wp P b w K Q
theorem Aj {X : Type} {val : X → Value} {post : X → List Ass} (h1 : Wj ops n o env = some d) (ha : Bk P Q n env B w0 os o val post) (h : ∀ x, Cf P ops Q n ((d, val x) :: env) B w0 (post x) rest) : Cf P ops Q n env B w0 os (o :: rest) := fun a w hF hH =>
 JA hF (Cj h1).1 fun K hK => ha a w hH hF K fun x w' hp => by
  rw [(Cj h1).2.1]
  exact hK _ _ (h x _ _ (hF.put (Cj h1).2.2 _) hp)
theorem AF {X : Type} {val : X → Value} {post : X → List Ass} (hg : wants ops o env = some true) (hd : o.dst = none) (ha : Bk P Q n env B w0 os o val post) (h : ∀ x, Cf P ops Q n env B w0 (post x) rest) : Cf P ops Q n env B w0 os (o :: rest) := fun a w hF hH =>
 JA hF hg fun K hK => ha a w hH hF K fun x w' hp => by
  rw [hd]
  exact hK _ _ (h x _ _ hF hp)
theorem FH {r : Value} {w' : World} (b : Act) (hrun : (execOp b.eval o).run P w0 = .ok (.value r) w') {K : Act → World → Prop} (h : K (b.put o.dst r) w') : o.wp P b w0 K Q := by
 unfold Oper.wp
 rw [hrun, Oper.upon_value]
 exact h
theorem Ak {X : Type} {F : FuncId} {f : Operand} {args : Array Operand} {ats : Array TypeId} {vs : List Value} {pre : List Ass} {val : X → Value} {post : X → List Ass} {os' : X → List Ass} (ids : List Nat) (pads : Nat) (hE : Vl P F) (hc : AX P F vs.toArray pre val post) (hp : EB ids os = pre ++ List.replicate pads DN) (hn : Dr ids = true) (hb : (ids.all fun i => Nat.blt i os.length) = true) (he : ∀ x, (post x).drop ids.length ++ Fh ids (FG ids.length (post x)) os = os' x) (ho : o.op = .call { callee := .value f, args := args, argTypes := ats }) (hf : evs env f = some (.func (.func F) #[] #[])) (hx : evl env args.toList = some vs) :
  Bk P Q n env B w0 os o val os' := fun b w hH hb' K hK => by
 unfold Oper.wp
 rw [HI hE ho hf hx hb', Oper.upon_enter]
 refine (AX.calls ids (hc.pad pads) hp (B5 hn) hH).mono ?_
 rintro e w' ⟨x, rfl, hq⟩
 refine hK x w' (he x ▸ Hp.imp hq fun rs h => ?_)
 obtain ⟨a, c, e, ha, hc'⟩ := h.split
 obtain ⟨a', p, ha'⟩ := E1 (k := ids.length) ha
 have h2 := Al.app ha' hc'
 rw [List.append_assoc] at h2
 obtain ⟨r2, p2, h3⟩ := h2.perm ((JD (xs := post x) (B5 hn) hb).append_left _)
 exact ⟨r2, e ▸ (p.append_right c).trans p2, h3⟩
theorem AU {F : FuncId} {f : Operand} {args : Array Operand} {ats : Array TypeId} {vs : List Value} {v : Value} (hE : Vl P F) (hc : ∀ w, Hp B w0 w os → Calls P F vs.toArray w fun e w' => e = .returned v ∧ Below w.heap.size w w') (ho : o.op = .call { callee := .value f, args := args, argTypes := ats }) (hf : evs env f = some (.func (.func F) #[] #[])) (hx : evl env args.toList = some vs) :
  Bk P Q n env B w0 os o (fun _ : Unit => v) (fun _ => os) := fun b w hH hb K hK => by
 unfold Oper.wp
 rw [HI hE ho hf hx hb, Oper.upon_enter]
 refine (hc w hH).mono ?_
 rintro e w' ⟨rfl, hbl⟩
 exact hK () w' (hH.call hbl)
theorem Bk.to {X : Type} {val : X → Value} {post post' : X → List Ass} (h : Bk P Q n env B w0 os o val post) (he : ∀ x, post x = post' x) : Bk P Q n env B w0 os o val post' := fun b w hH hb K hK => h b w hH hb K fun x w' hp => hK x w' (he x ▸ hp)
theorem Bk.imp {X : Type} {val : X → Value} {post post' : X → List Ass} (h : Bk P Q n env B w0 os o val post) (he : ∀ x rs, Al (post x) rs → ∃ rs', rs.Perm rs' ∧ Al (post' x) rs') : Bk P Q n env B w0 os o val post' := fun b w hH hb K hK => h b w hH hb K fun x w' hp => hK x w' (hp.imp (he x))
theorem Bk.s {X : Type} {val : X → Value} {post : X → List Ass} {S : Value → List Ass} (h : Bk P Q n env B w0 os o val post) (he : ∀ x, post x = S (val x)) : ∀ (b : Act) (w : World), Hp B w0 w os → Fr n b env → ∀ K : Act → World → Prop, (∀ v w', Hp B w0 w' (S v) → K (b.put o.dst v) w') → o.wp P b w K Q := fun b w hH hb K hK => h b w hH hb K fun x w' hp => hK _ w' (he x ▸ hp)
theorem Bk.su {v0 : Value} {post : Unit → List Ass} {os' : Value → List Ass} (h : Bk P Q n env B w0 os o (fun _ : Unit => v0) post) (he : post () = os' undef) : ∀ (b : Act) (w : World), Hp B w0 w os → Fr n b env → ∀ K : Act → World → Prop, (∀ v w', Hp B w0 w' (os' v) → K (b.put o.dst v0) w') → o.wp P b w K Q := fun b w hH hb K hK => h b w hH hb K fun x w' hp => hK undef w' (he ▸ hp)
theorem CL {T : TypeId} {x : Operand} {v : Value} {cs : Array Value} (ho : o.op = .box T x) (hx : evs env x = some v) (hc : v.cells = cs) : Bk P Q n env B w0 os o (fun g : Nat => .pointer (some ⟨g, 0, none⟩)) (fun g => cell g T cs :: os) := fun b w hH hb K hK => by
 have hrun : (execOp b.eval o).run P w = .ok (.value (.pointer (some ⟨w.heap.size, 0, none⟩))) (w.alloc (.cells cs T)) := by
  unfold execOp
  simp [ho, hb.evs hx, Instr.box, newVar, newRow, hc]
 unfold Oper.wp
 rw [hrun, Oper.upon_value]
 exact hK _ _ (hH.new T cs)
theorem BT {T : TypeId} {zs : Array Value} (hz : MP P T zs) (ho : o.op = .alloc T) : Bk P Q n env B w0 os o (fun g : Nat => .pointer (some ⟨g, 0, none⟩)) (fun g => cell g T zs :: os) := fun b w hH hb K hK => by
 unfold Oper.wp
 rw [Pc ho hz, Oper.upon_value]
 exact hK _ _ (hH.new T zs)
theorem AE (i : Nat) {T : TypeId} {x y : Operand} {g off k : Nat} {t : TypeId} {cs : Array Value} {v : Value} (c : Array Value) (hs : ∀ w, (sizeOf T).run P w = .ok k w) (hk : v.cells.size = k) (hl : Nat.ble (off + k) cs.size = true) (hone : NG v.cells.toList = true) (hc : (over? cs.toList off v.cells.toList).toArray = c) (hd : o.dst = none) (ho : o.op = .store T x y)
  (hx : evs env x = some (.pointer (some ⟨g, off, none⟩))) (hy : evs env y = some v) (hi : os[i]? = some (cell g t cs)) : Bk P Q n env B w0 os o (fun _ : Unit => undef) (fun _ => os.set i (cell g t c)) := fun a w hH hF K hK => by
 obtain ⟨w', hr, hR', hm⟩ := Ei (P := P) g t v.cells.toList 0 cs w off (hH.row i hi) (by have := Nat.le_of_ble_eq_true hl; simp; omega) (fun u hu => (List.all_eq_true.1 (IY hone)) u hu)
 have hrun : (execOp a.eval o).run P w = .ok .skip w' := by
  unfold execOp
  simp [ho, hF.evs hx, hF.evs hy, Instr.storeAt, Instr.sureAddr, storeVar, hs, hk, hr]
 have hR2 : Di w' g t c := by rw [← hc]; simpa [over?] using hR'
 unfold Oper.wp
 rw [hrun, Oper.upon_skip]
 have := hK () w' (hH.set i hi hm hR2)
 rw [hd] at this ⊢
 exact this
theorem Cf.via {X : Type} (os' : X → List Ass) (hi : ∀ rs, Al os rs → ∃ x, ∃ rs', rs.Perm rs' ∧ Al (os' x) rs') (h : ∀ x, Cf P ops Q n env B w0 (os' x) l) : Cf P ops Q n env B w0 os l := fun a w hF ⟨rs, h1, h2⟩ => by
 obtain ⟨x, rs', p, h3⟩ := hi rs h1
 exact h x a w hF ⟨rs', h3, C7 h2 p⟩
theorem BB.via {X : Type} (os' : X → List Ass) (hi : ∀ rs, Al os rs → ∃ x, ∃ rs', rs.Perm rs' ∧ Al (os' x) rs') (h : ∀ x, BB P Q n env B w0 (os' x) c) : BB P Q n env B w0 os c := fun a w hF ⟨rs, h1, h2⟩ => by
 obtain ⟨x, rs', p, h3⟩ := hi rs h1
 exact h x a w hF ⟨rs', h3, C7 h2 p⟩
theorem CT.via {X : Type} (os' : X → List Ass) (hi : ∀ rs, Al os rs → ∃ x, ∃ rs', rs.Perm rs' ∧ Al (os' x) rs') (h : ∀ x, CT Q n env B w0 (os' x) e) : CT Q n env B w0 os e := fun a w hF ⟨rs, h1, h2⟩ => by
 obtain ⟨x, rs', p, h3⟩ := hi rs h1
 exact h x a w hF ⟨rs', h3, C7 h2 p⟩
theorem NL.via {X : Type} (os' : X → List Ass) (hi : ∀ rs, Al os rs → ∃ x, ∃ rs', rs.Perm rs' ∧ Al (os' x) rs') (h : ∀ x, NL P ops Q n env B w0 (os' x) fu listed) : NL P ops Q n env B w0 os fu listed := fun a w hF ⟨rs, h1, h2⟩ => by
 obtain ⟨x, rs', p, h3⟩ := hi rs h1
 exact h x a w hF ⟨rs', h3, C7 h2 p⟩
theorem Cf.mid (os' : List Ass) (hp : os.Perm os') (h : Cf P ops Q n env B w0 os' l) : Cf P ops Q n env B w0 os l := fun a w hF hH => h a w hF (hH.perm hp)
theorem BB.mid (os' : List Ass) (hp : os.Perm os') (h : BB P Q n env B w0 os' c) : BB P Q n env B w0 os c := fun a w hF hH => h a w hF (hH.perm hp)
theorem CT.mid (os' : List Ass) (hp : os.Perm os') (h : CT Q n env B w0 os' e) : CT Q n env B w0 os e := fun a w hF hH => h a w hF (hH.perm hp)
theorem NL.mid (os' : List Ass) (hp : os.Perm os') (h : NL P ops Q n env B w0 os' fu listed) : NL P ops Q n env B w0 os fu listed := fun a w hF hH => h a w hF (hH.perm hp)
theorem Tn {i : Nat} {o : Ass} (hi : os[i]? = some o) : os.Perm (o :: D0 [i] os) := by
 have := (Dj (ids := [i]) (os := os) (by simp)).symm
 unfold EB at this
 rw [List.filterMap_cons_some hi] at this
 exact this
theorem Ga {p : Prop} {o : Ass} (i : Nat) (hi : os[i]? = some o) (hp : ∀ rs, o rs → p) {w : World} (h : Hp B w0 w os) : p := by
 obtain ⟨x, hx, _⟩ := h.thing i hi
 exact hp x hx
theorem Cf.fact {p : Prop} {o : Ass} (i : Nat) (hi : os[i]? = some o) (hp : ∀ rs, o rs → p) (h : p → Cf P ops Q n env B w0 os l) : Cf P ops Q n env B w0 os l := fun a w hF hH => h (Ga i hi hp hH) a w hF hH
theorem BB.fact {p : Prop} {o : Ass} (i : Nat) (hi : os[i]? = some o) (hp : ∀ rs, o rs → p) (h : p → BB P Q n env B w0 os c) : BB P Q n env B w0 os c := fun a w hF hH => h (Ga i hi hp hH) a w hF hH
theorem CT.fact {p : Prop} {o : Ass} (i : Nat) (hi : os[i]? = some o) (hp : ∀ rs, o rs → p) (h : p → CT Q n env B w0 os e) : CT Q n env B w0 os e := fun a w hF hH => h (Ga i hi hp hH) a w hF hH
theorem MY {α : Type} {A : α → List Ass} {i : Nat} {o : Ass} (hi : os[i]? = some o) (ho : ∀ rs, o rs → ∃ x, Al (A x) rs) : ∀ rs, Al os rs → ∃ x, ∃ rs', rs.Perm rs' ∧ Al (A x ++ D0 [i] os) rs' := fun rs h => by
 obtain ⟨rs1, p, a, b, e, h1, h2⟩ := h.perm (Tn hi)
 obtain ⟨x, h3⟩ := ho a h1
 exact ⟨x, rs1, p, e ▸ h3.app h2⟩
theorem Be {α : Type} {A : α → List Ass} {t : Ass} {os' : α → List Ass} (i : Nat) (hi : os[i]? = some t) (ho : ∀ rs, t rs → ∃ x, Al (A x) rs) (he : ∀ x, A x ++ D0 [i] os = os' x) (h : ∀ x, BB P Q n env B w0 (os' x) c) : BB P Q n env B w0 os c := BB.via _ (MY hi ho) fun x => he x ▸ h x
theorem KT {t : Ass} (ids : List Nat) (hn : Dr ids = true) (ht : ∀ rs, Al (EB ids os) rs → t rs) : ∀ rs, Al os rs → ∃ _ : Unit, ∃ rs', rs.Perm rs' ∧ Al (t :: D0 ids os) rs' := fun rs h => by
 obtain ⟨rs1, p, h1⟩ := h.perm (Dj (os := os) (B5 hn)).symm
 obtain ⟨a, b, e, h2, h3⟩ := h1.split
 exact ⟨(), rs1, p, a, b, e, ht a h2, h3⟩
theorem Vo {t : Ass} {os' : List Ass} (ids : List Nat) (hn : Dr ids = true) (ht : ∀ rs, Al (EB ids os) rs → t rs) (he : t :: D0 ids os = os') (h : Cf P ops Q n env B w0 os' l) : Cf P ops Q n env B w0 os l := Cf.via (fun _ : Unit => _) (KT ids hn ht) fun _ => he ▸ h
theorem Bi {t : Ass} {os' : List Ass} (ids : List Nat) (hn : Dr ids = true) (ht : ∀ rs, Al (EB ids os) rs → t rs) (he : t :: D0 ids os = os') (h : BB P Q n env B w0 os' c) : BB P Q n env B w0 os c := BB.via (fun _ : Unit => _) (KT ids hn ht) fun _ => he ▸ h
theorem QN {t : Ass} {os' : List Ass} (ids : List Nat) (hn : Dr ids = true) (ht : ∀ rs, Al (EB ids os) rs → t rs) (he : t :: D0 ids os = os') (h : CT Q n env B w0 os' e) : CT Q n env B w0 os e := CT.via (fun _ : Unit => _) (KT ids hn ht) fun _ => he ▸ h
theorem DW (k : Nat) {os' : List Ass} (he : List.replicate k DN ++ os = os') (h : BB P Q n env B w0 os' c) : BB P Q n env B w0 os c := BB.via (fun _ : Unit => os') (fun rs hp => ⟨(), rs, .refl _, he ▸ (Al.app (EO.2 rfl) hp : Al _ ([] ++ rs))⟩) fun _ => h
theorem BB.leave {os' : List Ass} (ids : List Nat) (hn : Dr ids = true) (he : D0 ids os = os') (h : BB P Q n env B w0 os' c) : BB P Q n env B w0 os c := fun a w hF hH => h a w hF (by
 have := (hH.perm (Dj (os := os) (B5 hn)).symm).drop (EB ids os).length
 rw [List.drop_left] at this
 exact he ▸ this)
theorem Cf.leave {os' : List Ass} (ids : List Nat) (hn : Dr ids = true) (he : D0 ids os = os') (h : Cf P ops Q n env B w0 os' l) : Cf P ops Q n env B w0 os l := fun a w hF hH => h a w hF (by
 have := (hH.perm (Dj (os := os) (B5 hn)).symm).drop (EB ids os).length
 rw [List.drop_left] at this
 exact he ▸ this)
theorem CT.leave {os' : List Ass} (ids : List Nat) (hn : Dr ids = true) (he : D0 ids os = os') (h : CT Q n env B w0 os' e) : CT Q n env B w0 os e := fun a w hF hH => h a w hF (by
 have := (hH.perm (Dj (os := os) (B5 hn)).symm).drop (EB ids os).length
 rw [List.drop_left] at this
 exact he ▸ this)
def Co (r : Option Value) (f : Value → Ass) (d : Ass) : Ass := match r with | some v => f v | none => d
end does
section entry
variable {P : Program} {fn : Func}
theorem Bg {X : Type} {f : FuncId} {c : Code} {args : List Value} {pre : List Ass} {val : X → Value} {post : X → List Ass} (n : Nat) (hf : P.funcs[f]? = some fn) (hb : fn.body = some c) (hn : fn.ntmps = n) (hs : Nat.ble args.length n = true)
  (h : ∀ (w : World) (rs : List RowT), BB P (bodyPost P fn fun e w' => ∃ x, e = .returned (val x) ∧ ∃ rs', Al (post x) rs' ∧ Chg w w' rs rs') n (F4 0 args) (Cs rs) w pre c) : AX P f args.toArray pre val post :=
 fun w rs h1 h2 h3 => GZ n hf hb hn (Nat.le_of_ble_eq_true hs) fun a hF => h w rs a w hF (Hp.given h1 h2 h3)
theorem AH {X : Type} {w0 w' : World} {rs : List RowT} {os : List Ass} {val : X → Value} {post : X → List Ass} (x : X) {v : Value} (hv : v = val x) (ids : List Nat) (hn : Dr ids = true) (h : Hp (Cs rs) w0 w' os) (hp : ∀ y, Al (EB ids os) y → ∃ z, y.Perm z ∧ Al (post x) z) : ∃ x, Ending.returned v = .returned (val x) ∧ ∃ rs', Al (post x) rs' ∧ Chg w0 w' rs rs' := by
 obtain ⟨y, h1, h2⟩ := h.tell ids (B5 hn)
 obtain ⟨z, p, h3⟩ := hp y h1
 exact ⟨x, by rw [hv], z, h3, JB h2 p⟩
theorem AX.frame {X : Type} {F : FuncId} {args : Array Value} {pre more : List Ass} {val : X → Value} {post : X → List Ass} (h : AX P F args pre val post) : AX P F args (pre ++ more) val (fun x => post x ++ more) := fun w rs h1 h2 h3 => by
 obtain ⟨a, b, e, ha, hb⟩ := h1.split
 subst e
 have hd := Bq.1 h3
 rw [List.map_append] at hd
 have hh : Mem.Hp (Cs (a ++ b)) w w (a ++ b) := Mem.Hp.given h2 h3
 refine (h w a ha (AT.2 fun z hz => h2.mem z (by simp [hz])) (Bq.2 (List.nodup_append.1 hd).1)).mono ?_
 rintro e w' ⟨x, he, y, hy, hc⟩
 have := FF hh hc
 exact ⟨x, he, y ++ b, hy.app hb, this.up, this.rows, this.apart, fun z hz hlt => this.own z hz hlt⟩
theorem AX.imp {X : Type} {F : FuncId} {args : Array Value} {pre pre' : List Ass} {val : X → Value} {post : X → List Ass} (h : AX P F args pre val post) (hi : ∀ rs, Al pre' rs → ∃ rs', rs.Perm rs' ∧ Al pre rs') : AX P F args pre' val post := fun w rs h1 h2 h3 => by
 obtain ⟨rs', p, h4⟩ := hi rs h1
 refine (h w rs' h4 (AT.2 fun z hz => h2.mem z (p.mem_iff.2 hz)) (Bq.2 ((p.map _).nodup_iff.1 (Bq.1 h3)))).mono ?_
 rintro e w' ⟨x, he, y, hy, hc⟩
 exact ⟨x, he, y, hy, NO hc p.symm⟩
theorem CK {os : List Ass} : ∀ y, Al os y → ∃ z, y.Perm z ∧ Al os z := fun y h => ⟨y, .refl _, h⟩
end entry
end Go.Proofs.YtjcfimmcogkopaaGreat.Sep
