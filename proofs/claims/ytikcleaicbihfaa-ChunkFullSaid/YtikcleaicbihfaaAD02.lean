/-
  Sep
-/
import Derived.Test.YtikcleaicbihfaaAD01
set_option linter.unusedSimpArgs false
set_option linter.unusedVariables false

namespace Go.Proofs.Ytikcleaicbihfaa.Sep
open Go.RowKit
open Go.Proofs.Ytikcleaicbihfaa.Mem (Dist Blk Chg sel rst rstFrom below0)

/-- a thing: which rows it may be made of -/
abbrev Ass := List RowT → Prop
def cell (g : Nat) (t : TypeId) (cs : Array Value) : Ass := fun rs => rs = [(g, tyR t, cs)]
def ex {α : Type} (A : α → Ass) : Ass := fun rs => ∃ x, A x rs
def Parts : List Ass → List RowT → Prop
  | [], rs => rs = []
  | o :: os, rs => ∃ a b, rs = a ++ b ∧ o a ∧ Parts os b
def star (l : List Ass) : Ass := Parts l

section parts
variable {os os' : List Ass} {rs : List RowT}
theorem Parts.app : ∀ {os os' : List Ass} {a b : List RowT}, Parts os a → Parts os' b → Parts (os ++ os') (a ++ b)
  | [], _, a, b, h, h' => by unfold Parts at h; subst h; exact h'
  | o :: os, os', a, b, h, h' => by
    obtain ⟨x, y, e, h1, h2⟩ := h
    exact ⟨x, y ++ b, by rw [e, List.append_assoc], h1, h2.app h'⟩
theorem Parts.split : ∀ {os os' : List Ass} {rs : List RowT}, Parts (os ++ os') rs → ∃ a b, rs = a ++ b ∧ Parts os a ∧ Parts os' b
  | [], _, rs, h => ⟨[], rs, rfl, rfl, h⟩
  | o :: os, os', rs, h => by
    obtain ⟨x, y, e, h1, h2⟩ := h
    obtain ⟨a, b, e', h3, h4⟩ := Parts.split h2
    exact ⟨x ++ a, b, by rw [e, e', List.append_assoc], ⟨x, a, rfl, h1, h3⟩, h4⟩
theorem Parts.perm {os os' : List Ass} (hp : os.Perm os') : ∀ {rs : List RowT}, Parts os rs → ∃ rs', rs.Perm rs' ∧ Parts os' rs' := by
  induction hp with
  | nil => exact fun {rs} h => ⟨rs, .refl _, h⟩
  | cons o _ ih =>
    rintro rs ⟨a, b, e, h1, h2⟩
    obtain ⟨b', hp, h3⟩ := ih h2
    exact ⟨a ++ b', e ▸ hp.append_left a, a, b', rfl, h1, h3⟩
  | swap o o' l =>
    rintro rs ⟨a, b, e, h1, c, d, e', h2, h3⟩
    refine ⟨c ++ (a ++ d), ?_, c, a ++ d, rfl, h2, a, d, rfl, h1, h3⟩
    rw [e, e', ← List.append_assoc, ← List.append_assoc]
    exact List.perm_append_comm.append_right d
  | trans _ _ ih1 ih2 =>
    intro rs h
    obtain ⟨r1, p1, h1⟩ := ih1 h
    obtain ⟨r2, p2, h2⟩ := ih2 h1
    exact ⟨r2, p1.trans p2, h2⟩
theorem Parts.one {o : Ass} {rs : List RowT} (h : o rs) : Parts [o] rs := ⟨rs, [], by simp, h, rfl⟩
theorem Parts.one' {o : Ass} {rs : List RowT} (h : Parts [o] rs) : o rs := by
  obtain ⟨a, b, e, h1, h2⟩ := h
  unfold Parts at h2
  subst h2
  rw [List.append_nil] at e
  exact e ▸ h1
/-- each thing turned into another of the same rows -/
def Imps : List Ass → List Ass → Prop
  | [], [] => True
  | o :: os, o' :: os' => (∀ rs, o rs → o' rs) ∧ Imps os os'
  | _, _ => False
theorem Parts.imp : ∀ {os os' : List Ass} {rs : List RowT}, Imps os os' → Parts os rs → Parts os' rs
  | [], [], _, _, h => h
  | o :: os, o' :: os', _, hi, ⟨a, b, e, h1, h2⟩ => ⟨a, b, e, hi.1 a h1, h2.imp hi.2⟩
  | [], _ :: _, _, hi, _ => hi.elim
  | _ :: _, [], _, hi, _ => hi.elim
end parts

/-! ## Some of the things, and the others -/
def selA (ids : List Nat) (os : List Ass) : List Ass := ids.filterMap (os[·]?)
def rstFromA (ids : List Nat) : Nat → List Ass → List Ass
  | _, [] => []
  | k, x :: r => match ids.elem k with | true => rstFromA ids (k + 1) r | false => x :: rstFromA ids (k + 1) r
def rstA (ids : List Nat) (os : List Ass) : List Ass := rstFromA ids 0 os
theorem rA_t {ids : List Nat} {k : Nat} {x : Ass} {r : List Ass} (h : ids.elem k = true) : rstFromA ids k (x :: r) = rstFromA ids (k + 1) r := by
  conv => lhs; unfold rstFromA
  rw [h]
theorem rA_f {ids : List Nat} {k : Nat} {x : Ass} {r : List Ass} (h : ids.elem k = false) : rstFromA ids k (x :: r) = x :: rstFromA ids (k + 1) r := by
  conv => lhs; unfold rstFromA
  rw [h]
theorem elem_ne {ids : List Nat} {i k : Nat} (h : k ≠ i) : (i :: ids).elem k = ids.elem k := by
  have : (k == i) = false := by simpa using h
  show (match k == i with | true => true | false => ids.elem k) = _
  rw [this]
theorem elem_eq {ids : List Nat} {k : Nat} : (k :: ids).elem k = true := by
  show (match k == k with | true => true | false => ids.elem k) = _
  simp
theorem rstFromA_nil : ∀ (k : Nat) (os : List Ass), rstFromA [] k os = os
  | _, [] => rfl
  | k, x :: r => by rw [rA_f rfl, rstFromA_nil (k + 1) r]
theorem rstFromA_off {i : Nat} {ids : List Nat} : ∀ {k : Nat} {os : List Ass}, i < k → rstFromA (i :: ids) k os = rstFromA ids k os
  | _, [], _ => rfl
  | k, x :: r, h => by
    have e : (i :: ids).elem k = ids.elem k := elem_ne (by omega)
    cases hk : ids.elem k with
    | true => rw [rA_t (e.trans hk), rA_t hk, rstFromA_off (by omega)]
    | false => rw [rA_f (e.trans hk), rA_f hk, rstFromA_off (by omega)]
theorem rstFromA_take {ids : List Nat} : ∀ {os : List Ass} {o : Ass} {k i : Nat}, k + i ∉ ids → os[i]? = some o → (rstFromA ids k os).Perm (o :: rstFromA ((k + i) :: ids) k os)
  | [], o, k, i, _, h => by simp at h
  | x :: r, o, k, 0, hm, h => by
    simp only [List.getElem?_cons_zero, Option.some.injEq] at h
    subst h
    have h1 : ids.elem k = false := by
      cases hk : ids.elem k with
      | false => rfl
      | true => exact absurd (List.elem_iff.1 hk) hm
    rw [rA_f h1]
    show List.Perm _ (x :: rstFromA (k :: ids) k (x :: r))
    rw [rA_t elem_eq, rstFromA_off (by omega)]
  | x :: r, o, k, i + 1, hm, h => by
    simp only [List.getElem?_cons_succ] at h
    have := rstFromA_take (k := k + 1) (by rwa [show k + 1 + i = k + (i + 1) by omega]) h
    rw [show k + 1 + i = k + (i + 1) by omega] at this
    have e : ((k + (i + 1)) :: ids).elem k = ids.elem k := elem_ne (by omega)
    cases hk : ids.elem k with
    | true => rw [rA_t hk, rA_t (e.trans hk)]; exact this
    | false => rw [rA_f hk, rA_f (e.trans hk)]; exact (this.cons x).trans (.swap o x _)
theorem rstFromA_none {ids : List Nat} : ∀ {os : List Ass} {k i : Nat}, os[i]? = none → rstFromA ((k + i) :: ids) k os = rstFromA ids k os
  | [], _, _, _ => rfl
  | x :: r, k, 0, h => by simp at h
  | x :: r, k, i + 1, h => by
    simp only [List.getElem?_cons_succ] at h
    have := rstFromA_none (ids := ids) (k := k + 1) h
    rw [show k + 1 + i = k + (i + 1) by omega] at this
    have e : ((k + (i + 1)) :: ids).elem k = ids.elem k := elem_ne (by omega)
    cases hk : ids.elem k with
    | true => rw [rA_t hk, rA_t (e.trans hk)]; exact this
    | false => rw [rA_f hk, rA_f (e.trans hk), this]
theorem perm_sel : ∀ {ids : List Nat} {os : List Ass}, ids.Nodup → (selA ids os ++ rstA ids os).Perm os := by
  intro ids os
  induction ids with
  | nil => intro _; unfold rstA; rw [rstFromA_nil]; exact .refl _
  | cons i ids ih =>
    intro hn
    obtain ⟨h1, h2⟩ := List.nodup_cons.1 hn
    refine .trans ?_ (ih h2)
    cases hi : os[i]? with
    | none =>
      have e : rstA (i :: ids) os = rstA ids os := by
        have := rstFromA_none (ids := ids) (k := 0) hi
        rwa [Nat.zero_add] at this
      rw [e]
      show (List.filterMap _ (i :: ids) ++ _).Perm _
      rw [List.filterMap_cons_none hi]
      exact .refl _
    | some o =>
      have h := rstFromA_take (k := 0) (by rwa [Nat.zero_add]) hi
      rw [Nat.zero_add] at h
      show (List.filterMap _ (i :: ids) ++ _).Perm _
      rw [List.filterMap_cons_some hi]
      have e : (selA ids os ++ o :: rstA (i :: ids) os).Perm (selA ids os ++ rstA ids os) := List.Perm.append_left _ h.symm
      refine .trans ?_ e
      exact List.perm_middle.symm

/-! ## What is known of a world -/
theorem dist_iff : ∀ {rs : List RowT}, Dist rs ↔ (rs.map (·.1)).Nodup
  | [] => by simp [Dist]
  | x :: r => by
    unfold Dist
    rw [List.map_cons, List.nodup_cons, dist_iff (rs := r)]
    refine and_congr ⟨fun h hm => ?_, fun h y hy e => h ?_⟩ Iff.rfl
    · obtain ⟨y, hy, e⟩ := List.mem_map.1 hm
      exact h y hy e
    · exact List.mem_map.2 ⟨y, hy, e⟩
theorem rows_iff {w : World} {rs : List RowT} : RowsOf w rs ↔ ∀ x ∈ rs, RowX w x := ⟨fun h => h.mem, fun h => Mem.RowsOf.ofAll h⟩
section known
variable {B : Nat → Prop} {w0 w w' : World} {rs rs' a b c : List RowT}
theorem hp_perm (h : Mem.Hp B w0 w rs) (hp : rs.Perm rs') : Mem.Hp B w0 w rs' :=
  ⟨h.up, rows_iff.2 fun x hx => h.rows.mem x (hp.mem_iff.2 hx), dist_iff.2 ((hp.map _).nodup_iff.1 (dist_iff.1 h.apart)), fun x hx => h.own x (hp.mem_iff.2 hx)⟩
theorem chg_perm {w' : World} (h : Chg w w' a b) (hp : a.Perm c) : Chg w w' c b := ⟨h.mod.weaken fun j _ ⟨x, hx, e⟩ => ⟨x, hp.mem_iff.1 hx, e⟩, h.rows, h.dist, fun x hx hlt => by obtain ⟨y, hy, e⟩ := h.from_ x hx hlt; exact ⟨y, hp.mem_iff.1 hy, e⟩⟩
theorem chg_perm' {w' : World} (h : Chg w w' a b) (hp : b.Perm c) : Chg w w' a c := ⟨h.mod, rows_iff.2 fun x hx => h.rows.mem x (hp.mem_iff.2 hx), dist_iff.2 ((hp.map _).nodup_iff.1 (dist_iff.1 h.dist)), fun x hx => h.from_ x (hp.mem_iff.2 hx)⟩
theorem hp_chg (h : Mem.Hp B w0 w (a ++ b)) (hc : Chg w w' a c) : Mem.Hp B w0 w' (c ++ b) := by
  have hd := dist_iff.1 h.apart
  rw [List.map_append] at hd
  have hne : ∀ x ∈ a, ∀ y ∈ b, y.1 ≠ x.1 := fun x hx y hy e => (List.nodup_append.1 hd).2.2 x.1 (List.mem_map.2 ⟨x, hx, rfl⟩) y.1 (List.mem_map.2 ⟨y, hy, rfl⟩) e.symm
  have hnb : ∀ y ∈ b, ¬ Blk a y.1 := fun y hy ⟨x, hx, e⟩ => hne x hx y hy e.symm
  have hold : ∀ y ∈ b, RowX w y := fun y hy => h.rows.mem y (by simp [hy])
  refine ⟨h.up.trans hc.mod (fun j hj ⟨x, hx, e⟩ => e ▸ h.own x (by simp [hx]) (e ▸ hj)), ?_, ?_, ?_⟩
  · refine rows_iff.2 fun x hx => ?_
    rcases List.mem_append.1 hx with hx | hx
    · exact hc.rows.mem x hx
    · exact (hold x hx).mod hc.mod (hnb x hx)
  · refine Mem.dist_app hc.dist (dist_iff.2 (List.nodup_append.1 hd).2.1) fun x hx y hy e => ?_
    have hlt := (hold y hy).lt
    rw [e] at hlt
    exact hnb y hy (e ▸ hc.from_ x hx hlt)
  · intro x hx hlt
    rcases List.mem_append.1 hx with hx | hx
    · have := h.up.size
      obtain ⟨y, hy, e⟩ := hc.from_ x hx (by omega)
      exact e ▸ h.own y (by simp [hy]) (e ▸ hlt)
    · exact h.own x (by simp [hx]) hlt
end known
/-- of the world the things os are known, and that of what stood at w0 only blocks of B may have changed -/
def Hp (B : Nat → Prop) (w0 w : World) (os : List Ass) : Prop := ∃ rs, Parts os rs ∧ Mem.Hp B w0 w rs
section hp
variable {B : Nat → Prop} {w0 w w' : World} {os os' : List Ass} {rs : List RowT}
theorem Hp.up (h : Hp B w0 w os) : Mod B w0 w := by obtain ⟨_, _, h⟩ := h; exact h.up
theorem Hp.perm (h : Hp B w0 w os) (hp : os.Perm os') : Hp B w0 w os' := by
  obtain ⟨rs, h1, h2⟩ := h
  obtain ⟨rs', p, h3⟩ := h1.perm hp
  exact ⟨rs', h3, hp_perm h2 p⟩
theorem Hp.start (w : World) : Hp Nil w w [] := ⟨[], rfl, Mem.Hp.start w⟩
theorem Hp.given (h1 : Parts os rs) (h2 : RowsOf w rs) (h3 : Dist rs) : Hp (Blk rs) w w os := ⟨rs, h1, Mem.Hp.given h2 h3⟩
theorem Hp.call (h : Hp B w0 w os) (hb : Below w.heap.size w w') : Hp B w0 w' os := by obtain ⟨rs, h1, h2⟩ := h; exact ⟨rs, h1, h2.call hb⟩
theorem Hp.drew (h : Hp B w0 w os) : Hp B w0 w.drew os := by obtain ⟨rs, h1, h2⟩ := h; exact ⟨rs, h1, h2.drew⟩
theorem Hp.new (h : Hp B w0 w os) (t : TypeId) (cs : Array Value) : Hp B w0 (w.alloc (.cells cs t)) (cell w.heap.size t cs :: os) := by
  obtain ⟨rs, h1, h2⟩ := h
  exact ⟨(w.heap.size, tyR t, cs) :: rs, ⟨[(w.heap.size, tyR t, cs)], rs, rfl, rfl, h1⟩, h2.new t cs⟩
/-- number i, and the others -/
theorem Parts.at_ : ∀ {os : List Ass} {rs : List RowT} {i : Nat} {o : Ass}, Parts os rs → os[i]? = some o → ∃ a x b, rs = a ++ (x ++ b) ∧ o x ∧ ∀ (o' : Ass) (y : List RowT), o' y → Parts (os.set i o') (a ++ (y ++ b))
  | [], _, i, o, _, hi => by simp at hi
  | p :: os, rs, 0, o, ⟨a, b, e, h1, h2⟩, hi => by
    simp only [List.getElem?_cons_zero, Option.some.injEq] at hi
    subst hi
    exact ⟨[], a, b, by simpa using e, h1, fun o' y h => ⟨y, b, rfl, h, h2⟩⟩
  | p :: os, rs, i + 1, o, ⟨a, b, e, h1, h2⟩, hi => by
    simp only [List.getElem?_cons_succ] at hi
    obtain ⟨a', x, b', e', h3, h4⟩ := Parts.at_ h2 hi
    exact ⟨a ++ a', x, b', by rw [e, e', List.append_assoc], h3, fun o' y h => ⟨a, a' ++ (y ++ b'), by rw [List.append_assoc], h1, h4 o' y h⟩⟩
theorem Hp.thing (h : Hp B w0 w os) (i : Nat) {o : Ass} (hi : os[i]? = some o) : ∃ x, o x ∧ RowsOf w x := by
  obtain ⟨rs, h1, h2⟩ := h
  obtain ⟨a, x, b, e, h3, _⟩ := h1.at_ hi
  refine ⟨x, h3, rows_iff.2 fun y hy => h2.rows.mem y ?_⟩
  rw [e]; simp [hy]
theorem Hp.row (h : Hp B w0 w os) (i : Nat) {g : Nat} {t : TypeId} {cs : Array Value} (hi : os[i]? = some (cell g t cs)) : Row w g t cs := by
  obtain ⟨x, hx, hr⟩ := h.thing i hi
  unfold cell at hx
  subst hx
  exact hr.1
/-- number i turned into another thing -/
theorem Hp.turn (h : Hp B w0 w os) (i : Nat) {o o' : Ass} (hi : os[i]? = some o) (hc : ∀ x, o x → RowsOf w x → Dist x → ∃ y, o' y ∧ Chg w w' x y) : Hp B w0 w' (os.set i o') := by
  obtain ⟨rs, h1, h2⟩ := h
  obtain ⟨a, x, b, e, h3, h4⟩ := h1.at_ hi
  subst e
  have p : (a ++ (x ++ b)).Perm (x ++ (a ++ b)) := by rw [← List.append_assoc, ← List.append_assoc]; exact List.perm_append_comm.append_right b
  have h5 := hp_perm h2 p
  have hd := dist_iff.1 h5.apart
  rw [List.map_append] at hd
  obtain ⟨y, hy, hch⟩ := hc x h3 (rows_iff.2 fun z hz => h5.rows.mem z (by simp [hz])) (dist_iff.2 (List.nodup_append.1 hd).1)
  have p' : (y ++ (a ++ b)).Perm (a ++ (y ++ b)) := by rw [← List.append_assoc, ← List.append_assoc]; exact List.perm_append_comm.append_right b
  exact ⟨_, h4 o' y hy, hp_perm (hp_chg h5 hch) p'⟩
theorem Hp.set (h : Hp B w0 w os) (i : Nat) {g : Nat} {t : TypeId} {cs c : Array Value} (hi : os[i]? = some (cell g t cs)) (hm : Mod (One g) w w') (hR : Row w' g t c) : Hp B w0 w' (os.set i (cell g t c)) :=
  h.turn i hi fun x hx _ _ => ⟨[(g, t, c)], rfl, by
    unfold cell at hx
    subst hx
    refine ⟨hm.weaken fun j _ e => ⟨(g, tyR t, cs), by simp, e.symm⟩, ⟨hR, trivial⟩, ⟨(fun _ h => by cases h), trivial⟩, fun x hx _ => ?_⟩
    have : x = (g, tyR t, c) := by simpa using hx
    subst this
    exact ⟨(g, tyR t, cs), by simp, rfl⟩⟩
theorem Hp.drop (h : Hp B w0 w os) (k : Nat) : Hp B w0 w (os.drop k) := by
  obtain ⟨rs, h1, h2⟩ := h
  rw [← List.take_append_drop k os] at h1
  obtain ⟨a, b, e, _, h3⟩ := h1.split
  subst e
  have hd := dist_iff.1 h2.apart
  rw [List.map_append] at hd
  exact ⟨b, h3, h2.up, rows_iff.2 fun x hx => h2.rows.mem x (by simp [hx]), dist_iff.2 (List.nodup_append.1 hd).2.1, fun x hx => h2.own x (by simp [hx])⟩
/-- a call that is given the things ids -/
theorem Hp.chg (h : Hp B w0 w os) (ids : List Nat) (hn : ids.Nodup) {post : List Ass} (hc : ∀ x, Parts (selA ids os) x → RowsOf w x → Dist x → ∃ y, Parts post y ∧ Chg w w' x y) : Hp B w0 w' (post ++ rstA ids os) := by
  obtain ⟨rs, h1, h2⟩ := h.perm (perm_sel (os := os) hn).symm
  obtain ⟨a, b, e, h3, h4⟩ := h1.split
  subst e
  have hd := dist_iff.1 h2.apart
  rw [List.map_append] at hd
  obtain ⟨y, hy, hch⟩ := hc a h3 (rows_iff.2 fun z hz => h2.rows.mem z (by simp [hz])) (dist_iff.2 (List.nodup_append.1 hd).1)
  exact ⟨y ++ b, hy.app h4, hp_chg h2 hch⟩
/-- what the things ids are made of, to be handed to a call -/
theorem Hp.give (h : Hp B w0 w os) (ids : List Nat) (hn : ids.Nodup) : ∃ x, Parts (selA ids os) x ∧ RowsOf w x ∧ Dist x ∧ ∀ (post : List Ass) (y : List RowT) (w' : World), Parts post y → Chg w w' x y → Hp B w0 w' (post ++ rstA ids os) := by
  obtain ⟨rs, h1, h2⟩ := h.perm (perm_sel (os := os) hn).symm
  obtain ⟨a, b, e, h3, h4⟩ := h1.split
  subst e
  have hd := dist_iff.1 h2.apart
  rw [List.map_append] at hd
  exact ⟨a, h3, rows_iff.2 fun z hz => h2.rows.mem z (by simp [hz]), dist_iff.2 (List.nodup_append.1 hd).1, fun post y w' hy hch => ⟨y ++ b, hy.app h4, hp_chg h2 hch⟩⟩
/-- what a function that was given the rows rs tells at its end -/
theorem Hp.tell (h : Hp (Blk rs) w0 w os) (ids : List Nat) (hn : ids.Nodup) : ∃ y, Parts (selA ids os) y ∧ Chg w0 w rs y := by
  obtain ⟨rs', h1, h2⟩ := h.perm (perm_sel (os := os) hn).symm
  obtain ⟨a, b, e, h3, h4⟩ := h1.split
  subst e
  have hd := dist_iff.1 h2.apart
  rw [List.map_append] at hd
  exact ⟨a, h3, h2.up, rows_iff.2 fun z hz => h2.rows.mem z (by simp [hz]), dist_iff.2 (List.nodup_append.1 hd).1, fun x hx => h2.own x (by simp [hx])⟩
theorem Hp.imp (h : Hp B w0 w os) (hi : ∀ rs, Parts os rs → ∃ rs', rs.Perm rs' ∧ Parts os' rs') : Hp B w0 w os' := by
  obtain ⟨rs, h1, h2⟩ := h
  obtain ⟨rs', p, h3⟩ := hi rs h1
  exact ⟨rs', h3, hp_perm h2 p⟩
end hp
/-- what a call does: the things that it is given become others -/
def Does {X : Type} (P : Program) (F : FuncId) (args : Array Value) (pre : List Ass) (val : X → Value) (post : X → List Ass) : Prop :=
  ∀ w rs, Parts pre rs → RowsOf w rs → Dist rs → Calls P F args w fun e w' => ∃ x, e = .returned (val x) ∧ ∃ rs', Parts (post x) rs' ∧ Chg w w' rs rs'

inductive Res2 (P : Program) (env : List (Nat × Value)) (rs : List Ass) : ResultVar → Value → Prop
  | tmp {t : Tmp} {v : Value} (h : look env t = some v) : Res2 P env rs (.tmp t) v
  | cell (i : Nat) {s : Tmp} {T : TypeId} {g off : Nat} {t : TypeId} {cs : Array Value} {v : Value} (hv : Reads P T cs off v) (h : look env s = some (.pointer (some ⟨g, off, none⟩))) (hi : rs[i]? = some (Sep.cell g t cs)) : Res2 P env rs (.cell s T) v

/-- from any frame that holds env and any world with the rows rs, the operations l -/
def WL2 (P : Program) (ops : Array Oper) (Q : Exit → Act → World → Prop) (n : Nat) (env : List (Nat × Value)) (B : Nat → Prop) (w0 : World) (rs : List Ass) (l : List Oper) : Prop := ∀ a w, Fr n a env → Hp B w0 w rs → wpList P ops Q l a w
def WC2 (P : Program) (Q : Exit → Act → World → Prop) (n : Nat) (env : List (Nat × Value)) (B : Nat → Prop) (w0 : World) (rs : List Ass) (c : Code) : Prop := ∀ a w, Fr n a env → Hp B w0 w rs → c.wp P Q a w
def WE2 (Q : Exit → Act → World → Prop) (n : Nat) (env : List (Nat × Value)) (B : Nat → Prop) (w0 : World) (rs : List Ass) (e : Exit) : Prop := ∀ a w, Fr n a env → Hp B w0 w rs → Q e a w

/-! ## What needs no memory, as much of it as stands in a row -/
section wl2
variable {P : Program} {ops : Array Oper} {Q : Exit → Act → World → Prop} {n : Nat} {B : Nat → Prop} {w0 : World} {rs rs' : List Ass} {env env' : List (Nat × Value)} {l rest : List Oper} {o : Oper} {d : Nat} {fl : List ((Nat × Nat) × Nat)}
theorem h_q (hfl : Flds P fl) : ∀ {l : List Oper} {env : List (Nat × Value)}, runQ fl ops n l env = some (env', rest) → WL2 P ops Q n env' B w0 rs rest → WL2 P ops Q n env B w0 rs l
  | [], env, h, hk => by
    simp only [runQ, Option.some.injEq, Prod.mk.injEq] at h
    obtain ⟨rfl, rfl⟩ := h
    exact hk
  | o :: r, env, h, hk => by
    unfold runQ at h
    cases hw : wants ops o env with
    | none =>
      simp only [hw, Option.some.injEq, Prod.mk.injEq] at h
      obtain ⟨rfl, rfl⟩ := h
      exact hk
    | some b =>
      cases b with
      | false =>
        simp only [hw] at h
        cases hd : o.dst with
        | none => simp [hd] at h
        | some d =>
          simp only [hd] at h
          cases hn : Nat.blt d n with
          | false => simp [hn] at h
          | true =>
            simp only [hn] at h
            exact fun a w hF hH => st_skip hF hw hd (blt_lt hn) fun b hb => h_q hfl h hk b w hb hH
      | true =>
        simp only [hw] at h
        cases hq : q1 fl o env with
        | none =>
          simp only [hq, Option.some.injEq, Prod.mk.injEq] at h
          obtain ⟨rfl, rfl⟩ := h
          exact hk
        | some v =>
          simp only [hq] at h
          cases hd : o.dst with
          | none => simp [hd] at h
          | some d =>
            simp only [hd] at h
            cases hn : Nat.blt d n with
            | false => simp [hn] at h
            | true =>
              simp only [hn] at h
              exact fun a w hF hH => st_q hF hw hd (blt_lt hn) v (fun b hb => exec_q1 hfl hq hb) fun b hb => h_q hfl h hk b w hb hH
theorem h_val (h1 : at1 ops n o env = some d) (v : Value) (hrun : ∀ b w, Fr n b env → Hp B w0 w rs → (execOp b.eval o).run P w = .ok (.value v) w) (h : WL2 P ops Q n ((d, v) :: env) B w0 rs rest) : WL2 P ops Q n env B w0 rs (o :: rest) :=
  fun a w hF hH => st_q hF (at1_parts h1).1 (at1_parts h1).2.1 (at1_parts h1).2.2 v (fun b hb => hrun b w hb hH) fun b hb => h b w hb hH
theorem h_nil (h : WE2 Q n env B w0 rs .normal) : WL2 P ops Q n env B w0 rs [] := h
theorem h_done {y : Code} (h : WC2 P Q n env B w0 rs y) : WL2 P ops (Exit.then (fun a w => y.wp P Q a w) Q) n env B w0 rs [] := h
theorem WL2.keep (hs : Sub env env') (h : WL2 P ops Q n env' B w0 rs l) : WL2 P ops Q n env B w0 rs l := fun a w hF hH => h a w (hF.keep hs) hH
theorem WC2.keep {c : Code} (hs : Sub env env') (h : WC2 P Q n env' B w0 rs c) : WC2 P Q n env B w0 rs c := fun a w hF hH => h a w (hF.keep hs) hH
theorem WE2.keep {e : Exit} (hs : Sub env env') (h : WE2 Q n env' B w0 rs e) : WE2 Q n env B w0 rs e := fun a w hF hH => h a w (hF.keep hs) hH
end wl2

section wc2
variable {P : Program} {Q : Exit → Act → World → Prop} {n : Nat} {B : Nat → Prop} {w0 : World} {rs : List Ass} {env : List (Nat × Value)}
theorem d_reg {id : Nat} {l : List Oper} {y : Code} (h : WL2 P l.toArray (Exit.then (fun a w => y.wp P Q a w) Q) n env B w0 rs l) : WC2 P Q n env B w0 rs (.seq (.region id l.toArray false) y) := fun a w hF hH => wp_seq (wp_region_lit (h a w hF hH))
theorem d_reg1 {id : Nat} {l : List Oper} (h : WL2 P l.toArray Q n env B w0 rs l) : WC2 P Q n env B w0 rs (.region id l.toArray false) := fun a w hF hH => wp_region_lit (h a w hF hH)
theorem d_seq {x y : Code} (h : WC2 P (Exit.then (fun a w => y.wp P Q a w) Q) n env B w0 rs x) : WC2 P Q n env B w0 rs (.seq x y) := fun a w hF hH => wp_seq (h a w hF hH)
theorem d_then {c : Operand} {x y : Code} (hc : evs env c = some (.bool true)) (h : WC2 P Q n env B w0 rs x) : WC2 P Q n env B w0 rs (.cond c x y) := fun a w hF hH => cd_then hF hc (h a w hF hH)
theorem d_else {c : Operand} {x y : Code} (hc : evs env c = some (.bool false)) (h : WC2 P Q n env B w0 rs y) : WC2 P Q n env B w0 rs (.cond c x y) := fun a w hF hH => cd_else hF hc (h a w hF hH)
theorem d_skip (h : WE2 Q n env B w0 rs .normal) : WC2 P Q n env B w0 rs .skip := fun a w hF hH => wp_skip (h a w hF hH)
theorem d_ret (h : WE2 Q n env B w0 rs .ret) : WC2 P Q n env B w0 rs .ret := fun a w hF hH => wp_ret (h a w hF hH)
theorem d_block {id : Nat} {c : Code} (h : WC2 P (Exit.inBlock id Q) n env B w0 rs c) : WC2 P Q n env B w0 rs (.block id c) := fun a w hF hH => wp_block (h a w hF hH)
theorem d_exit {id : Nat} (h : WE2 Q n env B w0 rs (.exit id)) : WC2 P Q n env B w0 rs (.exit id) := fun a w hF hH => wp_exit (h a w hF hH)
theorem f_to {y : Code} (h : WC2 P Q n env B w0 rs y) : WE2 (Exit.then (fun a w => y.wp P Q a w) Q) n env B w0 rs .normal := h
theorem f_block {id : Nat} (h : WE2 Q n env B w0 rs .normal) : WE2 (Exit.inBlock id Q) n env B w0 rs .normal := h
theorem f_then_ret {K : Act → World → Prop} (h : WE2 Q n env B w0 rs .ret) : WE2 (Exit.then K Q) n env B w0 rs .ret := h
theorem f_block_ret {id : Nat} (h : WE2 Q n env B w0 rs .ret) : WE2 (Exit.inBlock id Q) n env B w0 rs .ret := h
theorem f_then_exit {K : Act → World → Prop} {id : Nat} (h : WE2 Q n env B w0 rs (.exit id)) : WE2 (Exit.then K Q) n env B w0 rs (.exit id) := h
theorem f_block_exit {id : Nat} (h : WE2 Q n env B w0 rs .normal) : WE2 (Exit.inBlock id Q) n env B w0 rs (.exit id) := fun a w hF hH => (if_pos rfl).mpr (h a w hF hH)
variable {fn : Func} {R : Ending → World → Prop}
theorem Res2.res {r : ResultVar} {v : Value} {w : World} (h : Res2 P env rs r v) (hH : Hp B w0 w rs) : Res P env w r v := by
  cases h with
  | tmp h => exact .tmp h
  | cell i hv h hi => exact .cell h hv (hH.row i hi)
theorem res_of {r : ResultVar} {v : Value} {w : World} (h : Res2 P env rs r v) (hH : Hp B w0 w rs) : Res P env w r v := by
  cases h with
  | tmp h => exact .tmp h
  | cell i hv h hi => exact .cell h hv (hH.row i hi)
theorem f_fin1 {r1 : ResultVar} {v1 : Value} (h1 : Res2 P env rs r1 v1) (hR : ∀ w, Hp B w0 w rs → R (.returned v1) w) (hr : fn.results = #[r1]) : WE2 (bodyPost P fn R) n env B w0 rs .ret := fun _ w hF hH => fin1 hF hr (res_of h1 hH) (hR w hH)
theorem f_fin2 {r1 r2 : ResultVar} {v1 v2 : Value} (h1 : Res2 P env rs r1 v1) (h2 : Res2 P env rs r2 v2) (hR : ∀ w, Hp B w0 w rs → R (.returned (.tuple #[v1, v2])) w) (hr : fn.results = #[r1, r2]) : WE2 (bodyPost P fn R) n env B w0 rs .ret := fun _ w hF hH => fin2 hF hr (res_of h1 hH) (res_of h2 hH) (hR w hH)
theorem f_fin3 {r1 r2 r3 : ResultVar} {v1 v2 v3 : Value} (h1 : Res2 P env rs r1 v1) (h2 : Res2 P env rs r2 v2) (h3 : Res2 P env rs r3 v3) (hR : ∀ w, Hp B w0 w rs → R (.returned (.tuple #[v1, v2, v3])) w) (hr : fn.results = #[r1, r2, r3]) : WE2 (bodyPost P fn R) n env B w0 rs .ret := fun _ w hF hH => fin3 hF hr (res_of h1 hH) (res_of h2 hH) (res_of h3 hH) (hR w hH)
theorem f_fin0n (hR : ∀ w, Hp B w0 w rs → R (.returned (.tuple #[])) w) (hr : fn.results = #[]) : WE2 (bodyPost P fn R) n env B w0 rs .normal := fun _ w hF hH => fin0n hF hr (hR w hH)
theorem d_in {f : FuncId} {c : Code} {args : List Value} {w : World} (n : Nat) (hf : P.funcs[f]? = some fn) (hb : fn.body = some c) (hn : fn.ntmps = n) (hs : Nat.ble args.length n = true) (h : WC2 P (bodyPost P fn R) n (argEnv 0 args) Nil w [] c) : Calls P f args.toArray w R := calls_in n hf hb hn (Nat.le_of_ble_eq_true hs) fun a hF => h a w hF (Hp.start w)
end wc2

/-! ## A region that draws its order -/
section par2
variable {P : Program} {ops : Array Oper} {Q : Exit → Act → World → Prop} {n : Nat} {B : Nat → Prop} {w0 : World} {rs : List Ass} {env env0 : List (Nat × Value)} {jobs : List Job} {o : Oper} {deps : List Nat} {v : Value} {fl : List ((Nat × Nat) × Nat)} {kk : Nat}
def OB2 (P : Program) (ops : Array Oper) (Q : Exit → Act → World → Prop) (n : Nat) (jobs : List Job) (env0 : List (Nat × Value)) (B : Nat → Prop) (w0 : World) (rs : List Ass) (o : Oper) (j : Job) : Prop := ∀ w, Hp B w0 w rs → OB P ops Q n jobs env0 w o j
def AllOB2 (P : Program) (ops : Array Oper) (Q : Exit → Act → World → Prop) (n : Nat) (jobs : List Job) (env0 : List (Nat × Value)) (B : Nat → Prop) (w0 : World) (rs : List Ass) : List Oper → List Job → Prop
  | o :: os, j :: js => OB2 P ops Q n jobs env0 B w0 rs o j ∧ AllOB2 P ops Q n jobs env0 B w0 rs os js
  | _, _ => True
theorem AllOB2.all : ∀ {os : List Oper} {js : List Job}, AllOB2 P ops Q n jobs env0 B w0 rs os js → ∀ w, Hp B w0 w rs → AllOb P ops Q n w.heap.size jobs env0 (UpΦ w) os js
  | [], _, _, _, _ => by unfold AllOb; trivial
  | _ :: _, [], _, _, _ => by unfold AllOb; trivial
  | _ :: _, _ :: _, h, w, hH => ⟨h.1 w hH, AllOB2.all h.2 w hH⟩
end par2

/-! ## A small region, order by order -/
section orders2
variable {P : Program} {ops : Array Oper} {Q : Exit → Act → World → Prop} {n f i d : Nat} {B : Nat → Prop} {w0 : World} {rs : List Ass} {env env' : List (Nat × Value)} {listed : Array Bool} {o : Oper} {fl : List ((Nat × Nat) × Nat)}
def WA2 (P : Program) (ops : Array Oper) (Q : Exit → Act → World → Prop) (n : Nat) (env : List (Nat × Value)) (B : Nat → Prop) (w0 : World) (rs : List Ass) (f : Nat) (listed : Array Bool) : Prop := ∀ a w, Fr n a env → Hp B w0 w rs → wpAny P .any ops Q f listed a w
end orders2
section loops
variable {P : Program} {Q : Exit → Act → World → Prop} {n : Nat} {B : Nat → Prop} {w0 : World} {rs rs' : List Ass} {env env' : List (Nat × Value)} {c : Code} {α : Type}
theorem WC2.less (k : Nat) (h : WC2 P Q n env B w0 (rs.drop k) c) : WC2 P Q n env B w0 rs c := fun a w hF hH => h a w hF (hH.drop k)
theorem WC2.at_ (hs : Sub env env') (hr : rs = rs') (h : WC2 P Q n env' B w0 rs' c) : WC2 P Q n env B w0 rs c := fun a w hF hH => h a w (hF.keep hs) (hr ▸ hH)
def Again (n : Nat) (B : Nat → Prop) (w0 : World) (E : α → List (Nat × Value)) (R : α → List Ass) (Inv : α → Prop) (μ : α → Nat) (x : α) : Act → World → Prop := fun a w => ∃ y, Inv y ∧ μ y < μ x ∧ Fr n a (E y) ∧ Hp B w0 w (R y)
theorem d_loop (E : α → List (Nat × Value)) (R : α → List Ass) (Inv : α → Prop) (μ : α → Nat) (x : α) (hx : Inv x) (hE : Sub env (E x)) (hR : rs = R x) (h : ∀ x, Inv x → WC2 P (Exit.then (Again n B w0 E R Inv μ x) Q) n (E x) B w0 (R x) c) : WC2 P Q n env B w0 rs (.loop c) := by
  subst hR
  intro a w hF hH
  have key : ∀ m x, μ x < m → Inv x → ∀ a w, Fr n a (E x) → Hp B w0 w (R x) → Code.rounds P c Q m a w := by
    intro m
    induction m with
    | zero => intro x hx; omega
    | succ m ih =>
      intro x hm hx a w hF hH
      refine Code.wp_mono (fun e a' w' q => ?_) (h x hx a w hF hH)
      cases e with
      | normal =>
        obtain ⟨y, hy, hlt, hF', hH'⟩ := q
        exact ih y (by omega) hy a' w' hF' hH'
      | _ => exact q
  exact wp_loop_rounds _ (key _ x (Nat.lt_succ_self _) hx a w (hF.keep hE) hH)
theorem f_again {E : α → List (Nat × Value)} {R : α → List Ass} {Inv : α → Prop} {μ : α → Nat} {x : α} (y : α) (k : Nat) (hy : Inv y) (hμ : μ y < μ x) (hs : Sub env (E y)) (hr : rs.drop k = R y) : WE2 (Exit.then (Again n B w0 E R Inv μ x) Q) n env B w0 rs .normal := fun _ _ hF hH => ⟨y, hy, hμ, hF.keep hs, hr ▸ hH.drop k⟩
end loops
section orders3
variable {P : Program} {ops : Array Oper} {Q : Exit → Act → World → Prop} {n fu i d : Nat} {B : Nat → Prop} {w0 : World} {rs : List Ass} {env : List (Nat × Value)} {listed : Array Bool} {o : Oper}
end orders3
section textsBs
variable {P : Program} {ops : Array Oper} {Q : Exit → Act → World → Prop} {n d : Nat} {B : Nat → Prop} {w0 : World} {rs : List Ass} {env env0 : List (Nat × Value)} {rest : List Oper} {o : Oper} {a : Act} {w : World} {jobs : List Job} {deps : List Nat} {kk : Nat}
end textsBs
section textsBytes
variable {P : Program} {ops : Array Oper} {Q : Exit → Act → World → Prop} {n : Nat} {B : Nat → Prop} {w0 w : World} {rs : List Ass} {env : List (Nat × Value)} {rest : List Oper} {o : Oper} {d : Nat}
end textsBytes
section par3
variable {P : Program} {ops : Array Oper} {Q : Exit → Act → World → Prop} {n : Nat} {B : Nat → Prop} {w0 : World} {rs : List Ass} {env : List (Nat × Value)}
theorem WA2.keep {f : Nat} {env' : List (Nat × Value)} {listed : Array Bool} (hs : Sub env env') (h : WA2 P ops Q n env' B w0 rs f listed) : WA2 P ops Q n env B w0 rs f listed := fun a w hF hH => h a w (hF.keep hs) hH
end par3
section par4
variable {P : Program} {ops : Array Oper} {Q : Exit → Act → World → Prop} {n : Nat} {B : Nat → Prop} {w0 : World} {rs : List Ass} {env : List (Nat × Value)}
end par4
/-! ## Calls that are given things -/
section does
variable {P : Program} {ops : Array Oper} {Q : Exit → Act → World → Prop} {n d : Nat} {B : Nat → Prop} {w0 : World} {os : List Ass} {env : List (Nat × Value)} {rest l : List Oper} {o : Oper} {c : Code} {e : Exit} {fu : Nat} {ids : List Nat} {listed : Array Bool}
/-- nothing -/
def emp : Ass := fun rs => rs = []
def padTo : Nat → List Ass → List Ass
  | 0, _ => []
  | k + 1, [] => emp :: padTo k []
  | k + 1, x :: r => x :: padTo k r
def replA : List Nat → List Ass → List Ass → List Ass
  | i :: ids, x :: xs, os => replA ids xs (os.set i x)
  | _, _, os => os
def nodupB : List Nat → Bool
  | [] => true
  | i :: r => !r.elem i && nodupB r
theorem nodupB_iff : ∀ {l : List Nat}, nodupB l = true → l.Nodup
  | [], _ => List.nodup_nil
  | i :: r, h => by
    unfold nodupB at h
    simp only [Bool.and_eq_true, Bool.not_eq_true'] at h
    refine List.nodup_cons.2 ⟨fun hm => ?_, nodupB_iff h.2⟩
    rw [List.elem_iff.2 hm] at h
    cases h.1
theorem parts_emp : ∀ {k : Nat} {rs : List RowT}, Parts (List.replicate k emp) rs ↔ rs = []
  | 0, rs => by simp [Parts]
  | k + 1, rs => by
    rw [List.replicate_succ]
    constructor
    · rintro ⟨a, b, e, h1, h2⟩
      have := (parts_emp (k := k)).1 h2
      unfold emp at h1
      subst h1; subst this
      exact e
    · rintro rfl
      exact ⟨[], [], rfl, rfl, parts_emp.2 rfl⟩
theorem Does.pad {X : Type} {F : FuncId} {args : Array Value} {pre : List Ass} {val : X → Value} {post : X → List Ass} (h : Does P F args pre val post) (k : Nat) : Does P F args (pre ++ List.replicate k emp) val post := fun w rs h1 h2 h3 => by
  obtain ⟨a, b, e, ha, hb⟩ := h1.split
  have := parts_emp.1 hb
  subst this
  rw [List.append_nil] at e
  subst e
  exact h w _ ha h2 h3
theorem padTo_len : ∀ (k : Nat) (l : List Ass), (padTo k l).length = k
  | 0, _ => rfl
  | k + 1, [] => by simp [padTo, padTo_len k []]
  | k + 1, x :: r => by simp [padTo, padTo_len k r]
theorem padTo_parts : ∀ {k : Nat} {l : List Ass} {rs : List RowT}, Parts l rs → ∃ rs', rs.Perm rs' ∧ Parts (l.drop k ++ padTo k l) rs'
  | 0, l, rs, h => ⟨rs, .refl _, by simpa [padTo] using h⟩
  | k + 1, [], rs, h => by
    obtain ⟨rs', p, h'⟩ := padTo_parts (k := k) (l := []) h
    refine ⟨rs', p, ?_⟩
    simp only [List.drop_nil, List.nil_append] at h' ⊢
    exact ⟨[], rs', rfl, rfl, h'⟩
  | k + 1, x :: r, rs, ⟨a, b, e, h1, h2⟩ => by
    obtain ⟨b', p, h'⟩ := padTo_parts (k := k) h2
    have h3 : Parts (x :: (r.drop k ++ padTo k r)) (a ++ b') := ⟨a, b', rfl, h1, h'⟩
    obtain ⟨c, p2, h4⟩ := h3.perm (os' := r.drop k ++ x :: padTo k r) List.perm_middle.symm
    exact ⟨c, (e ▸ p.append_left a).trans p2, h4⟩
theorem rst_set {ids : List Nat} : ∀ {os : List Ass} {k i : Nat} {x : Ass}, (k + i) ∈ ids → rstFromA ids k (os.set i x) = rstFromA ids k os
  | [], _, _, _, _ => by simp
  | y :: r, k, 0, x, h => by
    have : ids.elem k = true := List.elem_iff.2 h
    rw [List.set_cons_zero, rA_t this, rA_t this]
  | y :: r, k, i + 1, x, h => by
    have ih := rst_set (os := r) (k := k + 1) (i := i) (x := x) (by rwa [show k + 1 + i = k + (i + 1) by omega])
    rw [List.set_cons_succ]
    cases hk : ids.elem k with
    | true => rw [rA_t hk, rA_t hk, ih]
    | false => rw [rA_f hk, rA_f hk, ih]
theorem rst_repl {ids0 : List Nat} : ∀ {ids : List Nat} {xs os : List Ass}, (∀ i ∈ ids, i ∈ ids0) → rstA ids0 (replA ids xs os) = rstA ids0 os
  | [], _, _, _ => by unfold replA; rfl
  | i :: ids, [], _, _ => by unfold replA; rfl
  | i :: ids, x :: xs, os, h => by
    show rstA ids0 (replA ids xs (os.set i x)) = _
    rw [rst_repl fun j hj => h j (by simp [hj])]
    exact rst_set (k := 0) (by rw [Nat.zero_add]; exact h i (by simp))
theorem get_repl : ∀ {ids : List Nat} {xs os : List Ass} {i : Nat}, i ∉ ids → (replA ids xs os)[i]? = os[i]?
  | [], _, _, _, _ => by unfold replA; rfl
  | j :: ids, [], _, _, _ => by unfold replA; rfl
  | j :: ids, x :: xs, os, i, h => by
    show (replA ids xs (os.set j x))[i]? = _
    rw [get_repl fun hm => h (by simp [hm]), List.getElem?_set_ne (fun e => h (by simp [e]))]
theorem sel_repl : ∀ {ids : List Nat} {xs os : List Ass}, ids.Nodup → (∀ i ∈ ids, i < os.length) → xs.length = ids.length → selA ids (replA ids xs os) = xs
  | [], xs, _, _, _, hl => by
    have : xs = [] := List.length_eq_zero_iff.1 hl
    subst this; rfl
  | i :: ids, [], _, _, _, hl => by simp at hl
  | i :: ids, x :: xs, os, hn, hb, hl => by
    obtain ⟨h1, h2⟩ := List.nodup_cons.1 hn
    have e1 : (replA ids xs (os.set i x))[i]? = some x := by
      rw [get_repl h1]
      simp [hb i (by simp)]
    have ih := sel_repl (ids := ids) (xs := xs) (os := os.set i x) h2 (fun j hj => by rw [List.length_set]; exact hb j (by simp [hj])) (by simpa using hl)
    show List.filterMap _ (i :: ids) = _
    rw [List.filterMap_cons_some (b := x) (by exact e1)]
    exact congrArg _ ih
theorem repl_perm {ids : List Nat} {xs os : List Ass} (hn : ids.Nodup) (hb : (ids.all fun i => Nat.blt i os.length) = true) : (padTo ids.length xs ++ rstA ids os).Perm (replA ids (padTo ids.length xs) os) := by
  have hb' : ∀ i ∈ ids, i < os.length := fun i hi => blt_lt (List.all_eq_true.1 hb i hi)
  have := perm_sel (ids := ids) (os := replA ids (padTo ids.length xs) os) hn
  rwa [sel_repl hn hb' (padTo_len _ _), rst_repl (fun _ h => h)] at this
theorem Does.calls {X : Type} {F : FuncId} {vs : List Value} {pre : List Ass} {val : X → Value} {post : X → List Ass} {w : World} (ids : List Nat) (hc : Does P F vs.toArray pre val post) (hp : selA ids os = pre) (hn : ids.Nodup) (h : Hp B w0 w os) : Calls P F vs.toArray w fun e w' => ∃ x, e = .returned (val x) ∧ Hp B w0 w' (post x ++ rstA ids os) := by
  subst hp
  obtain ⟨x, h1, h2, h3, h4⟩ := h.give ids hn
  exact (hc w x h1 h2 h3).mono fun e w' ⟨v, he, y, hy, hch⟩ => ⟨v, he, h4 _ y w' hy hch⟩
/-- an operation that acts on things -/
def Acts {X : Type} (P : Program) (Q : Exit → Act → World → Prop) (n : Nat) (env : List (Nat × Value)) (B : Nat → Prop) (w0 : World) (os : List Ass) (o : Oper) (val : X → Value) (post : X → List Ass) : Prop :=
  ∀ (b : Act) (w : World), Hp B w0 w os → Fr n b env → ∀ K : Act → World → Prop, (∀ x w', Hp B w0 w' (post x) → K (b.put o.dst (val x)) w') → o.wp P b w K Q
theorem h_act {X : Type} {val : X → Value} {post : X → List Ass} (h1 : at1 ops n o env = some d) (ha : Acts P Q n env B w0 os o val post) (h : ∀ x, WL2 P ops Q n ((d, val x) :: env) B w0 (post x) rest) : WL2 P ops Q n env B w0 os (o :: rest) := fun a w hF hH =>
  wpList_on hF (at1_parts h1).1 fun K hK => ha a w hH hF K fun x w' hp => by
    rw [(at1_parts h1).2.1]
    exact hK _ _ (h x _ _ (hF.put (at1_parts h1).2.2 _) hp)
theorem h_acts {X : Type} {val : X → Value} {post : X → List Ass} (hg : wants ops o env = some true) (hd : o.dst = none) (ha : Acts P Q n env B w0 os o val post) (h : ∀ x, WL2 P ops Q n env B w0 (post x) rest) : WL2 P ops Q n env B w0 os (o :: rest) := fun a w hF hH =>
  wpList_on hF hg fun K hK => ha a w hH hF K fun x w' hp => by
    rw [hd]
    exact hK _ _ (h x _ _ hF hp)
theorem a_val {r : Value} {w' : World} (b : Act) (hrun : (execOp b.eval o).run P w0 = .ok (.value r) w') {K : Act → World → Prop} (h : K (b.put o.dst r) w') : o.wp P b w0 K Q := by
  unfold Oper.wp
  rw [hrun, Oper.upon_value]
  exact h
theorem a_does {X : Type} {F : FuncId} {f : Operand} {args : Array Operand} {ats : Array TypeId} {vs : List Value} {pre : List Ass} {val : X → Value} {post : X → List Ass} {os' : X → List Ass} (ids : List Nat) (pads : Nat) (hE : Ent P F) (hc : Does P F vs.toArray pre val post) (hp : selA ids os = pre ++ List.replicate pads emp) (hn : nodupB ids = true) (hb : (ids.all fun i => Nat.blt i os.length) = true) (he : ∀ x, (post x).drop ids.length ++ replA ids (padTo ids.length (post x)) os = os' x) (ho : o.op = .call { callee := .value f, args := args, argTypes := ats }) (hf : evs env f = some (.func (.func F) #[] #[])) (hx : evl env args.toList = some vs) :
    Acts P Q n env B w0 os o val os' := fun b w hH hb' K hK => by
  unfold Oper.wp
  rw [exec_call hE ho hf hx hb', Oper.upon_enter]
  refine (Does.calls ids (hc.pad pads) hp (nodupB_iff hn) hH).mono ?_
  rintro e w' ⟨x, rfl, hq⟩
  refine hK x w' (he x ▸ Hp.imp hq fun rs h => ?_)
  obtain ⟨a, c, e, ha, hc'⟩ := h.split
  obtain ⟨a', p, ha'⟩ := padTo_parts (k := ids.length) ha
  have h2 := Parts.app ha' hc'
  rw [List.append_assoc] at h2
  obtain ⟨r2, p2, h3⟩ := h2.perm ((repl_perm (xs := post x) (nodupB_iff hn) hb).append_left _)
  exact ⟨r2, e ▸ (p.append_right c).trans p2, h3⟩
/-- a call that changes nothing, whose result is known -/
theorem a_call {F : FuncId} {f : Operand} {args : Array Operand} {ats : Array TypeId} {vs : List Value} {v : Value} (hE : Ent P F) (hc : ∀ w, Hp B w0 w os → Calls P F vs.toArray w fun e w' => e = .returned v ∧ Below w.heap.size w w') (ho : o.op = .call { callee := .value f, args := args, argTypes := ats }) (hf : evs env f = some (.func (.func F) #[] #[])) (hx : evl env args.toList = some vs) :
    Acts P Q n env B w0 os o (fun _ : Unit => v) (fun _ => os) := fun b w hH hb K hK => by
  unfold Oper.wp
  rw [exec_call hE ho hf hx hb, Oper.upon_enter]
  refine (hc w hH).mono ?_
  rintro e w' ⟨rfl, hbl⟩
  exact hK () w' (hH.call hbl)
theorem Acts.to {X : Type} {val : X → Value} {post post' : X → List Ass} (h : Acts P Q n env B w0 os o val post) (he : ∀ x, post x = post' x) : Acts P Q n env B w0 os o val post' := fun b w hH hb K hK => h b w hH hb K fun x w' hp => hK x w' (he x ▸ hp)
theorem Acts.imp {X : Type} {val : X → Value} {post post' : X → List Ass} (h : Acts P Q n env B w0 os o val post) (he : ∀ x rs, Parts (post x) rs → ∃ rs', rs.Perm rs' ∧ Parts (post' x) rs') : Acts P Q n env B w0 os o val post' := fun b w hH hb K hK => h b w hH hb K fun x w' hp => hK x w' (hp.imp (he x))
/-- in a region that draws its order -/
theorem Acts.s {X : Type} {val : X → Value} {post : X → List Ass} {S : Value → List Ass} (h : Acts P Q n env B w0 os o val post) (he : ∀ x, post x = S (val x)) : ∀ (b : Act) (w : World), Hp B w0 w os → Fr n b env → ∀ K : Act → World → Prop, (∀ v w', Hp B w0 w' (S v) → K (b.put o.dst v) w') → o.wp P b w K Q := fun b w hH hb K hK => h b w hH hb K fun x w' hp => hK _ w' (he x ▸ hp)
theorem Acts.su {v0 : Value} {post : Unit → List Ass} {os' : Value → List Ass} (h : Acts P Q n env B w0 os o (fun _ : Unit => v0) post) (he : post () = os' undef) : ∀ (b : Act) (w : World), Hp B w0 w os → Fr n b env → ∀ K : Act → World → Prop, (∀ v w', Hp B w0 w' (os' v) → K (b.put o.dst v0) w') → o.wp P b w K Q := fun b w hH hb K hK => h b w hH hb K fun x w' hp => hK undef w' (he ▸ hp)
theorem a_box {T : TypeId} {x : Operand} {v : Value} {cs : Array Value} (ho : o.op = .box T x) (hx : evs env x = some v) (hc : v.cells = cs) : Acts P Q n env B w0 os o (fun g : Nat => .pointer (some ⟨g, 0, none⟩)) (fun g => cell g T cs :: os) := fun b w hH hb K hK => by
  have hrun : (execOp b.eval o).run P w = .ok (.value (.pointer (some ⟨w.heap.size, 0, none⟩))) (w.alloc (.cells cs T)) := by
    unfold execOp
    simp [ho, hb.evs hx, Instr.box, newVar, newRow, hc]
  unfold Oper.wp
  rw [hrun, Oper.upon_value]
  exact hK _ _ (hH.new T cs)
theorem a_alloc {T : TypeId} {zs : Array Value} (hz : Zero P T zs) (ho : o.op = .alloc T) : Acts P Q n env B w0 os o (fun g : Nat => .pointer (some ⟨g, 0, none⟩)) (fun g => cell g T zs :: os) := fun b w hH hb K hK => by
  unfold Oper.wp
  rw [exec_alloc ho hz, Oper.upon_value]
  exact hK _ _ (hH.new T zs)
theorem a_store (i : Nat) {T : TypeId} {x y : Operand} {g off k : Nat} {t : TypeId} {cs : Array Value} {v : Value} (c : Array Value) (hs : ∀ w, (sizeOf T).run P w = .ok k w) (hk : v.cells.size = k) (hl : Nat.ble (off + k) cs.size = true) (hone : oneL v.cells.toList = true) (hc : (over? cs.toList off v.cells.toList).toArray = c) (hd : o.dst = none) (ho : o.op = .store T x y)
    (hx : evs env x = some (.pointer (some ⟨g, off, none⟩))) (hy : evs env y = some v) (hi : os[i]? = some (cell g t cs)) : Acts P Q n env B w0 os o (fun _ : Unit => undef) (fun _ => os.set i (cell g t c)) := fun a w hH hF K hK => by
  obtain ⟨w', hr, hR', hm⟩ := run_storeCells_at (P := P) g t v.cells.toList 0 cs w off (hH.row i hi) (by have := Nat.le_of_ble_eq_true hl; simp; omega) (fun u hu => (List.all_eq_true.1 (oneL_all hone)) u hu)
  have hrun : (execOp a.eval o).run P w = .ok .skip w' := by
    unfold execOp
    simp [ho, hF.evs hx, hF.evs hy, Instr.storeAt, Instr.sureAddr, storeVar, hs, hk, hr]
  have hR2 : Row w' g t c := by rw [← hc]; simpa [over?] using hR'
  unfold Oper.wp
  rw [hrun, Oper.upon_skip]
  have := hK () w' (hH.set i hi hm hR2)
  rw [hd] at this ⊢
  exact this
/-- what is known, taken apart -/
theorem WL2.via {X : Type} (os' : X → List Ass) (hi : ∀ rs, Parts os rs → ∃ x, ∃ rs', rs.Perm rs' ∧ Parts (os' x) rs') (h : ∀ x, WL2 P ops Q n env B w0 (os' x) l) : WL2 P ops Q n env B w0 os l := fun a w hF ⟨rs, h1, h2⟩ => by
  obtain ⟨x, rs', p, h3⟩ := hi rs h1
  exact h x a w hF ⟨rs', h3, hp_perm h2 p⟩
theorem WC2.via {X : Type} (os' : X → List Ass) (hi : ∀ rs, Parts os rs → ∃ x, ∃ rs', rs.Perm rs' ∧ Parts (os' x) rs') (h : ∀ x, WC2 P Q n env B w0 (os' x) c) : WC2 P Q n env B w0 os c := fun a w hF ⟨rs, h1, h2⟩ => by
  obtain ⟨x, rs', p, h3⟩ := hi rs h1
  exact h x a w hF ⟨rs', h3, hp_perm h2 p⟩
theorem WE2.via {X : Type} (os' : X → List Ass) (hi : ∀ rs, Parts os rs → ∃ x, ∃ rs', rs.Perm rs' ∧ Parts (os' x) rs') (h : ∀ x, WE2 Q n env B w0 (os' x) e) : WE2 Q n env B w0 os e := fun a w hF ⟨rs, h1, h2⟩ => by
  obtain ⟨x, rs', p, h3⟩ := hi rs h1
  exact h x a w hF ⟨rs', h3, hp_perm h2 p⟩
theorem WA2.via {X : Type} (os' : X → List Ass) (hi : ∀ rs, Parts os rs → ∃ x, ∃ rs', rs.Perm rs' ∧ Parts (os' x) rs') (h : ∀ x, WA2 P ops Q n env B w0 (os' x) fu listed) : WA2 P ops Q n env B w0 os fu listed := fun a w hF ⟨rs, h1, h2⟩ => by
  obtain ⟨x, rs', p, h3⟩ := hi rs h1
  exact h x a w hF ⟨rs', h3, hp_perm h2 p⟩
theorem WL2.mid (os' : List Ass) (hp : os.Perm os') (h : WL2 P ops Q n env B w0 os' l) : WL2 P ops Q n env B w0 os l := fun a w hF hH => h a w hF (hH.perm hp)
theorem WC2.mid (os' : List Ass) (hp : os.Perm os') (h : WC2 P Q n env B w0 os' c) : WC2 P Q n env B w0 os c := fun a w hF hH => h a w hF (hH.perm hp)
theorem WE2.mid (os' : List Ass) (hp : os.Perm os') (h : WE2 Q n env B w0 os' e) : WE2 Q n env B w0 os e := fun a w hF hH => h a w hF (hH.perm hp)
theorem WA2.mid (os' : List Ass) (hp : os.Perm os') (h : WA2 P ops Q n env B w0 os' fu listed) : WA2 P ops Q n env B w0 os fu listed := fun a w hF hH => h a w hF (hH.perm hp)
/-- number i in front -/
theorem to_front {i : Nat} {o : Ass} (hi : os[i]? = some o) : os.Perm (o :: rstA [i] os) := by
  have := (perm_sel (ids := [i]) (os := os) (by simp)).symm
  unfold selA at this
  rw [List.filterMap_cons_some hi] at this
  exact this
/-- what holds of number i alone -/
theorem thing_is {p : Prop} {o : Ass} (i : Nat) (hi : os[i]? = some o) (hp : ∀ rs, o rs → p) {w : World} (h : Hp B w0 w os) : p := by
  obtain ⟨x, hx, _⟩ := h.thing i hi
  exact hp x hx
/-- opening a thing that is others -/
theorem open_ex {α : Type} {A : α → List Ass} {i : Nat} {o : Ass} (hi : os[i]? = some o) (ho : ∀ rs, o rs → ∃ x, Parts (A x) rs) : ∀ rs, Parts os rs → ∃ x, ∃ rs', rs.Perm rs' ∧ Parts (A x ++ rstA [i] os) rs' := fun rs h => by
  obtain ⟨rs1, p, a, b, e, h1, h2⟩ := h.perm (to_front hi)
  obtain ⟨x, h3⟩ := ho a h1
  exact ⟨x, rs1, p, e ▸ h3.app h2⟩
theorem d_open {α : Type} {A : α → List Ass} {t : Ass} {os' : α → List Ass} (i : Nat) (hi : os[i]? = some t) (ho : ∀ rs, t rs → ∃ x, Parts (A x) rs) (he : ∀ x, A x ++ rstA [i] os = os' x) (h : ∀ x, WC2 P Q n env B w0 (os' x) c) : WC2 P Q n env B w0 os c := WC2.via _ (open_ex hi ho) fun x => he x ▸ h x
/-- closing: the things ids are one thing more -/
theorem close_ex {t : Ass} (ids : List Nat) (hn : nodupB ids = true) (ht : ∀ rs, Parts (selA ids os) rs → t rs) : ∀ rs, Parts os rs → ∃ _ : Unit, ∃ rs', rs.Perm rs' ∧ Parts (t :: rstA ids os) rs' := fun rs h => by
  obtain ⟨rs1, p, h1⟩ := h.perm (perm_sel (os := os) (nodupB_iff hn)).symm
  obtain ⟨a, b, e, h2, h3⟩ := h1.split
  exact ⟨(), rs1, p, a, b, e, ht a h2, h3⟩
theorem d_close {t : Ass} {os' : List Ass} (ids : List Nat) (hn : nodupB ids = true) (ht : ∀ rs, Parts (selA ids os) rs → t rs) (he : t :: rstA ids os = os') (h : WC2 P Q n env B w0 os' c) : WC2 P Q n env B w0 os c := WC2.via (fun _ : Unit => _) (close_ex ids hn ht) fun _ => he ▸ h
/-- places for what a region makes -/
theorem d_emps (k : Nat) {os' : List Ass} (he : List.replicate k emp ++ os = os') (h : WC2 P Q n env B w0 os' c) : WC2 P Q n env B w0 os c := WC2.via (fun _ : Unit => os') (fun rs hp => ⟨(), rs, .refl _, he ▸ (Parts.app (parts_emp.2 rfl) hp : Parts _ ([] ++ rs))⟩) fun _ => h
/-- a thing left -/
theorem WC2.leave {os' : List Ass} (ids : List Nat) (hn : nodupB ids = true) (he : rstA ids os = os') (h : WC2 P Q n env B w0 os' c) : WC2 P Q n env B w0 os c := fun a w hF hH => h a w hF (by
  have := (hH.perm (perm_sel (os := os) (nodupB_iff hn)).symm).drop (selA ids os).length
  rw [List.drop_left] at this
  exact he ▸ this)
theorem WL2.leave {os' : List Ass} (ids : List Nat) (hn : nodupB ids = true) (he : rstA ids os = os') (h : WL2 P ops Q n env B w0 os' l) : WL2 P ops Q n env B w0 os l := fun a w hF hH => h a w hF (by
  have := (hH.perm (perm_sel (os := os) (nodupB_iff hn)).symm).drop (selA ids os).length
  rw [List.drop_left] at this
  exact he ▸ this)
theorem WE2.leave {os' : List Ass} (ids : List Nat) (hn : nodupB ids = true) (he : rstA ids os = os') (h : WE2 Q n env B w0 os' e) : WE2 Q n env B w0 os e := fun a w hF hH => h a w hF (by
  have := (hH.perm (perm_sel (os := os) (nodupB_iff hn)).symm).drop (selA ids os).length
  rw [List.drop_left] at this
  exact he ▸ this)
/-- a thing that hangs on what an operation gave -/
def selS (r : Option Value) (f : Value → Ass) (d : Ass) : Ass := match r with | some v => f v | none => d
end does
section entry
variable {P : Program} {fn : Func}
/-- a function that is given things -/
theorem d_ins {X : Type} {f : FuncId} {c : Code} {args : List Value} {pre : List Ass} {val : X → Value} {post : X → List Ass} (n : Nat) (hf : P.funcs[f]? = some fn) (hb : fn.body = some c) (hn : fn.ntmps = n) (hs : Nat.ble args.length n = true)
    (h : ∀ (w : World) (rs : List RowT), WC2 P (bodyPost P fn fun e w' => ∃ x, e = .returned (val x) ∧ ∃ rs', Parts (post x) rs' ∧ Chg w w' rs rs') n (argEnv 0 args) (Blk rs) w pre c) : Does P f args.toArray pre val post :=
  fun w rs h1 h2 h3 => calls_in n hf hb hn (Nat.le_of_ble_eq_true hs) fun a hF => h w rs a w hF (Hp.given h1 h2 h3)
/-- what it tells at its end -/
theorem tells {X : Type} {w0 w' : World} {rs : List RowT} {os : List Ass} {val : X → Value} {post : X → List Ass} (x : X) {v : Value} (hv : v = val x) (ids : List Nat) (hn : nodupB ids = true) (h : Hp (Blk rs) w0 w' os) (hp : ∀ y, Parts (selA ids os) y → ∃ z, y.Perm z ∧ Parts (post x) z) : ∃ x, Ending.returned v = .returned (val x) ∧ ∃ rs', Parts (post x) rs' ∧ Chg w0 w' rs rs' := by
  obtain ⟨y, h1, h2⟩ := h.tell ids (nodupB_iff hn)
  obtain ⟨z, p, h3⟩ := hp y h1
  exact ⟨x, by rw [hv], z, h3, chg_perm' h2 p⟩
/-- a contract, of a call that is given more -/
theorem Does.frame {X : Type} {F : FuncId} {args : Array Value} {pre more : List Ass} {val : X → Value} {post : X → List Ass} (h : Does P F args pre val post) : Does P F args (pre ++ more) val (fun x => post x ++ more) := fun w rs h1 h2 h3 => by
  obtain ⟨a, b, e, ha, hb⟩ := h1.split
  subst e
  have hd := dist_iff.1 h3
  rw [List.map_append] at hd
  have hh : Mem.Hp (Blk (a ++ b)) w w (a ++ b) := Mem.Hp.given h2 h3
  refine (h w a ha (rows_iff.2 fun z hz => h2.mem z (by simp [hz])) (dist_iff.2 (List.nodup_append.1 hd).1)).mono ?_
  rintro e w' ⟨x, he, y, hy, hc⟩
  have := hp_chg hh hc
  exact ⟨x, he, y ++ b, hy.app hb, this.up, this.rows, this.apart, fun z hz hlt => this.own z hz hlt⟩
theorem Does.imp {X : Type} {F : FuncId} {args : Array Value} {pre pre' : List Ass} {val : X → Value} {post : X → List Ass} (h : Does P F args pre val post) (hi : ∀ rs, Parts pre' rs → ∃ rs', rs.Perm rs' ∧ Parts pre rs') : Does P F args pre' val post := fun w rs h1 h2 h3 => by
  obtain ⟨rs', p, h4⟩ := hi rs h1
  refine (h w rs' h4 (rows_iff.2 fun z hz => h2.mem z (p.mem_iff.2 hz)) (dist_iff.2 ((p.map _).nodup_iff.1 (dist_iff.1 h3)))).mono ?_
  rintro e w' ⟨x, he, y, hy, hc⟩
  exact ⟨x, he, y, hy, chg_perm hc p.symm⟩
theorem same_parts {os : List Ass} : ∀ y, Parts os y → ∃ z, y.Perm z ∧ Parts os z := fun y h => ⟨y, .refl _, h⟩
end entry
end Go.Proofs.Ytikcleaicbihfaa.Sep
