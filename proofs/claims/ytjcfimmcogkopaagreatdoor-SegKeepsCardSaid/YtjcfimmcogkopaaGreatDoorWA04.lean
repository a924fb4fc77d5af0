/-
  Sep
-/
import Derived.Test.YtjcfimmcogkopaaGreatDoorWA03
set_option linter.unusedSimpArgs false
set_option linter.unusedVariables false
namespace Go.Proofs.YtjcfimmcogkopaaGreatDoor.Sep
variable {F : FuncId} {K : Act → World → Prop} {T t : TypeId} {X α : Type} {args cs : Array Value} {ats : Array TypeId} {f x : Operand} {g i id k : Nat} {ids : List Nat} {l : List Oper} {p : Prop} {r r1 : ResultVar} {rs : List RowT} {v1 : Value} {vs : List Value} {w' : World} {y : Code}
open Go.RowKit
open Go.Proofs.YtjcfimmcogkopaaGreatDoor.Mem (AG BC Chg Ak)
abbrev Ass := List RowT → Prop
def cell (g : Nat) (t : TypeId) (cs : Array Value) : Ass := fun rs => rs = [(g, EO t, cs)]
def fact (p : Prop) : Ass := fun rs => rs = [] ∧ p
def Ae : List Ass → List RowT → Prop
  | [], rs => rs = []
  | o :: os, rs => ∃ a b, rs = a ++ b ∧ o a ∧ Ae os b
def Fk (l : List Ass) : Ass := Ae l
section parts
variable {os os' : List Ass} {rs : List RowT}
theorem Ae.app : ∀ {os os' : List Ass} {a b : List RowT}, Ae os a → Ae os' b → Ae (os ++ os') (a ++ b)
  | [], _, a, b, h, h' => by unfold Ae at h; subst h; exact h'
  | o :: os, os', a, b, h, h' => by
    obtain ⟨x, y, e, h1, h2⟩ := h
    exact ⟨x, y ++ b, by rw [e, List.append_assoc], h1, h2.app h'⟩
theorem Ae.split : ∀ {os os' : List Ass} {rs : List RowT}, Ae (os ++ os') rs → ∃ a b, rs = a ++ b ∧ Ae os a ∧ Ae os' b
  | [], _, rs, h => ⟨[], rs, rfl, rfl, h⟩
  | o :: os, os', rs, h => by
    obtain ⟨x, y, e, h1, h2⟩ := h
    obtain ⟨a, b, e', h3, h4⟩ := Ae.split h2
    exact ⟨x ++ a, b, by rw [e, e', List.append_assoc], ⟨x, a, rfl, h1, h3⟩, h4⟩
theorem Ae.perm {os os' : List Ass} (hp : os.Perm os') : ∀ {rs : List RowT}, Ae os rs → ∃ rs', rs.Perm rs' ∧ Ae os' rs' := by
  induction hp with
  | nil => exact fun {rs} h => ⟨rs, .refl _, h⟩
  | cons o _ ih =>
    rintro rs ⟨a, b, e, h1, h2⟩
    obtain ⟨b', hp, h3⟩ := ih h2
    exact ⟨a ++ b', e ▸ hp.append_left a, a, b', rfl, h1, h3⟩
  | swap o o' l =>
    rintro rs ⟨a, b, e, h1, c, d, e', h2, h3⟩
    refine ⟨c ++ (a ++ d), ?_, c, a ++ d, rfl, h2, a, d, rfl, h1, h3⟩
    rw [e, e', ← List.append_assoc, ← List.append_assoc]
    exact List.perm_append_comm.append_right d
  | trans _ _ ih1 ih2 =>
    intro rs h
    obtain ⟨r1, p1, h1⟩ := ih1 h
    obtain ⟨r2, p2, h2⟩ := ih2 h1
    exact ⟨r2, p1.trans p2, h2⟩
theorem Ae.one {o : Ass} {rs : List RowT} (h : o rs) : Ae [o] rs := ⟨rs, [], by simp, h, rfl⟩
theorem Ae.one' {o : Ass} {rs : List RowT} (h : Ae [o] rs) : o rs := by
 obtain ⟨a, b, e, h1, h2⟩ := h
 unfold Ae at h2
 subst h2
 rw [List.append_nil] at e
 exact e ▸ h1
def Yc : List Ass → List Ass → Prop
  | [], [] => True
  | o :: os, o' :: os' => (∀ rs, o rs → o' rs) ∧ Yc os os'
  | _, _ => False
end parts
def CZ (ids : List Nat) (os : List Ass) : List Ass := ids.filterMap (os[·]?)
def BI (ids : List Nat) : Nat → List Ass → List Ass
  | _, [] => []
  | k, x :: r => match ids.elem k with | true => BI ids (k + 1) r | false => x :: BI ids (k + 1) r
def CR (ids : List Nat) (os : List Ass) : List Ass := BI ids 0 os
theorem K1 {x : Ass} {r : List Ass} (h : ids.elem k = true) : BI ids k (x :: r) = BI ids (k + 1) r := by
 conv => lhs; unfold BI
 rw [h]
theorem Lq {x : Ass} {r : List Ass} (h : ids.elem k = false) : BI ids k (x :: r) = x :: BI ids (k + 1) r := by
 conv => lhs; unfold BI
 rw [h]
theorem Nx (h : k ≠ i) : (i :: ids).elem k = ids.elem k := by
  have : (k == i) = false := by simpa using h
  show (match k == i with | true => true | false => ids.elem k) = _
  rw [this]
theorem VE : (k :: ids).elem k = true := by
  show (match k == k with | true => true | false => ids.elem k) = _
  simp
theorem Je : ∀ (k : Nat) (os : List Ass), BI [] k os = os
  | _, [] => rfl
  | k, x :: r => by rw [Lq rfl, Je (k + 1) r]
theorem Gm {i : Nat} {ids : List Nat} : ∀ {k : Nat} {os : List Ass}, i < k → BI (i :: ids) k os = BI ids k os
  | _, [], _ => rfl
  | k, x :: r, h => by
    have e : (i :: ids).elem k = ids.elem k := Nx (by omega)
    cases hk : ids.elem k with
    | true => rw [K1 (e.trans hk), K1 hk, Gm (by omega)]
    | false => rw [Lq (e.trans hk), Lq hk, Gm (by omega)]
theorem Is {ids : List Nat} : ∀ {os : List Ass} {o : Ass} {k i : Nat}, k + i ∉ ids → os[i]? = some o → (BI ids k os).Perm (o :: BI ((k + i) :: ids) k os)
  | [], o, k, i, _, h => by simp at h
  | x :: r, o, k, 0, hm, h => by
    simp only [List.getElem?_cons_zero, Option.some.injEq] at h
    subst h
    have h1 : ids.elem k = false := by
      cases hk : ids.elem k with
      | false => rfl
      | true => exact absurd (List.elem_iff.1 hk) hm
    rw [Lq h1]
    show List.Perm _ (x :: BI (k :: ids) k (x :: r))
    rw [K1 VE, Gm (by omega)]
  | x :: r, o, k, i + 1, hm, h => by
    simp only [List.getElem?_cons_succ] at h
    have := Is (k := k + 1) (by rwa [show k + 1 + i = k + (i + 1) by omega]) h
    rw [show k + 1 + i = k + (i + 1) by omega] at this
    have e : ((k + (i + 1)) :: ids).elem k = ids.elem k := Nx (by omega)
    cases hk : ids.elem k with
    | true => rw [K1 hk, K1 (e.trans hk)]; exact this
    | false => rw [Lq hk, Lq (e.trans hk)]; exact (this.cons x).trans (.swap o x _)
theorem It {ids : List Nat} : ∀ {os : List Ass} {k i : Nat}, os[i]? = none → BI ((k + i) :: ids) k os = BI ids k os
  | [], _, _, _ => rfl
  | x :: r, k, 0, h => by simp at h
  | x :: r, k, i + 1, h => by
    simp only [List.getElem?_cons_succ] at h
    have := It (ids := ids) (k := k + 1) h
    rw [show k + 1 + i = k + (i + 1) by omega] at this
    have e : ((k + (i + 1)) :: ids).elem k = ids.elem k := Nx (by omega)
    cases hk : ids.elem k with
    | true => rw [K1 hk, K1 (e.trans hk)]; exact this
    | false => rw [Lq hk, Lq (e.trans hk), this]
theorem Cy : ∀ {ids : List Nat} {os : List Ass}, ids.Nodup → (CZ ids os ++ CR ids os).Perm os := by
  intro ids os
  induction ids with
  | nil => intro _; unfold CR; rw [Je]; exact .refl _
  | cons i ids ih =>
    intro hn
    obtain ⟨h1, h2⟩ := List.nodup_cons.1 hn
    refine .trans ?_ (ih h2)
    cases hi : os[i]? with
    | none =>
      have e : CR (i :: ids) os = CR ids os := by
        have := It (ids := ids) (k := 0) hi
        rwa [Nat.zero_add] at this
      rw [e]
      show (List.filterMap _ (i :: ids) ++ _).Perm _
      rw [List.filterMap_cons_none hi]
      exact .refl _
    | some o =>
      have h := Is (k := 0) (by rwa [Nat.zero_add]) hi
      rw [Nat.zero_add] at h
      show (List.filterMap _ (i :: ids) ++ _).Perm _
      rw [List.filterMap_cons_some hi]
      have e : (CZ ids os ++ o :: CR (i :: ids) os).Perm (CZ ids os ++ CR ids os) := List.Perm.append_left _ h.symm
      refine .trans ?_ e
      exact List.perm_middle.symm
theorem AT : ∀ {rs : List RowT}, AG rs ↔ (rs.map (·.1)).Nodup
  | [] => by simp [AG]
  | x :: r => by
    unfold AG
    rw [List.map_cons, List.nodup_cons, AT (rs := r)]
    refine and_congr ⟨fun h hm => ?_, fun h y hy e => h ?_⟩ Iff.rfl
    · obtain ⟨y, hy, e⟩ := List.mem_map.1 hm
      exact h y hy e
    · exact List.mem_map.2 ⟨y, hy, e⟩
theorem AZ {w : World} : RowsOf w rs ↔ ∀ x ∈ rs, CC w x := ⟨fun h => h.mem, fun h => Mem.RowsOf.ofAll h⟩
section known
variable {B : Nat → Prop} {w0 w w' : World} {rs rs' a b c : List RowT}
theorem Cz (h : Mem.Hp B w0 w rs) (hp : rs.Perm rs') : Mem.Hp B w0 w rs' :=
 ⟨h.up, AZ.2 fun x hx => h.rows.mem x (hp.mem_iff.2 hx), AT.2 ((hp.map _).nodup_iff.1 (AT.1 h.apart)), fun x hx => h.own x (hp.mem_iff.2 hx)⟩
theorem Om {w' : World} (h : Chg w w' a b) (hp : a.Perm c) : Chg w w' c b := ⟨h.mod.weaken fun j _ ⟨x, hx, e⟩ => ⟨x, hp.mem_iff.1 hx, e⟩, h.rows, h.dist, fun x hx hlt => by obtain ⟨y, hy, e⟩ := h.from_ x hx hlt; exact ⟨y, hp.mem_iff.1 hy, e⟩⟩
theorem HU {w' : World} (h : Chg w w' a b) (hp : b.Perm c) : Chg w w' a c := ⟨h.mod, AZ.2 fun x hx => h.rows.mem x (hp.mem_iff.2 hx), AT.2 ((hp.map _).nodup_iff.1 (AT.1 h.dist)), fun x hx => h.from_ x (hp.mem_iff.2 hx)⟩
theorem Fl (h : Mem.Hp B w0 w (a ++ b)) (hc : Chg w w' a c) : Mem.Hp B w0 w' (c ++ b) := by
  have hd := AT.1 h.apart
  rw [List.map_append] at hd
  have hne : ∀ x ∈ a, ∀ y ∈ b, y.1 ≠ x.1 := fun x hx y hy e => (List.nodup_append.1 hd).2.2 x.1 (List.mem_map.2 ⟨x, hx, rfl⟩) y.1 (List.mem_map.2 ⟨y, hy, rfl⟩) e.symm
  have hnb : ∀ y ∈ b, ¬ BC a y.1 := fun y hy ⟨x, hx, e⟩ => hne x hx y hy e.symm
  have hold : ∀ y ∈ b, CC w y := fun y hy => h.rows.mem y (by simp [hy])
  refine ⟨h.up.trans hc.mod (fun j hj ⟨x, hx, e⟩ => e ▸ h.own x (by simp [hx]) (e ▸ hj)), ?_, ?_, ?_⟩
  · refine AZ.2 fun x hx => ?_
    rcases List.mem_append.1 hx with hx | hx
    · exact hc.rows.mem x hx
    · exact (hold x hx).mod hc.mod (hnb x hx)
  · refine Mem.dist_app hc.dist (AT.2 (List.nodup_append.1 hd).2.1) fun x hx y hy e => ?_
    have hlt := (hold y hy).lt
    rw [e] at hlt
    exact hnb y hy (e ▸ hc.from_ x hx hlt)
  · intro x hx hlt
    rcases List.mem_append.1 hx with hx | hx
    · have := h.up.size
      obtain ⟨y, hy, e⟩ := hc.from_ x hx (by omega)
      exact e ▸ h.own y (by simp [hy]) (e ▸ hlt)
    · exact h.own x (by simp [hx]) hlt
end known
def Hp (B : Nat → Prop) (w0 w : World) (os : List Ass) : Prop := ∃ rs, Ae os rs ∧ Mem.Hp B w0 w rs
section hp
variable {B : Nat → Prop} {w0 w w' : World} {os os' : List Ass} {rs : List RowT}
theorem Hp.up (h : Hp B w0 w os) : Mod B w0 w := by obtain ⟨_, _, h⟩ := h; exact h.up
theorem Hp.perm (h : Hp B w0 w os) (hp : os.Perm os') : Hp B w0 w os' := by
 obtain ⟨rs, h1, h2⟩ := h
 obtain ⟨rs', p, h3⟩ := h1.perm hp
 exact ⟨rs', h3, Cz h2 p⟩
theorem Hp.start (w : World) : Hp Nil w w [] := ⟨[], rfl, Mem.Hp.start w⟩
theorem Hp.given (h1 : Ae os rs) (h2 : RowsOf w rs) (h3 : AG rs) : Hp (BC rs) w w os := ⟨rs, h1, Mem.Hp.given h2 h3⟩
theorem Hp.call (h : Hp B w0 w os) (hb : Below w.heap.size w w') : Hp B w0 w' os := by obtain ⟨rs, h1, h2⟩ := h; exact ⟨rs, h1, h2.call hb⟩
theorem Hp.drew (h : Hp B w0 w os) : Hp B w0 w.drew os := by obtain ⟨rs, h1, h2⟩ := h; exact ⟨rs, h1, h2.drew⟩
theorem Hp.new (h : Hp B w0 w os) (t : TypeId) (cs : Array Value) : Hp B w0 (w.alloc (.cells cs t)) (cell w.heap.size t cs :: os) := by
 obtain ⟨rs, h1, h2⟩ := h
 exact ⟨(w.heap.size, EO t, cs) :: rs, ⟨[(w.heap.size, EO t, cs)], rs, rfl, rfl, h1⟩, h2.new t cs⟩
theorem Ae.at_ : ∀ {os : List Ass} {rs : List RowT} {i : Nat} {o : Ass}, Ae os rs → os[i]? = some o → ∃ a x b, rs = a ++ (x ++ b) ∧ o x ∧ ∀ (o' : Ass) (y : List RowT), o' y → Ae (os.set i o') (a ++ (y ++ b))
  | [], _, i, o, _, hi => by simp at hi
  | p :: os, rs, 0, o, ⟨a, b, e, h1, h2⟩, hi => by
    simp only [List.getElem?_cons_zero, Option.some.injEq] at hi
    subst hi
    exact ⟨[], a, b, by simpa using e, h1, fun o' y h => ⟨y, b, rfl, h, h2⟩⟩
  | p :: os, rs, i + 1, o, ⟨a, b, e, h1, h2⟩, hi => by
    simp only [List.getElem?_cons_succ] at hi
    obtain ⟨a', x, b', e', h3, h4⟩ := Ae.at_ h2 hi
    exact ⟨a ++ a', x, b', by rw [e, e', List.append_assoc], h3, fun o' y h => ⟨a, a' ++ (y ++ b'), by rw [List.append_assoc], h1, h4 o' y h⟩⟩
theorem Hp.thing (h : Hp B w0 w os) (i : Nat) {o : Ass} (hi : os[i]? = some o) : ∃ x, o x ∧ RowsOf w x := by
 obtain ⟨rs, h1, h2⟩ := h
 obtain ⟨a, x, b, e, h3, _⟩ := h1.at_ hi
 refine ⟨x, h3, AZ.2 fun y hy => h2.rows.mem y ?_⟩
 rw [e]; simp [hy]
theorem Hp.row (h : Hp B w0 w os) (i : Nat) (hi : os[i]? = some (cell g t cs)) : CQ w g t cs := by
 obtain ⟨x, hx, hr⟩ := h.thing i hi
 unfold cell at hx
 subst hx
 exact hr.1
theorem Hp.turn (h : Hp B w0 w os) (i : Nat) {o o' : Ass} (hi : os[i]? = some o) (hc : ∀ x, o x → RowsOf w x → AG x → ∃ y, o' y ∧ Chg w w' x y) : Hp B w0 w' (os.set i o') := by
 obtain ⟨rs, h1, h2⟩ := h
 obtain ⟨a, x, b, e, h3, h4⟩ := h1.at_ hi
 subst e
 have p : (a ++ (x ++ b)).Perm (x ++ (a ++ b)) := by rw [← List.append_assoc, ← List.append_assoc]; exact List.perm_append_comm.append_right b
 have h5 := Cz h2 p
 have hd := AT.1 h5.apart
 rw [List.map_append] at hd
 obtain ⟨y, hy, hch⟩ := hc x h3 (AZ.2 fun z hz => h5.rows.mem z (by simp [hz])) (AT.2 (List.nodup_append.1 hd).1)
 have p' : (y ++ (a ++ b)).Perm (a ++ (y ++ b)) := by rw [← List.append_assoc, ← List.append_assoc]; exact List.perm_append_comm.append_right b
 exact ⟨_, h4 o' y hy, Cz (Fl h5 hch) p'⟩
theorem Hp.set (h : Hp B w0 w os) (i : Nat) {g : Nat} {t : TypeId} {cs c : Array Value} (hi : os[i]? = some (cell g t cs)) (hm : Mod (N8 g) w w') (hR : CQ w' g t c) : Hp B w0 w' (os.set i (cell g t c)) :=
 h.turn i hi fun x hx _ _ => ⟨[(g, t, c)], rfl, by
  unfold cell at hx
  subst hx
  refine ⟨hm.weaken fun j _ e => ⟨(g, EO t, cs), by simp, e.symm⟩, ⟨hR, trivial⟩, ⟨(fun _ h => by cases h), trivial⟩, fun x hx _ => ?_⟩
  have : x = (g, EO t, c) := by simpa using hx
  subst this
  exact ⟨(g, EO t, cs), by simp, rfl⟩⟩
theorem Hp.drop (h : Hp B w0 w os) (k : Nat) : Hp B w0 w (os.drop k) := by
 obtain ⟨rs, h1, h2⟩ := h
 rw [← List.take_append_drop k os] at h1
 obtain ⟨a, b, e, _, h3⟩ := h1.split
 subst e
 have hd := AT.1 h2.apart
 rw [List.map_append] at hd
 exact ⟨b, h3, h2.up, AZ.2 fun x hx => h2.rows.mem x (by simp [hx]), AT.2 (List.nodup_append.1 hd).2.1, fun x hx => h2.own x (by simp [hx])⟩
theorem Hp.give (h : Hp B w0 w os) (ids : List Nat) (hn : ids.Nodup) : ∃ x, Ae (CZ ids os) x ∧ RowsOf w x ∧ AG x ∧ ∀ (post : List Ass) (y : List RowT) (w' : World), Ae post y → Chg w w' x y → Hp B w0 w' (post ++ CR ids os) := by
 obtain ⟨rs, h1, h2⟩ := h.perm (Cy (os := os) hn).symm
 obtain ⟨a, b, e, h3, h4⟩ := h1.split
 subst e
 have hd := AT.1 h2.apart
 rw [List.map_append] at hd
 exact ⟨a, h3, AZ.2 fun z hz => h2.rows.mem z (by simp [hz]), AT.2 (List.nodup_append.1 hd).1, fun post y w' hy hch => ⟨y ++ b, hy.app h4, Fl h2 hch⟩⟩
theorem Hp.tell (h : Hp (BC rs) w0 w os) (ids : List Nat) (hn : ids.Nodup) : ∃ y, Ae (CZ ids os) y ∧ Chg w0 w rs y := by
 obtain ⟨rs', h1, h2⟩ := h.perm (Cy (os := os) hn).symm
 obtain ⟨a, b, e, h3, h4⟩ := h1.split
 subst e
 have hd := AT.1 h2.apart
 rw [List.map_append] at hd
 exact ⟨a, h3, h2.up, AZ.2 fun z hz => h2.rows.mem z (by simp [hz]), AT.2 (List.nodup_append.1 hd).1, fun x hx => h2.own x (by simp [hx])⟩
theorem Hp.imp (h : Hp B w0 w os) (hi : ∀ rs, Ae os rs → ∃ rs', rs.Perm rs' ∧ Ae os' rs') : Hp B w0 w os' := by
 obtain ⟨rs, h1, h2⟩ := h
 obtain ⟨rs', p, h3⟩ := hi rs h1
 exact ⟨rs', h3, Cz h2 p⟩
end hp
def AA {X : Type} (P : Program) (F : FuncId) (args : Array Value) (pre : List Ass) (val : X → Value) (post : X → List Ass) : Prop :=
  ∀ w rs, Ae pre rs → RowsOf w rs → AG rs → Calls P F args w fun e w' => ∃ x, e = .returned (val x) ∧ ∃ rs', Ae (post x) rs' ∧ Chg w w' rs rs'
inductive Res2 (P : Program) (env : List (Nat × Value)) (rs : List Ass) : ResultVar → Value → Prop
  | tmp {t : Tmp} {v : Value} (h : look env t = some v) : Res2 P env rs (.tmp t) v
  | cell (i : Nat) {s : Tmp} {T : TypeId} {g off : Nat} {t : TypeId} {cs : Array Value} {v : Value} (hv : Kz P T cs off v) (h : look env s = some (.pointer (some ⟨g, off, none⟩))) (hi : rs[i]? = some (Sep.cell g t cs)) : Res2 P env rs (.cell s T) v
def A5 (P : Program) (ops : Array Oper) (Q : Exit → Act → World → Prop) (n : Nat) (env : List (Nat × Value)) (B : Nat → Prop) (w0 : World) (rs : List Ass) (l : List Oper) : Prop := ∀ a w, Fr n a env → Hp B w0 w rs → wpList P ops Q l a w
def AH (P : Program) (Q : Exit → Act → World → Prop) (n : Nat) (env : List (Nat × Value)) (B : Nat → Prop) (w0 : World) (rs : List Ass) (c : Code) : Prop := ∀ a w, Fr n a env → Hp B w0 w rs → c.wp P Q a w
def BW (Q : Exit → Act → World → Prop) (n : Nat) (env : List (Nat × Value)) (B : Nat → Prop) (w0 : World) (rs : List Ass) (e : Exit) : Prop := ∀ a w, Fr n a env → Hp B w0 w rs → Q e a w
section wl2
variable {P : Program} {ops : Array Oper} {Q : Exit → Act → World → Prop} {n : Nat} {B : Nat → Prop} {w0 : World} {rs rs' : List Ass} {env env' : List (Nat × Value)} {l rest : List Oper} {o : Oper} {d : Nat} {fl : List ((Nat × Nat) × Nat)}
theorem Am (hfl : Oj P fl) : ∀ {l : List Oper} {env : List (Nat × Value)}, Ln fl ops n l env = some (env', rest) → A5 P ops Q n env' B w0 rs rest → A5 P ops Q n env B w0 rs l
  | [], env, h, hk => by
    simp only [Ln, Option.some.injEq, Prod.mk.injEq] at h
    obtain ⟨rfl, rfl⟩ := h
    exact hk
  | o :: r, env, h, hk => by
    unfold Ln at h
    cases hw : wants ops o env with
    | none =>
      simp only [hw, Option.some.injEq, Prod.mk.injEq] at h
      obtain ⟨rfl, rfl⟩ := h
      exact hk
    | some b =>
      cases b with
      | false =>
        simp only [hw] at h
        cases hd : o.dst with
        | none => simp [hd] at h
        | some d =>
          simp only [hd] at h
          cases hn : Nat.blt d n with
          | false => simp [hn] at h
          | true =>
            simp only [hn] at h
            exact fun a w hF hH => Ns hF hw hd (Es hn) fun b hb => Am hfl h hk b w hb hH
      | true =>
        simp only [hw] at h
        cases hq : q1 fl o env with
        | none =>
          simp only [hq, Option.some.injEq, Prod.mk.injEq] at h
          obtain ⟨rfl, rfl⟩ := h
          exact hk
        | some v =>
          simp only [hq] at h
          cases hd : o.dst with
          | none => simp [hd] at h
          | some d =>
            simp only [hd] at h
            cases hn : Nat.blt d n with
            | false => simp [hn] at h
            | true =>
              simp only [hn] at h
              exact fun a w hF hH => R7 hF hw hd (Es hn) v (fun b hb => Cx hfl hq hb) fun b hb => Am hfl h hk b w hb hH
theorem Aa (h1 : K7 ops n o env = some d) (v : Value) (hrun : ∀ b w, Fr n b env → Hp B w0 w rs → (execOp b.eval o).run P w = .ok (.value v) w) (h : A5 P ops Q n ((d, v) :: env) B w0 rs rest) : A5 P ops Q n env B w0 rs (o :: rest) :=
 fun a w hF hH => R7 hF (BE h1).1 (BE h1).2.1 (BE h1).2.2 v (fun b hb => hrun b w hb hH) fun b hb => h b w hb hH
theorem DU (h : BW Q n env B w0 rs .normal) : A5 P ops Q n env B w0 rs [] := h
theorem Aw (h : AH P Q n env B w0 rs y) : A5 P ops (Exit.then (fun a w => y.wp P Q a w) Q) n env B w0 rs [] := h
theorem A5.keep (hs : FX env env') (h : A5 P ops Q n env' B w0 rs l) : A5 P ops Q n env B w0 rs l := fun a w hF hH => h a w (hF.keep hs) hH
theorem AH.keep {c : Code} (hs : FX env env') (h : AH P Q n env' B w0 rs c) : AH P Q n env B w0 rs c := fun a w hF hH => h a w (hF.keep hs) hH
theorem BW.keep {e : Exit} (hs : FX env env') (h : BW Q n env' B w0 rs e) : BW Q n env B w0 rs e := fun a w hF hH => h a w (hF.keep hs) hH
end wl2
section wc2
variable {P : Program} {Q : Exit → Act → World → Prop} {n : Nat} {B : Nat → Prop} {w0 : World} {rs : List Ass} {env : List (Nat × Value)}
theorem Al (h : A5 P l.toArray (Exit.then (fun a w => y.wp P Q a w) Q) n env B w0 rs l) : AH P Q n env B w0 rs (.seq (.region id l.toArray false) y) := fun a w hF hH => wp_seq (wp_region_lit (h a w hF hH))
theorem Dl (h : A5 P l.toArray Q n env B w0 rs l) : AH P Q n env B w0 rs (.region id l.toArray false) := fun a w hF hH => wp_region_lit (h a w hF hH)
theorem Bu {x : Code} (h : AH P (Exit.then (fun a w => y.wp P Q a w) Q) n env B w0 rs x) : AH P Q n env B w0 rs (.seq x y) := fun a w hF hH => wp_seq (h a w hF hH)
theorem Et {c : Operand} {x : Code} (hc : evs env c = some (.bool true)) (h : AH P Q n env B w0 rs x) : AH P Q n env B w0 rs (.cond c x y) := fun a w hF hH => Nt hF hc (h a w hF hH)
theorem CK {c : Operand} {x : Code} (hc : evs env c = some (.bool false)) (h : AH P Q n env B w0 rs y) : AH P Q n env B w0 rs (.cond c x y) := fun a w hF hH => Nu hF hc (h a w hF hH)
theorem CL (h : BW Q n env B w0 rs .normal) : AH P Q n env B w0 rs .skip := fun a w hF hH => wp_skip (h a w hF hH)
theorem D3 (h : BW Q n env B w0 rs .ret) : AH P Q n env B w0 rs .ret := fun a w hF hH => wp_ret (h a w hF hH)
theorem E4 {c : Code} (h : AH P (Exit.inBlock id Q) n env B w0 rs c) : AH P Q n env B w0 rs (.block id c) := fun a w hF hH => wp_block (h a w hF hH)
theorem B2 (h : BW Q n env B w0 rs (.exit id)) : AH P Q n env B w0 rs (.exit id) := fun a w hF hH => wp_exit (h a w hF hH)
theorem Eu (h : AH P Q n env B w0 rs y) : BW (Exit.then (fun a w => y.wp P Q a w) Q) n env B w0 rs .normal := h
theorem D4 (h : BW Q n env B w0 rs .normal) : BW (Exit.inBlock id Q) n env B w0 rs .normal := h
theorem VD (h : BW Q n env B w0 rs .ret) : BW (Exit.then K Q) n env B w0 rs .ret := h
theorem EP (h : BW Q n env B w0 rs .ret) : BW (Exit.inBlock id Q) n env B w0 rs .ret := h
theorem Xk (h : BW Q n env B w0 rs (.exit id)) : BW (Exit.then K Q) n env B w0 rs (.exit id) := h
theorem D5 (h : BW Q n env B w0 rs .normal) : BW (Exit.inBlock id Q) n env B w0 rs (.exit id) := fun a w hF hH => (if_pos rfl).mpr (h a w hF hH)
theorem EJ {id' : Nat} (hne : id' ≠ id) (h : BW Q n env B w0 rs (.exit id')) : BW (Exit.inBlock id Q) n env B w0 rs (.exit id') := fun a w hF hH => (if_neg hne).mpr (h a w hF hH)
variable {fn : Func} {R : Ending → World → Prop}
theorem G2 {v : Value} {w : World} (h : Res2 P env rs r v) (hH : Hp B w0 w rs) : Res P env w r v := by
  cases h with
  | tmp h => exact .tmp h
  | cell i hv h hi => exact .cell h hv (hH.row i hi)
theorem An (h1 : Res2 P env rs r1 v1) (hR : ∀ w, Hp B w0 w rs → R (.returned v1) w) (hr : fn.results = #[r1]) : BW (bodyPost P fn R) n env B w0 rs .ret := fun _ w hF hH => Xg hF hr (G2 h1 hH) (hR w hH)
theorem BJ {r2 : ResultVar} {v2 : Value} (h1 : Res2 P env rs r1 v1) (h2 : Res2 P env rs r2 v2) (hR : ∀ w, Hp B w0 w rs → R (.returned (.tuple #[v1, v2])) w) (hr : fn.results = #[r1, r2]) : BW (bodyPost P fn R) n env B w0 rs .ret := fun _ w hF hH => Xh hF hr (G2 h1 hH) (G2 h2 hH) (hR w hH)
theorem JQ (hR : ∀ w, Hp B w0 w rs → R (.returned (.tuple #[])) w) (hr : fn.results = #[]) : BW (bodyPost P fn R) n env B w0 rs .ret := fun _ w hF hH => Xi hF hr (hR w hH)
theorem Dv (hR : ∀ w, Hp B w0 w rs → R (.returned (.tuple #[])) w) (hr : fn.results = #[]) : BW (bodyPost P fn R) n env B w0 rs .normal := fun _ w hF hH => Tw hF hr (hR w hH)
theorem FR {f : FuncId} {c : Code} {args : List Value} {w : World} (n : Nat) (hf : P.funcs[f]? = some fn) (hb : fn.body = some c) (hn : fn.ntmps = n) (hs : Nat.ble args.length n = true) (h : AH P (bodyPost P fn R) n (Fi 0 args) Nil w [] c) : Calls P f args.toArray w R := FY n hf hb hn (Nat.le_of_ble_eq_true hs) fun a hF => h a w hF (Hp.start w)
end wc2
section par2
variable {P : Program} {ops : Array Oper} {Q : Exit → Act → World → Prop} {n : Nat} {B : Nat → Prop} {w0 : World} {rs : List Ass} {env env0 : List (Nat × Value)} {o : Oper} {deps : List Nat} {v : Value} {fl : List ((Nat × Nat) × Nat)} {kk : Nat}
end par2
section orders2
variable {P : Program} {ops : Array Oper} {Q : Exit → Act → World → Prop} {n f i d : Nat} {B : Nat → Prop} {w0 : World} {rs : List Ass} {env env' : List (Nat × Value)} {listed : Array Bool} {o : Oper} {fl : List ((Nat × Nat) × Nat)}
end orders2
section loops
variable {P : Program} {Q : Exit → Act → World → Prop} {n : Nat} {B : Nat → Prop} {w0 : World} {rs rs' : List Ass} {env env' : List (Nat × Value)} {c : Code} {α : Type}
theorem AH.at_ (hs : FX env env') (hr : rs = rs') (h : AH P Q n env' B w0 rs' c) : AH P Q n env B w0 rs c := fun a w hF hH => h a w (hF.keep hs) (hr ▸ hH)
def KB (n : Nat) (B : Nat → Prop) (w0 : World) (E : α → List (Nat × Value)) (R : α → List Ass) (Inv : α → Prop) (μ : α → Nat) (x : α) : Act → World → Prop := fun a w => ∃ y, Inv y ∧ μ y < μ x ∧ Fr n a (E y) ∧ Hp B w0 w (R y)
theorem BT (E : α → List (Nat × Value)) (R : α → List Ass) (Inv : α → Prop) (μ : α → Nat) (x : α) (hx : Inv x) (hE : FX env (E x)) (hR : rs = R x) (h : ∀ x, Inv x → AH P (Exit.then (KB n B w0 E R Inv μ x) Q) n (E x) B w0 (R x) c) : AH P Q n env B w0 rs (.loop c) := by
  subst hR
  intro a w hF hH
  have key : ∀ m x, μ x < m → Inv x → ∀ a w, Fr n a (E x) → Hp B w0 w (R x) → Code.rounds P c Q m a w := by
    intro m
    induction m with
    | zero => intro x hx; omega
    | succ m ih =>
      intro x hm hx a w hF hH
      refine Code.wp_mono (fun e a' w' q => ?_) (h x hx a w hF hH)
      cases e with
      | normal =>
        obtain ⟨y, hy, hlt, hF', hH'⟩ := q
        exact ih y (by omega) hy a' w' hF' hH'
      | _ => exact q
  exact wp_loop_rounds _ (key _ x (Nat.lt_succ_self _) hx a w (hF.keep hE) hH)
theorem Br {E : α → List (Nat × Value)} {R : α → List Ass} {Inv : α → Prop} {μ : α → Nat} {x : α} (y : α) (k : Nat) (hy : Inv y) (hμ : μ y < μ x) (hs : FX env (E y)) (hr : rs.drop k = R y) : BW (Exit.then (KB n B w0 E R Inv μ x) Q) n env B w0 rs .normal := fun _ _ hF hH => ⟨y, hy, hμ, hF.keep hs, hr ▸ hH.drop k⟩
end loops
section orders3
variable {P : Program} {ops : Array Oper} {Q : Exit → Act → World → Prop} {n fu i d : Nat} {B : Nat → Prop} {w0 : World} {rs : List Ass} {env : List (Nat × Value)} {listed : Array Bool} {o : Oper}
end orders3
section textsBs
variable {P : Program} {ops : Array Oper} {Q : Exit → Act → World → Prop} {n d : Nat} {B : Nat → Prop} {w0 : World} {rs : List Ass} {env env0 : List (Nat × Value)} {rest : List Oper} {o : Oper} {a : Act} {w : World} {deps : List Nat} {kk : Nat}
end textsBs
section textsBytes
variable {P : Program} {ops : Array Oper} {Q : Exit → Act → World → Prop} {n : Nat} {B : Nat → Prop} {w0 w : World} {rs : List Ass} {env : List (Nat × Value)} {rest : List Oper} {o : Oper} {d : Nat}
end textsBytes
section par3
variable {P : Program} {ops : Array Oper} {Q : Exit → Act → World → Prop} {n : Nat} {B : Nat → Prop} {w0 : World} {rs : List Ass} {env : List (Nat × Value)}
end par3
section par4
variable {P : Program} {ops : Array Oper} {Q : Exit → Act → World → Prop} {n : Nat} {B : Nat → Prop} {w0 : World} {rs : List Ass} {env : List (Nat × Value)}
def Xn (n : Nat) (B : Nat → Prop) (w0 : World) (E : List (Nat × Value)) (R : List Ass) : Exit → Act → World → Prop := fun e a w => e = .normal ∧ Fr n a E ∧ Hp B w0 w R
theorem Q6 {E : List (Nat × Value)} {R : List Ass} (k : Nat) (hs : FX env E) (hr : rs.drop k = R) : BW (Xn n B w0 E R) n env B w0 rs .normal := fun _ _ hF hH => ⟨rfl, hF.keep hs, hr ▸ hH.drop k⟩
end par4
section does
variable {P : Program} {ops : Array Oper} {Q : Exit → Act → World → Prop} {n d : Nat} {B : Nat → Prop} {w0 : World} {os : List Ass} {env : List (Nat × Value)} {rest l : List Oper} {o : Oper} {c : Code} {e : Exit} {fu : Nat} {ids : List Nat} {listed : Array Bool}
def emp : Ass := fun rs => rs = []
def D7 : Nat → List Ass → List Ass
  | 0, _ => []
  | k + 1, [] => emp :: D7 k []
  | k + 1, x :: r => x :: D7 k r
def DV : List Nat → List Ass → List Ass → List Ass
  | i :: ids, x :: xs, os => DV ids xs (os.set i x)
  | _, _, os => os
def BK : List Nat → Bool
  | [] => true
  | i :: r => !r.elem i && BK r
theorem Bp : ∀ {l : List Nat}, BK l = true → l.Nodup
  | [], _ => List.nodup_nil
  | i :: r, h => by
    unfold BK at h
    simp only [Bool.and_eq_true, Bool.not_eq_true'] at h
    refine List.nodup_cons.2 ⟨fun hm => ?_, Bp h.2⟩
    rw [List.elem_iff.2 hm] at h
    cases h.1
theorem Ex : ∀ {k : Nat} {rs : List RowT}, Ae (List.replicate k emp) rs ↔ rs = []
  | 0, rs => by simp [Ae]
  | k + 1, rs => by
    rw [List.replicate_succ]
    constructor
    · rintro ⟨a, b, e, h1, h2⟩
      have := (Ex (k := k)).1 h2
      unfold emp at h1
      subst h1; subst this
      exact e
    · rintro rfl
      exact ⟨[], [], rfl, rfl, Ex.2 rfl⟩
theorem AA.pad {pre : List Ass} {val : X → Value} {post : X → List Ass} (h : AA P F args pre val post) (k : Nat) : AA P F args (pre ++ List.replicate k emp) val post := fun w rs h1 h2 h3 => by
 obtain ⟨a, b, e, ha, hb⟩ := h1.split
 have := Ex.1 hb
 subst this
 rw [List.append_nil] at e
 subst e
 exact h w _ ha h2 h3
theorem JR : ∀ (k : Nat) (l : List Ass), (D7 k l).length = k
  | 0, _ => rfl
  | k + 1, [] => by simp [D7, JR k []]
  | k + 1, x :: r => by simp [D7, JR k r]
theorem EQ : ∀ {k : Nat} {l : List Ass} {rs : List RowT}, Ae l rs → ∃ rs', rs.Perm rs' ∧ Ae (l.drop k ++ D7 k l) rs'
  | 0, l, rs, h => ⟨rs, .refl _, by simpa [D7] using h⟩
  | k + 1, [], rs, h => by
    obtain ⟨rs', p, h'⟩ := EQ (k := k) (l := []) h
    refine ⟨rs', p, ?_⟩
    simp only [List.drop_nil, List.nil_append] at h' ⊢
    exact ⟨[], rs', rfl, rfl, h'⟩
  | k + 1, x :: r, rs, ⟨a, b, e, h1, h2⟩ => by
    obtain ⟨b', p, h'⟩ := EQ (k := k) h2
    have h3 : Ae (x :: (r.drop k ++ D7 k r)) (a ++ b') := ⟨a, b', rfl, h1, h'⟩
    obtain ⟨c, p2, h4⟩ := h3.perm (os' := r.drop k ++ x :: D7 k r) List.perm_middle.symm
    exact ⟨c, (e ▸ p.append_left a).trans p2, h4⟩
theorem Q7 {ids : List Nat} : ∀ {os : List Ass} {k i : Nat} {x : Ass}, (k + i) ∈ ids → BI ids k (os.set i x) = BI ids k os
  | [], _, _, _, _ => by simp
  | y :: r, k, 0, x, h => by
    have : ids.elem k = true := List.elem_iff.2 h
    rw [List.set_cons_zero, K1 this, K1 this]
  | y :: r, k, i + 1, x, h => by
    have ih := Q7 (os := r) (k := k + 1) (i := i) (x := x) (by rwa [show k + 1 + i = k + (i + 1) by omega])
    rw [List.set_cons_succ]
    cases hk : ids.elem k with
    | true => rw [K1 hk, K1 hk, ih]
    | false => rw [Lq hk, Lq hk, ih]
theorem On {ids0 : List Nat} : ∀ {ids : List Nat} {xs os : List Ass}, (∀ i ∈ ids, i ∈ ids0) → CR ids0 (DV ids xs os) = CR ids0 os
  | [], _, _, _ => by unfold DV; rfl
  | i :: ids, [], _, _ => by unfold DV; rfl
  | i :: ids, x :: xs, os, h => by
    show CR ids0 (DV ids xs (os.set i x)) = _
    rw [On fun j hj => h j (by simp [hj])]
    exact Q7 (k := 0) (by rw [Nat.zero_add]; exact h i (by simp))
theorem Oo : ∀ {ids : List Nat} {xs os : List Ass} {i : Nat}, i ∉ ids → (DV ids xs os)[i]? = os[i]?
  | [], _, _, _, _ => by unfold DV; rfl
  | j :: ids, [], _, _, _ => by unfold DV; rfl
  | j :: ids, x :: xs, os, i, h => by
    show (DV ids xs (os.set j x))[i]? = _
    rw [Oo fun hm => h (by simp [hm]), List.getElem?_set_ne (fun e => h (by simp [e]))]
theorem Oq : ∀ {ids : List Nat} {xs os : List Ass}, ids.Nodup → (∀ i ∈ ids, i < os.length) → xs.length = ids.length → CZ ids (DV ids xs os) = xs
  | [], xs, _, _, _, hl => by
    have : xs = [] := List.length_eq_zero_iff.1 hl
    subst this; rfl
  | i :: ids, [], _, _, _, hl => by simp at hl
  | i :: ids, x :: xs, os, hn, hb, hl => by
    obtain ⟨h1, h2⟩ := List.nodup_cons.1 hn
    have e1 : (DV ids xs (os.set i x))[i]? = some x := by
      rw [Oo h1]
      simp [hb i (by simp)]
    have ih := Oq (ids := ids) (xs := xs) (os := os.set i x) h2 (fun j hj => by rw [List.length_set]; exact hb j (by simp [hj])) (by simpa using hl)
    show List.filterMap _ (i :: ids) = _
    rw [List.filterMap_cons_some (b := x) (by exact e1)]
    exact congrArg _ ih
theorem JS {ids : List Nat} {xs os : List Ass} (hn : ids.Nodup) (hb : (ids.all fun i => Nat.blt i os.length) = true) : (D7 ids.length xs ++ CR ids os).Perm (DV ids (D7 ids.length xs) os) := by
 have hb' : ∀ i ∈ ids, i < os.length := fun i hi => Es (List.all_eq_true.1 hb i hi)
 have := Cy (ids := ids) (os := DV ids (D7 ids.length xs) os) hn
 rwa [Oq hn hb' (JR _ _), On (fun _ h => h)] at this
theorem AA.calls {pre : List Ass} {val : X → Value} {post : X → List Ass} {w : World} (ids : List Nat) (hc : AA P F vs.toArray pre val post) (hp : CZ ids os = pre) (hn : ids.Nodup) (h : Hp B w0 w os) : Calls P F vs.toArray w fun e w' => ∃ x, e = .returned (val x) ∧ Hp B w0 w' (post x ++ CR ids os) := by
 subst hp
 obtain ⟨x, h1, h2, h3, h4⟩ := h.give ids hn
 exact (hc w x h1 h2 h3).mono fun e w' ⟨v, he, y, hy, hch⟩ => ⟨v, he, h4 _ y w' hy hch⟩
def AR {X : Type} (P : Program) (Q : Exit → Act → World → Prop) (n : Nat) (env : List (Nat × Value)) (B : Nat → Prop) (w0 : World) (os : List Ass) (o : Oper) (val : X → Value) (post : X → List Ass) : Prop :=
  ∀ (b : Act) (w : World), Hp B w0 w os → Fr n b env → ∀ K : Act → World → Prop, (∀ x w', Hp B w0 w' (post x) → K (b.put o.dst (val x)) w') → o.wp P b w K Q
theorem AQ {val : X → Value} {post : X → List Ass} (h1 : K7 ops n o env = some d) (ha : AR P Q n env B w0 os o val post) (h : ∀ x, A5 P ops Q n ((d, val x) :: env) B w0 (post x) rest) : A5 P ops Q n env B w0 os (o :: rest) := fun a w hF hH =>
 JP hF (BE h1).1 fun K hK => ha a w hH hF K fun x w' hp => by
  rw [(BE h1).2.1]
  exact hK _ _ (h x _ _ (hF.put (BE h1).2.2 _) hp)
theorem Bt {val : X → Value} {post : X → List Ass} (hg : wants ops o env = some true) (hd : o.dst = none) (ha : AR P Q n env B w0 os o val post) (h : ∀ x, A5 P ops Q n env B w0 (post x) rest) : A5 P ops Q n env B w0 os (o :: rest) := fun a w hF hH =>
 JP hF hg fun K hK => ha a w hH hF K fun x w' hp => by
  rw [hd]
  exact hK _ _ (h x _ _ hF hp)
theorem Fm {r : Value} (b : Act) (hrun : (execOp b.eval o).run P w0 = .ok (.value r) w') (h : K (b.put o.dst r) w') : o.wp P b w0 K Q := by
 unfold Oper.wp
 rw [hrun, Oper.upon_value]
 exact h
theorem AM {args : Array Operand} {pre : List Ass} {val : X → Value} {post : X → List Ass} {os' : X → List Ass} (ids : List Nat) (pads : Nat) (hE : Tv P F) (hc : AA P F vs.toArray pre val post) (hp : CZ ids os = pre ++ List.replicate pads emp) (hn : BK ids = true) (hb : (ids.all fun i => Nat.blt i os.length) = true) (he : ∀ x, (post x).drop ids.length ++ DV ids (D7 ids.length (post x)) os = os' x) (ho : o.op = .call { callee := .value f, args := args, argTypes := ats }) (hf : evs env f = some (.func (.func F) #[] #[])) (hx : evl env args.toList = some vs) :
  AR P Q n env B w0 os o val os' := fun b w hH hb' K hK => by
 unfold Oper.wp
 rw [HK hE ho hf hx hb', Oper.upon_enter]
 refine (AA.calls ids (hc.pad pads) hp (Bp hn) hH).mono ?_
 rintro e w' ⟨x, rfl, hq⟩
 refine hK x w' (he x ▸ Hp.imp hq fun rs h => ?_)
 obtain ⟨a, c, e, ha, hc'⟩ := h.split
 obtain ⟨a', p, ha'⟩ := EQ (k := ids.length) ha
 have h2 := Ae.app ha' hc'
 rw [List.append_assoc] at h2
 obtain ⟨r2, p2, h3⟩ := h2.perm ((JS (xs := post x) (Bp hn) hb).append_left _)
 exact ⟨r2, e ▸ (p.append_right c).trans p2, h3⟩
theorem Da {args : Array Operand} {v : Value} (hE : Tv P F) (hc : ∀ w, Hp B w0 w os → Calls P F vs.toArray w fun e w' => e = .returned v ∧ Below w.heap.size w w') (ho : o.op = .call { callee := .value f, args := args, argTypes := ats }) (hf : evs env f = some (.func (.func F) #[] #[])) (hx : evl env args.toList = some vs) :
  AR P Q n env B w0 os o (fun _ : Unit => v) (fun _ => os) := fun b w hH hb K hK => by
 unfold Oper.wp
 rw [HK hE ho hf hx hb, Oper.upon_enter]
 refine (hc w hH).mono ?_
 rintro e w' ⟨rfl, hbl⟩
 exact hK () w' (hH.call hbl)
theorem AR.imp {X : Type} {val : X → Value} {post post' : X → List Ass} (h : AR P Q n env B w0 os o val post) (he : ∀ x rs, Ae (post x) rs → ∃ rs', rs.Perm rs' ∧ Ae (post' x) rs') : AR P Q n env B w0 os o val post' := fun b w hH hb K hK => h b w hH hb K fun x w' hp => hK x w' (hp.imp (he x))
theorem AR.s {val : X → Value} {post : X → List Ass} {S : Value → List Ass} (h : AR P Q n env B w0 os o val post) (he : ∀ x, post x = S (val x)) : ∀ (b : Act) (w : World), Hp B w0 w os → Fr n b env → ∀ K : Act → World → Prop, (∀ v w', Hp B w0 w' (S v) → K (b.put o.dst v) w') → o.wp P b w K Q := fun b w hH hb K hK => h b w hH hb K fun x w' hp => hK _ w' (he x ▸ hp)
theorem AR.su {v0 : Value} {post : Unit → List Ass} {os' : Value → List Ass} (h : AR P Q n env B w0 os o (fun _ : Unit => v0) post) (he : post () = os' undef) : ∀ (b : Act) (w : World), Hp B w0 w os → Fr n b env → ∀ K : Act → World → Prop, (∀ v w', Hp B w0 w' (os' v) → K (b.put o.dst v0) w') → o.wp P b w K Q := fun b w hH hb K hK => h b w hH hb K fun x w' hp => hK undef w' (he ▸ hp)
theorem TJ {v : Value} (ho : o.op = .box T x) (hx : evs env x = some v) (hc : v.cells = cs) : AR P Q n env B w0 os o (fun g : Nat => .pointer (some ⟨g, 0, none⟩)) (fun g => cell g T cs :: os) := fun b w hH hb K hK => by
 have hrun : (execOp b.eval o).run P w = .ok (.value (.pointer (some ⟨w.heap.size, 0, none⟩))) (w.alloc (.cells cs T)) := by
  unfold execOp
  simp [ho, hb.evs hx, Instr.box, newVar, newRow, hc]
 unfold Oper.wp
 rw [hrun, Oper.upon_value]
 exact hK _ _ (hH.new T cs)
theorem VF {zs : Array Value} (hz : K0 P T zs) (ho : o.op = .alloc T) : AR P Q n env B w0 os o (fun g : Nat => .pointer (some ⟨g, 0, none⟩)) (fun g => cell g T zs :: os) := fun b w hH hb K hK => by
 unfold Oper.wp
 rw [PK ho hz, Oper.upon_value]
 exact hK _ _ (hH.new T zs)
theorem CW (i : Nat) {y : Operand} {off : Nat} {v : Value} (c : Array Value) (hs : ∀ w, (sizeOf T).run P w = .ok k w) (hk : v.cells.size = k) (hl : Nat.ble (off + k) cs.size = true) (hone : MI v.cells.toList = true) (hc : (over? cs.toList off v.cells.toList).toArray = c) (hd : o.dst = none) (ho : o.op = .store T x y)
  (hx : evs env x = some (.pointer (some ⟨g, off, none⟩))) (hy : evs env y = some v) (hi : os[i]? = some (cell g t cs)) : AR P Q n env B w0 os o (fun _ : Unit => undef) (fun _ => os.set i (cell g t c)) := fun a w hH hF K hK => by
 obtain ⟨w', hr, hR', hm⟩ := Cw (P := P) g t v.cells.toList 0 cs w off (hH.row i hi) (by have := Nat.le_of_ble_eq_true hl; simp; omega) (fun u hu => (List.all_eq_true.1 (GZ hone)) u hu)
 have hrun : (execOp a.eval o).run P w = .ok .skip w' := by
  unfold execOp
  simp [ho, hF.evs hx, hF.evs hy, Instr.storeAt, Instr.sureAddr, storeVar, hs, hk, hr]
 have hR2 : CQ w' g t c := by rw [← hc]; simpa [over?] using hR'
 unfold Oper.wp
 rw [hrun, Oper.upon_skip]
 have := hK () w' (hH.set i hi hm hR2)
 rw [hd] at this ⊢
 exact this
theorem A5.via (os' : X → List Ass) (hi : ∀ rs, Ae os rs → ∃ x, ∃ rs', rs.Perm rs' ∧ Ae (os' x) rs') (h : ∀ x, A5 P ops Q n env B w0 (os' x) l) : A5 P ops Q n env B w0 os l := fun a w hF ⟨rs, h1, h2⟩ => by
 obtain ⟨x, rs', p, h3⟩ := hi rs h1
 exact h x a w hF ⟨rs', h3, Cz h2 p⟩
theorem AH.via (os' : X → List Ass) (hi : ∀ rs, Ae os rs → ∃ x, ∃ rs', rs.Perm rs' ∧ Ae (os' x) rs') (h : ∀ x, AH P Q n env B w0 (os' x) c) : AH P Q n env B w0 os c := fun a w hF ⟨rs, h1, h2⟩ => by
 obtain ⟨x, rs', p, h3⟩ := hi rs h1
 exact h x a w hF ⟨rs', h3, Cz h2 p⟩
theorem BW.via (os' : X → List Ass) (hi : ∀ rs, Ae os rs → ∃ x, ∃ rs', rs.Perm rs' ∧ Ae (os' x) rs') (h : ∀ x, BW Q n env B w0 (os' x) e) : BW Q n env B w0 os e := fun a w hF ⟨rs, h1, h2⟩ => by
 obtain ⟨x, rs', p, h3⟩ := hi rs h1
 exact h x a w hF ⟨rs', h3, Cz h2 p⟩
theorem A5.mid (os' : List Ass) (hp : os.Perm os') (h : A5 P ops Q n env B w0 os' l) : A5 P ops Q n env B w0 os l := fun a w hF hH => h a w hF (hH.perm hp)
theorem AH.mid (os' : List Ass) (hp : os.Perm os') (h : AH P Q n env B w0 os' c) : AH P Q n env B w0 os c := fun a w hF hH => h a w hF (hH.perm hp)
theorem BW.mid (os' : List Ass) (hp : os.Perm os') (h : BW Q n env B w0 os' e) : BW Q n env B w0 os e := fun a w hF hH => h a w hF (hH.perm hp)
theorem TK {o : Ass} (hi : os[i]? = some o) : os.Perm (o :: CR [i] os) := by
 have := (Cy (ids := [i]) (os := os) (by simp)).symm
 unfold CZ at this
 rw [List.filterMap_cons_some hi] at this
 exact this
theorem ER {o : Ass} (i : Nat) (hi : os[i]? = some o) (hp : ∀ rs, o rs → p) {w : World} (h : Hp B w0 w os) : p := by
 obtain ⟨x, hx, _⟩ := h.thing i hi
 exact hp x hx
theorem A5.fact {o : Ass} (i : Nat) (hi : os[i]? = some o) (hp : ∀ rs, o rs → p) (h : p → A5 P ops Q n env B w0 os l) : A5 P ops Q n env B w0 os l := fun a w hF hH => h (ER i hi hp hH) a w hF hH
theorem AH.fact {o : Ass} (i : Nat) (hi : os[i]? = some o) (hp : ∀ rs, o rs → p) (h : p → AH P Q n env B w0 os c) : AH P Q n env B w0 os c := fun a w hF hH => h (ER i hi hp hH) a w hF hH
theorem BW.fact {o : Ass} (i : Nat) (hi : os[i]? = some o) (hp : ∀ rs, o rs → p) (h : p → BW Q n env B w0 os e) : BW Q n env B w0 os e := fun a w hF hH => h (ER i hi hp hH) a w hF hH
theorem Jf {A : α → List Ass} {o : Ass} (hi : os[i]? = some o) (ho : ∀ rs, o rs → ∃ x, Ae (A x) rs) : ∀ rs, Ae os rs → ∃ x, ∃ rs', rs.Perm rs' ∧ Ae (A x ++ CR [i] os) rs' := fun rs h => by
 obtain ⟨rs1, p, a, b, e, h1, h2⟩ := h.perm (TK hi)
 obtain ⟨x, h3⟩ := ho a h1
 exact ⟨x, rs1, p, e ▸ h3.app h2⟩
theorem Fo {A : α → List Ass} {t : Ass} {os' : α → List Ass} (i : Nat) (hi : os[i]? = some t) (ho : ∀ rs, t rs → ∃ x, Ae (A x) rs) (he : ∀ x, A x ++ CR [i] os = os' x) (h : ∀ x, A5 P ops Q n env B w0 (os' x) l) : A5 P ops Q n env B w0 os l := A5.via _ (Jf hi ho) fun x => he x ▸ h x
theorem FT {A : α → List Ass} {t : Ass} {os' : α → List Ass} (i : Nat) (hi : os[i]? = some t) (ho : ∀ rs, t rs → ∃ x, Ae (A x) rs) (he : ∀ x, A x ++ CR [i] os = os' x) (h : ∀ x, AH P Q n env B w0 (os' x) c) : AH P Q n env B w0 os c := AH.via _ (Jf hi ho) fun x => he x ▸ h x
theorem Xo {A : α → List Ass} {t : Ass} {os' : α → List Ass} (i : Nat) (hi : os[i]? = some t) (ho : ∀ rs, t rs → ∃ x, Ae (A x) rs) (he : ∀ x, A x ++ CR [i] os = os' x) (h : ∀ x, BW Q n env B w0 (os' x) e) : BW Q n env B w0 os e := BW.via _ (Jf hi ho) fun x => he x ▸ h x
theorem G3 {t : Ass} (ids : List Nat) (hn : BK ids = true) (ht : ∀ rs, Ae (CZ ids os) rs → t rs) : ∀ rs, Ae os rs → ∃ _ : Unit, ∃ rs', rs.Perm rs' ∧ Ae (t :: CR ids os) rs' := fun rs h => by
 obtain ⟨rs1, p, h1⟩ := h.perm (Cy (os := os) (Bp hn)).symm
 obtain ⟨a, b, e, h2, h3⟩ := h1.split
 exact ⟨(), rs1, p, a, b, e, ht a h2, h3⟩
theorem VG {t : Ass} {os' : List Ass} (ids : List Nat) (hn : BK ids = true) (ht : ∀ rs, Ae (CZ ids os) rs → t rs) (he : t :: CR ids os = os') (h : A5 P ops Q n env B w0 os' l) : A5 P ops Q n env B w0 os l := A5.via (fun _ : Unit => _) (G3 ids hn ht) fun _ => he ▸ h
theorem Gn {t : Ass} {os' : List Ass} (ids : List Nat) (hn : BK ids = true) (ht : ∀ rs, Ae (CZ ids os) rs → t rs) (he : t :: CR ids os = os') (h : AH P Q n env B w0 os' c) : AH P Q n env B w0 os c := AH.via (fun _ : Unit => _) (G3 ids hn ht) fun _ => he ▸ h
theorem Cg {t : Ass} {os' : List Ass} (ids : List Nat) (hn : BK ids = true) (ht : ∀ rs, Ae (CZ ids os) rs → t rs) (he : t :: CR ids os = os') (h : BW Q n env B w0 os' e) : BW Q n env B w0 os e := BW.via (fun _ : Unit => _) (G3 ids hn ht) fun _ => he ▸ h
theorem Ey (k : Nat) {os' : List Ass} (he : List.replicate k emp ++ os = os') (h : AH P Q n env B w0 os' c) : AH P Q n env B w0 os c := AH.via (fun _ : Unit => os') (fun rs hp => ⟨(), rs, .refl _, he ▸ (Ae.app (Ex.2 rfl) hp : Ae _ ([] ++ rs))⟩) fun _ => h
theorem AH.leave {os' : List Ass} (ids : List Nat) (hn : BK ids = true) (he : CR ids os = os') (h : AH P Q n env B w0 os' c) : AH P Q n env B w0 os c := fun a w hF hH => h a w hF (by
 have := (hH.perm (Cy (os := os) (Bp hn)).symm).drop (CZ ids os).length
 rw [List.drop_left] at this
 exact he ▸ this)
theorem A5.leave {os' : List Ass} (ids : List Nat) (hn : BK ids = true) (he : CR ids os = os') (h : A5 P ops Q n env B w0 os' l) : A5 P ops Q n env B w0 os l := fun a w hF hH => h a w hF (by
 have := (hH.perm (Cy (os := os) (Bp hn)).symm).drop (CZ ids os).length
 rw [List.drop_left] at this
 exact he ▸ this)
theorem BW.leave {os' : List Ass} (ids : List Nat) (hn : BK ids = true) (he : CR ids os = os') (h : BW Q n env B w0 os' e) : BW Q n env B w0 os e := fun a w hF hH => h a w hF (by
 have := (hH.perm (Cy (os := os) (Bp hn)).symm).drop (CZ ids os).length
 rw [List.drop_left] at this
 exact he ▸ this)
def Dm (r : Option Value) (f : Value → Ass) (d : Ass) : Ass := match r with | some v => f v | none => d
end does
section entry
variable {P : Program} {fn : Func}
theorem AP {f : FuncId} {c : Code} {args : List Value} {pre : List Ass} {val : X → Value} {post : X → List Ass} (n : Nat) (hf : P.funcs[f]? = some fn) (hb : fn.body = some c) (hn : fn.ntmps = n) (hs : Nat.ble args.length n = true)
  (h : ∀ (w : World) (rs : List RowT), AH P (bodyPost P fn fun e w' => ∃ x, e = .returned (val x) ∧ ∃ rs', Ae (post x) rs' ∧ Chg w w' rs rs') n (Fi 0 args) (BC rs) w pre c) : AA P f args.toArray pre val post :=
 fun w rs h1 h2 h3 => FY n hf hb hn (Nat.le_of_ble_eq_true hs) fun a hF => h w rs a w hF (Hp.given h1 h2 h3)
theorem As {w0 : World} {os : List Ass} {val : X → Value} {post : X → List Ass} (x : X) {v : Value} (hv : v = val x) (ids : List Nat) (hn : BK ids = true) (h : Hp (BC rs) w0 w' os) (hp : ∀ y, Ae (CZ ids os) y → ∃ z, y.Perm z ∧ Ae (post x) z) : ∃ x, Ending.returned v = .returned (val x) ∧ ∃ rs', Ae (post x) rs' ∧ Chg w0 w' rs rs' := by
 obtain ⟨y, h1, h2⟩ := h.tell ids (Bp hn)
 obtain ⟨z, p, h3⟩ := hp y h1
 exact ⟨x, by rw [hv], z, h3, HU h2 p⟩
theorem AA.imp {pre pre' : List Ass} {val : X → Value} {post : X → List Ass} (h : AA P F args pre val post) (hi : ∀ rs, Ae pre' rs → ∃ rs', rs.Perm rs' ∧ Ae pre rs') : AA P F args pre' val post := fun w rs h1 h2 h3 => by
 obtain ⟨rs', p, h4⟩ := hi rs h1
 refine (h w rs' h4 (AZ.2 fun z hz => h2.mem z (p.mem_iff.2 hz)) (AT.2 ((p.map _).nodup_iff.1 (AT.1 h3)))).mono ?_
 rintro e w' ⟨x, he, y, hy, hc⟩
 exact ⟨x, he, y, hy, Om hc p.symm⟩
theorem DK {os : List Ass} : ∀ y, Ae os y → ∃ z, y.Perm z ∧ Ae os z := fun y h => ⟨y, .refl _, h⟩
end entry
end Go.Proofs.YtjcfimmcogkopaaGreatDoor.Sep
