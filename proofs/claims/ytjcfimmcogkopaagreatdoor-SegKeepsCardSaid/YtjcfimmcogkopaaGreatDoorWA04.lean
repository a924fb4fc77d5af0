/-
  Sep
-/
import Derived.Test.YtjcfimmcogkopaaGreatDoorWA03
set_option linter.unusedSimpArgs false
set_option linter.unusedVariables false
namespace Go.Proofs.YtjcfimmcogkopaaGreatDoor.Sep
open Go.RowKit
open Go.Proofs.YtjcfimmcogkopaaGreatDoor.Mem (Bb Ci Chg Vg XC Fv Aw)
abbrev Ass := List RowT → Prop
def cell (g : Nat) (t : TypeId) (cs : Array Value) : Ass := fun rs => rs = [(g, Fa t, cs)]
def fact (p : Prop) : Ass := fun rs => rs = [] ∧ p
def ex {α : Type} (A : α → Ass) : Ass := fun rs => ∃ x, A x rs
def Am : List Ass → List RowT → Prop
  | [], rs => rs = []
  | o :: os, rs => ∃ a b, rs = a ++ b ∧ o a ∧ Am os b
def Fk (l : List Ass) : Ass := Am l
section parts
variable {os os' : List Ass} {rs : List RowT}
theorem Am.app : ∀ {os os' : List Ass} {a b : List RowT}, Am os a → Am os' b → Am (os ++ os') (a ++ b)
  | [], _, a, b, h, h' => by unfold Am at h; subst h; exact h'
  | o :: os, os', a, b, h, h' => by
    obtain ⟨x, y, e, h1, h2⟩ := h
    exact ⟨x, y ++ b, by rw [e, List.append_assoc], h1, h2.app h'⟩
theorem Am.split : ∀ {os os' : List Ass} {rs : List RowT}, Am (os ++ os') rs → ∃ a b, rs = a ++ b ∧ Am os a ∧ Am os' b
  | [], _, rs, h => ⟨[], rs, rfl, rfl, h⟩
  | o :: os, os', rs, h => by
    obtain ⟨x, y, e, h1, h2⟩ := h
    obtain ⟨a, b, e', h3, h4⟩ := Am.split h2
    exact ⟨x ++ a, b, by rw [e, e', List.append_assoc], ⟨x, a, rfl, h1, h3⟩, h4⟩
theorem Am.perm {os os' : List Ass} (hp : os.Perm os') : ∀ {rs : List RowT}, Am os rs → ∃ rs', rs.Perm rs' ∧ Am os' rs' := by
  induction hp with
  | nil => exact fun {rs} h => ⟨rs, .refl _, h⟩
  | cons o _ ih =>
    rintro rs ⟨a, b, e, h1, h2⟩
    obtain ⟨b', hp, h3⟩ := ih h2
    exact ⟨a ++ b', e ▸ hp.append_left a, a, b', rfl, h1, h3⟩
  | swap o o' l =>
    rintro rs ⟨a, b, e, h1, c, d, e', h2, h3⟩
    refine ⟨c ++ (a ++ d), ?_, c, a ++ d, rfl, h2, a, d, rfl, h1, h3⟩
    rw [e, e', ← List.append_assoc, ← List.append_assoc]
    exact List.perm_append_comm.append_right d
  | trans _ _ ih1 ih2 =>
    intro rs h
    obtain ⟨r1, p1, h1⟩ := ih1 h
    obtain ⟨r2, p2, h2⟩ := ih2 h1
    exact ⟨r2, p1.trans p2, h2⟩
theorem Am.one {o : Ass} {rs : List RowT} (h : o rs) : Am [o] rs := ⟨rs, [], by simp, h, rfl⟩
theorem Am.one' {o : Ass} {rs : List RowT} (h : Am [o] rs) : o rs := by
 obtain ⟨a, b, e, h1, h2⟩ := h
 unfold Am at h2
 subst h2
 rw [List.append_nil] at e
 exact e ▸ h1
def XI : List Ass → List Ass → Prop
  | [], [] => True
  | o :: os, o' :: os' => (∀ rs, o rs → o' rs) ∧ XI os os'
  | _, _ => False
theorem Am.imp : ∀ {os os' : List Ass} {rs : List RowT}, XI os os' → Am os rs → Am os' rs
  | [], [], _, _, h => h
  | o :: os, o' :: os', _, hi, ⟨a, b, e, h1, h2⟩ => ⟨a, b, e, hi.1 a h1, h2.imp hi.2⟩
  | [], _ :: _, _, hi, _ => hi.elim
  | _ :: _, [], _, hi, _ => hi.elim
end parts
def Ee (ids : List Nat) (os : List Ass) : List Ass := ids.filterMap (os[·]?)
def Ct (ids : List Nat) : Nat → List Ass → List Ass
  | _, [] => []
  | k, x :: r => match ids.elem k with | true => Ct ids (k + 1) r | false => x :: Ct ids (k + 1) r
def DD (ids : List Nat) (os : List Ass) : List Ass := Ct ids 0 os
theorem Lo {ids : List Nat} {k : Nat} {x : Ass} {r : List Ass} (h : ids.elem k = true) : Ct ids k (x :: r) = Ct ids (k + 1) r := by
 conv => lhs; unfold Ct
 rw [h]
theorem MG {ids : List Nat} {k : Nat} {x : Ass} {r : List Ass} (h : ids.elem k = false) : Ct ids k (x :: r) = x :: Ct ids (k + 1) r := by
 conv => lhs; unfold Ct
 rw [h]
theorem Nu {ids : List Nat} {i k : Nat} (h : k ≠ i) : (i :: ids).elem k = ids.elem k := by
  have : (k == i) = false := by simpa using h
  show (match k == i with | true => true | false => ids.elem k) = _
  rw [this]
theorem Vo {ids : List Nat} {k : Nat} : (k :: ids).elem k = true := by
  show (match k == k with | true => true | false => ids.elem k) = _
  simp
theorem Jn : ∀ (k : Nat) (os : List Ass), Ct [] k os = os
  | _, [] => rfl
  | k, x :: r => by rw [MG rfl, Jn (k + 1) r]
theorem GL {i : Nat} {ids : List Nat} : ∀ {k : Nat} {os : List Ass}, i < k → Ct (i :: ids) k os = Ct ids k os
  | _, [], _ => rfl
  | k, x :: r, h => by
    have e : (i :: ids).elem k = ids.elem k := Nu (by omega)
    cases hk : ids.elem k with
    | true => rw [Lo (e.trans hk), Lo hk, GL (by omega)]
    | false => rw [MG (e.trans hk), MG hk, GL (by omega)]
theorem IF {ids : List Nat} : ∀ {os : List Ass} {o : Ass} {k i : Nat}, k + i ∉ ids → os[i]? = some o → (Ct ids k os).Perm (o :: Ct ((k + i) :: ids) k os)
  | [], o, k, i, _, h => by simp at h
  | x :: r, o, k, 0, hm, h => by
    simp only [List.getElem?_cons_zero, Option.some.injEq] at h
    subst h
    have h1 : ids.elem k = false := by
      cases hk : ids.elem k with
      | false => rfl
      | true => exact absurd (List.elem_iff.1 hk) hm
    rw [MG h1]
    show List.Perm _ (x :: Ct (k :: ids) k (x :: r))
    rw [Lo Vo, GL (by omega)]
  | x :: r, o, k, i + 1, hm, h => by
    simp only [List.getElem?_cons_succ] at h
    have := IF (k := k + 1) (by rwa [show k + 1 + i = k + (i + 1) by omega]) h
    rw [show k + 1 + i = k + (i + 1) by omega] at this
    have e : ((k + (i + 1)) :: ids).elem k = ids.elem k := Nu (by omega)
    cases hk : ids.elem k with
    | true => rw [Lo hk, Lo (e.trans hk)]; exact this
    | false => rw [MG hk, MG (e.trans hk)]; exact (this.cons x).trans (.swap o x _)
theorem IG {ids : List Nat} : ∀ {os : List Ass} {k i : Nat}, os[i]? = none → Ct ((k + i) :: ids) k os = Ct ids k os
  | [], _, _, _ => rfl
  | x :: r, k, 0, h => by simp at h
  | x :: r, k, i + 1, h => by
    simp only [List.getElem?_cons_succ] at h
    have := IG (ids := ids) (k := k + 1) h
    rw [show k + 1 + i = k + (i + 1) by omega] at this
    have e : ((k + (i + 1)) :: ids).elem k = ids.elem k := Nu (by omega)
    cases hk : ids.elem k with
    | true => rw [Lo hk, Lo (e.trans hk)]; exact this
    | false => rw [MG hk, MG (e.trans hk), this]
theorem Dj : ∀ {ids : List Nat} {os : List Ass}, ids.Nodup → (Ee ids os ++ DD ids os).Perm os := by
  intro ids os
  induction ids with
  | nil => intro _; unfold DD; rw [Jn]; exact .refl _
  | cons i ids ih =>
    intro hn
    obtain ⟨h1, h2⟩ := List.nodup_cons.1 hn
    refine .trans ?_ (ih h2)
    cases hi : os[i]? with
    | none =>
      have e : DD (i :: ids) os = DD ids os := by
        have := IG (ids := ids) (k := 0) hi
        rwa [Nat.zero_add] at this
      rw [e]
      show (List.filterMap _ (i :: ids) ++ _).Perm _
      rw [List.filterMap_cons_none hi]
      exact .refl _
    | some o =>
      have h := IF (k := 0) (by rwa [Nat.zero_add]) hi
      rw [Nat.zero_add] at h
      show (List.filterMap _ (i :: ids) ++ _).Perm _
      rw [List.filterMap_cons_some hi]
      have e : (Ee ids os ++ o :: DD (i :: ids) os).Perm (Ee ids os ++ DD ids os) := List.Perm.append_left _ h.symm
      refine .trans ?_ e
      exact List.perm_middle.symm
theorem Bu : ∀ {rs : List RowT}, Bb rs ↔ (rs.map (·.1)).Nodup
  | [] => by simp [Bb]
  | x :: r => by
    unfold Bb
    rw [List.map_cons, List.nodup_cons, Bu (rs := r)]
    refine and_congr ⟨fun h hm => ?_, fun h y hy e => h ?_⟩ Iff.rfl
    · obtain ⟨y, hy, e⟩ := List.mem_map.1 hm
      exact h y hy e
    · exact List.mem_map.2 ⟨y, hy, e⟩
theorem BC {w : World} {rs : List RowT} : RowsOf w rs ↔ ∀ x ∈ rs, Do w x := ⟨fun h => h.mem, fun h => Mem.RowsOf.ofAll h⟩
section known
variable {B : Nat → Prop} {w0 w w' : World} {rs rs' a b c : List RowT}
theorem Dk (h : Mem.Hp B w0 w rs) (hp : rs.Perm rs') : Mem.Hp B w0 w rs' :=
 ⟨h.up, BC.2 fun x hx => h.rows.mem x (hp.mem_iff.2 hx), Bu.2 ((hp.map _).nodup_iff.1 (Bu.1 h.apart)), fun x hx => h.own x (hp.mem_iff.2 hx)⟩
theorem Oj {w' : World} (h : Chg w w' a b) (hp : a.Perm c) : Chg w w' c b := ⟨h.mod.weaken fun j _ ⟨x, hx, e⟩ => ⟨x, hp.mem_iff.1 hx, e⟩, h.rows, h.dist, fun x hx hlt => by obtain ⟨y, hy, e⟩ := h.from_ x hx hlt; exact ⟨y, hp.mem_iff.1 hy, e⟩⟩
theorem Ie {w' : World} (h : Chg w w' a b) (hp : b.Perm c) : Chg w w' a c := ⟨h.mod, BC.2 fun x hx => h.rows.mem x (hp.mem_iff.2 hx), Bu.2 ((hp.map _).nodup_iff.1 (Bu.1 h.dist)), fun x hx => h.from_ x (hp.mem_iff.2 hx)⟩
theorem FL (h : Mem.Hp B w0 w (a ++ b)) (hc : Chg w w' a c) : Mem.Hp B w0 w' (c ++ b) := by
  have hd := Bu.1 h.apart
  rw [List.map_append] at hd
  have hne : ∀ x ∈ a, ∀ y ∈ b, y.1 ≠ x.1 := fun x hx y hy e => (List.nodup_append.1 hd).2.2 x.1 (List.mem_map.2 ⟨x, hx, rfl⟩) y.1 (List.mem_map.2 ⟨y, hy, rfl⟩) e.symm
  have hnb : ∀ y ∈ b, ¬ Ci a y.1 := fun y hy ⟨x, hx, e⟩ => hne x hx y hy e.symm
  have hold : ∀ y ∈ b, Do w y := fun y hy => h.rows.mem y (by simp [hy])
  refine ⟨h.up.trans hc.mod (fun j hj ⟨x, hx, e⟩ => e ▸ h.own x (by simp [hx]) (e ▸ hj)), ?_, ?_, ?_⟩
  · refine BC.2 fun x hx => ?_
    rcases List.mem_append.1 hx with hx | hx
    · exact hc.rows.mem x hx
    · exact (hold x hx).mod hc.mod (hnb x hx)
  · refine Mem.dist_app hc.dist (Bu.2 (List.nodup_append.1 hd).2.1) fun x hx y hy e => ?_
    have hlt := (hold y hy).lt
    rw [e] at hlt
    exact hnb y hy (e ▸ hc.from_ x hx hlt)
  · intro x hx hlt
    rcases List.mem_append.1 hx with hx | hx
    · have := h.up.size
      obtain ⟨y, hy, e⟩ := hc.from_ x hx (by omega)
      exact e ▸ h.own y (by simp [hy]) (e ▸ hlt)
    · exact h.own x (by simp [hx]) hlt
end known
def Hp (B : Nat → Prop) (w0 w : World) (os : List Ass) : Prop := ∃ rs, Am os rs ∧ Mem.Hp B w0 w rs
section hp
variable {B : Nat → Prop} {w0 w w' : World} {os os' : List Ass} {rs : List RowT}
theorem Hp.up (h : Hp B w0 w os) : Mod B w0 w := by obtain ⟨_, _, h⟩ := h; exact h.up
theorem Hp.perm (h : Hp B w0 w os) (hp : os.Perm os') : Hp B w0 w os' := by
 obtain ⟨rs, h1, h2⟩ := h
 obtain ⟨rs', p, h3⟩ := h1.perm hp
 exact ⟨rs', h3, Dk h2 p⟩
theorem Hp.start (w : World) : Hp Nil w w [] := ⟨[], rfl, Mem.Hp.start w⟩
theorem Hp.given (h1 : Am os rs) (h2 : RowsOf w rs) (h3 : Bb rs) : Hp (Ci rs) w w os := ⟨rs, h1, Mem.Hp.given h2 h3⟩
theorem Hp.call (h : Hp B w0 w os) (hb : Below w.heap.size w w') : Hp B w0 w' os := by obtain ⟨rs, h1, h2⟩ := h; exact ⟨rs, h1, h2.call hb⟩
theorem Hp.drew (h : Hp B w0 w os) : Hp B w0 w.drew os := by obtain ⟨rs, h1, h2⟩ := h; exact ⟨rs, h1, h2.drew⟩
theorem Hp.new (h : Hp B w0 w os) (t : TypeId) (cs : Array Value) : Hp B w0 (w.alloc (.cells cs t)) (cell w.heap.size t cs :: os) := by
 obtain ⟨rs, h1, h2⟩ := h
 exact ⟨(w.heap.size, Fa t, cs) :: rs, ⟨[(w.heap.size, Fa t, cs)], rs, rfl, rfl, h1⟩, h2.new t cs⟩
theorem Am.at_ : ∀ {os : List Ass} {rs : List RowT} {i : Nat} {o : Ass}, Am os rs → os[i]? = some o → ∃ a x b, rs = a ++ (x ++ b) ∧ o x ∧ ∀ (o' : Ass) (y : List RowT), o' y → Am (os.set i o') (a ++ (y ++ b))
  | [], _, i, o, _, hi => by simp at hi
  | p :: os, rs, 0, o, ⟨a, b, e, h1, h2⟩, hi => by
    simp only [List.getElem?_cons_zero, Option.some.injEq] at hi
    subst hi
    exact ⟨[], a, b, by simpa using e, h1, fun o' y h => ⟨y, b, rfl, h, h2⟩⟩
  | p :: os, rs, i + 1, o, ⟨a, b, e, h1, h2⟩, hi => by
    simp only [List.getElem?_cons_succ] at hi
    obtain ⟨a', x, b', e', h3, h4⟩ := Am.at_ h2 hi
    exact ⟨a ++ a', x, b', by rw [e, e', List.append_assoc], h3, fun o' y h => ⟨a, a' ++ (y ++ b'), by rw [List.append_assoc], h1, h4 o' y h⟩⟩
theorem Hp.thing (h : Hp B w0 w os) (i : Nat) {o : Ass} (hi : os[i]? = some o) : ∃ x, o x ∧ RowsOf w x := by
 obtain ⟨rs, h1, h2⟩ := h
 obtain ⟨a, x, b, e, h3, _⟩ := h1.at_ hi
 refine ⟨x, h3, BC.2 fun y hy => h2.rows.mem y ?_⟩
 rw [e]; simp [hy]
theorem Hp.row (h : Hp B w0 w os) (i : Nat) {g : Nat} {t : TypeId} {cs : Array Value} (hi : os[i]? = some (cell g t cs)) : Dy w g t cs := by
 obtain ⟨x, hx, hr⟩ := h.thing i hi
 unfold cell at hx
 subst hx
 exact hr.1
theorem Hp.turn (h : Hp B w0 w os) (i : Nat) {o o' : Ass} (hi : os[i]? = some o) (hc : ∀ x, o x → RowsOf w x → Bb x → ∃ y, o' y ∧ Chg w w' x y) : Hp B w0 w' (os.set i o') := by
 obtain ⟨rs, h1, h2⟩ := h
 obtain ⟨a, x, b, e, h3, h4⟩ := h1.at_ hi
 subst e
 have p : (a ++ (x ++ b)).Perm (x ++ (a ++ b)) := by rw [← List.append_assoc, ← List.append_assoc]; exact List.perm_append_comm.append_right b
 have h5 := Dk h2 p
 have hd := Bu.1 h5.apart
 rw [List.map_append] at hd
 obtain ⟨y, hy, hch⟩ := hc x h3 (BC.2 fun z hz => h5.rows.mem z (by simp [hz])) (Bu.2 (List.nodup_append.1 hd).1)
 have p' : (y ++ (a ++ b)).Perm (a ++ (y ++ b)) := by rw [← List.append_assoc, ← List.append_assoc]; exact List.perm_append_comm.append_right b
 exact ⟨_, h4 o' y hy, Dk (FL h5 hch) p'⟩
theorem Hp.set (h : Hp B w0 w os) (i : Nat) {g : Nat} {t : TypeId} {cs c : Array Value} (hi : os[i]? = some (cell g t cs)) (hm : Mod (N5 g) w w') (hR : Dy w' g t c) : Hp B w0 w' (os.set i (cell g t c)) :=
 h.turn i hi fun x hx _ _ => ⟨[(g, t, c)], rfl, by
  unfold cell at hx
  subst hx
  refine ⟨hm.weaken fun j _ e => ⟨(g, Fa t, cs), by simp, e.symm⟩, ⟨hR, trivial⟩, ⟨(fun _ h => by cases h), trivial⟩, fun x hx _ => ?_⟩
  have : x = (g, Fa t, c) := by simpa using hx
  subst this
  exact ⟨(g, Fa t, cs), by simp, rfl⟩⟩
theorem Hp.drop (h : Hp B w0 w os) (k : Nat) : Hp B w0 w (os.drop k) := by
 obtain ⟨rs, h1, h2⟩ := h
 rw [← List.take_append_drop k os] at h1
 obtain ⟨a, b, e, _, h3⟩ := h1.split
 subst e
 have hd := Bu.1 h2.apart
 rw [List.map_append] at hd
 exact ⟨b, h3, h2.up, BC.2 fun x hx => h2.rows.mem x (by simp [hx]), Bu.2 (List.nodup_append.1 hd).2.1, fun x hx => h2.own x (by simp [hx])⟩
theorem Hp.chg (h : Hp B w0 w os) (ids : List Nat) (hn : ids.Nodup) {post : List Ass} (hc : ∀ x, Am (Ee ids os) x → RowsOf w x → Bb x → ∃ y, Am post y ∧ Chg w w' x y) : Hp B w0 w' (post ++ DD ids os) := by
 obtain ⟨rs, h1, h2⟩ := h.perm (Dj (os := os) hn).symm
 obtain ⟨a, b, e, h3, h4⟩ := h1.split
 subst e
 have hd := Bu.1 h2.apart
 rw [List.map_append] at hd
 obtain ⟨y, hy, hch⟩ := hc a h3 (BC.2 fun z hz => h2.rows.mem z (by simp [hz])) (Bu.2 (List.nodup_append.1 hd).1)
 exact ⟨y ++ b, hy.app h4, FL h2 hch⟩
theorem Hp.give (h : Hp B w0 w os) (ids : List Nat) (hn : ids.Nodup) : ∃ x, Am (Ee ids os) x ∧ RowsOf w x ∧ Bb x ∧ ∀ (post : List Ass) (y : List RowT) (w' : World), Am post y → Chg w w' x y → Hp B w0 w' (post ++ DD ids os) := by
 obtain ⟨rs, h1, h2⟩ := h.perm (Dj (os := os) hn).symm
 obtain ⟨a, b, e, h3, h4⟩ := h1.split
 subst e
 have hd := Bu.1 h2.apart
 rw [List.map_append] at hd
 exact ⟨a, h3, BC.2 fun z hz => h2.rows.mem z (by simp [hz]), Bu.2 (List.nodup_append.1 hd).1, fun post y w' hy hch => ⟨y ++ b, hy.app h4, FL h2 hch⟩⟩
theorem Hp.tell (h : Hp (Ci rs) w0 w os) (ids : List Nat) (hn : ids.Nodup) : ∃ y, Am (Ee ids os) y ∧ Chg w0 w rs y := by
 obtain ⟨rs', h1, h2⟩ := h.perm (Dj (os := os) hn).symm
 obtain ⟨a, b, e, h3, h4⟩ := h1.split
 subst e
 have hd := Bu.1 h2.apart
 rw [List.map_append] at hd
 exact ⟨a, h3, h2.up, BC.2 fun z hz => h2.rows.mem z (by simp [hz]), Bu.2 (List.nodup_append.1 hd).1, fun x hx => h2.own x (by simp [hx])⟩
theorem Hp.imp (h : Hp B w0 w os) (hi : ∀ rs, Am os rs → ∃ rs', rs.Perm rs' ∧ Am os' rs') : Hp B w0 w os' := by
 obtain ⟨rs, h1, h2⟩ := h
 obtain ⟨rs', p, h3⟩ := hi rs h1
 exact ⟨rs', h3, Dk h2 p⟩
end hp
def AV {X : Type} (P : Program) (F : FuncId) (args : Array Value) (pre : List Ass) (val : X → Value) (post : X → List Ass) : Prop :=
  ∀ w rs, Am pre rs → RowsOf w rs → Bb rs → Calls P F args w fun e w' => ∃ x, e = .returned (val x) ∧ ∃ rs', Am (post x) rs' ∧ Chg w w' rs rs'
inductive Res2 (P : Program) (env : List (Nat × Value)) (rs : List Ass) : ResultVar → Value → Prop
  | tmp {t : Tmp} {v : Value} (h : look env t = some v) : Res2 P env rs (.tmp t) v
  | cell (i : Nat) {s : Tmp} {T : TypeId} {g off : Nat} {t : TypeId} {cs : Array Value} {v : Value} (hv : KA P T cs off v) (h : look env s = some (.pointer (some ⟨g, off, none⟩))) (hi : rs[i]? = some (Sep.cell g t cs)) : Res2 P env rs (.cell s T) v
def BU (P : Program) (ops : Array Oper) (Q : Exit → Act → World → Prop) (n : Nat) (env : List (Nat × Value)) (B : Nat → Prop) (w0 : World) (rs : List Ass) (l : List Oper) : Prop := ∀ a w, Fr n a env → Hp B w0 w rs → wpList P ops Q l a w
def AL (P : Program) (Q : Exit → Act → World → Prop) (n : Nat) (env : List (Nat × Value)) (B : Nat → Prop) (w0 : World) (rs : List Ass) (c : Code) : Prop := ∀ a w, Fr n a env → Hp B w0 w rs → c.wp P Q a w
def CE (Q : Exit → Act → World → Prop) (n : Nat) (env : List (Nat × Value)) (B : Nat → Prop) (w0 : World) (rs : List Ass) (e : Exit) : Prop := ∀ a w, Fr n a env → Hp B w0 w rs → Q e a w
section wl2
variable {P : Program} {ops : Array Oper} {Q : Exit → Act → World → Prop} {n : Nat} {B : Nat → Prop} {w0 : World} {rs rs' : List Ass} {env env' : List (Nat × Value)} {l rest : List Oper} {o : Oper} {d : Nat} {fl : List ((Nat × Nat) × Nat)}
theorem Af (hfl : Og P fl) : ∀ {l : List Oper} {env : List (Nat × Value)}, Ll fl ops n l env = some (env', rest) → BU P ops Q n env' B w0 rs rest → BU P ops Q n env B w0 rs l
  | [], env, h, hk => by
    simp only [Ll, Option.some.injEq, Prod.mk.injEq] at h
    obtain ⟨rfl, rfl⟩ := h
    exact hk
  | o :: r, env, h, hk => by
    unfold Ll at h
    cases hw : wants ops o env with
    | none =>
      simp only [hw, Option.some.injEq, Prod.mk.injEq] at h
      obtain ⟨rfl, rfl⟩ := h
      exact hk
    | some b =>
      cases b with
      | false =>
        simp only [hw] at h
        cases hd : o.dst with
        | none => simp [hd] at h
        | some d =>
          simp only [hd] at h
          cases hn : Nat.blt d n with
          | false => simp [hn] at h
          | true =>
            simp only [hn] at h
            exact fun a w hF hH => No hF hw hd (EU hn) fun b hb => Af hfl h hk b w hb hH
      | true =>
        simp only [hw] at h
        cases hq : q1 fl o env with
        | none =>
          simp only [hq, Option.some.injEq, Prod.mk.injEq] at h
          obtain ⟨rfl, rfl⟩ := h
          exact hk
        | some v =>
          simp only [hq] at h
          cases hd : o.dst with
          | none => simp [hd] at h
          | some d =>
            simp only [hd] at h
            cases hn : Nat.blt d n with
            | false => simp [hn] at h
            | true =>
              simp only [hn] at h
              exact fun a w hF hH => R3 hF hw hd (EU hn) v (fun b hb => Ah hfl hq hb) fun b hb => Af hfl h hk b w hb hH
theorem Aa (h1 : Wq ops n o env = some d) (v : Value) (hrun : ∀ b w, Fr n b env → Hp B w0 w rs → (execOp b.eval o).run P w = .ok (.value v) w) (h : BU P ops Q n ((d, v) :: env) B w0 rs rest) : BU P ops Q n env B w0 rs (o :: rest) :=
 fun a w hF hH => R3 hF (Ch h1).1 (Ch h1).2.1 (Ch h1).2.2 v (fun b hb => hrun b w hb hH) fun b hb => h b w hb hH
theorem AG (h : CE Q n env B w0 rs .normal) : BU P ops Q n env B w0 rs [] := h
theorem Ab {y : Code} (h : AL P Q n env B w0 rs y) : BU P ops (Exit.then (fun a w => y.wp P Q a w) Q) n env B w0 rs [] := h
theorem BU.keep (hs : GG env env') (h : BU P ops Q n env' B w0 rs l) : BU P ops Q n env B w0 rs l := fun a w hF hH => h a w (hF.keep hs) hH
theorem AL.keep {c : Code} (hs : GG env env') (h : AL P Q n env' B w0 rs c) : AL P Q n env B w0 rs c := fun a w hF hH => h a w (hF.keep hs) hH
theorem CE.keep {e : Exit} (hs : GG env env') (h : CE Q n env' B w0 rs e) : CE Q n env B w0 rs e := fun a w hF hH => h a w (hF.keep hs) hH
end wl2
section wc2
variable {P : Program} {Q : Exit → Act → World → Prop} {n : Nat} {B : Nat → Prop} {w0 : World} {rs : List Ass} {env : List (Nat × Value)}
theorem Ad {id : Nat} {l : List Oper} {y : Code} (h : BU P l.toArray (Exit.then (fun a w => y.wp P Q a w) Q) n env B w0 rs l) : AL P Q n env B w0 rs (.seq (.region id l.toArray false) y) := fun a w hF hH => wp_seq (wp_region_lit (h a w hF hH))
theorem BB {id : Nat} {l : List Oper} (h : BU P l.toArray Q n env B w0 rs l) : AL P Q n env B w0 rs (.region id l.toArray false) := fun a w hF hH => wp_region_lit (h a w hF hH)
theorem Ar {x y : Code} (h : AL P (Exit.then (fun a w => y.wp P Q a w) Q) n env B w0 rs x) : AL P Q n env B w0 rs (.seq x y) := fun a w hF hH => wp_seq (h a w hF hH)
theorem AE {c : Operand} {x y : Code} (hc : evs env c = some (.bool true)) (h : AL P Q n env B w0 rs x) : AL P Q n env B w0 rs (.cond c x y) := fun a w hF hH => Np hF hc (h a w hF hH)
theorem Au {c : Operand} {x y : Code} (hc : evs env c = some (.bool false)) (h : AL P Q n env B w0 rs y) : AL P Q n env B w0 rs (.cond c x y) := fun a w hF hH => Nq hF hc (h a w hF hH)
theorem Av (h : CE Q n env B w0 rs .normal) : AL P Q n env B w0 rs .skip := fun a w hF hH => wp_skip (h a w hF hH)
theorem AB (h : CE Q n env B w0 rs .ret) : AL P Q n env B w0 rs .ret := fun a w hF hH => wp_ret (h a w hF hH)
theorem AK {id : Nat} {c : Code} (h : AL P (Exit.inBlock id Q) n env B w0 rs c) : AL P Q n env B w0 rs (.block id c) := fun a w hF hH => wp_block (h a w hF hH)
theorem CJ {id : Nat} (h : CE Q n env B w0 rs (.exit id)) : AL P Q n env B w0 rs (.exit id) := fun a w hF hH => wp_exit (h a w hF hH)
theorem AC {y : Code} (h : AL P Q n env B w0 rs y) : CE (Exit.then (fun a w => y.wp P Q a w) Q) n env B w0 rs .normal := h
theorem A6 {id : Nat} (h : CE Q n env B w0 rs .normal) : CE (Exit.inBlock id Q) n env B w0 rs .normal := h
theorem Ek {K : Act → World → Prop} (h : CE Q n env B w0 rs .ret) : CE (Exit.then K Q) n env B w0 rs .ret := h
theorem BH {id : Nat} (h : CE Q n env B w0 rs .ret) : CE (Exit.inBlock id Q) n env B w0 rs .ret := h
theorem Fq {K : Act → World → Prop} {id : Nat} (h : CE Q n env B w0 rs (.exit id)) : CE (Exit.then K Q) n env B w0 rs (.exit id) := h
theorem Bg {id : Nat} (h : CE Q n env B w0 rs .normal) : CE (Exit.inBlock id Q) n env B w0 rs (.exit id) := fun a w hF hH => (if_pos rfl).mpr (h a w hF hH)
theorem E7 {id id' : Nat} (hne : id' ≠ id) (h : CE Q n env B w0 rs (.exit id')) : CE (Exit.inBlock id Q) n env B w0 rs (.exit id') := fun a w hF hH => (if_neg hne).mpr (h a w hF hH)
variable {fn : Func} {R : Ending → World → Prop}
theorem Res2.res {r : ResultVar} {v : Value} {w : World} (h : Res2 P env rs r v) (hH : Hp B w0 w rs) : Res P env w r v := by
  cases h with
  | tmp h => exact .tmp h
  | cell i hv h hi => exact .cell h hv (hH.row i hi)
theorem Hj {r : ResultVar} {v : Value} {w : World} (h : Res2 P env rs r v) (hH : Hp B w0 w rs) : Res P env w r v := by
  cases h with
  | tmp h => exact .tmp h
  | cell i hv h hi => exact .cell h hv (hH.row i hi)
theorem AA {r1 : ResultVar} {v1 : Value} (h1 : Res2 P env rs r1 v1) (hR : ∀ w, Hp B w0 w rs → R (.returned v1) w) (hr : fn.results = #[r1]) : CE (bodyPost P fn R) n env B w0 rs .ret := fun _ w hF hH => WP hF hr (Hj h1 hH) (hR w hH)
theorem Co {r1 r2 : ResultVar} {v1 v2 : Value} (h1 : Res2 P env rs r1 v1) (h2 : Res2 P env rs r2 v2) (hR : ∀ w, Hp B w0 w rs → R (.returned (.tuple #[v1, v2])) w) (hr : fn.results = #[r1, r2]) : CE (bodyPost P fn R) n env B w0 rs .ret := fun _ w hF hH => WQ hF hr (Hj h1 hH) (Hj h2 hH) (hR w hH)
theorem JY (hR : ∀ w, Hp B w0 w rs → R (.returned (.tuple #[])) w) (hr : fn.results = #[]) : CE (bodyPost P fn R) n env B w0 rs .ret := fun _ w hF hH => WR hF hr (hR w hH)
theorem D5 (hR : ∀ w, Hp B w0 w rs → R (.returned (.tuple #[])) w) (hr : fn.results = #[]) : CE (bodyPost P fn R) n env B w0 rs .normal := fun _ w hF hH => Tk hF hr (hR w hH)
theorem Gi {f : FuncId} {c : Code} {args : List Value} {w : World} (n : Nat) (hf : P.funcs[f]? = some fn) (hb : fn.body = some c) (hn : fn.ntmps = n) (hs : Nat.ble args.length n = true) (h : AL P (bodyPost P fn R) n (FJ 0 args) Nil w [] c) : Calls P f args.toArray w R := Gp n hf hb hn (Nat.le_of_ble_eq_true hs) fun a hF => h a w hF (Hp.start w)
end wc2
section par2
variable {P : Program} {ops : Array Oper} {Q : Exit → Act → World → Prop} {n : Nat} {B : Nat → Prop} {w0 : World} {rs : List Ass} {env env0 : List (Nat × Value)} {jobs : List Job} {o : Oper} {deps : List Nat} {v : Value} {fl : List ((Nat × Nat) × Nat)} {kk : Nat}
def XH (P : Program) (ops : Array Oper) (Q : Exit → Act → World → Prop) (n : Nat) (jobs : List Job) (env0 : List (Nat × Value)) (B : Nat → Prop) (w0 : World) (rs : List Ass) (o : Oper) (j : Job) : Prop := ∀ w, Hp B w0 w rs → OB P ops Q n jobs env0 w o j
def Ey (P : Program) (ops : Array Oper) (Q : Exit → Act → World → Prop) (n : Nat) (jobs : List Job) (env0 : List (Nat × Value)) (B : Nat → Prop) (w0 : World) (rs : List Ass) : List Oper → List Job → Prop
  | o :: os, j :: js => XH P ops Q n jobs env0 B w0 rs o j ∧ Ey P ops Q n jobs env0 B w0 rs os js
  | _, _ => True
theorem Ey.all : ∀ {os : List Oper} {js : List Job}, Ey P ops Q n jobs env0 B w0 rs os js → ∀ w, Hp B w0 w rs → EQ P ops Q n w.heap.size jobs env0 (XB w) os js
  | [], _, _, _, _ => by unfold EQ; trivial
  | _ :: _, [], _, _, _ => by unfold EQ; trivial
  | _ :: _, _ :: _, h, w, hH => ⟨h.1 w hH, Ey.all h.2 w hH⟩
end par2
section orders2
variable {P : Program} {ops : Array Oper} {Q : Exit → Act → World → Prop} {n f i d : Nat} {B : Nat → Prop} {w0 : World} {rs : List Ass} {env env' : List (Nat × Value)} {listed : Array Bool} {o : Oper} {fl : List ((Nat × Nat) × Nat)}
def Oh (P : Program) (ops : Array Oper) (Q : Exit → Act → World → Prop) (n : Nat) (env : List (Nat × Value)) (B : Nat → Prop) (w0 : World) (rs : List Ass) (f : Nat) (listed : Array Bool) : Prop := ∀ a w, Fr n a env → Hp B w0 w rs → wpAny P .any ops Q f listed a w
end orders2
section loops
variable {P : Program} {Q : Exit → Act → World → Prop} {n : Nat} {B : Nat → Prop} {w0 : World} {rs rs' : List Ass} {env env' : List (Nat × Value)} {c : Code} {α : Type}
theorem AL.at_ (hs : GG env env') (hr : rs = rs') (h : AL P Q n env' B w0 rs' c) : AL P Q n env B w0 rs c := fun a w hF hH => h a w (hF.keep hs) (hr ▸ hH)
def KC (n : Nat) (B : Nat → Prop) (w0 : World) (E : α → List (Nat × Value)) (R : α → List Ass) (Inv : α → Prop) (μ : α → Nat) (x : α) : Act → World → Prop := fun a w => ∃ y, Inv y ∧ μ y < μ x ∧ Fr n a (E y) ∧ Hp B w0 w (R y)
theorem CC (E : α → List (Nat × Value)) (R : α → List Ass) (Inv : α → Prop) (μ : α → Nat) (x : α) (hx : Inv x) (hE : GG env (E x)) (hR : rs = R x) (h : ∀ x, Inv x → AL P (Exit.then (KC n B w0 E R Inv μ x) Q) n (E x) B w0 (R x) c) : AL P Q n env B w0 rs (.loop c) := by
  subst hR
  intro a w hF hH
  have key : ∀ m x, μ x < m → Inv x → ∀ a w, Fr n a (E x) → Hp B w0 w (R x) → Code.rounds P c Q m a w := by
    intro m
    induction m with
    | zero => intro x hx; omega
    | succ m ih =>
      intro x hm hx a w hF hH
      refine Code.wp_mono (fun e a' w' q => ?_) (h x hx a w hF hH)
      cases e with
      | normal =>
        obtain ⟨y, hy, hlt, hF', hH'⟩ := q
        exact ih y (by omega) hy a' w' hF' hH'
      | _ => exact q
  exact wp_loop_rounds _ (key _ x (Nat.lt_succ_self _) hx a w (hF.keep hE) hH)
theorem B6 {E : α → List (Nat × Value)} {R : α → List Ass} {Inv : α → Prop} {μ : α → Nat} {x : α} (y : α) (k : Nat) (hy : Inv y) (hμ : μ y < μ x) (hs : GG env (E y)) (hr : rs.drop k = R y) : CE (Exit.then (KC n B w0 E R Inv μ x) Q) n env B w0 rs .normal := fun _ _ hF hH => ⟨y, hy, hμ, hF.keep hs, hr ▸ hH.drop k⟩
end loops
section orders3
variable {P : Program} {ops : Array Oper} {Q : Exit → Act → World → Prop} {n fu i d : Nat} {B : Nat → Prop} {w0 : World} {rs : List Ass} {env : List (Nat × Value)} {listed : Array Bool} {o : Oper}
end orders3
section textsBs
variable {P : Program} {ops : Array Oper} {Q : Exit → Act → World → Prop} {n d : Nat} {B : Nat → Prop} {w0 : World} {rs : List Ass} {env env0 : List (Nat × Value)} {rest : List Oper} {o : Oper} {a : Act} {w : World} {jobs : List Job} {deps : List Nat} {kk : Nat}
end textsBs
section textsBytes
variable {P : Program} {ops : Array Oper} {Q : Exit → Act → World → Prop} {n : Nat} {B : Nat → Prop} {w0 w : World} {rs : List Ass} {env : List (Nat × Value)} {rest : List Oper} {o : Oper} {d : Nat}
end textsBytes
section par3
variable {P : Program} {ops : Array Oper} {Q : Exit → Act → World → Prop} {n : Nat} {B : Nat → Prop} {w0 : World} {rs : List Ass} {env : List (Nat × Value)}
theorem Oh.keep {f : Nat} {env' : List (Nat × Value)} {listed : Array Bool} (hs : GG env env') (h : Oh P ops Q n env' B w0 rs f listed) : Oh P ops Q n env B w0 rs f listed := fun a w hF hH => h a w (hF.keep hs) hH
end par3
section par4
variable {P : Program} {ops : Array Oper} {Q : Exit → Act → World → Prop} {n : Nat} {B : Nat → Prop} {w0 : World} {rs : List Ass} {env : List (Nat × Value)}
def WV (n : Nat) (B : Nat → Prop) (w0 : World) (E : List (Nat × Value)) (R : List Ass) : Exit → Act → World → Prop := fun e a w => e = .normal ∧ Fr n a E ∧ Hp B w0 w R
theorem Q3 {E : List (Nat × Value)} {R : List Ass} (k : Nat) (hs : GG env E) (hr : rs.drop k = R) : CE (WV n B w0 E R) n env B w0 rs .normal := fun _ _ hF hH => ⟨rfl, hF.keep hs, hr ▸ hH.drop k⟩
end par4
section does
variable {P : Program} {ops : Array Oper} {Q : Exit → Act → World → Prop} {n d : Nat} {B : Nat → Prop} {w0 : World} {os : List Ass} {env : List (Nat × Value)} {rest l : List Oper} {o : Oper} {c : Code} {e : Exit} {fu : Nat} {ids : List Nat} {listed : Array Bool}
def Gj : Ass := fun rs => rs = []
def FM : Nat → List Ass → List Ass
  | 0, _ => []
  | k + 1, [] => Gj :: FM k []
  | k + 1, x :: r => x :: FM k r
def Fs : List Nat → List Ass → List Ass → List Ass
  | i :: ids, x :: xs, os => Fs ids xs (os.set i x)
  | _, _, os => os
def Dc : List Nat → Bool
  | [] => true
  | i :: r => !r.elem i && Dc r
theorem B5 : ∀ {l : List Nat}, Dc l = true → l.Nodup
  | [], _ => List.nodup_nil
  | i :: r, h => by
    unfold Dc at h
    simp only [Bool.and_eq_true, Bool.not_eq_true'] at h
    refine List.nodup_cons.2 ⟨fun hm => ?_, B5 h.2⟩
    rw [List.elem_iff.2 hm] at h
    cases h.1
theorem EX : ∀ {k : Nat} {rs : List RowT}, Am (List.replicate k Gj) rs ↔ rs = []
  | 0, rs => by simp [Am]
  | k + 1, rs => by
    rw [List.replicate_succ]
    constructor
    · rintro ⟨a, b, e, h1, h2⟩
      have := (EX (k := k)).1 h2
      unfold Gj at h1
      subst h1; subst this
      exact e
    · rintro rfl
      exact ⟨[], [], rfl, rfl, EX.2 rfl⟩
theorem AV.pad {X : Type} {F : FuncId} {args : Array Value} {pre : List Ass} {val : X → Value} {post : X → List Ass} (h : AV P F args pre val post) (k : Nat) : AV P F args (pre ++ List.replicate k Gj) val post := fun w rs h1 h2 h3 => by
 obtain ⟨a, b, e, ha, hb⟩ := h1.split
 have := EX.1 hb
 subst this
 rw [List.append_nil] at e
 subst e
 exact h w _ ha h2 h3
theorem JZ : ∀ (k : Nat) (l : List Ass), (FM k l).length = k
  | 0, _ => rfl
  | k + 1, [] => by simp [FM, JZ k []]
  | k + 1, x :: r => by simp [FM, JZ k r]
theorem Fb : ∀ {k : Nat} {l : List Ass} {rs : List RowT}, Am l rs → ∃ rs', rs.Perm rs' ∧ Am (l.drop k ++ FM k l) rs'
  | 0, l, rs, h => ⟨rs, .refl _, by simpa [FM] using h⟩
  | k + 1, [], rs, h => by
    obtain ⟨rs', p, h'⟩ := Fb (k := k) (l := []) h
    refine ⟨rs', p, ?_⟩
    simp only [List.drop_nil, List.nil_append] at h' ⊢
    exact ⟨[], rs', rfl, rfl, h'⟩
  | k + 1, x :: r, rs, ⟨a, b, e, h1, h2⟩ => by
    obtain ⟨b', p, h'⟩ := Fb (k := k) h2
    have h3 : Am (x :: (r.drop k ++ FM k r)) (a ++ b') := ⟨a, b', rfl, h1, h'⟩
    obtain ⟨c, p2, h4⟩ := h3.perm (os' := r.drop k ++ x :: FM k r) List.perm_middle.symm
    exact ⟨c, (e ▸ p.append_left a).trans p2, h4⟩
theorem Q4 {ids : List Nat} : ∀ {os : List Ass} {k i : Nat} {x : Ass}, (k + i) ∈ ids → Ct ids k (os.set i x) = Ct ids k os
  | [], _, _, _, _ => by simp
  | y :: r, k, 0, x, h => by
    have : ids.elem k = true := List.elem_iff.2 h
    rw [List.set_cons_zero, Lo this, Lo this]
  | y :: r, k, i + 1, x, h => by
    have ih := Q4 (os := r) (k := k + 1) (i := i) (x := x) (by rwa [show k + 1 + i = k + (i + 1) by omega])
    rw [List.set_cons_succ]
    cases hk : ids.elem k with
    | true => rw [Lo hk, Lo hk, ih]
    | false => rw [MG hk, MG hk, ih]
theorem Ok {ids0 : List Nat} : ∀ {ids : List Nat} {xs os : List Ass}, (∀ i ∈ ids, i ∈ ids0) → DD ids0 (Fs ids xs os) = DD ids0 os
  | [], _, _, _ => by unfold Fs; rfl
  | i :: ids, [], _, _ => by unfold Fs; rfl
  | i :: ids, x :: xs, os, h => by
    show DD ids0 (Fs ids xs (os.set i x)) = _
    rw [Ok fun j hj => h j (by simp [hj])]
    exact Q4 (k := 0) (by rw [Nat.zero_add]; exact h i (by simp))
theorem Ol : ∀ {ids : List Nat} {xs os : List Ass} {i : Nat}, i ∉ ids → (Fs ids xs os)[i]? = os[i]?
  | [], _, _, _, _ => by unfold Fs; rfl
  | j :: ids, [], _, _, _ => by unfold Fs; rfl
  | j :: ids, x :: xs, os, i, h => by
    show (Fs ids xs (os.set j x))[i]? = _
    rw [Ol fun hm => h (by simp [hm]), List.getElem?_set_ne (fun e => h (by simp [e]))]
theorem Om : ∀ {ids : List Nat} {xs os : List Ass}, ids.Nodup → (∀ i ∈ ids, i < os.length) → xs.length = ids.length → Ee ids (Fs ids xs os) = xs
  | [], xs, _, _, _, hl => by
    have : xs = [] := List.length_eq_zero_iff.1 hl
    subst this; rfl
  | i :: ids, [], _, _, _, hl => by simp at hl
  | i :: ids, x :: xs, os, hn, hb, hl => by
    obtain ⟨h1, h2⟩ := List.nodup_cons.1 hn
    have e1 : (Fs ids xs (os.set i x))[i]? = some x := by
      rw [Ol h1]
      simp [hb i (by simp)]
    have ih := Om (ids := ids) (xs := xs) (os := os.set i x) h2 (fun j hj => by rw [List.length_set]; exact hb j (by simp [hj])) (by simpa using hl)
    show List.filterMap _ (i :: ids) = _
    rw [List.filterMap_cons_some (b := x) (by exact e1)]
    exact congrArg _ ih
theorem J0 {ids : List Nat} {xs os : List Ass} (hn : ids.Nodup) (hb : (ids.all fun i => Nat.blt i os.length) = true) : (FM ids.length xs ++ DD ids os).Perm (Fs ids (FM ids.length xs) os) := by
 have hb' : ∀ i ∈ ids, i < os.length := fun i hi => EU (List.all_eq_true.1 hb i hi)
 have := Dj (ids := ids) (os := Fs ids (FM ids.length xs) os) hn
 rwa [Om hn hb' (JZ _ _), Ok (fun _ h => h)] at this
theorem AV.calls {X : Type} {F : FuncId} {vs : List Value} {pre : List Ass} {val : X → Value} {post : X → List Ass} {w : World} (ids : List Nat) (hc : AV P F vs.toArray pre val post) (hp : Ee ids os = pre) (hn : ids.Nodup) (h : Hp B w0 w os) : Calls P F vs.toArray w fun e w' => ∃ x, e = .returned (val x) ∧ Hp B w0 w' (post x ++ DD ids os) := by
 subst hp
 obtain ⟨x, h1, h2, h3, h4⟩ := h.give ids hn
 exact (hc w x h1 h2 h3).mono fun e w' ⟨v, he, y, hy, hch⟩ => ⟨v, he, h4 _ y w' hy hch⟩
def Bt {X : Type} (P : Program) (Q : Exit → Act → World → Prop) (n : Nat) (env : List (Nat × Value)) (B : Nat → Prop) (w0 : World) (os : List Ass) (o : Oper) (val : X → Value) (post : X → List Ass) : Prop :=
  ∀ (b : Act) (w : World), Hp B w0 w os → Fr n b env → ∀ K : Act → World → Prop, (∀ x w', Hp B w0 w' (post x) → K (b.put o.dst (val x)) w') → o.wp P b w K Q
theorem Al {X : Type} {val : X → Value} {post : X → List Ass} (h1 : Wq ops n o env = some d) (ha : Bt P Q n env B w0 os o val post) (h : ∀ x, BU P ops Q n ((d, val x) :: env) B w0 (post x) rest) : BU P ops Q n env B w0 os (o :: rest) := fun a w hF hH =>
 JX hF (Ch h1).1 fun K hK => ha a w hH hF K fun x w' hp => by
  rw [(Ch h1).2.1]
  exact hK _ _ (h x _ _ (hF.put (Ch h1).2.2 _) hp)
theorem AR {X : Type} {val : X → Value} {post : X → List Ass} (hg : wants ops o env = some true) (hd : o.dst = none) (ha : Bt P Q n env B w0 os o val post) (h : ∀ x, BU P ops Q n env B w0 (post x) rest) : BU P ops Q n env B w0 os (o :: rest) := fun a w hF hH =>
 JX hF hg fun K hK => ha a w hH hF K fun x w' hp => by
  rw [hd]
  exact hK _ _ (h x _ _ hF hp)
theorem FN {r : Value} {w' : World} (b : Act) (hrun : (execOp b.eval o).run P w0 = .ok (.value r) w') {K : Act → World → Prop} (h : K (b.put o.dst r) w') : o.wp P b w0 K Q := by
 unfold Oper.wp
 rw [hrun, Oper.upon_value]
 exact h
theorem As {X : Type} {F : FuncId} {f : Operand} {args : Array Operand} {ats : Array TypeId} {vs : List Value} {pre : List Ass} {val : X → Value} {post : X → List Ass} {os' : X → List Ass} (ids : List Nat) (pads : Nat) (hE : Vf P F) (hc : AV P F vs.toArray pre val post) (hp : Ee ids os = pre ++ List.replicate pads Gj) (hn : Dc ids = true) (hb : (ids.all fun i => Nat.blt i os.length) = true) (he : ∀ x, (post x).drop ids.length ++ Fs ids (FM ids.length (post x)) os = os' x) (ho : o.op = .call { callee := .value f, args := args, argTypes := ats }) (hf : evs env f = some (.func (.func F) #[] #[])) (hx : evl env args.toList = some vs) :
  Bt P Q n env B w0 os o val os' := fun b w hH hb' K hK => by
 unfold Oper.wp
 rw [Ia hE ho hf hx hb', Oper.upon_enter]
 refine (AV.calls ids (hc.pad pads) hp (B5 hn) hH).mono ?_
 rintro e w' ⟨x, rfl, hq⟩
 refine hK x w' (he x ▸ Hp.imp hq fun rs h => ?_)
 obtain ⟨a, c, e, ha, hc'⟩ := h.split
 obtain ⟨a', p, ha'⟩ := Fb (k := ids.length) ha
 have h2 := Am.app ha' hc'
 rw [List.append_assoc] at h2
 obtain ⟨r2, p2, h3⟩ := h2.perm ((J0 (xs := post x) (B5 hn) hb).append_left _)
 exact ⟨r2, e ▸ (p.append_right c).trans p2, h3⟩
theorem Bk {F : FuncId} {f : Operand} {args : Array Operand} {ats : Array TypeId} {vs : List Value} {v : Value} (hE : Vf P F) (hc : ∀ w, Hp B w0 w os → Calls P F vs.toArray w fun e w' => e = .returned v ∧ Below w.heap.size w w') (ho : o.op = .call { callee := .value f, args := args, argTypes := ats }) (hf : evs env f = some (.func (.func F) #[] #[])) (hx : evl env args.toList = some vs) :
  Bt P Q n env B w0 os o (fun _ : Unit => v) (fun _ => os) := fun b w hH hb K hK => by
 unfold Oper.wp
 rw [Ia hE ho hf hx hb, Oper.upon_enter]
 refine (hc w hH).mono ?_
 rintro e w' ⟨rfl, hbl⟩
 exact hK () w' (hH.call hbl)
theorem Bt.to {X : Type} {val : X → Value} {post post' : X → List Ass} (h : Bt P Q n env B w0 os o val post) (he : ∀ x, post x = post' x) : Bt P Q n env B w0 os o val post' := fun b w hH hb K hK => h b w hH hb K fun x w' hp => hK x w' (he x ▸ hp)
theorem Bt.imp {X : Type} {val : X → Value} {post post' : X → List Ass} (h : Bt P Q n env B w0 os o val post) (he : ∀ x rs, Am (post x) rs → ∃ rs', rs.Perm rs' ∧ Am (post' x) rs') : Bt P Q n env B w0 os o val post' := fun b w hH hb K hK => h b w hH hb K fun x w' hp => hK x w' (hp.imp (he x))
theorem Bt.s {X : Type} {val : X → Value} {post : X → List Ass} {S : Value → List Ass} (h : Bt P Q n env B w0 os o val post) (he : ∀ x, post x = S (val x)) : ∀ (b : Act) (w : World), Hp B w0 w os → Fr n b env → ∀ K : Act → World → Prop, (∀ v w', Hp B w0 w' (S v) → K (b.put o.dst v) w') → o.wp P b w K Q := fun b w hH hb K hK => h b w hH hb K fun x w' hp => hK _ w' (he x ▸ hp)
theorem Bt.su {v0 : Value} {post : Unit → List Ass} {os' : Value → List Ass} (h : Bt P Q n env B w0 os o (fun _ : Unit => v0) post) (he : post () = os' undef) : ∀ (b : Act) (w : World), Hp B w0 w os → Fr n b env → ∀ K : Act → World → Prop, (∀ v w', Hp B w0 w' (os' v) → K (b.put o.dst v0) w') → o.wp P b w K Q := fun b w hH hb K hK => h b w hH hb K fun x w' hp => hK undef w' (he ▸ hp)
theorem CW {T : TypeId} {x : Operand} {v : Value} {cs : Array Value} (ho : o.op = .box T x) (hx : evs env x = some v) (hc : v.cells = cs) : Bt P Q n env B w0 os o (fun g : Nat => .pointer (some ⟨g, 0, none⟩)) (fun g => cell g T cs :: os) := fun b w hH hb K hK => by
 have hrun : (execOp b.eval o).run P w = .ok (.value (.pointer (some ⟨w.heap.size, 0, none⟩))) (w.alloc (.cells cs T)) := by
  unfold execOp
  simp [ho, hb.evs hx, Instr.box, newVar, newRow, hc]
 unfold Oper.wp
 rw [hrun, Oper.upon_value]
 exact hK _ _ (hH.new T cs)
theorem Cl {T : TypeId} {zs : Array Value} (hz : Lh P T zs) (ho : o.op = .alloc T) : Bt P Q n env B w0 os o (fun g : Nat => .pointer (some ⟨g, 0, none⟩)) (fun g => cell g T zs :: os) := fun b w hH hb K hK => by
 unfold Oper.wp
 rw [PG ho hz, Oper.upon_value]
 exact hK _ _ (hH.new T zs)
theorem AZ (i : Nat) {T : TypeId} {x y : Operand} {g off k : Nat} {t : TypeId} {cs : Array Value} {v : Value} (c : Array Value) (hs : ∀ w, (sizeOf T).run P w = .ok k w) (hk : v.cells.size = k) (hl : Nat.ble (off + k) cs.size = true) (hone : Ns v.cells.toList = true) (hc : (over? cs.toList off v.cells.toList).toArray = c) (hd : o.dst = none) (ho : o.op = .store T x y)
  (hx : evs env x = some (.pointer (some ⟨g, off, none⟩))) (hy : evs env y = some v) (hi : os[i]? = some (cell g t cs)) : Bt P Q n env B w0 os o (fun _ : Unit => undef) (fun _ => os.set i (cell g t c)) := fun a w hH hF K hK => by
 obtain ⟨w', hr, hR', hm⟩ := Di (P := P) g t v.cells.toList 0 cs w off (hH.row i hi) (by have := Nat.le_of_ble_eq_true hl; simp; omega) (fun u hu => (List.all_eq_true.1 (Hg hone)) u hu)
 have hrun : (execOp a.eval o).run P w = .ok .skip w' := by
  unfold execOp
  simp [ho, hF.evs hx, hF.evs hy, Instr.storeAt, Instr.sureAddr, storeVar, hs, hk, hr]
 have hR2 : Dy w' g t c := by rw [← hc]; simpa [over?] using hR'
 unfold Oper.wp
 rw [hrun, Oper.upon_skip]
 have := hK () w' (hH.set i hi hm hR2)
 rw [hd] at this ⊢
 exact this
theorem BU.via {X : Type} (os' : X → List Ass) (hi : ∀ rs, Am os rs → ∃ x, ∃ rs', rs.Perm rs' ∧ Am (os' x) rs') (h : ∀ x, BU P ops Q n env B w0 (os' x) l) : BU P ops Q n env B w0 os l := fun a w hF ⟨rs, h1, h2⟩ => by
 obtain ⟨x, rs', p, h3⟩ := hi rs h1
 exact h x a w hF ⟨rs', h3, Dk h2 p⟩
theorem AL.via {X : Type} (os' : X → List Ass) (hi : ∀ rs, Am os rs → ∃ x, ∃ rs', rs.Perm rs' ∧ Am (os' x) rs') (h : ∀ x, AL P Q n env B w0 (os' x) c) : AL P Q n env B w0 os c := fun a w hF ⟨rs, h1, h2⟩ => by
 obtain ⟨x, rs', p, h3⟩ := hi rs h1
 exact h x a w hF ⟨rs', h3, Dk h2 p⟩
theorem CE.via {X : Type} (os' : X → List Ass) (hi : ∀ rs, Am os rs → ∃ x, ∃ rs', rs.Perm rs' ∧ Am (os' x) rs') (h : ∀ x, CE Q n env B w0 (os' x) e) : CE Q n env B w0 os e := fun a w hF ⟨rs, h1, h2⟩ => by
 obtain ⟨x, rs', p, h3⟩ := hi rs h1
 exact h x a w hF ⟨rs', h3, Dk h2 p⟩
theorem Oh.via {X : Type} (os' : X → List Ass) (hi : ∀ rs, Am os rs → ∃ x, ∃ rs', rs.Perm rs' ∧ Am (os' x) rs') (h : ∀ x, Oh P ops Q n env B w0 (os' x) fu listed) : Oh P ops Q n env B w0 os fu listed := fun a w hF ⟨rs, h1, h2⟩ => by
 obtain ⟨x, rs', p, h3⟩ := hi rs h1
 exact h x a w hF ⟨rs', h3, Dk h2 p⟩
theorem BU.mid (os' : List Ass) (hp : os.Perm os') (h : BU P ops Q n env B w0 os' l) : BU P ops Q n env B w0 os l := fun a w hF hH => h a w hF (hH.perm hp)
theorem AL.mid (os' : List Ass) (hp : os.Perm os') (h : AL P Q n env B w0 os' c) : AL P Q n env B w0 os c := fun a w hF hH => h a w hF (hH.perm hp)
theorem CE.mid (os' : List Ass) (hp : os.Perm os') (h : CE Q n env B w0 os' e) : CE Q n env B w0 os e := fun a w hF hH => h a w hF (hH.perm hp)
theorem Oh.mid (os' : List Ass) (hp : os.Perm os') (h : Oh P ops Q n env B w0 os' fu listed) : Oh P ops Q n env B w0 os fu listed := fun a w hF hH => h a w hF (hH.perm hp)
theorem Tv {i : Nat} {o : Ass} (hi : os[i]? = some o) : os.Perm (o :: DD [i] os) := by
 have := (Dj (ids := [i]) (os := os) (by simp)).symm
 unfold Ee at this
 rw [List.filterMap_cons_some hi] at this
 exact this
theorem Fc {p : Prop} {o : Ass} (i : Nat) (hi : os[i]? = some o) (hp : ∀ rs, o rs → p) {w : World} (h : Hp B w0 w os) : p := by
 obtain ⟨x, hx, _⟩ := h.thing i hi
 exact hp x hx
theorem BU.fact {p : Prop} {o : Ass} (i : Nat) (hi : os[i]? = some o) (hp : ∀ rs, o rs → p) (h : p → BU P ops Q n env B w0 os l) : BU P ops Q n env B w0 os l := fun a w hF hH => h (Fc i hi hp hH) a w hF hH
theorem AL.fact {p : Prop} {o : Ass} (i : Nat) (hi : os[i]? = some o) (hp : ∀ rs, o rs → p) (h : p → AL P Q n env B w0 os c) : AL P Q n env B w0 os c := fun a w hF hH => h (Fc i hi hp hH) a w hF hH
theorem CE.fact {p : Prop} {o : Ass} (i : Nat) (hi : os[i]? = some o) (hp : ∀ rs, o rs → p) (h : p → CE Q n env B w0 os e) : CE Q n env B w0 os e := fun a w hF hH => h (Fc i hi hp hH) a w hF hH
theorem Jo {α : Type} {A : α → List Ass} {i : Nat} {o : Ass} (hi : os[i]? = some o) (ho : ∀ rs, o rs → ∃ x, Am (A x) rs) : ∀ rs, Am os rs → ∃ x, ∃ rs', rs.Perm rs' ∧ Am (A x ++ DD [i] os) rs' := fun rs h => by
 obtain ⟨rs1, p, a, b, e, h1, h2⟩ := h.perm (Tv hi)
 obtain ⟨x, h3⟩ := ho a h1
 exact ⟨x, rs1, p, e ▸ h3.app h2⟩
theorem FO {α : Type} {A : α → List Ass} {t : Ass} {os' : α → List Ass} (i : Nat) (hi : os[i]? = some t) (ho : ∀ rs, t rs → ∃ x, Am (A x) rs) (he : ∀ x, A x ++ DD [i] os = os' x) (h : ∀ x, BU P ops Q n env B w0 (os' x) l) : BU P ops Q n env B w0 os l := BU.via _ (Jo hi ho) fun x => he x ▸ h x
theorem AX {α : Type} {A : α → List Ass} {t : Ass} {os' : α → List Ass} (i : Nat) (hi : os[i]? = some t) (ho : ∀ rs, t rs → ∃ x, Am (A x) rs) (he : ∀ x, A x ++ DD [i] os = os' x) (h : ∀ x, AL P Q n env B w0 (os' x) c) : AL P Q n env B w0 os c := AL.via _ (Jo hi ho) fun x => he x ▸ h x
theorem WW {α : Type} {A : α → List Ass} {t : Ass} {os' : α → List Ass} (i : Nat) (hi : os[i]? = some t) (ho : ∀ rs, t rs → ∃ x, Am (A x) rs) (he : ∀ x, A x ++ DD [i] os = os' x) (h : ∀ x, CE Q n env B w0 (os' x) e) : CE Q n env B w0 os e := CE.via _ (Jo hi ho) fun x => he x ▸ h x
theorem Hk {t : Ass} (ids : List Nat) (hn : Dc ids = true) (ht : ∀ rs, Am (Ee ids os) rs → t rs) : ∀ rs, Am os rs → ∃ _ : Unit, ∃ rs', rs.Perm rs' ∧ Am (t :: DD ids os) rs' := fun rs h => by
 obtain ⟨rs1, p, h1⟩ := h.perm (Dj (os := os) (B5 hn)).symm
 obtain ⟨a, b, e, h2, h3⟩ := h1.split
 exact ⟨(), rs1, p, a, b, e, ht a h2, h3⟩
theorem K4 {t : Ass} {os' : List Ass} (ids : List Nat) (hn : Dc ids = true) (ht : ∀ rs, Am (Ee ids os) rs → t rs) (he : t :: DD ids os = os') (h : BU P ops Q n env B w0 os' l) : BU P ops Q n env B w0 os l := BU.via (fun _ : Unit => _) (Hk ids hn ht) fun _ => he ▸ h
theorem Bj {t : Ass} {os' : List Ass} (ids : List Nat) (hn : Dc ids = true) (ht : ∀ rs, Am (Ee ids os) rs → t rs) (he : t :: DD ids os = os') (h : AL P Q n env B w0 os' c) : AL P Q n env B w0 os c := AL.via (fun _ : Unit => _) (Hk ids hn ht) fun _ => he ▸ h
theorem CU {t : Ass} {os' : List Ass} (ids : List Nat) (hn : Dc ids = true) (ht : ∀ rs, Am (Ee ids os) rs → t rs) (he : t :: DD ids os = os') (h : CE Q n env B w0 os' e) : CE Q n env B w0 os e := CE.via (fun _ : Unit => _) (Hk ids hn ht) fun _ => he ▸ h
theorem EY (k : Nat) {os' : List Ass} (he : List.replicate k Gj ++ os = os') (h : AL P Q n env B w0 os' c) : AL P Q n env B w0 os c := AL.via (fun _ : Unit => os') (fun rs hp => ⟨(), rs, .refl _, he ▸ (Am.app (EX.2 rfl) hp : Am _ ([] ++ rs))⟩) fun _ => h
theorem AL.leave {os' : List Ass} (ids : List Nat) (hn : Dc ids = true) (he : DD ids os = os') (h : AL P Q n env B w0 os' c) : AL P Q n env B w0 os c := fun a w hF hH => h a w hF (by
 have := (hH.perm (Dj (os := os) (B5 hn)).symm).drop (Ee ids os).length
 rw [List.drop_left] at this
 exact he ▸ this)
theorem BU.leave {os' : List Ass} (ids : List Nat) (hn : Dc ids = true) (he : DD ids os = os') (h : BU P ops Q n env B w0 os' l) : BU P ops Q n env B w0 os l := fun a w hF hH => h a w hF (by
 have := (hH.perm (Dj (os := os) (B5 hn)).symm).drop (Ee ids os).length
 rw [List.drop_left] at this
 exact he ▸ this)
theorem CE.leave {os' : List Ass} (ids : List Nat) (hn : Dc ids = true) (he : DD ids os = os') (h : CE Q n env B w0 os' e) : CE Q n env B w0 os e := fun a w hF hH => h a w hF (by
 have := (hH.perm (Dj (os := os) (B5 hn)).symm).drop (Ee ids os).length
 rw [List.drop_left] at this
 exact he ▸ this)
def DT (r : Option Value) (f : Value → Ass) (d : Ass) : Ass := match r with | some v => f v | none => d
end does
section entry
variable {P : Program} {fn : Func}
theorem Bo {X : Type} {f : FuncId} {c : Code} {args : List Value} {pre : List Ass} {val : X → Value} {post : X → List Ass} (n : Nat) (hf : P.funcs[f]? = some fn) (hb : fn.body = some c) (hn : fn.ntmps = n) (hs : Nat.ble args.length n = true)
  (h : ∀ (w : World) (rs : List RowT), AL P (bodyPost P fn fun e w' => ∃ x, e = .returned (val x) ∧ ∃ rs', Am (post x) rs' ∧ Chg w w' rs rs') n (FJ 0 args) (Ci rs) w pre c) : AV P f args.toArray pre val post :=
 fun w rs h1 h2 h3 => Gp n hf hb hn (Nat.le_of_ble_eq_true hs) fun a hF => h w rs a w hF (Hp.given h1 h2 h3)
theorem AH {X : Type} {w0 w' : World} {rs : List RowT} {os : List Ass} {val : X → Value} {post : X → List Ass} (x : X) {v : Value} (hv : v = val x) (ids : List Nat) (hn : Dc ids = true) (h : Hp (Ci rs) w0 w' os) (hp : ∀ y, Am (Ee ids os) y → ∃ z, y.Perm z ∧ Am (post x) z) : ∃ x, Ending.returned v = .returned (val x) ∧ ∃ rs', Am (post x) rs' ∧ Chg w0 w' rs rs' := by
 obtain ⟨y, h1, h2⟩ := h.tell ids (B5 hn)
 obtain ⟨z, p, h3⟩ := hp y h1
 exact ⟨x, by rw [hv], z, h3, Ie h2 p⟩
theorem AV.frame {X : Type} {F : FuncId} {args : Array Value} {pre more : List Ass} {val : X → Value} {post : X → List Ass} (h : AV P F args pre val post) : AV P F args (pre ++ more) val (fun x => post x ++ more) := fun w rs h1 h2 h3 => by
 obtain ⟨a, b, e, ha, hb⟩ := h1.split
 subst e
 have hd := Bu.1 h3
 rw [List.map_append] at hd
 have hh : Mem.Hp (Ci (a ++ b)) w w (a ++ b) := Mem.Hp.given h2 h3
 refine (h w a ha (BC.2 fun z hz => h2.mem z (by simp [hz])) (Bu.2 (List.nodup_append.1 hd).1)).mono ?_
 rintro e w' ⟨x, he, y, hy, hc⟩
 have := FL hh hc
 exact ⟨x, he, y ++ b, hy.app hb, this.up, this.rows, this.apart, fun z hz hlt => this.own z hz hlt⟩
theorem AV.imp {X : Type} {F : FuncId} {args : Array Value} {pre pre' : List Ass} {val : X → Value} {post : X → List Ass} (h : AV P F args pre val post) (hi : ∀ rs, Am pre' rs → ∃ rs', rs.Perm rs' ∧ Am pre rs') : AV P F args pre' val post := fun w rs h1 h2 h3 => by
 obtain ⟨rs', p, h4⟩ := hi rs h1
 refine (h w rs' h4 (BC.2 fun z hz => h2.mem z (p.mem_iff.2 hz)) (Bu.2 ((p.map _).nodup_iff.1 (Bu.1 h3)))).mono ?_
 rintro e w' ⟨x, he, y, hy, hc⟩
 exact ⟨x, he, y, hy, Oj hc p.symm⟩
theorem El {os : List Ass} : ∀ y, Am os y → ∃ z, y.Perm z ∧ Am os z := fun y h => ⟨y, .refl _, h⟩
end entry
end Go.Proofs.YtjcfimmcogkopaaGreatDoor.Sep
