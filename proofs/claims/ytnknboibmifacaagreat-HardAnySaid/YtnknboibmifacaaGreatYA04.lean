/-
  Sep
-/
import Derived.Test.YtnknboibmifacaaGreatYA03
set_option linter.unusedSimpArgs false
set_option linter.unusedVariables false
namespace Go.Proofs.YtnknboibmifacaaGreat.Sep
open Go.RowKit
open Go.Proofs.YtnknboibmifacaaGreat.Mem (Bd Cj Chg TK VD ET AF)
abbrev Ass := List RowT → Prop
def cell (g : Nat) (t : TypeId) (cs : Array Value) : Ass := fun rs => rs = [(g, EZ t, cs)]
def fact (p : Prop) : Ass := fun rs => rs = [] ∧ p
def Al : List Ass → List RowT → Prop
  | [], rs => rs = []
  | o :: os, rs => ∃ a b, rs = a ++ b ∧ o a ∧ Al os b
def Cv (l : List Ass) : Ass := Al l
section parts
variable {os os' : List Ass} {rs : List RowT}
theorem Al.app : ∀ {os os' : List Ass} {a b : List RowT}, Al os a → Al os' b → Al (os ++ os') (a ++ b)
  | [], _, a, b, h, h' => by unfold Al at h; subst h; exact h'
  | o :: os, os', a, b, h, h' => by
    obtain ⟨x, y, e, h1, h2⟩ := h
    exact ⟨x, y ++ b, by rw [e, List.append_assoc], h1, h2.app h'⟩
theorem Al.split : ∀ {os os' : List Ass} {rs : List RowT}, Al (os ++ os') rs → ∃ a b, rs = a ++ b ∧ Al os a ∧ Al os' b
  | [], _, rs, h => ⟨[], rs, rfl, rfl, h⟩
  | o :: os, os', rs, h => by
    obtain ⟨x, y, e, h1, h2⟩ := h
    obtain ⟨a, b, e', h3, h4⟩ := Al.split h2
    exact ⟨x ++ a, b, by rw [e, e', List.append_assoc], ⟨x, a, rfl, h1, h3⟩, h4⟩
theorem Al.perm {os os' : List Ass} (hp : os.Perm os') : ∀ {rs : List RowT}, Al os rs → ∃ rs', rs.Perm rs' ∧ Al os' rs' := by
  induction hp with
  | nil => exact fun {rs} h => ⟨rs, .refl _, h⟩
  | cons o _ ih =>
    rintro rs ⟨a, b, e, h1, h2⟩
    obtain ⟨b', hp, h3⟩ := ih h2
    exact ⟨a ++ b', e ▸ hp.append_left a, a, b', rfl, h1, h3⟩
  | swap o o' l =>
    rintro rs ⟨a, b, e, h1, c, d, e', h2, h3⟩
    refine ⟨c ++ (a ++ d), ?_, c, a ++ d, rfl, h2, a, d, rfl, h1, h3⟩
    rw [e, e', ← List.append_assoc, ← List.append_assoc]
    exact List.perm_append_comm.append_right d
  | trans _ _ ih1 ih2 =>
    intro rs h
    obtain ⟨r1, p1, h1⟩ := ih1 h
    obtain ⟨r2, p2, h2⟩ := ih2 h1
    exact ⟨r2, p1.trans p2, h2⟩
theorem Al.one {o : Ass} {rs : List RowT} (h : o rs) : Al [o] rs := ⟨rs, [], by simp, h, rfl⟩
theorem Al.one' {o : Ass} {rs : List RowT} (h : Al [o] rs) : o rs := by
 obtain ⟨a, b, e, h1, h2⟩ := h
 unfold Al at h2
 subst h2
 rw [List.append_nil] at e
 exact e ▸ h1
def VK : List Ass → List Ass → Prop
  | [], [] => True
  | o :: os, o' :: os' => (∀ rs, o rs → o' rs) ∧ VK os os'
  | _, _ => False
theorem Al.imp : ∀ {os os' : List Ass} {rs : List RowT}, VK os os' → Al os rs → Al os' rs
  | [], [], _, _, h => h
  | o :: os, o' :: os', _, hi, ⟨a, b, e, h1, h2⟩ => ⟨a, b, e, hi.1 a h1, h2.imp hi.2⟩
  | [], _ :: _, _, hi, _ => hi.elim
  | _ :: _, [], _, hi, _ => hi.elim
end parts
def Eh (ids : List Nat) (os : List Ass) : List Ass := ids.filterMap (os[·]?)
def Cb (ids : List Nat) : Nat → List Ass → List Ass
  | _, [] => []
  | k, x :: r => match ids.elem k with | true => Cb ids (k + 1) r | false => x :: Cb ids (k + 1) r
def DJ (ids : List Nat) (os : List Ass) : List Ass := Cb ids 0 os
theorem Kj {ids : List Nat} {k : Nat} {x : Ass} {r : List Ass} (h : ids.elem k = true) : Cb ids k (x :: r) = Cb ids (k + 1) r := by
 conv => lhs; unfold Cb
 rw [h]
theorem Li {ids : List Nat} {k : Nat} {x : Ass} {r : List Ass} (h : ids.elem k = false) : Cb ids k (x :: r) = x :: Cb ids (k + 1) r := by
 conv => lhs; unfold Cb
 rw [h]
theorem Mg {ids : List Nat} {i k : Nat} (h : k ≠ i) : (i :: ids).elem k = ids.elem k := by
  have : (k == i) = false := by simpa using h
  show (match k == i with | true => true | false => ids.elem k) = _
  rw [this]
theorem TS {ids : List Nat} {k : Nat} : (k :: ids).elem k = true := by
  show (match k == k with | true => true | false => ids.elem k) = _
  simp
theorem Io : ∀ (k : Nat) (os : List Ass), Cb [] k os = os
  | _, [] => rfl
  | k, x :: r => by rw [Li rfl, Io (k + 1) r]
theorem FU {i : Nat} {ids : List Nat} : ∀ {k : Nat} {os : List Ass}, i < k → Cb (i :: ids) k os = Cb ids k os
  | _, [], _ => rfl
  | k, x :: r, h => by
    have e : (i :: ids).elem k = ids.elem k := Mg (by omega)
    cases hk : ids.elem k with
    | true => rw [Kj (e.trans hk), Kj hk, FU (by omega)]
    | false => rw [Li (e.trans hk), Li hk, FU (by omega)]
theorem Hw {ids : List Nat} : ∀ {os : List Ass} {o : Ass} {k i : Nat}, k + i ∉ ids → os[i]? = some o → (Cb ids k os).Perm (o :: Cb ((k + i) :: ids) k os)
  | [], o, k, i, _, h => by simp at h
  | x :: r, o, k, 0, hm, h => by
    simp only [List.getElem?_cons_zero, Option.some.injEq] at h
    subst h
    have h1 : ids.elem k = false := by
      cases hk : ids.elem k with
      | false => rfl
      | true => exact absurd (List.elem_iff.1 hk) hm
    rw [Li h1]
    show List.Perm _ (x :: Cb (k :: ids) k (x :: r))
    rw [Kj TS, FU (by omega)]
  | x :: r, o, k, i + 1, hm, h => by
    simp only [List.getElem?_cons_succ] at h
    have := Hw (k := k + 1) (by rwa [show k + 1 + i = k + (i + 1) by omega]) h
    rw [show k + 1 + i = k + (i + 1) by omega] at this
    have e : ((k + (i + 1)) :: ids).elem k = ids.elem k := Mg (by omega)
    cases hk : ids.elem k with
    | true => rw [Kj hk, Kj (e.trans hk)]; exact this
    | false => rw [Li hk, Li (e.trans hk)]; exact (this.cons x).trans (.swap o x _)
theorem Hx {ids : List Nat} : ∀ {os : List Ass} {k i : Nat}, os[i]? = none → Cb ((k + i) :: ids) k os = Cb ids k os
  | [], _, _, _ => rfl
  | x :: r, k, 0, h => by simp at h
  | x :: r, k, i + 1, h => by
    simp only [List.getElem?_cons_succ] at h
    have := Hx (ids := ids) (k := k + 1) h
    rw [show k + 1 + i = k + (i + 1) by omega] at this
    have e : ((k + (i + 1)) :: ids).elem k = ids.elem k := Mg (by omega)
    cases hk : ids.elem k with
    | true => rw [Kj hk, Kj (e.trans hk)]; exact this
    | false => rw [Li hk, Li (e.trans hk), this]
theorem CT : ∀ {ids : List Nat} {os : List Ass}, ids.Nodup → (Eh ids os ++ DJ ids os).Perm os := by
  intro ids os
  induction ids with
  | nil => intro _; unfold DJ; rw [Io]; exact .refl _
  | cons i ids ih =>
    intro hn
    obtain ⟨h1, h2⟩ := List.nodup_cons.1 hn
    refine .trans ?_ (ih h2)
    cases hi : os[i]? with
    | none =>
      have e : DJ (i :: ids) os = DJ ids os := by
        have := Hx (ids := ids) (k := 0) hi
        rwa [Nat.zero_add] at this
      rw [e]
      show (List.filterMap _ (i :: ids) ++ _).Perm _
      rw [List.filterMap_cons_none hi]
      exact .refl _
    | some o =>
      have h := Hw (k := 0) (by rwa [Nat.zero_add]) hi
      rw [Nat.zero_add] at h
      show (List.filterMap _ (i :: ids) ++ _).Perm _
      rw [List.filterMap_cons_some hi]
      have e : (Eh ids os ++ o :: DJ (i :: ids) os).Perm (Eh ids os ++ DJ ids os) := List.Perm.append_left _ h.symm
      refine .trans ?_ e
      exact List.perm_middle.symm
theorem Bi : ∀ {rs : List RowT}, Bd rs ↔ (rs.map (·.1)).Nodup
  | [] => by simp [Bd]
  | x :: r => by
    unfold Bd
    rw [List.map_cons, List.nodup_cons, Bi (rs := r)]
    refine and_congr ⟨fun h hm => ?_, fun h y hy e => h ?_⟩ Iff.rfl
    · obtain ⟨y, hy, e⟩ := List.mem_map.1 hm
      exact h y hy e
    · exact List.mem_map.2 ⟨y, hy, e⟩
theorem AN {w : World} {rs : List RowT} : RowsOf w rs ↔ ∀ x ∈ rs, CH w x := ⟨fun h => h.mem, fun h => Mem.RowsOf.ofAll h⟩
section known
variable {B : Nat → Prop} {w0 w w' : World} {rs rs' a b c : List RowT}
theorem CI (h : Mem.Hp B w0 w rs) (hp : rs.Perm rs') : Mem.Hp B w0 w rs' :=
 ⟨h.up, AN.2 fun x hx => h.rows.mem x (hp.mem_iff.2 hx), Bi.2 ((hp.map _).nodup_iff.1 (Bi.1 h.apart)), fun x hx => h.own x (hp.mem_iff.2 hx)⟩
theorem M0 {w' : World} (h : Chg w w' a b) (hp : a.Perm c) : Chg w w' c b := ⟨h.mod.weaken fun j _ ⟨x, hx, e⟩ => ⟨x, hp.mem_iff.1 hx, e⟩, h.rows, h.dist, fun x hx hlt => by obtain ⟨y, hy, e⟩ := h.from_ x hx hlt; exact ⟨y, hp.mem_iff.1 hy, e⟩⟩
theorem I4 {w' : World} (h : Chg w w' a b) (hp : b.Perm c) : Chg w w' a c := ⟨h.mod, AN.2 fun x hx => h.rows.mem x (hp.mem_iff.2 hx), Bi.2 ((hp.map _).nodup_iff.1 (Bi.1 h.dist)), fun x hx => h.from_ x (hp.mem_iff.2 hx)⟩
theorem EK (h : Mem.Hp B w0 w (a ++ b)) (hc : Chg w w' a c) : Mem.Hp B w0 w' (c ++ b) := by
  have hd := Bi.1 h.apart
  rw [List.map_append] at hd
  have hne : ∀ x ∈ a, ∀ y ∈ b, y.1 ≠ x.1 := fun x hx y hy e => (List.nodup_append.1 hd).2.2 x.1 (List.mem_map.2 ⟨x, hx, rfl⟩) y.1 (List.mem_map.2 ⟨y, hy, rfl⟩) e.symm
  have hnb : ∀ y ∈ b, ¬ Cj a y.1 := fun y hy ⟨x, hx, e⟩ => hne x hx y hy e.symm
  have hold : ∀ y ∈ b, CH w y := fun y hy => h.rows.mem y (by simp [hy])
  refine ⟨h.up.trans hc.mod (fun j hj ⟨x, hx, e⟩ => e ▸ h.own x (by simp [hx]) (e ▸ hj)), ?_, ?_, ?_⟩
  · refine AN.2 fun x hx => ?_
    rcases List.mem_append.1 hx with hx | hx
    · exact hc.rows.mem x hx
    · exact (hold x hx).mod hc.mod (hnb x hx)
  · refine Mem.dist_app hc.dist (Bi.2 (List.nodup_append.1 hd).2.1) fun x hx y hy e => ?_
    have hlt := (hold y hy).lt
    rw [e] at hlt
    exact hnb y hy (e ▸ hc.from_ x hx hlt)
  · intro x hx hlt
    rcases List.mem_append.1 hx with hx | hx
    · have := h.up.size
      obtain ⟨y, hy, e⟩ := hc.from_ x hx (by omega)
      exact e ▸ h.own y (by simp [hy]) (e ▸ hlt)
    · exact h.own x (by simp [hx]) hlt
end known
def Hp (B : Nat → Prop) (w0 w : World) (os : List Ass) : Prop := ∃ rs, Al os rs ∧ Mem.Hp B w0 w rs
section hp
variable {B : Nat → Prop} {w0 w w' : World} {os os' : List Ass} {rs : List RowT}
theorem Hp.up (h : Hp B w0 w os) : Mod B w0 w := by obtain ⟨_, _, h⟩ := h; exact h.up
theorem Hp.perm (h : Hp B w0 w os) (hp : os.Perm os') : Hp B w0 w os' := by
 obtain ⟨rs, h1, h2⟩ := h
 obtain ⟨rs', p, h3⟩ := h1.perm hp
 exact ⟨rs', h3, CI h2 p⟩
theorem Hp.start (w : World) : Hp Nil w w [] := ⟨[], rfl, Mem.Hp.start w⟩
theorem Hp.given (h1 : Al os rs) (h2 : RowsOf w rs) (h3 : Bd rs) : Hp (Cj rs) w w os := ⟨rs, h1, Mem.Hp.given h2 h3⟩
theorem Hp.call (h : Hp B w0 w os) (hb : Below w.heap.size w w') : Hp B w0 w' os := by obtain ⟨rs, h1, h2⟩ := h; exact ⟨rs, h1, h2.call hb⟩
theorem Hp.drew (h : Hp B w0 w os) : Hp B w0 w.drew os := by obtain ⟨rs, h1, h2⟩ := h; exact ⟨rs, h1, h2.drew⟩
theorem Hp.new (h : Hp B w0 w os) (t : TypeId) (cs : Array Value) : Hp B w0 (w.alloc (.cells cs t)) (cell w.heap.size t cs :: os) := by
 obtain ⟨rs, h1, h2⟩ := h
 exact ⟨(w.heap.size, EZ t, cs) :: rs, ⟨[(w.heap.size, EZ t, cs)], rs, rfl, rfl, h1⟩, h2.new t cs⟩
theorem Al.at_ : ∀ {os : List Ass} {rs : List RowT} {i : Nat} {o : Ass}, Al os rs → os[i]? = some o → ∃ a x b, rs = a ++ (x ++ b) ∧ o x ∧ ∀ (o' : Ass) (y : List RowT), o' y → Al (os.set i o') (a ++ (y ++ b))
  | [], _, i, o, _, hi => by simp at hi
  | p :: os, rs, 0, o, ⟨a, b, e, h1, h2⟩, hi => by
    simp only [List.getElem?_cons_zero, Option.some.injEq] at hi
    subst hi
    exact ⟨[], a, b, by simpa using e, h1, fun o' y h => ⟨y, b, rfl, h, h2⟩⟩
  | p :: os, rs, i + 1, o, ⟨a, b, e, h1, h2⟩, hi => by
    simp only [List.getElem?_cons_succ] at hi
    obtain ⟨a', x, b', e', h3, h4⟩ := Al.at_ h2 hi
    exact ⟨a ++ a', x, b', by rw [e, e', List.append_assoc], h3, fun o' y h => ⟨a, a' ++ (y ++ b'), by rw [List.append_assoc], h1, h4 o' y h⟩⟩
theorem Hp.thing (h : Hp B w0 w os) (i : Nat) {o : Ass} (hi : os[i]? = some o) : ∃ x, o x ∧ RowsOf w x := by
 obtain ⟨rs, h1, h2⟩ := h
 obtain ⟨a, x, b, e, h3, _⟩ := h1.at_ hi
 refine ⟨x, h3, AN.2 fun y hy => h2.rows.mem y ?_⟩
 rw [e]; simp [hy]
theorem Hp.row (h : Hp B w0 w os) (i : Nat) {g : Nat} {t : TypeId} {cs : Array Value} (hi : os[i]? = some (cell g t cs)) : CY w g t cs := by
 obtain ⟨x, hx, hr⟩ := h.thing i hi
 unfold cell at hx
 subst hx
 exact hr.1
theorem Hp.turn (h : Hp B w0 w os) (i : Nat) {o o' : Ass} (hi : os[i]? = some o) (hc : ∀ x, o x → RowsOf w x → Bd x → ∃ y, o' y ∧ Chg w w' x y) : Hp B w0 w' (os.set i o') := by
 obtain ⟨rs, h1, h2⟩ := h
 obtain ⟨a, x, b, e, h3, h4⟩ := h1.at_ hi
 subst e
 have p : (a ++ (x ++ b)).Perm (x ++ (a ++ b)) := by rw [← List.append_assoc, ← List.append_assoc]; exact List.perm_append_comm.append_right b
 have h5 := CI h2 p
 have hd := Bi.1 h5.apart
 rw [List.map_append] at hd
 obtain ⟨y, hy, hch⟩ := hc x h3 (AN.2 fun z hz => h5.rows.mem z (by simp [hz])) (Bi.2 (List.nodup_append.1 hd).1)
 have p' : (y ++ (a ++ b)).Perm (a ++ (y ++ b)) := by rw [← List.append_assoc, ← List.append_assoc]; exact List.perm_append_comm.append_right b
 exact ⟨_, h4 o' y hy, CI (EK h5 hch) p'⟩
theorem Hp.set (h : Hp B w0 w os) (i : Nat) {g : Nat} {t : TypeId} {cs c : Array Value} (hi : os[i]? = some (cell g t cs)) (hm : Mod (JB g) w w') (hR : CY w' g t c) : Hp B w0 w' (os.set i (cell g t c)) :=
 h.turn i hi fun x hx _ _ => ⟨[(g, t, c)], rfl, by
  unfold cell at hx
  subst hx
  refine ⟨hm.weaken fun j _ e => ⟨(g, EZ t, cs), by simp, e.symm⟩, ⟨hR, trivial⟩, ⟨(fun _ h => by cases h), trivial⟩, fun x hx _ => ?_⟩
  have : x = (g, EZ t, c) := by simpa using hx
  subst this
  exact ⟨(g, EZ t, cs), by simp, rfl⟩⟩
theorem Hp.drop (h : Hp B w0 w os) (k : Nat) : Hp B w0 w (os.drop k) := by
 obtain ⟨rs, h1, h2⟩ := h
 rw [← List.take_append_drop k os] at h1
 obtain ⟨a, b, e, _, h3⟩ := h1.split
 subst e
 have hd := Bi.1 h2.apart
 rw [List.map_append] at hd
 exact ⟨b, h3, h2.up, AN.2 fun x hx => h2.rows.mem x (by simp [hx]), Bi.2 (List.nodup_append.1 hd).2.1, fun x hx => h2.own x (by simp [hx])⟩
theorem Hp.chg (h : Hp B w0 w os) (ids : List Nat) (hn : ids.Nodup) {post : List Ass} (hc : ∀ x, Al (Eh ids os) x → RowsOf w x → Bd x → ∃ y, Al post y ∧ Chg w w' x y) : Hp B w0 w' (post ++ DJ ids os) := by
 obtain ⟨rs, h1, h2⟩ := h.perm (CT (os := os) hn).symm
 obtain ⟨a, b, e, h3, h4⟩ := h1.split
 subst e
 have hd := Bi.1 h2.apart
 rw [List.map_append] at hd
 obtain ⟨y, hy, hch⟩ := hc a h3 (AN.2 fun z hz => h2.rows.mem z (by simp [hz])) (Bi.2 (List.nodup_append.1 hd).1)
 exact ⟨y ++ b, hy.app h4, EK h2 hch⟩
theorem Hp.give (h : Hp B w0 w os) (ids : List Nat) (hn : ids.Nodup) : ∃ x, Al (Eh ids os) x ∧ RowsOf w x ∧ Bd x ∧ ∀ (post : List Ass) (y : List RowT) (w' : World), Al post y → Chg w w' x y → Hp B w0 w' (post ++ DJ ids os) := by
 obtain ⟨rs, h1, h2⟩ := h.perm (CT (os := os) hn).symm
 obtain ⟨a, b, e, h3, h4⟩ := h1.split
 subst e
 have hd := Bi.1 h2.apart
 rw [List.map_append] at hd
 exact ⟨a, h3, AN.2 fun z hz => h2.rows.mem z (by simp [hz]), Bi.2 (List.nodup_append.1 hd).1, fun post y w' hy hch => ⟨y ++ b, hy.app h4, EK h2 hch⟩⟩
theorem Hp.tell (h : Hp (Cj rs) w0 w os) (ids : List Nat) (hn : ids.Nodup) : ∃ y, Al (Eh ids os) y ∧ Chg w0 w rs y := by
 obtain ⟨rs', h1, h2⟩ := h.perm (CT (os := os) hn).symm
 obtain ⟨a, b, e, h3, h4⟩ := h1.split
 subst e
 have hd := Bi.1 h2.apart
 rw [List.map_append] at hd
 exact ⟨a, h3, h2.up, AN.2 fun z hz => h2.rows.mem z (by simp [hz]), Bi.2 (List.nodup_append.1 hd).1, fun x hx => h2.own x (by simp [hx])⟩
theorem Hp.imp (h : Hp B w0 w os) (hi : ∀ rs, Al os rs → ∃ rs', rs.Perm rs' ∧ Al os' rs') : Hp B w0 w os' := by
 obtain ⟨rs, h1, h2⟩ := h
 obtain ⟨rs', p, h3⟩ := hi rs h1
 exact ⟨rs', h3, CI h2 p⟩
end hp
def AS {X : Type} (P : Program) (F : FuncId) (args : Array Value) (pre : List Ass) (val : X → Value) (post : X → List Ass) : Prop :=
  ∀ w rs, Al pre rs → RowsOf w rs → Bd rs → Calls P F args w fun e w' => ∃ x, e = .returned (val x) ∧ ∃ rs', Al (post x) rs' ∧ Chg w w' rs rs'
inductive Res2 (P : Program) (env : List (Nat × Value)) (rs : List Ass) : ResultVar → Value → Prop
  | tmp {t : Tmp} {v : Value} (h : look env t = some v) : Res2 P env rs (.tmp t) v
  | cell (i : Nat) {s : Tmp} {T : TypeId} {g off : Nat} {t : TypeId} {cs : Array Value} {v : Value} (hv : JC P T cs off v) (h : look env s = some (.pointer (some ⟨g, off, none⟩))) (hi : rs[i]? = some (Sep.cell g t cs)) : Res2 P env rs (.cell s T) v
def Ch (P : Program) (ops : Array Oper) (Q : Exit → Act → World → Prop) (n : Nat) (env : List (Nat × Value)) (B : Nat → Prop) (w0 : World) (rs : List Ass) (l : List Oper) : Prop := ∀ a w, Fr n a env → Hp B w0 w rs → wpList P ops Q l a w
def Bo (P : Program) (Q : Exit → Act → World → Prop) (n : Nat) (env : List (Nat × Value)) (B : Nat → Prop) (w0 : World) (rs : List Ass) (c : Code) : Prop := ∀ a w, Fr n a env → Hp B w0 w rs → c.wp P Q a w
def Cm (Q : Exit → Act → World → Prop) (n : Nat) (env : List (Nat × Value)) (B : Nat → Prop) (w0 : World) (rs : List Ass) (e : Exit) : Prop := ∀ a w, Fr n a env → Hp B w0 w rs → Q e a w
section wl2
variable {P : Program} {ops : Array Oper} {Q : Exit → Act → World → Prop} {n : Nat} {B : Nat → Prop} {w0 : World} {rs rs' : List Ass} {env env' : List (Nat × Value)} {l rest : List Oper} {o : Oper} {d : Nat} {fl : List ((Nat × Nat) × Nat)}
theorem Af (hfl : I2 P fl) : ∀ {l : List Oper} {env : List (Nat × Value)}, Kg fl ops n l env = some (env', rest) → Ch P ops Q n env' B w0 rs rest → Ch P ops Q n env B w0 rs l
  | [], env, h, hk => by
    simp only [Kg, Option.some.injEq, Prod.mk.injEq] at h
    obtain ⟨rfl, rfl⟩ := h
    exact hk
  | o :: r, env, h, hk => by
    unfold Kg at h
    cases hw : wants ops o env with
    | none =>
      simp only [hw, Option.some.injEq, Prod.mk.injEq] at h
      obtain ⟨rfl, rfl⟩ := h
      exact hk
    | some b =>
      cases b with
      | false =>
        simp only [hw] at h
        cases hd : o.dst with
        | none => simp [hd] at h
        | some d =>
          simp only [hd] at h
          cases hn : Nat.blt d n with
          | false => simp [hn] at h
          | true =>
            simp only [hn] at h
            exact fun a w hF hH => L7 hF hw hd (Em hn) fun b hb => Af hfl h hk b w hb hH
      | true =>
        simp only [hw] at h
        cases hq : q1 fl o env with
        | none =>
          simp only [hq, Option.some.injEq, Prod.mk.injEq] at h
          obtain ⟨rfl, rfl⟩ := h
          exact hk
        | some v =>
          simp only [hq] at h
          cases hd : o.dst with
          | none => simp [hd] at h
          | some d =>
            simp only [hd] at h
            cases hn : Nat.blt d n with
            | false => simp [hn] at h
            | true =>
              simp only [hn] at h
              exact fun a w hF hH => QB hF hw hd (Em hn) v (fun b hb => Ae hfl hq hb) fun b hb => Af hfl h hk b w hb hH
theorem Ac (h1 : UE ops n o env = some d) (v : Value) (hrun : ∀ b w, Fr n b env → Hp B w0 w rs → (execOp b.eval o).run P w = .ok (.value v) w) (h : Ch P ops Q n ((d, v) :: env) B w0 rs rest) : Ch P ops Q n env B w0 rs (o :: rest) :=
 fun a w hF hH => QB hF (B1 h1).1 (B1 h1).2.1 (B1 h1).2.2 v (fun b hb => hrun b w hb hH) fun b hb => h b w hb hH
theorem AP (h : Cm Q n env B w0 rs .normal) : Ch P ops Q n env B w0 rs [] := h
theorem Ab {y : Code} (h : Bo P Q n env B w0 rs y) : Ch P ops (Exit.then (fun a w => y.wp P Q a w) Q) n env B w0 rs [] := h
theorem Ch.keep (hs : FP env env') (h : Ch P ops Q n env' B w0 rs l) : Ch P ops Q n env B w0 rs l := fun a w hF hH => h a w (hF.keep hs) hH
theorem Bo.keep {c : Code} (hs : FP env env') (h : Bo P Q n env' B w0 rs c) : Bo P Q n env B w0 rs c := fun a w hF hH => h a w (hF.keep hs) hH
theorem Cm.keep {e : Exit} (hs : FP env env') (h : Cm Q n env' B w0 rs e) : Cm Q n env B w0 rs e := fun a w hF hH => h a w (hF.keep hs) hH
end wl2
section wc2
variable {P : Program} {Q : Exit → Act → World → Prop} {n : Nat} {B : Nat → Prop} {w0 : World} {rs : List Ass} {env : List (Nat × Value)}
theorem Ad {id : Nat} {l : List Oper} {y : Code} (h : Ch P l.toArray (Exit.then (fun a w => y.wp P Q a w) Q) n env B w0 rs l) : Bo P Q n env B w0 rs (.seq (.region id l.toArray false) y) := fun a w hF hH => wp_seq (wp_region_lit (h a w hF hH))
theorem BI {id : Nat} {l : List Oper} (h : Ch P l.toArray Q n env B w0 rs l) : Bo P Q n env B w0 rs (.region id l.toArray false) := fun a w hF hH => wp_region_lit (h a w hF hH)
theorem Aq {x y : Code} (h : Bo P (Exit.then (fun a w => y.wp P Q a w) Q) n env B w0 rs x) : Bo P Q n env B w0 rs (.seq x y) := fun a w hF hH => wp_seq (h a w hF hH)
theorem AD {c : Operand} {x y : Code} (hc : evs env c = some (.bool true)) (h : Bo P Q n env B w0 rs x) : Bo P Q n env B w0 rs (.cond c x y) := fun a w hF hH => Ma hF hc (h a w hF hH)
theorem Au {c : Operand} {x y : Code} (hc : evs env c = some (.bool false)) (h : Bo P Q n env B w0 rs y) : Bo P Q n env B w0 rs (.cond c x y) := fun a w hF hH => Mb hF hc (h a w hF hH)
theorem Ax (h : Cm Q n env B w0 rs .normal) : Bo P Q n env B w0 rs .skip := fun a w hF hH => wp_skip (h a w hF hH)
theorem Az (h : Cm Q n env B w0 rs .ret) : Bo P Q n env B w0 rs .ret := fun a w hF hH => wp_ret (h a w hF hH)
theorem AX {id : Nat} {c : Code} (h : Bo P (Exit.inBlock id Q) n env B w0 rs c) : Bo P Q n env B w0 rs (.block id c) := fun a w hF hH => wp_block (h a w hF hH)
theorem Cu {id : Nat} (h : Cm Q n env B w0 rs (.exit id)) : Bo P Q n env B w0 rs (.exit id) := fun a w hF hH => wp_exit (h a w hF hH)
theorem AG {y : Code} (h : Bo P Q n env B w0 rs y) : Cm (Exit.then (fun a w => y.wp P Q a w) Q) n env B w0 rs .normal := h
theorem BJ {id : Nat} (h : Cm Q n env B w0 rs .normal) : Cm (Exit.inBlock id Q) n env B w0 rs .normal := h
theorem CO {K : Act → World → Prop} (h : Cm Q n env B w0 rs .ret) : Cm (Exit.then K Q) n env B w0 rs .ret := h
theorem Bm {id : Nat} (h : Cm Q n env B w0 rs .ret) : Cm (Exit.inBlock id Q) n env B w0 rs .ret := h
theorem EO {K : Act → World → Prop} {id : Nat} (h : Cm Q n env B w0 rs (.exit id)) : Cm (Exit.then K Q) n env B w0 rs (.exit id) := h
theorem Bc {id : Nat} (h : Cm Q n env B w0 rs .normal) : Cm (Exit.inBlock id Q) n env B w0 rs (.exit id) := fun a w hF hH => (if_pos rfl).mpr (h a w hF hH)
theorem Ev {id id' : Nat} (hne : id' ≠ id) (h : Cm Q n env B w0 rs (.exit id')) : Cm (Exit.inBlock id Q) n env B w0 rs (.exit id') := fun a w hF hH => (if_neg hne).mpr (h a w hF hH)
variable {fn : Func} {R : Ending → World → Prop}
theorem Res2.res {r : ResultVar} {v : Value} {w : World} (h : Res2 P env rs r v) (hH : Hp B w0 w rs) : Res P env w r v := by
  cases h with
  | tmp h => exact .tmp h
  | cell i hv h hi => exact .cell h hv (hH.row i hi)
theorem DS {r : ResultVar} {v : Value} {w : World} (h : Res2 P env rs r v) (hH : Hp B w0 w rs) : Res P env w r v := by
  cases h with
  | tmp h => exact .tmp h
  | cell i hv h hi => exact .cell h hv (hH.row i hi)
theorem Ay {r1 : ResultVar} {v1 : Value} (h1 : Res2 P env rs r1 v1) (hR : ∀ w, Hp B w0 w rs → R (.returned v1) w) (hr : fn.results = #[r1]) : Cm (bodyPost P fn R) n env B w0 rs .ret := fun _ w hF hH => UT hF hr (DS h1 hH) (hR w hH)
theorem BX {r1 r2 : ResultVar} {v1 v2 : Value} (h1 : Res2 P env rs r1 v1) (h2 : Res2 P env rs r2 v2) (hR : ∀ w, Hp B w0 w rs → R (.returned (.tuple #[v1, v2])) w) (hr : fn.results = #[r1, r2]) : Cm (bodyPost P fn R) n env B w0 rs .ret := fun _ w hF hH => UU hF hr (DS h1 hH) (DS h2 hH) (hR w hH)
theorem Me {r1 r2 r3 : ResultVar} {v1 v2 v3 : Value} (h1 : Res2 P env rs r1 v1) (h2 : Res2 P env rs r2 v2) (h3 : Res2 P env rs r3 v3) (hR : ∀ w, Hp B w0 w rs → R (.returned (.tuple #[v1, v2, v3])) w) (hr : fn.results = #[r1, r2, r3]) : Cm (bodyPost P fn R) n env B w0 rs .ret := fun _ w hF hH => UV hF hr (DS h1 hH) (DS h2 hH) (DS h3 hH) (hR w hH)
theorem Kh (hR : ∀ w, Hp B w0 w rs → R (.returned (.tuple #[])) w) (hr : fn.results = #[]) : Cm (bodyPost P fn R) n env B w0 rs .ret := fun _ w hF hH => UW hF hr (hR w hH)
theorem DP (hR : ∀ w, Hp B w0 w rs → R (.returned (.tuple #[])) w) (hr : fn.results = #[]) : Cm (bodyPost P fn R) n env B w0 rs .normal := fun _ w hF hH => RV hF hr (hR w hH)
theorem In {f : FuncId} {c : Code} {args : List Value} {w : World} (n : Nat) (hf : P.funcs[f]? = some fn) (hb : fn.body = some c) (hn : fn.ntmps = n) (hs : Nat.ble args.length n = true) (h : Bo P (bodyPost P fn R) n (Fw 0 args) Nil w [] c) : Calls P f args.toArray w R := Gl n hf hb hn (Nat.le_of_ble_eq_true hs) fun a hF => h a w hF (Hp.start w)
end wc2
section par2
variable {P : Program} {ops : Array Oper} {Q : Exit → Act → World → Prop} {n : Nat} {B : Nat → Prop} {w0 : World} {rs : List Ass} {env env0 : List (Nat × Value)} {jobs : List Job} {o : Oper} {deps : List Nat} {v : Value} {fl : List ((Nat × Nat) × Nat)} {kk : Nat}
def VJ (P : Program) (ops : Array Oper) (Q : Exit → Act → World → Prop) (n : Nat) (jobs : List Job) (env0 : List (Nat × Value)) (B : Nat → Prop) (w0 : World) (rs : List Ass) (o : Oper) (j : Job) : Prop := ∀ w, Hp B w0 w rs → OB P ops Q n jobs env0 w o j
def D6 (P : Program) (ops : Array Oper) (Q : Exit → Act → World → Prop) (n : Nat) (jobs : List Job) (env0 : List (Nat × Value)) (B : Nat → Prop) (w0 : World) (rs : List Ass) : List Oper → List Job → Prop
  | o :: os, j :: js => VJ P ops Q n jobs env0 B w0 rs o j ∧ D6 P ops Q n jobs env0 B w0 rs os js
  | _, _ => True
theorem D6.all : ∀ {os : List Oper} {js : List Job}, D6 P ops Q n jobs env0 B w0 rs os js → ∀ w, Hp B w0 w rs → Ej P ops Q n w.heap.size jobs env0 (VC w) os js
  | [], _, _, _, _ => by unfold Ej; trivial
  | _ :: _, [], _, _, _ => by unfold Ej; trivial
  | _ :: _, _ :: _, h, w, hH => ⟨h.1 w hH, D6.all h.2 w hH⟩
end par2
section orders2
variable {P : Program} {ops : Array Oper} {Q : Exit → Act → World → Prop} {n f i d : Nat} {B : Nat → Prop} {w0 : World} {rs : List Ass} {env env' : List (Nat × Value)} {listed : Array Bool} {o : Oper} {fl : List ((Nat × Nat) × Nat)}
def MY (P : Program) (ops : Array Oper) (Q : Exit → Act → World → Prop) (n : Nat) (env : List (Nat × Value)) (B : Nat → Prop) (w0 : World) (rs : List Ass) (f : Nat) (listed : Array Bool) : Prop := ∀ a w, Fr n a env → Hp B w0 w rs → wpAny P .any ops Q f listed a w
end orders2
section loops
variable {P : Program} {Q : Exit → Act → World → Prop} {n : Nat} {B : Nat → Prop} {w0 : World} {rs rs' : List Ass} {env env' : List (Nat × Value)} {c : Code} {α : Type}
theorem Bo.less (k : Nat) (h : Bo P Q n env B w0 (rs.drop k) c) : Bo P Q n env B w0 rs c := fun a w hF hH => h a w hF (hH.drop k)
theorem Bo.at_ (hs : FP env env') (hr : rs = rs') (h : Bo P Q n env' B w0 rs' c) : Bo P Q n env B w0 rs c := fun a w hF hH => h a w (hF.keep hs) (hr ▸ hH)
def JE (n : Nat) (B : Nat → Prop) (w0 : World) (E : α → List (Nat × Value)) (R : α → List Ass) (Inv : α → Prop) (μ : α → Nat) (x : α) : Act → World → Prop := fun a w => ∃ y, Inv y ∧ μ y < μ x ∧ Fr n a (E y) ∧ Hp B w0 w (R y)
theorem CE (E : α → List (Nat × Value)) (R : α → List Ass) (Inv : α → Prop) (μ : α → Nat) (x : α) (hx : Inv x) (hE : FP env (E x)) (hR : rs = R x) (h : ∀ x, Inv x → Bo P (Exit.then (JE n B w0 E R Inv μ x) Q) n (E x) B w0 (R x) c) : Bo P Q n env B w0 rs (.loop c) := by
  subst hR
  intro a w hF hH
  have key : ∀ m x, μ x < m → Inv x → ∀ a w, Fr n a (E x) → Hp B w0 w (R x) → Code.rounds P c Q m a w := by
    intro m
    induction m with
    | zero => intro x hx; omega
    | succ m ih =>
      intro x hm hx a w hF hH
      refine Code.wp_mono (fun e a' w' q => ?_) (h x hx a w hF hH)
      cases e with
      | normal =>
        obtain ⟨y, hy, hlt, hF', hH'⟩ := q
        exact ih y (by omega) hy a' w' hF' hH'
      | _ => exact q
  exact wp_loop_rounds _ (key _ x (Nat.lt_succ_self _) hx a w (hF.keep hE) hH)
theorem Cr {E : α → List (Nat × Value)} {R : α → List Ass} {Inv : α → Prop} {μ : α → Nat} {x : α} (y : α) (k : Nat) (hy : Inv y) (hμ : μ y < μ x) (hs : FP env (E y)) (hr : rs.drop k = R y) : Cm (Exit.then (JE n B w0 E R Inv μ x) Q) n env B w0 rs .normal := fun _ _ hF hH => ⟨y, hy, hμ, hF.keep hs, hr ▸ hH.drop k⟩
end loops
section orders3
variable {P : Program} {ops : Array Oper} {Q : Exit → Act → World → Prop} {n fu i d : Nat} {B : Nat → Prop} {w0 : World} {rs : List Ass} {env : List (Nat × Value)} {listed : Array Bool} {o : Oper}
end orders3
section textsBs
variable {P : Program} {ops : Array Oper} {Q : Exit → Act → World → Prop} {n d : Nat} {B : Nat → Prop} {w0 : World} {rs : List Ass} {env env0 : List (Nat × Value)} {rest : List Oper} {o : Oper} {a : Act} {w : World} {jobs : List Job} {deps : List Nat} {kk : Nat}
end textsBs
section textsBytes
variable {P : Program} {ops : Array Oper} {Q : Exit → Act → World → Prop} {n : Nat} {B : Nat → Prop} {w0 w : World} {rs : List Ass} {env : List (Nat × Value)} {rest : List Oper} {o : Oper} {d : Nat}
end textsBytes
section par3
variable {P : Program} {ops : Array Oper} {Q : Exit → Act → World → Prop} {n : Nat} {B : Nat → Prop} {w0 : World} {rs : List Ass} {env : List (Nat × Value)}
theorem MY.keep {f : Nat} {env' : List (Nat × Value)} {listed : Array Bool} (hs : FP env env') (h : MY P ops Q n env' B w0 rs f listed) : MY P ops Q n env B w0 rs f listed := fun a w hF hH => h a w (hF.keep hs) hH
end par3
section par4
variable {P : Program} {ops : Array Oper} {Q : Exit → Act → World → Prop} {n : Nat} {B : Nat → Prop} {w0 : World} {rs : List Ass} {env : List (Nat × Value)}
def RX (n : Nat) (B : Nat → Prop) (w0 : World) (E : List (Nat × Value)) (R : List Ass) : Exit → Act → World → Prop := fun e a w => e = .normal ∧ Fr n a E ∧ Hp B w0 w R
theorem RY {c : Code} (E : List (Nat × Value)) (R : List Ass) (h1 : Bo P (RX n B w0 E R) n env B w0 rs c) (h2 : Cm Q n E B w0 R .normal) : Bo P Q n env B w0 rs c := fun a w hF hH => Code.wp_mono (fun e a' w' (h : RX n B w0 E R e a' w') => by obtain ⟨he, hF', hH'⟩ := h; subst he; exact h2 a' w' hF' hH') (h1 a w hF hH)
theorem PG {E : List (Nat × Value)} {R : List Ass} (k : Nat) (hs : FP env E) (hr : rs.drop k = R) : Cm (RX n B w0 E R) n env B w0 rs .normal := fun _ _ hF hH => ⟨rfl, hF.keep hs, hr ▸ hH.drop k⟩
end par4
section does
variable {P : Program} {ops : Array Oper} {Q : Exit → Act → World → Prop} {n d : Nat} {B : Nat → Prop} {w0 : World} {os : List Ass} {env : List (Nat × Value)} {rest l : List Oper} {o : Oper} {c : Code} {e : Exit} {fu : Nat} {ids : List Nat} {listed : Array Bool}
def E0 : Ass := fun rs => rs = []
def E8 : Nat → List Ass → List Ass
  | 0, _ => []
  | k + 1, [] => E0 :: E8 k []
  | k + 1, x :: r => x :: E8 k r
def EP : List Nat → List Ass → List Ass → List Ass
  | i :: ids, x :: xs, os => EP ids xs (os.set i x)
  | _, _, os => os
def C1 : List Nat → Bool
  | [] => true
  | i :: r => !r.elem i && C1 r
theorem BT : ∀ {l : List Nat}, C1 l = true → l.Nodup
  | [], _ => List.nodup_nil
  | i :: r, h => by
    unfold C1 at h
    simp only [Bool.and_eq_true, Bool.not_eq_true'] at h
    refine List.nodup_cons.2 ⟨fun hm => ?_, BT h.2⟩
    rw [List.elem_iff.2 hm] at h
    cases h.1
theorem Eo : ∀ {k : Nat} {rs : List RowT}, Al (List.replicate k E0) rs ↔ rs = []
  | 0, rs => by simp [Al]
  | k + 1, rs => by
    rw [List.replicate_succ]
    constructor
    · rintro ⟨a, b, e, h1, h2⟩
      have := (Eo (k := k)).1 h2
      unfold E0 at h1
      subst h1; subst this
      exact e
    · rintro rfl
      exact ⟨[], [], rfl, rfl, Eo.2 rfl⟩
theorem AS.pad {X : Type} {F : FuncId} {args : Array Value} {pre : List Ass} {val : X → Value} {post : X → List Ass} (h : AS P F args pre val post) (k : Nat) : AS P F args (pre ++ List.replicate k E0) val post := fun w rs h1 h2 h3 => by
 obtain ⟨a, b, e, ha, hb⟩ := h1.split
 have := Eo.1 hb
 subst this
 rw [List.append_nil] at e
 subst e
 exact h w _ ha h2 h3
theorem I5 : ∀ (k : Nat) (l : List Ass), (E8 k l).length = k
  | 0, _ => rfl
  | k + 1, [] => by simp [E8, I5 k []]
  | k + 1, x :: r => by simp [E8, I5 k r]
theorem Ez : ∀ {k : Nat} {l : List Ass} {rs : List RowT}, Al l rs → ∃ rs', rs.Perm rs' ∧ Al (l.drop k ++ E8 k l) rs'
  | 0, l, rs, h => ⟨rs, .refl _, by simpa [E8] using h⟩
  | k + 1, [], rs, h => by
    obtain ⟨rs', p, h'⟩ := Ez (k := k) (l := []) h
    refine ⟨rs', p, ?_⟩
    simp only [List.drop_nil, List.nil_append] at h' ⊢
    exact ⟨[], rs', rfl, rfl, h'⟩
  | k + 1, x :: r, rs, ⟨a, b, e, h1, h2⟩ => by
    obtain ⟨b', p, h'⟩ := Ez (k := k) h2
    have h3 : Al (x :: (r.drop k ++ E8 k r)) (a ++ b') := ⟨a, b', rfl, h1, h'⟩
    obtain ⟨c, p2, h4⟩ := h3.perm (os' := r.drop k ++ x :: E8 k r) List.perm_middle.symm
    exact ⟨c, (e ▸ p.append_left a).trans p2, h4⟩
theorem PH {ids : List Nat} : ∀ {os : List Ass} {k i : Nat} {x : Ass}, (k + i) ∈ ids → Cb ids k (os.set i x) = Cb ids k os
  | [], _, _, _, _ => by simp
  | y :: r, k, 0, x, h => by
    have : ids.elem k = true := List.elem_iff.2 h
    rw [List.set_cons_zero, Kj this, Kj this]
  | y :: r, k, i + 1, x, h => by
    have ih := PH (os := r) (k := k + 1) (i := i) (x := x) (by rwa [show k + 1 + i = k + (i + 1) by omega])
    rw [List.set_cons_succ]
    cases hk : ids.elem k with
    | true => rw [Kj hk, Kj hk, ih]
    | false => rw [Li hk, Li hk, ih]
theorem M1 {ids0 : List Nat} : ∀ {ids : List Nat} {xs os : List Ass}, (∀ i ∈ ids, i ∈ ids0) → DJ ids0 (EP ids xs os) = DJ ids0 os
  | [], _, _, _ => by unfold EP; rfl
  | i :: ids, [], _, _ => by unfold EP; rfl
  | i :: ids, x :: xs, os, h => by
    show DJ ids0 (EP ids xs (os.set i x)) = _
    rw [M1 fun j hj => h j (by simp [hj])]
    exact PH (k := 0) (by rw [Nat.zero_add]; exact h i (by simp))
theorem M2 : ∀ {ids : List Nat} {xs os : List Ass} {i : Nat}, i ∉ ids → (EP ids xs os)[i]? = os[i]?
  | [], _, _, _, _ => by unfold EP; rfl
  | j :: ids, [], _, _, _ => by unfold EP; rfl
  | j :: ids, x :: xs, os, i, h => by
    show (EP ids xs (os.set j x))[i]? = _
    rw [M2 fun hm => h (by simp [hm]), List.getElem?_set_ne (fun e => h (by simp [e]))]
theorem M3 : ∀ {ids : List Nat} {xs os : List Ass}, ids.Nodup → (∀ i ∈ ids, i < os.length) → xs.length = ids.length → Eh ids (EP ids xs os) = xs
  | [], xs, _, _, _, hl => by
    have : xs = [] := List.length_eq_zero_iff.1 hl
    subst this; rfl
  | i :: ids, [], _, _, _, hl => by simp at hl
  | i :: ids, x :: xs, os, hn, hb, hl => by
    obtain ⟨h1, h2⟩ := List.nodup_cons.1 hn
    have e1 : (EP ids xs (os.set i x))[i]? = some x := by
      rw [M2 h1]
      simp [hb i (by simp)]
    have ih := M3 (ids := ids) (xs := xs) (os := os.set i x) h2 (fun j hj => by rw [List.length_set]; exact hb j (by simp [hj])) (by simpa using hl)
    show List.filterMap _ (i :: ids) = _
    rw [List.filterMap_cons_some (b := x) (by exact e1)]
    exact congrArg _ ih
theorem I6 {ids : List Nat} {xs os : List Ass} (hn : ids.Nodup) (hb : (ids.all fun i => Nat.blt i os.length) = true) : (E8 ids.length xs ++ DJ ids os).Perm (EP ids (E8 ids.length xs) os) := by
 have hb' : ∀ i ∈ ids, i < os.length := fun i hi => Em (List.all_eq_true.1 hb i hi)
 have := CT (ids := ids) (os := EP ids (E8 ids.length xs) os) hn
 rwa [M3 hn hb' (I5 _ _), M1 (fun _ h => h)] at this
theorem AS.calls {X : Type} {F : FuncId} {vs : List Value} {pre : List Ass} {val : X → Value} {post : X → List Ass} {w : World} (ids : List Nat) (hc : AS P F vs.toArray pre val post) (hp : Eh ids os = pre) (hn : ids.Nodup) (h : Hp B w0 w os) : Calls P F vs.toArray w fun e w' => ∃ x, e = .returned (val x) ∧ Hp B w0 w' (post x ++ DJ ids os) := by
 subst hp
 obtain ⟨x, h1, h2, h3, h4⟩ := h.give ids hn
 exact (hc w x h1 h2 h3).mono fun e w' ⟨v, he, y, hy, hch⟩ => ⟨v, he, h4 _ y w' hy hch⟩
def Br {X : Type} (P : Program) (Q : Exit → Act → World → Prop) (n : Nat) (env : List (Nat × Value)) (B : Nat → Prop) (w0 : World) (os : List Ass) (o : Oper) (val : X → Value) (post : X → List Ass) : Prop :=
  ∀ (b : Act) (w : World), Hp B w0 w os → Fr n b env → ∀ K : Act → World → Prop, (∀ x w', Hp B w0 w' (post x) → K (b.put o.dst (val x)) w') → o.wp P b w K Q
theorem Ai {X : Type} {val : X → Value} {post : X → List Ass} (h1 : UE ops n o env = some d) (ha : Br P Q n env B w0 os o val post) (h : ∀ x, Ch P ops Q n ((d, val x) :: env) B w0 (post x) rest) : Ch P ops Q n env B w0 os (o :: rest) := fun a w hF hH =>
 I1 hF (B1 h1).1 fun K hK => ha a w hH hF K fun x w' hp => by
  rw [(B1 h1).2.1]
  exact hK _ _ (h x _ _ (hF.put (B1 h1).2.2 _) hp)
theorem AT {X : Type} {val : X → Value} {post : X → List Ass} (hg : wants ops o env = some true) (hd : o.dst = none) (ha : Br P Q n env B w0 os o val post) (h : ∀ x, Ch P ops Q n env B w0 (post x) rest) : Ch P ops Q n env B w0 os (o :: rest) := fun a w hF hH =>
 I1 hF hg fun K hK => ha a w hH hF K fun x w' hp => by
  rw [hd]
  exact hK _ _ (h x _ _ hF hp)
theorem E9 {r : Value} {w' : World} (b : Act) (hrun : (execOp b.eval o).run P w0 = .ok (.value r) w') {K : Act → World → Prop} (h : K (b.put o.dst r) w') : o.wp P b w0 K Q := by
 unfold Oper.wp
 rw [hrun, Oper.upon_value]
 exact h
theorem Am {X : Type} {F : FuncId} {f : Operand} {args : Array Operand} {ats : Array TypeId} {vs : List Value} {pre : List Ass} {val : X → Value} {post : X → List Ass} {os' : X → List Ass} (ids : List Nat) (pads : Nat) (hE : TP P F) (hc : AS P F vs.toArray pre val post) (hp : Eh ids os = pre ++ List.replicate pads E0) (hn : C1 ids = true) (hb : (ids.all fun i => Nat.blt i os.length) = true) (he : ∀ x, (post x).drop ids.length ++ EP ids (E8 ids.length (post x)) os = os' x) (ho : o.op = .call { callee := .value f, args := args, argTypes := ats }) (hf : evs env f = some (.func (.func F) #[] #[])) (hx : evl env args.toList = some vs) :
  Br P Q n env B w0 os o val os' := fun b w hH hb' K hK => by
 unfold Oper.wp
 rw [GY hE ho hf hx hb', Oper.upon_enter]
 refine (AS.calls ids (hc.pad pads) hp (BT hn) hH).mono ?_
 rintro e w' ⟨x, rfl, hq⟩
 refine hK x w' (he x ▸ Hp.imp hq fun rs h => ?_)
 obtain ⟨a, c, e, ha, hc'⟩ := h.split
 obtain ⟨a', p, ha'⟩ := Ez (k := ids.length) ha
 have h2 := Al.app ha' hc'
 rw [List.append_assoc] at h2
 obtain ⟨r2, p2, h3⟩ := h2.perm ((I6 (xs := post x) (BT hn) hb).append_left _)
 exact ⟨r2, e ▸ (p.append_right c).trans p2, h3⟩
theorem BQ {F : FuncId} {f : Operand} {args : Array Operand} {ats : Array TypeId} {vs : List Value} {v : Value} (hE : TP P F) (hc : ∀ w, Hp B w0 w os → Calls P F vs.toArray w fun e w' => e = .returned v ∧ Below w.heap.size w w') (ho : o.op = .call { callee := .value f, args := args, argTypes := ats }) (hf : evs env f = some (.func (.func F) #[] #[])) (hx : evl env args.toList = some vs) :
  Br P Q n env B w0 os o (fun _ : Unit => v) (fun _ => os) := fun b w hH hb K hK => by
 unfold Oper.wp
 rw [GY hE ho hf hx hb, Oper.upon_enter]
 refine (hc w hH).mono ?_
 rintro e w' ⟨rfl, hbl⟩
 exact hK () w' (hH.call hbl)
theorem Br.to {X : Type} {val : X → Value} {post post' : X → List Ass} (h : Br P Q n env B w0 os o val post) (he : ∀ x, post x = post' x) : Br P Q n env B w0 os o val post' := fun b w hH hb K hK => h b w hH hb K fun x w' hp => hK x w' (he x ▸ hp)
theorem Br.imp {X : Type} {val : X → Value} {post post' : X → List Ass} (h : Br P Q n env B w0 os o val post) (he : ∀ x rs, Al (post x) rs → ∃ rs', rs.Perm rs' ∧ Al (post' x) rs') : Br P Q n env B w0 os o val post' := fun b w hH hb K hK => h b w hH hb K fun x w' hp => hK x w' (hp.imp (he x))
theorem Br.s {X : Type} {val : X → Value} {post : X → List Ass} {S : Value → List Ass} (h : Br P Q n env B w0 os o val post) (he : ∀ x, post x = S (val x)) : ∀ (b : Act) (w : World), Hp B w0 w os → Fr n b env → ∀ K : Act → World → Prop, (∀ v w', Hp B w0 w' (S v) → K (b.put o.dst v) w') → o.wp P b w K Q := fun b w hH hb K hK => h b w hH hb K fun x w' hp => hK _ w' (he x ▸ hp)
theorem Br.su {v0 : Value} {post : Unit → List Ass} {os' : Value → List Ass} (h : Br P Q n env B w0 os o (fun _ : Unit => v0) post) (he : post () = os' undef) : ∀ (b : Act) (w : World), Hp B w0 w os → Fr n b env → ∀ K : Act → World → Prop, (∀ v w', Hp B w0 w' (os' v) → K (b.put o.dst v0) w') → o.wp P b w K Q := fun b w hH hb K hK => h b w hH hb K fun x w' hp => hK undef w' (he ▸ hp)
theorem CZ {T : TypeId} {x : Operand} {v : Value} {cs : Array Value} (ho : o.op = .box T x) (hx : evs env x = some v) (hc : v.cells = cs) : Br P Q n env B w0 os o (fun g : Nat => .pointer (some ⟨g, 0, none⟩)) (fun g => cell g T cs :: os) := fun b w hH hb K hK => by
 have hrun : (execOp b.eval o).run P w = .ok (.value (.pointer (some ⟨w.heap.size, 0, none⟩))) (w.alloc (.cells cs T)) := by
  unfold execOp
  simp [ho, hb.evs hx, Instr.box, newVar, newRow, hc]
 unfold Oper.wp
 rw [hrun, Oper.upon_value]
 exact hK _ _ (hH.new T cs)
theorem BL {T : TypeId} {zs : Array Value} (hz : L9 P T zs) (ho : o.op = .alloc T) : Br P Q n env B w0 os o (fun g : Nat => .pointer (some ⟨g, 0, none⟩)) (fun g => cell g T zs :: os) := fun b w hH hb K hK => by
 unfold Oper.wp
 rw [Oa ho hz, Oper.upon_value]
 exact hK _ _ (hH.new T zs)
theorem AM (i : Nat) {T : TypeId} {x y : Operand} {g off k : Nat} {t : TypeId} {cs : Array Value} {v : Value} (c : Array Value) (hs : ∀ w, (sizeOf T).run P w = .ok k w) (hk : v.cells.size = k) (hl : Nat.ble (off + k) cs.size = true) (hone : MT v.cells.toList = true) (hc : (over? cs.toList off v.cells.toList).toArray = c) (hd : o.dst = none) (ho : o.op = .store T x y)
  (hx : evs env x = some (.pointer (some ⟨g, off, none⟩))) (hy : evs env y = some v) (hi : os[i]? = some (cell g t cs)) : Br P Q n env B w0 os o (fun _ : Unit => undef) (fun _ => os.set i (cell g t c)) := fun a w hH hF K hK => by
 obtain ⟨w', hr, hR', hm⟩ := D3 (P := P) g t v.cells.toList 0 cs w off (hH.row i hi) (by have := Nat.le_of_ble_eq_true hl; simp; omega) (fun u hu => (List.all_eq_true.1 (Im hone)) u hu)
 have hrun : (execOp a.eval o).run P w = .ok .skip w' := by
  unfold execOp
  simp [ho, hF.evs hx, hF.evs hy, Instr.storeAt, Instr.sureAddr, storeVar, hs, hk, hr]
 have hR2 : CY w' g t c := by rw [← hc]; simpa [over?] using hR'
 unfold Oper.wp
 rw [hrun, Oper.upon_skip]
 have := hK () w' (hH.set i hi hm hR2)
 rw [hd] at this ⊢
 exact this
theorem Ch.via {X : Type} (os' : X → List Ass) (hi : ∀ rs, Al os rs → ∃ x, ∃ rs', rs.Perm rs' ∧ Al (os' x) rs') (h : ∀ x, Ch P ops Q n env B w0 (os' x) l) : Ch P ops Q n env B w0 os l := fun a w hF ⟨rs, h1, h2⟩ => by
 obtain ⟨x, rs', p, h3⟩ := hi rs h1
 exact h x a w hF ⟨rs', h3, CI h2 p⟩
theorem Bo.via {X : Type} (os' : X → List Ass) (hi : ∀ rs, Al os rs → ∃ x, ∃ rs', rs.Perm rs' ∧ Al (os' x) rs') (h : ∀ x, Bo P Q n env B w0 (os' x) c) : Bo P Q n env B w0 os c := fun a w hF ⟨rs, h1, h2⟩ => by
 obtain ⟨x, rs', p, h3⟩ := hi rs h1
 exact h x a w hF ⟨rs', h3, CI h2 p⟩
theorem Cm.via {X : Type} (os' : X → List Ass) (hi : ∀ rs, Al os rs → ∃ x, ∃ rs', rs.Perm rs' ∧ Al (os' x) rs') (h : ∀ x, Cm Q n env B w0 (os' x) e) : Cm Q n env B w0 os e := fun a w hF ⟨rs, h1, h2⟩ => by
 obtain ⟨x, rs', p, h3⟩ := hi rs h1
 exact h x a w hF ⟨rs', h3, CI h2 p⟩
theorem MY.via {X : Type} (os' : X → List Ass) (hi : ∀ rs, Al os rs → ∃ x, ∃ rs', rs.Perm rs' ∧ Al (os' x) rs') (h : ∀ x, MY P ops Q n env B w0 (os' x) fu listed) : MY P ops Q n env B w0 os fu listed := fun a w hF ⟨rs, h1, h2⟩ => by
 obtain ⟨x, rs', p, h3⟩ := hi rs h1
 exact h x a w hF ⟨rs', h3, CI h2 p⟩
theorem Ch.mid (os' : List Ass) (hp : os.Perm os') (h : Ch P ops Q n env B w0 os' l) : Ch P ops Q n env B w0 os l := fun a w hF hH => h a w hF (hH.perm hp)
theorem Bo.mid (os' : List Ass) (hp : os.Perm os') (h : Bo P Q n env B w0 os' c) : Bo P Q n env B w0 os c := fun a w hF hH => h a w hF (hH.perm hp)
theorem Cm.mid (os' : List Ass) (hp : os.Perm os') (h : Cm Q n env B w0 os' e) : Cm Q n env B w0 os e := fun a w hF hH => h a w hF (hH.perm hp)
theorem MY.mid (os' : List Ass) (hp : os.Perm os') (h : MY P ops Q n env B w0 os' fu listed) : MY P ops Q n env B w0 os fu listed := fun a w hF hH => h a w hF (hH.perm hp)
theorem R1 {i : Nat} {o : Ass} (hi : os[i]? = some o) : os.Perm (o :: DJ [i] os) := by
 have := (CT (ids := [i]) (os := os) (by simp)).symm
 unfold Eh at this
 rw [List.filterMap_cons_some hi] at this
 exact this
theorem Gn {p : Prop} {o : Ass} (i : Nat) (hi : os[i]? = some o) (hp : ∀ rs, o rs → p) {w : World} (h : Hp B w0 w os) : p := by
 obtain ⟨x, hx, _⟩ := h.thing i hi
 exact hp x hx
theorem Ch.fact {p : Prop} {o : Ass} (i : Nat) (hi : os[i]? = some o) (hp : ∀ rs, o rs → p) (h : p → Ch P ops Q n env B w0 os l) : Ch P ops Q n env B w0 os l := fun a w hF hH => h (Gn i hi hp hH) a w hF hH
theorem Bo.fact {p : Prop} {o : Ass} (i : Nat) (hi : os[i]? = some o) (hp : ∀ rs, o rs → p) (h : p → Bo P Q n env B w0 os c) : Bo P Q n env B w0 os c := fun a w hF hH => h (Gn i hi hp hH) a w hF hH
theorem Cm.fact {p : Prop} {o : Ass} (i : Nat) (hi : os[i]? = some o) (hp : ∀ rs, o rs → p) (h : p → Cm Q n env B w0 os e) : Cm Q n env B w0 os e := fun a w hF hH => h (Gn i hi hp hH) a w hF hH
theorem Mh {α : Type} {A : α → List Ass} {i : Nat} {o : Ass} (hi : os[i]? = some o) (ho : ∀ rs, o rs → ∃ x, Al (A x) rs) : ∀ rs, Al os rs → ∃ x, ∃ rs', rs.Perm rs' ∧ Al (A x ++ DJ [i] os) rs' := fun rs h => by
 obtain ⟨rs1, p, a, b, e, h1, h2⟩ := h.perm (R1 hi)
 obtain ⟨x, h3⟩ := ho a h1
 exact ⟨x, rs1, p, e ▸ h3.app h2⟩
theorem AY {α : Type} {A : α → List Ass} {t : Ass} {os' : α → List Ass} (i : Nat) (hi : os[i]? = some t) (ho : ∀ rs, t rs → ∃ x, Al (A x) rs) (he : ∀ x, A x ++ DJ [i] os = os' x) (h : ∀ x, Bo P Q n env B w0 (os' x) c) : Bo P Q n env B w0 os c := Bo.via _ (Mh hi ho) fun x => he x ▸ h x
theorem Kk {t : Ass} (ids : List Nat) (hn : C1 ids = true) (ht : ∀ rs, Al (Eh ids os) rs → t rs) : ∀ rs, Al os rs → ∃ _ : Unit, ∃ rs', rs.Perm rs' ∧ Al (t :: DJ ids os) rs' := fun rs h => by
 obtain ⟨rs1, p, h1⟩ := h.perm (CT (os := os) (BT hn)).symm
 obtain ⟨a, b, e, h2, h3⟩ := h1.split
 exact ⟨(), rs1, p, a, b, e, ht a h2, h3⟩
theorem TT {t : Ass} {os' : List Ass} (ids : List Nat) (hn : C1 ids = true) (ht : ∀ rs, Al (Eh ids os) rs → t rs) (he : t :: DJ ids os = os') (h : Ch P ops Q n env B w0 os' l) : Ch P ops Q n env B w0 os l := Ch.via (fun _ : Unit => _) (Kk ids hn ht) fun _ => he ▸ h
theorem Bf {t : Ass} {os' : List Ass} (ids : List Nat) (hn : C1 ids = true) (ht : ∀ rs, Al (Eh ids os) rs → t rs) (he : t :: DJ ids os = os') (h : Bo P Q n env B w0 os' c) : Bo P Q n env B w0 os c := Bo.via (fun _ : Unit => _) (Kk ids hn ht) fun _ => he ▸ h
theorem Ip {t : Ass} {os' : List Ass} (ids : List Nat) (hn : C1 ids = true) (ht : ∀ rs, Al (Eh ids os) rs → t rs) (he : t :: DJ ids os = os') (h : Cm Q n env B w0 os' e) : Cm Q n env B w0 os e := Cm.via (fun _ : Unit => _) (Kk ids hn ht) fun _ => he ▸ h
theorem EL (k : Nat) {os' : List Ass} (he : List.replicate k E0 ++ os = os') (h : Bo P Q n env B w0 os' c) : Bo P Q n env B w0 os c := Bo.via (fun _ : Unit => os') (fun rs hp => ⟨(), rs, .refl _, he ▸ (Al.app (Eo.2 rfl) hp : Al _ ([] ++ rs))⟩) fun _ => h
theorem Bo.leave {os' : List Ass} (ids : List Nat) (hn : C1 ids = true) (he : DJ ids os = os') (h : Bo P Q n env B w0 os' c) : Bo P Q n env B w0 os c := fun a w hF hH => h a w hF (by
 have := (hH.perm (CT (os := os) (BT hn)).symm).drop (Eh ids os).length
 rw [List.drop_left] at this
 exact he ▸ this)
theorem Ch.leave {os' : List Ass} (ids : List Nat) (hn : C1 ids = true) (he : DJ ids os = os') (h : Ch P ops Q n env B w0 os' l) : Ch P ops Q n env B w0 os l := fun a w hF hH => h a w hF (by
 have := (hH.perm (CT (os := os) (BT hn)).symm).drop (Eh ids os).length
 rw [List.drop_left] at this
 exact he ▸ this)
theorem Cm.leave {os' : List Ass} (ids : List Nat) (hn : C1 ids = true) (he : DJ ids os = os') (h : Cm Q n env B w0 os' e) : Cm Q n env B w0 os e := fun a w hF hH => h a w hF (by
 have := (hH.perm (CT (os := os) (BT hn)).symm).drop (Eh ids os).length
 rw [List.drop_left] at this
 exact he ▸ this)
def CP (r : Option Value) (f : Value → Ass) (d : Ass) : Ass := match r with | some v => f v | none => d
end does
section entry
variable {P : Program} {fn : Func}
theorem A6 {X : Type} {f : FuncId} {c : Code} {args : List Value} {pre : List Ass} {val : X → Value} {post : X → List Ass} (n : Nat) (hf : P.funcs[f]? = some fn) (hb : fn.body = some c) (hn : fn.ntmps = n) (hs : Nat.ble args.length n = true)
  (h : ∀ (w : World) (rs : List RowT), Bo P (bodyPost P fn fun e w' => ∃ x, e = .returned (val x) ∧ ∃ rs', Al (post x) rs' ∧ Chg w w' rs rs') n (Fw 0 args) (Cj rs) w pre c) : AS P f args.toArray pre val post :=
 fun w rs h1 h2 h3 => Gl n hf hb hn (Nat.le_of_ble_eq_true hs) fun a hF => h w rs a w hF (Hp.given h1 h2 h3)
theorem AB {X : Type} {w0 w' : World} {rs : List RowT} {os : List Ass} {val : X → Value} {post : X → List Ass} (x : X) {v : Value} (hv : v = val x) (ids : List Nat) (hn : C1 ids = true) (h : Hp (Cj rs) w0 w' os) (hp : ∀ y, Al (Eh ids os) y → ∃ z, y.Perm z ∧ Al (post x) z) : ∃ x, Ending.returned v = .returned (val x) ∧ ∃ rs', Al (post x) rs' ∧ Chg w0 w' rs rs' := by
 obtain ⟨y, h1, h2⟩ := h.tell ids (BT hn)
 obtain ⟨z, p, h3⟩ := hp y h1
 exact ⟨x, by rw [hv], z, h3, I4 h2 p⟩
theorem AS.frame {X : Type} {F : FuncId} {args : Array Value} {pre more : List Ass} {val : X → Value} {post : X → List Ass} (h : AS P F args pre val post) : AS P F args (pre ++ more) val (fun x => post x ++ more) := fun w rs h1 h2 h3 => by
 obtain ⟨a, b, e, ha, hb⟩ := h1.split
 subst e
 have hd := Bi.1 h3
 rw [List.map_append] at hd
 have hh : Mem.Hp (Cj (a ++ b)) w w (a ++ b) := Mem.Hp.given h2 h3
 refine (h w a ha (AN.2 fun z hz => h2.mem z (by simp [hz])) (Bi.2 (List.nodup_append.1 hd).1)).mono ?_
 rintro e w' ⟨x, he, y, hy, hc⟩
 have := EK hh hc
 exact ⟨x, he, y ++ b, hy.app hb, this.up, this.rows, this.apart, fun z hz hlt => this.own z hz hlt⟩
theorem AS.imp {X : Type} {F : FuncId} {args : Array Value} {pre pre' : List Ass} {val : X → Value} {post : X → List Ass} (h : AS P F args pre val post) (hi : ∀ rs, Al pre' rs → ∃ rs', rs.Perm rs' ∧ Al pre rs') : AS P F args pre' val post := fun w rs h1 h2 h3 => by
 obtain ⟨rs', p, h4⟩ := hi rs h1
 refine (h w rs' h4 (AN.2 fun z hz => h2.mem z (p.mem_iff.2 hz)) (Bi.2 ((p.map _).nodup_iff.1 (Bi.1 h3)))).mono ?_
 rintro e w' ⟨x, he, y, hy, hc⟩
 exact ⟨x, he, y, hy, M0 hc p.symm⟩
theorem Cz {os : List Ass} : ∀ y, Al os y → ∃ z, y.Perm z ∧ Al os z := fun y h => ⟨y, .refl _, h⟩
end entry
end Go.Proofs.YtnknboibmifacaaGreat.Sep
