/-
  Sep
-/
import Derived.Test.YtnebloeideodmaaPD01
set_option linter.unusedSimpArgs false
set_option linter.unusedVariables false
namespace Go.Proofs.Ytnebloeideodmaa.Sep
open Go.RowKit
open Go.Proofs.Ytnebloeideodmaa.Mem (AM BA Chg SG VG Eb Aq)
abbrev Ass := List RowT → Prop
def cell (g : Nat) (t : TypeId) (cs : Array Value) : Ass := fun rs => rs = [(g, EC t, cs)]
def fact (p : Prop) : Ass := fun rs => rs = [] ∧ p
def ex {α : Type} (A : α → Ass) : Ass := fun rs => ∃ x, A x rs
def Am : List Ass → List RowT → Prop
  | [], rs => rs = []
  | o :: os, rs => ∃ a b, rs = a ++ b ∧ o a ∧ Am os b
def Bv (l : List Ass) : Ass := Am l
section parts
variable {os os' : List Ass} {rs : List RowT}
theorem Am.app : ∀ {os os' : List Ass} {a b : List RowT}, Am os a → Am os' b → Am (os ++ os') (a ++ b)
  | [], _, a, b, h, h' => by unfold Am at h; subst h; exact h'
  | o :: os, os', a, b, h, h' => by
    obtain ⟨x, y, e, h1, h2⟩ := h
    exact ⟨x, y ++ b, by rw [e, List.append_assoc], h1, h2.app h'⟩
theorem Am.split : ∀ {os os' : List Ass} {rs : List RowT}, Am (os ++ os') rs → ∃ a b, rs = a ++ b ∧ Am os a ∧ Am os' b
  | [], _, rs, h => ⟨[], rs, rfl, rfl, h⟩
  | o :: os, os', rs, h => by
    obtain ⟨x, y, e, h1, h2⟩ := h
    obtain ⟨a, b, e', h3, h4⟩ := Am.split h2
    exact ⟨x ++ a, b, by rw [e, e', List.append_assoc], ⟨x, a, rfl, h1, h3⟩, h4⟩
theorem Am.perm {os os' : List Ass} (hp : os.Perm os') : ∀ {rs : List RowT}, Am os rs → ∃ rs', rs.Perm rs' ∧ Am os' rs' := by
  induction hp with
  | nil => exact fun {rs} h => ⟨rs, .refl _, h⟩
  | cons o _ ih =>
    rintro rs ⟨a, b, e, h1, h2⟩
    obtain ⟨b', hp, h3⟩ := ih h2
    exact ⟨a ++ b', e ▸ hp.append_left a, a, b', rfl, h1, h3⟩
  | swap o o' l =>
    rintro rs ⟨a, b, e, h1, c, d, e', h2, h3⟩
    refine ⟨c ++ (a ++ d), ?_, c, a ++ d, rfl, h2, a, d, rfl, h1, h3⟩
    rw [e, e', ← List.append_assoc, ← List.append_assoc]
    exact List.perm_append_comm.append_right d
  | trans _ _ ih1 ih2 =>
    intro rs h
    obtain ⟨r1, p1, h1⟩ := ih1 h
    obtain ⟨r2, p2, h2⟩ := ih2 h1
    exact ⟨r2, p1.trans p2, h2⟩
theorem Am.one {o : Ass} {rs : List RowT} (h : o rs) : Am [o] rs := ⟨rs, [], by simp, h, rfl⟩
theorem Am.one' {o : Ass} {rs : List RowT} (h : Am [o] rs) : o rs := by
 obtain ⟨a, b, e, h1, h2⟩ := h
 unfold Am at h2
 subst h2
 rw [List.append_nil] at e
 exact e ▸ h1
def We : List Ass → List Ass → Prop
  | [], [] => True
  | o :: os, o' :: os' => (∀ rs, o rs → o' rs) ∧ We os os'
  | _, _ => False
theorem Am.imp : ∀ {os os' : List Ass} {rs : List RowT}, We os os' → Am os rs → Am os' rs
  | [], [], _, _, h => h
  | o :: os, o' :: os', _, hi, ⟨a, b, e, h1, h2⟩ => ⟨a, b, e, hi.1 a h1, h2.imp hi.2⟩
  | [], _ :: _, _, hi, _ => hi.elim
  | _ :: _, [], _, hi, _ => hi.elim
end parts
def Du (ids : List Nat) (os : List Ass) : List Ass := ids.filterMap (os[·]?)
def BJ (ids : List Nat) : Nat → List Ass → List Ass
  | _, [] => []
  | k, x :: r => match ids.elem k with | true => BJ ids (k + 1) r | false => x :: BJ ids (k + 1) r
def CO (ids : List Nat) (os : List Ass) : List Ass := BJ ids 0 os
theorem IM {ids : List Nat} {k : Nat} {x : Ass} {r : List Ass} (h : ids.elem k = true) : BJ ids k (x :: r) = BJ ids (k + 1) r := by
 conv => lhs; unfold BJ
 rw [h]
theorem Jq {ids : List Nat} {k : Nat} {x : Ass} {r : List Ass} (h : ids.elem k = false) : BJ ids k (x :: r) = x :: BJ ids (k + 1) r := by
 conv => lhs; unfold BJ
 rw [h]
theorem KI {ids : List Nat} {i k : Nat} (h : k ≠ i) : (i :: ids).elem k = ids.elem k := by
  have : (k == i) = false := by simpa using h
  show (match k == i with | true => true | false => ids.elem k) = _
  rw [this]
theorem S8 {ids : List Nat} {k : Nat} : (k :: ids).elem k = true := by
  show (match k == k with | true => true | false => ids.elem k) = _
  simp
theorem G4 : ∀ (k : Nat) (os : List Ass), BJ [] k os = os
  | _, [] => rfl
  | k, x :: r => by rw [Jq rfl, G4 (k + 1) r]
theorem Ff {i : Nat} {ids : List Nat} : ∀ {k : Nat} {os : List Ass}, i < k → BJ (i :: ids) k os = BJ ids k os
  | _, [], _ => rfl
  | k, x :: r, h => by
    have e : (i :: ids).elem k = ids.elem k := KI (by omega)
    cases hk : ids.elem k with
    | true => rw [IM (e.trans hk), IM hk, Ff (by omega)]
    | false => rw [Jq (e.trans hk), Jq hk, Ff (by omega)]
theorem GE {ids : List Nat} : ∀ {os : List Ass} {o : Ass} {k i : Nat}, k + i ∉ ids → os[i]? = some o → (BJ ids k os).Perm (o :: BJ ((k + i) :: ids) k os)
  | [], o, k, i, _, h => by simp at h
  | x :: r, o, k, 0, hm, h => by
    simp only [List.getElem?_cons_zero, Option.some.injEq] at h
    subst h
    have h1 : ids.elem k = false := by
      cases hk : ids.elem k with
      | false => rfl
      | true => exact absurd (List.elem_iff.1 hk) hm
    rw [Jq h1]
    show List.Perm _ (x :: BJ (k :: ids) k (x :: r))
    rw [IM S8, Ff (by omega)]
  | x :: r, o, k, i + 1, hm, h => by
    simp only [List.getElem?_cons_succ] at h
    have := GE (k := k + 1) (by rwa [show k + 1 + i = k + (i + 1) by omega]) h
    rw [show k + 1 + i = k + (i + 1) by omega] at this
    have e : ((k + (i + 1)) :: ids).elem k = ids.elem k := KI (by omega)
    cases hk : ids.elem k with
    | true => rw [IM hk, IM (e.trans hk)]; exact this
    | false => rw [Jq hk, Jq (e.trans hk)]; exact (this.cons x).trans (.swap o x _)
theorem GG {ids : List Nat} : ∀ {os : List Ass} {k i : Nat}, os[i]? = none → BJ ((k + i) :: ids) k os = BJ ids k os
  | [], _, _, _ => rfl
  | x :: r, k, 0, h => by simp at h
  | x :: r, k, i + 1, h => by
    simp only [List.getElem?_cons_succ] at h
    have := GG (ids := ids) (k := k + 1) h
    rw [show k + 1 + i = k + (i + 1) by omega] at this
    have e : ((k + (i + 1)) :: ids).elem k = ids.elem k := KI (by omega)
    cases hk : ids.elem k with
    | true => rw [IM hk, IM (e.trans hk)]; exact this
    | false => rw [Jq hk, Jq (e.trans hk), this]
theorem Ck : ∀ {ids : List Nat} {os : List Ass}, ids.Nodup → (Du ids os ++ CO ids os).Perm os := by
  intro ids os
  induction ids with
  | nil => intro _; unfold CO; rw [G4]; exact .refl _
  | cons i ids ih =>
    intro hn
    obtain ⟨h1, h2⟩ := List.nodup_cons.1 hn
    refine .trans ?_ (ih h2)
    cases hi : os[i]? with
    | none =>
      have e : CO (i :: ids) os = CO ids os := by
        have := GG (ids := ids) (k := 0) hi
        rwa [Nat.zero_add] at this
      rw [e]
      show (List.filterMap _ (i :: ids) ++ _).Perm _
      rw [List.filterMap_cons_none hi]
      exact .refl _
    | some o =>
      have h := GE (k := 0) (by rwa [Nat.zero_add]) hi
      rw [Nat.zero_add] at h
      show (List.filterMap _ (i :: ids) ++ _).Perm _
      rw [List.filterMap_cons_some hi]
      have e : (Du ids os ++ o :: CO (i :: ids) os).Perm (Du ids os ++ CO ids os) := List.Perm.append_left _ h.symm
      refine .trans ?_ e
      exact List.perm_middle.symm
theorem AS : ∀ {rs : List RowT}, AM rs ↔ (rs.map (·.1)).Nodup
  | [] => by simp [AM]
  | x :: r => by
    unfold AM
    rw [List.map_cons, List.nodup_cons, AS (rs := r)]
    refine and_congr ⟨fun h hm => ?_, fun h y hy e => h ?_⟩ Iff.rfl
    · obtain ⟨y, hy, e⟩ := List.mem_map.1 hm
      exact h y hy e
    · exact List.mem_map.2 ⟨y, hy, e⟩
theorem AT {w : World} {rs : List RowT} : RowsOf w rs ↔ ∀ x ∈ rs, Ci w x := ⟨fun h => h.mem, fun h => Mem.RowsOf.ofAll h⟩
section known
variable {B : Nat → Prop} {w0 w w' : World} {rs rs' a b c : List RowT}
theorem B8 (h : Mem.Hp B w0 w rs) (hp : rs.Perm rs') : Mem.Hp B w0 w rs' :=
 ⟨h.up, AT.2 fun x hx => h.rows.mem x (hp.mem_iff.2 hx), AS.2 ((hp.map _).nodup_iff.1 (AS.1 h.apart)), fun x hx => h.own x (hp.mem_iff.2 hx)⟩
theorem LM {w' : World} (h : Chg w w' a b) (hp : a.Perm c) : Chg w w' c b := ⟨h.mod.weaken fun j _ ⟨x, hx, e⟩ => ⟨x, hp.mem_iff.1 hx, e⟩, h.rows, h.dist, fun x hx hlt => by obtain ⟨y, hy, e⟩ := h.from_ x hx hlt; exact ⟨y, hp.mem_iff.1 hy, e⟩⟩
theorem JM {w' : World} (h : Chg w w' a b) (hp : b.Perm c) : Chg w w' a c := ⟨h.mod, AT.2 fun x hx => h.rows.mem x (hp.mem_iff.2 hx), AS.2 ((hp.map _).nodup_iff.1 (AS.1 h.dist)), fun x hx => h.from_ x (hp.mem_iff.2 hx)⟩
theorem D4 (h : Mem.Hp B w0 w (a ++ b)) (hc : Chg w w' a c) : Mem.Hp B w0 w' (c ++ b) := by
  have hd := AS.1 h.apart
  rw [List.map_append] at hd
  have hne : ∀ x ∈ a, ∀ y ∈ b, y.1 ≠ x.1 := fun x hx y hy e => (List.nodup_append.1 hd).2.2 x.1 (List.mem_map.2 ⟨x, hx, rfl⟩) y.1 (List.mem_map.2 ⟨y, hy, rfl⟩) e.symm
  have hnb : ∀ y ∈ b, ¬ BA a y.1 := fun y hy ⟨x, hx, e⟩ => hne x hx y hy e.symm
  have hold : ∀ y ∈ b, Ci w y := fun y hy => h.rows.mem y (by simp [hy])
  refine ⟨h.up.trans hc.mod (fun j hj ⟨x, hx, e⟩ => e ▸ h.own x (by simp [hx]) (e ▸ hj)), ?_, ?_, ?_⟩
  · refine AT.2 fun x hx => ?_
    rcases List.mem_append.1 hx with hx | hx
    · exact hc.rows.mem x hx
    · exact (hold x hx).mod hc.mod (hnb x hx)
  · refine Mem.dist_app hc.dist (AS.2 (List.nodup_append.1 hd).2.1) fun x hx y hy e => ?_
    have hlt := (hold y hy).lt
    rw [e] at hlt
    exact hnb y hy (e ▸ hc.from_ x hx hlt)
  · intro x hx hlt
    rcases List.mem_append.1 hx with hx | hx
    · have := h.up.size
      obtain ⟨y, hy, e⟩ := hc.from_ x hx (by omega)
      exact e ▸ h.own y (by simp [hy]) (e ▸ hlt)
    · exact h.own x (by simp [hx]) hlt
end known
def Hp (B : Nat → Prop) (w0 w : World) (os : List Ass) : Prop := ∃ rs, Am os rs ∧ Mem.Hp B w0 w rs
section hp
variable {B : Nat → Prop} {w0 w w' : World} {os os' : List Ass} {rs : List RowT}
theorem Hp.up (h : Hp B w0 w os) : Mod B w0 w := by obtain ⟨_, _, h⟩ := h; exact h.up
theorem Hp.perm (h : Hp B w0 w os) (hp : os.Perm os') : Hp B w0 w os' := by
 obtain ⟨rs, h1, h2⟩ := h
 obtain ⟨rs', p, h3⟩ := h1.perm hp
 exact ⟨rs', h3, B8 h2 p⟩
theorem Hp.start (w : World) : Hp NY w w [] := ⟨[], rfl, Mem.Hp.start w⟩
theorem Hp.given (h1 : Am os rs) (h2 : RowsOf w rs) (h3 : AM rs) : Hp (BA rs) w w os := ⟨rs, h1, Mem.Hp.given h2 h3⟩
theorem Hp.call (h : Hp B w0 w os) (hb : Below w.heap.size w w') : Hp B w0 w' os := by obtain ⟨rs, h1, h2⟩ := h; exact ⟨rs, h1, h2.call hb⟩
theorem Hp.drew (h : Hp B w0 w os) : Hp B w0 w.drew os := by obtain ⟨rs, h1, h2⟩ := h; exact ⟨rs, h1, h2.drew⟩
theorem Hp.new (h : Hp B w0 w os) (t : TypeId) (cs : Array Value) : Hp B w0 (w.alloc (.cells cs t)) (cell w.heap.size t cs :: os) := by
 obtain ⟨rs, h1, h2⟩ := h
 exact ⟨(w.heap.size, EC t, cs) :: rs, ⟨[(w.heap.size, EC t, cs)], rs, rfl, rfl, h1⟩, h2.new t cs⟩
theorem Am.at_ : ∀ {os : List Ass} {rs : List RowT} {i : Nat} {o : Ass}, Am os rs → os[i]? = some o → ∃ a x b, rs = a ++ (x ++ b) ∧ o x ∧ ∀ (o' : Ass) (y : List RowT), o' y → Am (os.set i o') (a ++ (y ++ b))
  | [], _, i, o, _, hi => by simp at hi
  | p :: os, rs, 0, o, ⟨a, b, e, h1, h2⟩, hi => by
    simp only [List.getElem?_cons_zero, Option.some.injEq] at hi
    subst hi
    exact ⟨[], a, b, by simpa using e, h1, fun o' y h => ⟨y, b, rfl, h, h2⟩⟩
  | p :: os, rs, i + 1, o, ⟨a, b, e, h1, h2⟩, hi => by
    simp only [List.getElem?_cons_succ] at hi
    obtain ⟨a', x, b', e', h3, h4⟩ := Am.at_ h2 hi
    exact ⟨a ++ a', x, b', by rw [e, e', List.append_assoc], h3, fun o' y h => ⟨a, a' ++ (y ++ b'), by rw [List.append_assoc], h1, h4 o' y h⟩⟩
theorem Hp.thing (h : Hp B w0 w os) (i : Nat) {o : Ass} (hi : os[i]? = some o) : ∃ x, o x ∧ RowsOf w x := by
 obtain ⟨rs, h1, h2⟩ := h
 obtain ⟨a, x, b, e, h3, _⟩ := h1.at_ hi
 refine ⟨x, h3, AT.2 fun y hy => h2.rows.mem y ?_⟩
 rw [e]; simp [hy]
theorem Hp.row (h : Hp B w0 w os) (i : Nat) {g : Nat} {t : TypeId} {cs : Array Value} (hi : os[i]? = some (cell g t cs)) : CF w g t cs := by
 obtain ⟨x, hx, hr⟩ := h.thing i hi
 unfold cell at hx
 subst hx
 exact hr.1
theorem Hp.turn (h : Hp B w0 w os) (i : Nat) {o o' : Ass} (hi : os[i]? = some o) (hc : ∀ x, o x → RowsOf w x → AM x → ∃ y, o' y ∧ Chg w w' x y) : Hp B w0 w' (os.set i o') := by
 obtain ⟨rs, h1, h2⟩ := h
 obtain ⟨a, x, b, e, h3, h4⟩ := h1.at_ hi
 subst e
 have p : (a ++ (x ++ b)).Perm (x ++ (a ++ b)) := by rw [← List.append_assoc, ← List.append_assoc]; exact List.perm_append_comm.append_right b
 have h5 := B8 h2 p
 have hd := AS.1 h5.apart
 rw [List.map_append] at hd
 obtain ⟨y, hy, hch⟩ := hc x h3 (AT.2 fun z hz => h5.rows.mem z (by simp [hz])) (AS.2 (List.nodup_append.1 hd).1)
 have p' : (y ++ (a ++ b)).Perm (a ++ (y ++ b)) := by rw [← List.append_assoc, ← List.append_assoc]; exact List.perm_append_comm.append_right b
 exact ⟨_, h4 o' y hy, B8 (D4 h5 hch) p'⟩
theorem Hp.set (h : Hp B w0 w os) (i : Nat) {g : Nat} {t : TypeId} {cs c : Array Value} (hi : os[i]? = some (cell g t cs)) (hm : Mod (Jl g) w w') (hR : CF w' g t c) : Hp B w0 w' (os.set i (cell g t c)) :=
 h.turn i hi fun x hx _ _ => ⟨[(g, t, c)], rfl, by
  unfold cell at hx
  subst hx
  refine ⟨hm.weaken fun j _ e => ⟨(g, EC t, cs), by simp, e.symm⟩, ⟨hR, trivial⟩, ⟨(fun _ h => by cases h), trivial⟩, fun x hx _ => ?_⟩
  have : x = (g, EC t, c) := by simpa using hx
  subst this
  exact ⟨(g, EC t, cs), by simp, rfl⟩⟩
theorem Hp.drop (h : Hp B w0 w os) (k : Nat) : Hp B w0 w (os.drop k) := by
 obtain ⟨rs, h1, h2⟩ := h
 rw [← List.take_append_drop k os] at h1
 obtain ⟨a, b, e, _, h3⟩ := h1.split
 subst e
 have hd := AS.1 h2.apart
 rw [List.map_append] at hd
 exact ⟨b, h3, h2.up, AT.2 fun x hx => h2.rows.mem x (by simp [hx]), AS.2 (List.nodup_append.1 hd).2.1, fun x hx => h2.own x (by simp [hx])⟩
theorem Hp.chg (h : Hp B w0 w os) (ids : List Nat) (hn : ids.Nodup) {post : List Ass} (hc : ∀ x, Am (Du ids os) x → RowsOf w x → AM x → ∃ y, Am post y ∧ Chg w w' x y) : Hp B w0 w' (post ++ CO ids os) := by
 obtain ⟨rs, h1, h2⟩ := h.perm (Ck (os := os) hn).symm
 obtain ⟨a, b, e, h3, h4⟩ := h1.split
 subst e
 have hd := AS.1 h2.apart
 rw [List.map_append] at hd
 obtain ⟨y, hy, hch⟩ := hc a h3 (AT.2 fun z hz => h2.rows.mem z (by simp [hz])) (AS.2 (List.nodup_append.1 hd).1)
 exact ⟨y ++ b, hy.app h4, D4 h2 hch⟩
theorem Hp.give (h : Hp B w0 w os) (ids : List Nat) (hn : ids.Nodup) : ∃ x, Am (Du ids os) x ∧ RowsOf w x ∧ AM x ∧ ∀ (post : List Ass) (y : List RowT) (w' : World), Am post y → Chg w w' x y → Hp B w0 w' (post ++ CO ids os) := by
 obtain ⟨rs, h1, h2⟩ := h.perm (Ck (os := os) hn).symm
 obtain ⟨a, b, e, h3, h4⟩ := h1.split
 subst e
 have hd := AS.1 h2.apart
 rw [List.map_append] at hd
 exact ⟨a, h3, AT.2 fun z hz => h2.rows.mem z (by simp [hz]), AS.2 (List.nodup_append.1 hd).1, fun post y w' hy hch => ⟨y ++ b, hy.app h4, D4 h2 hch⟩⟩
theorem Hp.tell (h : Hp (BA rs) w0 w os) (ids : List Nat) (hn : ids.Nodup) : ∃ y, Am (Du ids os) y ∧ Chg w0 w rs y := by
 obtain ⟨rs', h1, h2⟩ := h.perm (Ck (os := os) hn).symm
 obtain ⟨a, b, e, h3, h4⟩ := h1.split
 subst e
 have hd := AS.1 h2.apart
 rw [List.map_append] at hd
 exact ⟨a, h3, h2.up, AT.2 fun z hz => h2.rows.mem z (by simp [hz]), AS.2 (List.nodup_append.1 hd).1, fun x hx => h2.own x (by simp [hx])⟩
theorem Hp.imp (h : Hp B w0 w os) (hi : ∀ rs, Am os rs → ∃ rs', rs.Perm rs' ∧ Am os' rs') : Hp B w0 w os' := by
 obtain ⟨rs, h1, h2⟩ := h
 obtain ⟨rs', p, h3⟩ := hi rs h1
 exact ⟨rs', h3, B8 h2 p⟩
end hp
def AV {X : Type} (P : Program) (F : FuncId) (args : Array Value) (pre : List Ass) (val : X → Value) (post : X → List Ass) : Prop :=
  ∀ w rs, Am pre rs → RowsOf w rs → AM rs → Calls P F args w fun e w' => ∃ x, e = .returned (val x) ∧ ∃ rs', Am (post x) rs' ∧ Chg w w' rs rs'
inductive Res2 (P : Program) (env : List (Nat × Value)) (rs : List Ass) : ResultVar → Value → Prop
  | tmp {t : Tmp} {v : Value} (h : look env t = some v) : Res2 P env rs (.tmp t) v
  | cell (i : Nat) {s : Tmp} {T : TypeId} {g off : Nat} {t : TypeId} {cs : Array Value} {v : Value} (hv : HP P T cs off v) (h : look env s = some (.pointer (some ⟨g, off, none⟩))) (hi : rs[i]? = some (Sep.cell g t cs)) : Res2 P env rs (.cell s T) v
def BM (P : Program) (ops : Array Oper) (Q : Exit → Act → World → Prop) (n : Nat) (env : List (Nat × Value)) (B : Nat → Prop) (w0 : World) (rs : List Ass) (l : List Oper) : Prop := ∀ a w, Fr n a env → Hp B w0 w rs → wpList P ops Q l a w
def AY (P : Program) (Q : Exit → Act → World → Prop) (n : Nat) (env : List (Nat × Value)) (B : Nat → Prop) (w0 : World) (rs : List Ass) (c : Code) : Prop := ∀ a w, Fr n a env → Hp B w0 w rs → c.wp P Q a w
def BW (Q : Exit → Act → World → Prop) (n : Nat) (env : List (Nat × Value)) (B : Nat → Prop) (w0 : World) (rs : List Ass) (e : Exit) : Prop := ∀ a w, Fr n a env → Hp B w0 w rs → Q e a w
section wl2
variable {P : Program} {ops : Array Oper} {Q : Exit → Act → World → Prop} {n : Nat} {B : Nat → Prop} {w0 : World} {rs rs' : List Ass} {env env' : List (Nat × Value)} {l rest : List Oper} {o : Oper} {d : Nat} {fl : List ((Nat × Nat) × Nat)}
theorem Ag (hfl : O4 P fl) : ∀ {l : List Oper} {env : List (Nat × Value)}, Ip fl ops n l env = some (env', rest) → BM P ops Q n env' B w0 rs rest → BM P ops Q n env B w0 rs l
  | [], env, h, hk => by
    simp only [Ip, Option.some.injEq, Prod.mk.injEq] at h
    obtain ⟨rfl, rfl⟩ := h
    exact hk
  | o :: r, env, h, hk => by
    unfold Ip at h
    cases hw : wants ops o env with
    | none =>
      simp only [hw, Option.some.injEq, Prod.mk.injEq] at h
      obtain ⟨rfl, rfl⟩ := h
      exact hk
    | some b =>
      cases b with
      | false =>
        simp only [hw] at h
        cases hd : o.dst with
        | none => simp [hd] at h
        | some d =>
          simp only [hd] at h
          cases hn : Nat.blt d n with
          | false => simp [hn] at h
          | true =>
            simp only [hn] at h
            exact fun a w hF hH => J7 hF hw hd (DA hn) fun b hb => Ag hfl h hk b w hb hH
      | true =>
        simp only [hw] at h
        cases hq : q1 fl o env with
        | none =>
          simp only [hq, Option.some.injEq, Prod.mk.injEq] at h
          obtain ⟨rfl, rfl⟩ := h
          exact hk
        | some v =>
          simp only [hq] at h
          cases hd : o.dst with
          | none => simp [hd] at h
          | some d =>
            simp only [hd] at h
            cases hn : Nat.blt d n with
            | false => simp [hn] at h
            | true =>
              simp only [hn] at h
              exact fun a w hF hH => OY hF hw hd (DA hn) v (fun b hb => Ah hfl hq hb) fun b hb => Ag hfl h hk b w hb hH
theorem Ac (h1 : SS ops n o env = some d) (v : Value) (hrun : ∀ b w, Fr n b env → Hp B w0 w rs → (execOp b.eval o).run P w = .ok (.value v) w) (h : BM P ops Q n ((d, v) :: env) B w0 rs rest) : BM P ops Q n env B w0 rs (o :: rest) :=
 fun a w hF hH => OY hF (Bm h1).1 (Bm h1).2.1 (Bm h1).2.2 v (fun b hb => hrun b w hb hH) fun b hb => h b w hb hH
theorem AE (h : BW Q n env B w0 rs .normal) : BM P ops Q n env B w0 rs [] := h
theorem Ae {y : Code} (h : AY P Q n env B w0 rs y) : BM P ops (Exit.then (fun a w => y.wp P Q a w) Q) n env B w0 rs [] := h
theorem BM.keep (hs : Dy env env') (h : BM P ops Q n env' B w0 rs l) : BM P ops Q n env B w0 rs l := fun a w hF hH => h a w (hF.keep hs) hH
theorem AY.keep {c : Code} (hs : Dy env env') (h : AY P Q n env' B w0 rs c) : AY P Q n env B w0 rs c := fun a w hF hH => h a w (hF.keep hs) hH
theorem BW.keep {e : Exit} (hs : Dy env env') (h : BW Q n env' B w0 rs e) : BW Q n env B w0 rs e := fun a w hF hH => h a w (hF.keep hs) hH
end wl2
section wc2
variable {P : Program} {Q : Exit → Act → World → Prop} {n : Nat} {B : Nat → Prop} {w0 : World} {rs : List Ass} {env : List (Nat × Value)}
theorem Af {id : Nat} {l : List Oper} {y : Code} (h : BM P l.toArray (Exit.then (fun a w => y.wp P Q a w) Q) n env B w0 rs l) : AY P Q n env B w0 rs (.seq (.region id l.toArray false) y) := fun a w hF hH => wp_seq (wp_region_lit (h a w hF hH))
theorem AR {id : Nat} {l : List Oper} (h : BM P l.toArray Q n env B w0 rs l) : AY P Q n env B w0 rs (.region id l.toArray false) := fun a w hF hH => wp_region_lit (h a w hF hH)
theorem Ax {x y : Code} (h : AY P (Exit.then (fun a w => y.wp P Q a w) Q) n env B w0 rs x) : AY P Q n env B w0 rs (.seq x y) := fun a w hF hH => wp_seq (h a w hF hH)
theorem AC {c : Operand} {x y : Code} (hc : evs env c = some (.bool true)) (h : AY P Q n env B w0 rs x) : AY P Q n env B w0 rs (.cond c x y) := fun a w hF hH => Ka hF hc (h a w hF hH)
theorem Az {c : Operand} {x y : Code} (hc : evs env c = some (.bool false)) (h : AY P Q n env B w0 rs y) : AY P Q n env B w0 rs (.cond c x y) := fun a w hF hH => Kb hF hc (h a w hF hH)
theorem AK (h : BW Q n env B w0 rs .normal) : AY P Q n env B w0 rs .skip := fun a w hF hH => wp_skip (h a w hF hH)
theorem Aw (h : BW Q n env B w0 rs .ret) : AY P Q n env B w0 rs .ret := fun a w hF hH => wp_ret (h a w hF hH)
theorem AN {id : Nat} {c : Code} (h : AY P (Exit.inBlock id Q) n env B w0 rs c) : AY P Q n env B w0 rs (.block id c) := fun a w hF hH => wp_block (h a w hF hH)
theorem B6 {id : Nat} (h : BW Q n env B w0 rs (.exit id)) : AY P Q n env B w0 rs (.exit id) := fun a w hF hH => wp_exit (h a w hF hH)
theorem AJ {y : Code} (h : AY P Q n env B w0 rs y) : BW (Exit.then (fun a w => y.wp P Q a w) Q) n env B w0 rs .normal := h
theorem AU {id : Nat} (h : BW Q n env B w0 rs .normal) : BW (Exit.inBlock id Q) n env B w0 rs .normal := h
theorem Cc {K : Act → World → Prop} (h : BW Q n env B w0 rs .ret) : BW (Exit.then K Q) n env B w0 rs .ret := h
theorem AA {id : Nat} (h : BW Q n env B w0 rs .ret) : BW (Exit.inBlock id Q) n env B w0 rs .ret := h
theorem ES {K : Act → World → Prop} {id : Nat} (h : BW Q n env B w0 rs (.exit id)) : BW (Exit.then K Q) n env B w0 rs (.exit id) := h
theorem AQ {id : Nat} (h : BW Q n env B w0 rs .normal) : BW (Exit.inBlock id Q) n env B w0 rs (.exit id) := fun a w hF hH => (if_pos rfl).mpr (h a w hF hH)
variable {fn : Func} {R : Ending → World → Prop}
theorem Res2.res {r : ResultVar} {v : Value} {w : World} (h : Res2 P env rs r v) (hH : Hp B w0 w rs) : Res P env w r v := by
  cases h with
  | tmp h => exact .tmp h
  | cell i hv h hi => exact .cell h hv (hH.row i hi)
theorem ER {r : ResultVar} {v : Value} {w : World} (h : Res2 P env rs r v) (hH : Hp B w0 w rs) : Res P env w r v := by
  cases h with
  | tmp h => exact .tmp h
  | cell i hv h hi => exact .cell h hv (hH.row i hi)
theorem Ar {r1 : ResultVar} {v1 : Value} (h1 : Res2 P env rs r1 v1) (hR : ∀ w, Hp B w0 w rs → R (.returned v1) w) (hr : fn.results = #[r1]) : BW (bodyPost P fn R) n env B w0 rs .ret := fun _ w hF hH => T2 hF hr (ER h1 hH) (hR w hH)
theorem BU {r1 r2 : ResultVar} {v1 v2 : Value} (h1 : Res2 P env rs r1 v1) (h2 : Res2 P env rs r2 v2) (hR : ∀ w, Hp B w0 w rs → R (.returned (.tuple #[v1, v2])) w) (hr : fn.results = #[r1, r2]) : BW (bodyPost P fn R) n env B w0 rs .ret := fun _ w hF hH => T3 hF hr (ER h1 hH) (ER h2 hH) (hR w hH)
theorem DJ (hR : ∀ w, Hp B w0 w rs → R (.returned (.tuple #[])) w) (hr : fn.results = #[]) : BW (bodyPost P fn R) n env B w0 rs .normal := fun _ w hF hH => Qn hF hr (hR w hH)
theorem Fw {f : FuncId} {c : Code} {args : List Value} {w : World} (n : Nat) (hf : P.funcs[f]? = some fn) (hb : fn.body = some c) (hn : fn.ntmps = n) (hs : Nat.ble args.length n = true) (h : AY P (bodyPost P fn R) n (EM 0 args) NY w [] c) : Calls P f args.toArray w R := FG n hf hb hn (Nat.le_of_ble_eq_true hs) fun a hF => h a w hF (Hp.start w)
end wc2
section par2
variable {P : Program} {ops : Array Oper} {Q : Exit → Act → World → Prop} {n : Nat} {B : Nat → Prop} {w0 : World} {rs : List Ass} {env env0 : List (Nat × Value)} {jobs : List Job} {o : Oper} {deps : List Nat} {v : Value} {fl : List ((Nat × Nat) × Nat)} {kk : Nat}
def VT (P : Program) (ops : Array Oper) (Q : Exit → Act → World → Prop) (n : Nat) (jobs : List Job) (env0 : List (Nat × Value)) (B : Nat → Prop) (w0 : World) (rs : List Ass) (o : Oper) (j : Job) : Prop := ∀ w, Hp B w0 w rs → OB P ops Q n jobs env0 w o j
def Df (P : Program) (ops : Array Oper) (Q : Exit → Act → World → Prop) (n : Nat) (jobs : List Job) (env0 : List (Nat × Value)) (B : Nat → Prop) (w0 : World) (rs : List Ass) : List Oper → List Job → Prop
  | o :: os, j :: js => VT P ops Q n jobs env0 B w0 rs o j ∧ Df P ops Q n jobs env0 B w0 rs os js
  | _, _ => True
theorem Df.all : ∀ {os : List Oper} {js : List Job}, Df P ops Q n jobs env0 B w0 rs os js → ∀ w, Hp B w0 w rs → Dv P ops Q n w.heap.size jobs env0 (VC w) os js
  | [], _, _, _, _ => by unfold Dv; trivial
  | _ :: _, [], _, _, _ => by unfold Dv; trivial
  | _ :: _, _ :: _, h, w, hH => ⟨h.1 w hH, Df.all h.2 w hH⟩
end par2
section orders2
variable {P : Program} {ops : Array Oper} {Q : Exit → Act → World → Prop} {n f i d : Nat} {B : Nat → Prop} {w0 : World} {rs : List Ass} {env env' : List (Nat × Value)} {listed : Array Bool} {o : Oper} {fl : List ((Nat × Nat) × Nat)}
def Lo (P : Program) (ops : Array Oper) (Q : Exit → Act → World → Prop) (n : Nat) (env : List (Nat × Value)) (B : Nat → Prop) (w0 : World) (rs : List Ass) (f : Nat) (listed : Array Bool) : Prop := ∀ a w, Fr n a env → Hp B w0 w rs → wpAny P .any ops Q f listed a w
end orders2
section loops
variable {P : Program} {Q : Exit → Act → World → Prop} {n : Nat} {B : Nat → Prop} {w0 : World} {rs rs' : List Ass} {env env' : List (Nat × Value)} {c : Code} {α : Type}
theorem AY.at_ (hs : Dy env env') (hr : rs = rs') (h : AY P Q n env' B w0 rs' c) : AY P Q n env B w0 rs c := fun a w hF hH => h a w (hF.keep hs) (hr ▸ hH)
def HU (n : Nat) (B : Nat → Prop) (w0 : World) (E : α → List (Nat × Value)) (R : α → List Ass) (Inv : α → Prop) (μ : α → Nat) (x : α) : Act → World → Prop := fun a w => ∃ y, Inv y ∧ μ y < μ x ∧ Fr n a (E y) ∧ Hp B w0 w (R y)
theorem Cw (E : α → List (Nat × Value)) (R : α → List Ass) (Inv : α → Prop) (μ : α → Nat) (x : α) (hx : Inv x) (hE : Dy env (E x)) (hR : rs = R x) (h : ∀ x, Inv x → AY P (Exit.then (HU n B w0 E R Inv μ x) Q) n (E x) B w0 (R x) c) : AY P Q n env B w0 rs (.loop c) := by
  subst hR
  intro a w hF hH
  have key : ∀ m x, μ x < m → Inv x → ∀ a w, Fr n a (E x) → Hp B w0 w (R x) → Code.rounds P c Q m a w := by
    intro m
    induction m with
    | zero => intro x hx; omega
    | succ m ih =>
      intro x hm hx a w hF hH
      refine Code.wp_mono (fun e a' w' q => ?_) (h x hx a w hF hH)
      cases e with
      | normal =>
        obtain ⟨y, hy, hlt, hF', hH'⟩ := q
        exact ih y (by omega) hy a' w' hF' hH'
      | _ => exact q
  exact wp_loop_rounds _ (key _ x (Nat.lt_succ_self _) hx a w (hF.keep hE) hH)
theorem BS {E : α → List (Nat × Value)} {R : α → List Ass} {Inv : α → Prop} {μ : α → Nat} {x : α} (y : α) (k : Nat) (hy : Inv y) (hμ : μ y < μ x) (hs : Dy env (E y)) (hr : rs.drop k = R y) : BW (Exit.then (HU n B w0 E R Inv μ x) Q) n env B w0 rs .normal := fun _ _ hF hH => ⟨y, hy, hμ, hF.keep hs, hr ▸ hH.drop k⟩
end loops
section orders3
variable {P : Program} {ops : Array Oper} {Q : Exit → Act → World → Prop} {n fu i d : Nat} {B : Nat → Prop} {w0 : World} {rs : List Ass} {env : List (Nat × Value)} {listed : Array Bool} {o : Oper}
end orders3
section textsBs
variable {P : Program} {ops : Array Oper} {Q : Exit → Act → World → Prop} {n d : Nat} {B : Nat → Prop} {w0 : World} {rs : List Ass} {env env0 : List (Nat × Value)} {rest : List Oper} {o : Oper} {a : Act} {w : World} {jobs : List Job} {deps : List Nat} {kk : Nat}
end textsBs
section textsBytes
variable {P : Program} {ops : Array Oper} {Q : Exit → Act → World → Prop} {n : Nat} {B : Nat → Prop} {w0 w : World} {rs : List Ass} {env : List (Nat × Value)} {rest : List Oper} {o : Oper} {d : Nat}
end textsBytes
section par3
variable {P : Program} {ops : Array Oper} {Q : Exit → Act → World → Prop} {n : Nat} {B : Nat → Prop} {w0 : World} {rs : List Ass} {env : List (Nat × Value)}
theorem Lo.keep {f : Nat} {env' : List (Nat × Value)} {listed : Array Bool} (hs : Dy env env') (h : Lo P ops Q n env' B w0 rs f listed) : Lo P ops Q n env B w0 rs f listed := fun a w hF hH => h a w (hF.keep hs) hH
end par3
section par4
variable {P : Program} {ops : Array Oper} {Q : Exit → Act → World → Prop} {n : Nat} {B : Nat → Prop} {w0 : World} {rs : List Ass} {env : List (Nat × Value)}
def Rk (n : Nat) (B : Nat → Prop) (w0 : World) (E : List (Nat × Value)) (R : List Ass) : Exit → Act → World → Prop := fun e a w => e = .normal ∧ Fr n a E ∧ Hp B w0 w R
theorem LK {c : Code} (E : List (Nat × Value)) (R : List Ass) (h1 : AY P (Rk n B w0 E R) n env B w0 rs c) (h2 : BW Q n E B w0 R .normal) : AY P Q n env B w0 rs c := fun a w hF hH => Code.wp_mono (fun e a' w' (h : Rk n B w0 E R e a' w') => by obtain ⟨he, hF', hH'⟩ := h; subst he; exact h2 a' w' hF' hH') (h1 a w hF hH)
theorem Dj {E : List (Nat × Value)} {R : List Ass} (k : Nat) (hs : Dy env E) (hr : rs.drop k = R) : BW (Rk n B w0 E R) n env B w0 rs .normal := fun _ _ hF hH => ⟨rfl, hF.keep hs, hr ▸ hH.drop k⟩
end par4
section does
variable {P : Program} {ops : Array Oper} {Q : Exit → Act → World → Prop} {n d : Nat} {B : Nat → Prop} {w0 : World} {os : List Ass} {env : List (Nat × Value)} {rest l : List Oper} {o : Oper} {c : Code} {e : Exit} {fu : Nat} {ids : List Nat} {listed : Array Bool}
def Dw : Ass := fun rs => rs = []
def Eo : Nat → List Ass → List Ass
  | 0, _ => []
  | k + 1, [] => Dw :: Eo k []
  | k + 1, x :: r => x :: Eo k r
def D7 : List Nat → List Ass → List Ass → List Ass
  | i :: ids, x :: xs, os => D7 ids xs (os.set i x)
  | _, _, os => os
def Cq : List Nat → Bool
  | [] => true
  | i :: r => !r.elem i && Cq r
theorem Bt : ∀ {l : List Nat}, Cq l = true → l.Nodup
  | [], _ => List.nodup_nil
  | i :: r, h => by
    unfold Cq at h
    simp only [Bool.and_eq_true, Bool.not_eq_true'] at h
    refine List.nodup_cons.2 ⟨fun hm => ?_, Bt h.2⟩
    rw [List.elem_iff.2 hm] at h
    cases h.1
theorem DC : ∀ {k : Nat} {rs : List RowT}, Am (List.replicate k Dw) rs ↔ rs = []
  | 0, rs => by simp [Am]
  | k + 1, rs => by
    rw [List.replicate_succ]
    constructor
    · rintro ⟨a, b, e, h1, h2⟩
      have := (DC (k := k)).1 h2
      unfold Dw at h1
      subst h1; subst this
      exact e
    · rintro rfl
      exact ⟨[], [], rfl, rfl, DC.2 rfl⟩
theorem AV.pad {X : Type} {F : FuncId} {args : Array Value} {pre : List Ass} {val : X → Value} {post : X → List Ass} (h : AV P F args pre val post) (k : Nat) : AV P F args (pre ++ List.replicate k Dw) val post := fun w rs h1 h2 h3 => by
 obtain ⟨a, b, e, ha, hb⟩ := h1.split
 have := DC.1 hb
 subst this
 rw [List.append_nil] at e
 subst e
 exact h w _ ha h2 h3
theorem HB : ∀ (k : Nat) (l : List Ass), (Eo k l).length = k
  | 0, _ => rfl
  | k + 1, [] => by simp [Eo, HB k []]
  | k + 1, x :: r => by simp [Eo, HB k r]
theorem DQ : ∀ {k : Nat} {l : List Ass} {rs : List RowT}, Am l rs → ∃ rs', rs.Perm rs' ∧ Am (l.drop k ++ Eo k l) rs'
  | 0, l, rs, h => ⟨rs, .refl _, by simpa [Eo] using h⟩
  | k + 1, [], rs, h => by
    obtain ⟨rs', p, h'⟩ := DQ (k := k) (l := []) h
    refine ⟨rs', p, ?_⟩
    simp only [List.drop_nil, List.nil_append] at h' ⊢
    exact ⟨[], rs', rfl, rfl, h'⟩
  | k + 1, x :: r, rs, ⟨a, b, e, h1, h2⟩ => by
    obtain ⟨b', p, h'⟩ := DQ (k := k) h2
    have h3 : Am (x :: (r.drop k ++ Eo k r)) (a ++ b') := ⟨a, b', rfl, h1, h'⟩
    obtain ⟨c, p2, h4⟩ := h3.perm (os' := r.drop k ++ x :: Eo k r) List.perm_middle.symm
    exact ⟨c, (e ▸ p.append_left a).trans p2, h4⟩
theorem Oy {ids : List Nat} : ∀ {os : List Ass} {k i : Nat} {x : Ass}, (k + i) ∈ ids → BJ ids k (os.set i x) = BJ ids k os
  | [], _, _, _, _ => by simp
  | y :: r, k, 0, x, h => by
    have : ids.elem k = true := List.elem_iff.2 h
    rw [List.set_cons_zero, IM this, IM this]
  | y :: r, k, i + 1, x, h => by
    have ih := Oy (os := r) (k := k + 1) (i := i) (x := x) (by rwa [show k + 1 + i = k + (i + 1) by omega])
    rw [List.set_cons_succ]
    cases hk : ids.elem k with
    | true => rw [IM hk, IM hk, ih]
    | false => rw [Jq hk, Jq hk, ih]
theorem LN {ids0 : List Nat} : ∀ {ids : List Nat} {xs os : List Ass}, (∀ i ∈ ids, i ∈ ids0) → CO ids0 (D7 ids xs os) = CO ids0 os
  | [], _, _, _ => by unfold D7; rfl
  | i :: ids, [], _, _ => by unfold D7; rfl
  | i :: ids, x :: xs, os, h => by
    show CO ids0 (D7 ids xs (os.set i x)) = _
    rw [LN fun j hj => h j (by simp [hj])]
    exact Oy (k := 0) (by rw [Nat.zero_add]; exact h i (by simp))
theorem LO : ∀ {ids : List Nat} {xs os : List Ass} {i : Nat}, i ∉ ids → (D7 ids xs os)[i]? = os[i]?
  | [], _, _, _, _ => by unfold D7; rfl
  | j :: ids, [], _, _, _ => by unfold D7; rfl
  | j :: ids, x :: xs, os, i, h => by
    show (D7 ids xs (os.set j x))[i]? = _
    rw [LO fun hm => h (by simp [hm]), List.getElem?_set_ne (fun e => h (by simp [e]))]
theorem LP : ∀ {ids : List Nat} {xs os : List Ass}, ids.Nodup → (∀ i ∈ ids, i < os.length) → xs.length = ids.length → Du ids (D7 ids xs os) = xs
  | [], xs, _, _, _, hl => by
    have : xs = [] := List.length_eq_zero_iff.1 hl
    subst this; rfl
  | i :: ids, [], _, _, _, hl => by simp at hl
  | i :: ids, x :: xs, os, hn, hb, hl => by
    obtain ⟨h1, h2⟩ := List.nodup_cons.1 hn
    have e1 : (D7 ids xs (os.set i x))[i]? = some x := by
      rw [LO h1]
      simp [hb i (by simp)]
    have ih := LP (ids := ids) (xs := xs) (os := os.set i x) h2 (fun j hj => by rw [List.length_set]; exact hb j (by simp [hj])) (by simpa using hl)
    show List.filterMap _ (i :: ids) = _
    rw [List.filterMap_cons_some (b := x) (by exact e1)]
    exact congrArg _ ih
theorem HC {ids : List Nat} {xs os : List Ass} (hn : ids.Nodup) (hb : (ids.all fun i => Nat.blt i os.length) = true) : (Eo ids.length xs ++ CO ids os).Perm (D7 ids (Eo ids.length xs) os) := by
 have hb' : ∀ i ∈ ids, i < os.length := fun i hi => DA (List.all_eq_true.1 hb i hi)
 have := Ck (ids := ids) (os := D7 ids (Eo ids.length xs) os) hn
 rwa [LP hn hb' (HB _ _), LN (fun _ h => h)] at this
theorem AV.calls {X : Type} {F : FuncId} {vs : List Value} {pre : List Ass} {val : X → Value} {post : X → List Ass} {w : World} (ids : List Nat) (hc : AV P F vs.toArray pre val post) (hp : Du ids os = pre) (hn : ids.Nodup) (h : Hp B w0 w os) : Calls P F vs.toArray w fun e w' => ∃ x, e = .returned (val x) ∧ Hp B w0 w' (post x ++ CO ids os) := by
 subst hp
 obtain ⟨x, h1, h2, h3, h4⟩ := h.give ids hn
 exact (hc w x h1 h2 h3).mono fun e w' ⟨v, he, y, hy, hch⟩ => ⟨v, he, h4 _ y w' hy hch⟩
def AZ {X : Type} (P : Program) (Q : Exit → Act → World → Prop) (n : Nat) (env : List (Nat × Value)) (B : Nat → Prop) (w0 : World) (os : List Ass) (o : Oper) (val : X → Value) (post : X → List Ass) : Prop :=
  ∀ (b : Act) (w : World), Hp B w0 w os → Fr n b env → ∀ K : Act → World → Prop, (∀ x w', Hp B w0 w' (post x) → K (b.put o.dst (val x)) w') → o.wp P b w K Q
theorem Al {X : Type} {val : X → Value} {post : X → List Ass} (h1 : SS ops n o env = some d) (ha : AZ P Q n env B w0 os o val post) (h : ∀ x, BM P ops Q n ((d, val x) :: env) B w0 (post x) rest) : BM P ops Q n env B w0 os (o :: rest) := fun a w hF hH =>
 Hq hF (Bm h1).1 fun K hK => ha a w hH hF K fun x w' hp => by
  rw [(Bm h1).2.1]
  exact hK _ _ (h x _ _ (hF.put (Bm h1).2.2 _) hp)
theorem A5 {X : Type} {val : X → Value} {post : X → List Ass} (hg : wants ops o env = some true) (hd : o.dst = none) (ha : AZ P Q n env B w0 os o val post) (h : ∀ x, BM P ops Q n env B w0 (post x) rest) : BM P ops Q n env B w0 os (o :: rest) := fun a w hF hH =>
 Hq hF hg fun K hK => ha a w hH hF K fun x w' hp => by
  rw [hd]
  exact hK _ _ (h x _ _ hF hp)
theorem HV {r : Value} {w' : World} (b : Act) (hrun : (execOp b.eval o).run P w0 = .ok (.value r) w') {K : Act → World → Prop} (h : K (b.put o.dst r) w') : o.wp P b w0 K Q := by
 unfold Oper.wp
 rw [hrun, Oper.upon_value]
 exact h
theorem Ao {X : Type} {F : FuncId} {f : Operand} {args : Array Operand} {ats : Array TypeId} {vs : List Value} {pre : List Ass} {val : X → Value} {post : X → List Ass} {os' : X → List Ass} (ids : List Nat) (pads : Nat) (hE : Qm P F) (hc : AV P F vs.toArray pre val post) (hp : Du ids os = pre ++ List.replicate pads Dw) (hn : Cq ids = true) (hb : (ids.all fun i => Nat.blt i os.length) = true) (he : ∀ x, (post x).drop ids.length ++ D7 ids (Eo ids.length (post x)) os = os' x) (ho : o.op = .call { callee := .value f, args := args, argTypes := ats }) (hf : evs env f = some (.func (.func F) #[] #[])) (hx : evl env args.toList = some vs) :
  AZ P Q n env B w0 os o val os' := fun b w hH hb' K hK => by
 unfold Oper.wp
 rw [Gc hE ho hf hx hb', Oper.upon_enter]
 refine (AV.calls ids (hc.pad pads) hp (Bt hn) hH).mono ?_
 rintro e w' ⟨x, rfl, hq⟩
 refine hK x w' (he x ▸ Hp.imp hq fun rs h => ?_)
 obtain ⟨a, c, e, ha, hc'⟩ := h.split
 obtain ⟨a', p, ha'⟩ := DQ (k := ids.length) ha
 have h2 := Am.app ha' hc'
 rw [List.append_assoc] at h2
 obtain ⟨r2, p2, h3⟩ := h2.perm ((HC (xs := post x) (Bt hn) hb).append_left _)
 exact ⟨r2, e ▸ (p.append_right c).trans p2, h3⟩
theorem AH {F : FuncId} {f : Operand} {args : Array Operand} {ats : Array TypeId} {vs : List Value} {v : Value} (hE : Qm P F) (hc : ∀ w, Hp B w0 w os → Calls P F vs.toArray w fun e w' => e = .returned v ∧ Below w.heap.size w w') (ho : o.op = .call { callee := .value f, args := args, argTypes := ats }) (hf : evs env f = some (.func (.func F) #[] #[])) (hx : evl env args.toList = some vs) :
  AZ P Q n env B w0 os o (fun _ : Unit => v) (fun _ => os) := fun b w hH hb K hK => by
 unfold Oper.wp
 rw [Gc hE ho hf hx hb, Oper.upon_enter]
 refine (hc w hH).mono ?_
 rintro e w' ⟨rfl, hbl⟩
 exact hK () w' (hH.call hbl)
theorem AZ.to {X : Type} {val : X → Value} {post post' : X → List Ass} (h : AZ P Q n env B w0 os o val post) (he : ∀ x, post x = post' x) : AZ P Q n env B w0 os o val post' := fun b w hH hb K hK => h b w hH hb K fun x w' hp => hK x w' (he x ▸ hp)
theorem AZ.imp {X : Type} {val : X → Value} {post post' : X → List Ass} (h : AZ P Q n env B w0 os o val post) (he : ∀ x rs, Am (post x) rs → ∃ rs', rs.Perm rs' ∧ Am (post' x) rs') : AZ P Q n env B w0 os o val post' := fun b w hH hb K hK => h b w hH hb K fun x w' hp => hK x w' (hp.imp (he x))
theorem AZ.s {X : Type} {val : X → Value} {post : X → List Ass} {S : Value → List Ass} (h : AZ P Q n env B w0 os o val post) (he : ∀ x, post x = S (val x)) : ∀ (b : Act) (w : World), Hp B w0 w os → Fr n b env → ∀ K : Act → World → Prop, (∀ v w', Hp B w0 w' (S v) → K (b.put o.dst v) w') → o.wp P b w K Q := fun b w hH hb K hK => h b w hH hb K fun x w' hp => hK _ w' (he x ▸ hp)
theorem AZ.su {v0 : Value} {post : Unit → List Ass} {os' : Value → List Ass} (h : AZ P Q n env B w0 os o (fun _ : Unit => v0) post) (he : post () = os' undef) : ∀ (b : Act) (w : World), Hp B w0 w os → Fr n b env → ∀ K : Act → World → Prop, (∀ v w', Hp B w0 w' (os' v) → K (b.put o.dst v0) w') → o.wp P b w K Q := fun b w hH hb K hK => h b w hH hb K fun x w' hp => hK undef w' (he ▸ hp)
theorem Co {T : TypeId} {x : Operand} {v : Value} {cs : Array Value} (ho : o.op = .box T x) (hx : evs env x = some v) (hc : v.cells = cs) : AZ P Q n env B w0 os o (fun g : Nat => .pointer (some ⟨g, 0, none⟩)) (fun g => cell g T cs :: os) := fun b w hH hb K hK => by
 have hrun : (execOp b.eval o).run P w = .ok (.value (.pointer (some ⟨w.heap.size, 0, none⟩))) (w.alloc (.cells cs T)) := by
  unfold execOp
  simp [ho, hb.evs hx, Instr.box, newVar, newRow, hc]
 unfold Oper.wp
 rw [hrun, Oper.upon_value]
 exact hK _ _ (hH.new T cs)
theorem B4 {T : TypeId} {zs : Array Value} (hz : J9 P T zs) (ho : o.op = .alloc T) : AZ P Q n env B w0 os o (fun g : Nat => .pointer (some ⟨g, 0, none⟩)) (fun g => cell g T zs :: os) := fun b w hH hb K hK => by
 unfold Oper.wp
 rw [Ij ho hz, Oper.upon_value]
 exact hK _ _ (hH.new T zs)
theorem AP (i : Nat) {T : TypeId} {x y : Operand} {g off k : Nat} {t : TypeId} {cs : Array Value} {v : Value} (c : Array Value) (hs : ∀ w, (sizeOf T).run P w = .ok k w) (hk : v.cells.size = k) (hl : Nat.ble (off + k) cs.size = true) (hone : GK v.cells.toList = true) (hc : (over? cs.toList off v.cells.toList).toArray = c) (hd : o.dst = none) (ho : o.op = .store T x y)
  (hx : evs env x = some (.pointer (some ⟨g, off, none⟩))) (hy : evs env y = some v) (hi : os[i]? = some (cell g t cs)) : AZ P Q n env B w0 os o (fun _ : Unit => undef) (fun _ => os.set i (cell g t c)) := fun a w hH hF K hK => by
 obtain ⟨w', hr, hR', hm⟩ := B7 (P := P) g t v.cells.toList 0 cs w off (hH.row i hi) (by have := Nat.le_of_ble_eq_true hl; simp; omega) (fun u hu => (List.all_eq_true.1 (FI hone)) u hu)
 have hrun : (execOp a.eval o).run P w = .ok .skip w' := by
  unfold execOp
  simp [ho, hF.evs hx, hF.evs hy, Instr.storeAt, Instr.sureAddr, storeVar, hs, hk, hr]
 have hR2 : CF w' g t c := by rw [← hc]; simpa [over?] using hR'
 unfold Oper.wp
 rw [hrun, Oper.upon_skip]
 have := hK () w' (hH.set i hi hm hR2)
 rw [hd] at this ⊢
 exact this
theorem BM.via {X : Type} (os' : X → List Ass) (hi : ∀ rs, Am os rs → ∃ x, ∃ rs', rs.Perm rs' ∧ Am (os' x) rs') (h : ∀ x, BM P ops Q n env B w0 (os' x) l) : BM P ops Q n env B w0 os l := fun a w hF ⟨rs, h1, h2⟩ => by
 obtain ⟨x, rs', p, h3⟩ := hi rs h1
 exact h x a w hF ⟨rs', h3, B8 h2 p⟩
theorem AY.via {X : Type} (os' : X → List Ass) (hi : ∀ rs, Am os rs → ∃ x, ∃ rs', rs.Perm rs' ∧ Am (os' x) rs') (h : ∀ x, AY P Q n env B w0 (os' x) c) : AY P Q n env B w0 os c := fun a w hF ⟨rs, h1, h2⟩ => by
 obtain ⟨x, rs', p, h3⟩ := hi rs h1
 exact h x a w hF ⟨rs', h3, B8 h2 p⟩
theorem BW.via {X : Type} (os' : X → List Ass) (hi : ∀ rs, Am os rs → ∃ x, ∃ rs', rs.Perm rs' ∧ Am (os' x) rs') (h : ∀ x, BW Q n env B w0 (os' x) e) : BW Q n env B w0 os e := fun a w hF ⟨rs, h1, h2⟩ => by
 obtain ⟨x, rs', p, h3⟩ := hi rs h1
 exact h x a w hF ⟨rs', h3, B8 h2 p⟩
theorem Lo.via {X : Type} (os' : X → List Ass) (hi : ∀ rs, Am os rs → ∃ x, ∃ rs', rs.Perm rs' ∧ Am (os' x) rs') (h : ∀ x, Lo P ops Q n env B w0 (os' x) fu listed) : Lo P ops Q n env B w0 os fu listed := fun a w hF ⟨rs, h1, h2⟩ => by
 obtain ⟨x, rs', p, h3⟩ := hi rs h1
 exact h x a w hF ⟨rs', h3, B8 h2 p⟩
theorem BM.mid (os' : List Ass) (hp : os.Perm os') (h : BM P ops Q n env B w0 os' l) : BM P ops Q n env B w0 os l := fun a w hF hH => h a w hF (hH.perm hp)
theorem AY.mid (os' : List Ass) (hp : os.Perm os') (h : AY P Q n env B w0 os' c) : AY P Q n env B w0 os c := fun a w hF hH => h a w hF (hH.perm hp)
theorem BW.mid (os' : List Ass) (hp : os.Perm os') (h : BW Q n env B w0 os' e) : BW Q n env B w0 os e := fun a w hF hH => h a w hF (hH.perm hp)
theorem Lo.mid (os' : List Ass) (hp : os.Perm os') (h : Lo P ops Q n env B w0 os' fu listed) : Lo P ops Q n env B w0 os fu listed := fun a w hF hH => h a w hF (hH.perm hp)
theorem Ro {i : Nat} {o : Ass} (hi : os[i]? = some o) : os.Perm (o :: CO [i] os) := by
 have := (Ck (ids := [i]) (os := os) (by simp)).symm
 unfold Du at this
 rw [List.filterMap_cons_some hi] at this
 exact this
theorem DR {p : Prop} {o : Ass} (i : Nat) (hi : os[i]? = some o) (hp : ∀ rs, o rs → p) {w : World} (h : Hp B w0 w os) : p := by
 obtain ⟨x, hx, _⟩ := h.thing i hi
 exact hp x hx
theorem BM.fact {p : Prop} {o : Ass} (i : Nat) (hi : os[i]? = some o) (hp : ∀ rs, o rs → p) (h : p → BM P ops Q n env B w0 os l) : BM P ops Q n env B w0 os l := fun a w hF hH => h (DR i hi hp hH) a w hF hH
theorem AY.fact {p : Prop} {o : Ass} (i : Nat) (hi : os[i]? = some o) (hp : ∀ rs, o rs → p) (h : p → AY P Q n env B w0 os c) : AY P Q n env B w0 os c := fun a w hF hH => h (DR i hi hp hH) a w hF hH
theorem BW.fact {p : Prop} {o : Ass} (i : Nat) (hi : os[i]? = some o) (hp : ∀ rs, o rs → p) (h : p → BW Q n env B w0 os e) : BW Q n env B w0 os e := fun a w hF hH => h (DR i hi hp hH) a w hF hH
theorem G5 {α : Type} {A : α → List Ass} {i : Nat} {o : Ass} (hi : os[i]? = some o) (ho : ∀ rs, o rs → ∃ x, Am (A x) rs) : ∀ rs, Am os rs → ∃ x, ∃ rs', rs.Perm rs' ∧ Am (A x ++ CO [i] os) rs' := fun rs h => by
 obtain ⟨rs1, p, a, b, e, h1, h2⟩ := h.perm (Ro hi)
 obtain ⟨x, h3⟩ := ho a h1
 exact ⟨x, rs1, p, e ▸ h3.app h2⟩
theorem M5 {α : Type} {A : α → List Ass} {t : Ass} {os' : α → List Ass} (i : Nat) (hi : os[i]? = some t) (ho : ∀ rs, t rs → ∃ x, Am (A x) rs) (he : ∀ x, A x ++ CO [i] os = os' x) (h : ∀ x, BM P ops Q n env B w0 (os' x) l) : BM P ops Q n env B w0 os l := BM.via _ (G5 hi ho) fun x => he x ▸ h x
theorem Bo {α : Type} {A : α → List Ass} {t : Ass} {os' : α → List Ass} (i : Nat) (hi : os[i]? = some t) (ho : ∀ rs, t rs → ∃ x, Am (A x) rs) (he : ∀ x, A x ++ CO [i] os = os' x) (h : ∀ x, AY P Q n env B w0 (os' x) c) : AY P Q n env B w0 os c := AY.via _ (G5 hi ho) fun x => he x ▸ h x
theorem UC {α : Type} {A : α → List Ass} {t : Ass} {os' : α → List Ass} (i : Nat) (hi : os[i]? = some t) (ho : ∀ rs, t rs → ∃ x, Am (A x) rs) (he : ∀ x, A x ++ CO [i] os = os' x) (h : ∀ x, BW Q n env B w0 (os' x) e) : BW Q n env B w0 os e := BW.via _ (G5 hi ho) fun x => he x ▸ h x
theorem IN {t : Ass} (ids : List Nat) (hn : Cq ids = true) (ht : ∀ rs, Am (Du ids os) rs → t rs) : ∀ rs, Am os rs → ∃ _ : Unit, ∃ rs', rs.Perm rs' ∧ Am (t :: CO ids os) rs' := fun rs h => by
 obtain ⟨rs1, p, h1⟩ := h.perm (Ck (os := os) (Bt hn)).symm
 obtain ⟨a, b, e, h2, h3⟩ := h1.split
 exact ⟨(), rs1, p, a, b, e, ht a h2, h3⟩
theorem Cz {t : Ass} {os' : List Ass} (ids : List Nat) (hn : Cq ids = true) (ht : ∀ rs, Am (Du ids os) rs → t rs) (he : t :: CO ids os = os') (h : BM P ops Q n env B w0 os' l) : BM P ops Q n env B w0 os l := BM.via (fun _ : Unit => _) (IN ids hn ht) fun _ => he ▸ h
theorem Be {t : Ass} {os' : List Ass} (ids : List Nat) (hn : Cq ids = true) (ht : ∀ rs, Am (Du ids os) rs → t rs) (he : t :: CO ids os = os') (h : AY P Q n env B w0 os' c) : AY P Q n env B w0 os c := AY.via (fun _ : Unit => _) (IN ids hn ht) fun _ => he ▸ h
theorem Fg {t : Ass} {os' : List Ass} (ids : List Nat) (hn : Cq ids = true) (ht : ∀ rs, Am (Du ids os) rs → t rs) (he : t :: CO ids os = os') (h : BW Q n env B w0 os' e) : BW Q n env B w0 os e := BW.via (fun _ : Unit => _) (IN ids hn ht) fun _ => he ▸ h
theorem Ep (k : Nat) {os' : List Ass} (he : List.replicate k Dw ++ os = os') (h : AY P Q n env B w0 os' c) : AY P Q n env B w0 os c := AY.via (fun _ : Unit => os') (fun rs hp => ⟨(), rs, .refl _, he ▸ (Am.app (DC.2 rfl) hp : Am _ ([] ++ rs))⟩) fun _ => h
theorem AY.leave {os' : List Ass} (ids : List Nat) (hn : Cq ids = true) (he : CO ids os = os') (h : AY P Q n env B w0 os' c) : AY P Q n env B w0 os c := fun a w hF hH => h a w hF (by
 have := (hH.perm (Ck (os := os) (Bt hn)).symm).drop (Du ids os).length
 rw [List.drop_left] at this
 exact he ▸ this)
theorem BM.leave {os' : List Ass} (ids : List Nat) (hn : Cq ids = true) (he : CO ids os = os') (h : BM P ops Q n env B w0 os' l) : BM P ops Q n env B w0 os l := fun a w hF hH => h a w hF (by
 have := (hH.perm (Ck (os := os) (Bt hn)).symm).drop (Du ids os).length
 rw [List.drop_left] at this
 exact he ▸ this)
theorem BW.leave {os' : List Ass} (ids : List Nat) (hn : Cq ids = true) (he : CO ids os = os') (h : BW Q n env B w0 os' e) : BW Q n env B w0 os e := fun a w hF hH => h a w hF (by
 have := (hH.perm (Ck (os := os) (Bt hn)).symm).drop (Du ids os).length
 rw [List.drop_left] at this
 exact he ▸ this)
def Ct (r : Option Value) (f : Value → Ass) (d : Ass) : Ass := match r with | some v => f v | none => d
end does
section entry
variable {P : Program} {fn : Func}
theorem Bk {X : Type} {f : FuncId} {c : Code} {args : List Value} {pre : List Ass} {val : X → Value} {post : X → List Ass} (n : Nat) (hf : P.funcs[f]? = some fn) (hb : fn.body = some c) (hn : fn.ntmps = n) (hs : Nat.ble args.length n = true)
  (h : ∀ (w : World) (rs : List RowT), AY P (bodyPost P fn fun e w' => ∃ x, e = .returned (val x) ∧ ∃ rs', Am (post x) rs' ∧ Chg w w' rs rs') n (EM 0 args) (BA rs) w pre c) : AV P f args.toArray pre val post :=
 fun w rs h1 h2 h3 => FG n hf hb hn (Nat.le_of_ble_eq_true hs) fun a hF => h w rs a w hF (Hp.given h1 h2 h3)
theorem AG {X : Type} {w0 w' : World} {rs : List RowT} {os : List Ass} {val : X → Value} {post : X → List Ass} (x : X) {v : Value} (hv : v = val x) (ids : List Nat) (hn : Cq ids = true) (h : Hp (BA rs) w0 w' os) (hp : ∀ y, Am (Du ids os) y → ∃ z, y.Perm z ∧ Am (post x) z) : ∃ x, Ending.returned v = .returned (val x) ∧ ∃ rs', Am (post x) rs' ∧ Chg w0 w' rs rs' := by
 obtain ⟨y, h1, h2⟩ := h.tell ids (Bt hn)
 obtain ⟨z, p, h3⟩ := hp y h1
 exact ⟨x, by rw [hv], z, h3, JM h2 p⟩
theorem AV.frame {X : Type} {F : FuncId} {args : Array Value} {pre more : List Ass} {val : X → Value} {post : X → List Ass} (h : AV P F args pre val post) : AV P F args (pre ++ more) val (fun x => post x ++ more) := fun w rs h1 h2 h3 => by
 obtain ⟨a, b, e, ha, hb⟩ := h1.split
 subst e
 have hd := AS.1 h3
 rw [List.map_append] at hd
 have hh : Mem.Hp (BA (a ++ b)) w w (a ++ b) := Mem.Hp.given h2 h3
 refine (h w a ha (AT.2 fun z hz => h2.mem z (by simp [hz])) (AS.2 (List.nodup_append.1 hd).1)).mono ?_
 rintro e w' ⟨x, he, y, hy, hc⟩
 have := D4 hh hc
 exact ⟨x, he, y ++ b, hy.app hb, this.up, this.rows, this.apart, fun z hz hlt => this.own z hz hlt⟩
theorem AV.imp {X : Type} {F : FuncId} {args : Array Value} {pre pre' : List Ass} {val : X → Value} {post : X → List Ass} (h : AV P F args pre val post) (hi : ∀ rs, Am pre' rs → ∃ rs', rs.Perm rs' ∧ Am pre rs') : AV P F args pre' val post := fun w rs h1 h2 h3 => by
 obtain ⟨rs', p, h4⟩ := hi rs h1
 refine (h w rs' h4 (AT.2 fun z hz => h2.mem z (p.mem_iff.2 hz)) (AS.2 ((p.map _).nodup_iff.1 (AS.1 h3)))).mono ?_
 rintro e w' ⟨x, he, y, hy, hc⟩
 exact ⟨x, he, y, hy, LM hc p.symm⟩
theorem CV {os : List Ass} : ∀ y, Am os y → ∃ z, y.Perm z ∧ Am os z := fun y h => ⟨y, .refl _, h⟩
end entry
end Go.Proofs.Ytnebloeideodmaa.Sep
