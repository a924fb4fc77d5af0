/-
  Words · Step · Ra
-/
import Derived.WalkKit
import Derived.WalkSpells
import Derived.Maps.AppendAt
import Derived.Great.BuildSlice
import Derived.Deep.AppendLies
import Derived.Lib.SlBytesConst
import Derived.Deep.Draws
set_option linter.unusedSimpArgs false
set_option linter.unusedVariables false

namespace Go.Proofs.YtljpjfefjidakaaGreat
open Go.RowKit

/-! ## What a call may change -/

/-- Of the blocks that were there only those of S may have changed. -/
structure Mod (S : Nat → Prop) (w w' : World) : Prop where
  os : w'.os = w.os
  tape : w'.tape = w.tape
  output : w'.output = w.output
  size : w.heap.size ≤ w'.heap.size
  block : ∀ k, k < w.heap.size → ¬ S k → w'.heap[k]? = w.heap[k]?

/-- no block -/
abbrev Nil : Nat → Prop := fun _ => False
/-- this one block -/
abbrev One (g : Nat) : Nat → Prop := fun k => k = g
/-- the blocks that a slice's value names -/
def At (v : Value) : Nat → Prop := fun k => v.ownBlock = some k

theorem At.none {n c k : Nat} : ¬ At (.slice none n c) k := by
  unfold At Value.ownBlock
  intro h; cases h

section mods
variable {S T : Nat → Prop} {w w' a b c : World}
theorem Mod.refl (S : Nat → Prop) (w : World) : Mod S w w := ⟨rfl, rfl, rfl, Nat.le_refl _, fun _ _ _ => rfl⟩
theorem Mod.trans (h : Mod S a b) (k : Mod T b c) (hT : ∀ i, i < a.heap.size → T i → S i) : Mod S a c :=
  ⟨k.os.trans h.os, k.tape.trans h.tape, k.output.trans h.output, Nat.le_trans h.size k.size,
    fun i hi hn => (k.block i (Nat.lt_of_lt_of_le hi h.size) (fun ht => hn (hT i hi ht))).trans (h.block i hi hn)⟩
theorem Mod.same (h : Mod S a b) (k : Mod S b c) : Mod S a c := h.trans k fun _ _ hi => hi
theorem Mod.of_below (h : Below a.heap.size a b) (S : Nat → Prop) : Mod S a b := ⟨h.os, h.tape, h.output, h.size, fun i hi _ => h.block i hi⟩
theorem Mod.below (h : Mod S a b) {B : Nat} (hB : B ≤ a.heap.size) (hS : ∀ k, S k → B ≤ k) : Below B a b :=
  ⟨h.os, h.tape, h.output, h.size, fun i hi => h.block i (by omega) (fun hs => by have := hS i hs; omega)⟩
theorem Mod.drew (h : Mod S a b) : Mod S a b.drew := ⟨h.os, h.tape, h.output, h.size, h.block⟩
theorem Mod.alloc (h : Mod S a b) (o : Obj) : Mod S a (b.alloc o) :=
  h.trans (T := Nil) ⟨rfl, rfl, rfl, by simp, fun k hk _ => Below.heap_alloc b o k hk⟩ (fun _ _ hf => hf.elim)
theorem Mod.setCell (h : Mod S a b) {p : Addr} (hp : p.block < a.heap.size → S p.block) (u : Value) : Mod S a (b.setCell p u) :=
  h.trans (T := One p.block) ⟨rfl, rfl, rfl, by simp [World.setCell], fun k _ hn => Below.heap_setCell b p u k hn⟩ (fun i hi e => by subst e; exact hp hi)
theorem Mod.one (w : World) (g i : Nat) (u : Value) : Mod (One g) w (w.setCell ⟨g, i, none⟩ u) := Mod.setCell (p := ⟨g, i, none⟩) (Mod.refl (One g) w) (fun _ => rfl) u
theorem Mod.cell (h : Mod S w w') {p : Addr} (hp : p.block < w.heap.size) (hn : ¬ S p.block) : w'.cell? p = w.cell? p := World.cell?_of_block (w := w) (h.block p.block hp hn)
theorem Mod.frozen (h : Mod S w w') {p : Addr} (hp : p.block < w.heap.size) (hn : ¬ S p.block) : w'.frozen? p = w.frozen? p := World.frozen?_of_block (w := w) (h.block p.block hp hn)
end mods

/-- Below block B nothing has changed since w, and there are B blocks. -/
structure Up (B : Nat) (w a : World) : Prop where
  below : Below B w a
  size : B ≤ a.heap.size
section ups
variable {B : Nat} {w a b : World} {S : Nat → Prop}
theorem Up.refl (w : World) : Up w.heap.size w w := ⟨Below.refl _ _, Nat.le_refl _⟩
theorem Up.alloc (h : Up B w a) (o : Obj) : Up B w (a.alloc o) := ⟨h.below.alloc h.size o, Nat.le_trans h.size (by simp)⟩
theorem Up.drew (h : Up B w a) : Up B w a.drew := ⟨h.below.drew, h.size⟩
theorem Up.trans (h : Up B w a) (k : Below a.heap.size a b) : Up B w b := ⟨h.below.trans (k.mono h.size), Nat.le_trans h.size k.size⟩
theorem Up.mod (h : Up B w a) (k : Mod S a b) (hS : ∀ i, S i → B ≤ i) : Up B w b := ⟨h.below.trans (k.below h.size hS), Nat.le_trans h.size k.size⟩
theorem Up.one (h : Up B w a) {p : Nat} (k : Mod (One p) a b) (hp : B ≤ p) : Up B w b := h.mod k (fun i e => by unfold One at e; omega)
theorem Up.setCell (h : Up B w a) {p i : Nat} (hp : B ≤ p) (v : Value) : Up B w (a.setCell ⟨p, i, none⟩ v) := h.one (Mod.one a p i v) hp
end ups

/-! ## A block that is known whole -/

/-- Block g is the cells cs, of element type t, none of them frozen. -/
def Row (w : World) (g : Nat) (t : TypeId) (cs : Array Value) : Prop := w.heap[g]? = some (.cells cs t (0, 0))

section rows
variable {S : Nat → Prop} {w w' : World} {g : Nat} {t : TypeId} {cs : Array Value}
theorem Row.lt (h : Row w g t cs) : g < w.heap.size := (Array.getElem?_eq_some_iff.1 h).1
theorem Row.cell (h : Row w g t cs) (i : Nat) : w.cell? ⟨g, i, none⟩ = cs[i]? := cell_of_row w g i cs t (0, 0) h
theorem Row.frozen (h : Row w g t cs) (i : Nat) : w.frozen? ⟨g, i, none⟩ = false := by
  unfold Row at h; simp [World.frozen?, h]
theorem Row.new (w : World) (t : TypeId) (cs : Array Value) : Row (w.alloc (.cells cs t)) w.heap.size t cs := heap_alloc_new w _
theorem Row.mod (h : Row w g t cs) (hm : Mod S w w') (hn : ¬ S g) : Row w' g t cs := (hm.block g h.lt hn).trans h
theorem Row.below {B : Nat} (h : Row w g t cs) (hb : Below B w w') (hg : g < B) : Row w' g t cs := (hb.block g hg).trans h
theorem Row.alloc (h : Row w g t cs) (o : Obj) : Row (w.alloc o) g t cs := (Below.heap_alloc w o g h.lt).trans h
theorem Row.drew (h : Row w g t cs) : Row w.drew g t cs := h
theorem Row.set (h : Row w g t cs) (i : Nat) (u : Value) : Row (w.setCell ⟨g, i, none⟩ u) g t (cs.setIfInBounds i u) := by
  unfold Row at h ⊢; simp [World.setCell, Array.getElem?_modify, h]
theorem Row.far (h : Row w g t cs) {p : Addr} (hp : g ≠ p.block) (u : Value) : Row (w.setCell p u) g t cs := (Below.heap_setCell w p u g hp).trans h
theorem Row.ne {g' : Nat} {t' : TypeId} {cs' : Array Value} (h : Row w g t cs) (h' : Row w g' t' cs') (hne : t ≠ t') : g ≠ g' := by
  rintro rfl
  have e := h.symm.trans h'
  simp only [Option.some.injEq, Obj.cells.injEq] at e
  exact hne e.2.1
end rows

/-! ## A slice that reads as bytes -/

/-- A byte as a cell. -/
def u8v (b : UInt8) : Value := .int .u8 (b.toNat : Int)
def u8s (l : List UInt8) : List Value := l.map u8v
theorem u8s_length (l : List UInt8) : (u8s l).length = l.length := by simp [u8s]
/-- The slice '.slice A l.length c' reads as the bytes l; if there are any they lie in a block of S. -/
def Bs (S : Nat → Prop) (w : World) (A : Option Addr) (c : Nat) (l : List UInt8) : Prop :=
  l.length ≤ c ∧ c ≤ maxLen ∧ (0 < l.length → ∃ g o, A = some ⟨g, o, none⟩ ∧ S g ∧ ∀ j b, l[j]? = some b → w.cell? ⟨g, o + j, none⟩ = some (u8v b))

section bss
variable {S T : Nat → Prop} {w w' : World} {A : Option Addr} {c : Nat} {l : List UInt8}
theorem Bs.nil (S : Nat → Prop) (w : World) (A : Option Addr) {c : Nat} (hc : c ≤ maxLen) : Bs S w A c [] := ⟨by simp, hc, fun h => absurd h (by simp)⟩
theorem Bs.at_ (h : Bs S w A c l) {j : Nat} {b : UInt8} (hj : l[j]? = some b) : ∃ g o, A = some ⟨g, o, none⟩ ∧ S g ∧ w.cell? ⟨g, o + j, none⟩ = some (u8v b) := by
  have hlt := (List.getElem?_eq_some_iff.1 hj).1
  obtain ⟨g, o, e, hs, hc⟩ := h.2.2 (by omega)
  exact ⟨g, o, e, hs, hc j b hj⟩
theorem Bs.keep (h : Bs S w A c l) (hk : ∀ p : Addr, S p.block → w.cell? p ≠ none → w'.cell? p = w.cell? p) : Bs S w' A c l :=
  ⟨h.1, h.2.1, fun hn => by
    obtain ⟨g, o, e, hs, hc⟩ := h.2.2 hn
    exact ⟨g, o, e, hs, fun j b hj => (hk _ hs (by rw [hc j b hj]; simp)).trans (hc j b hj)⟩⟩
theorem Bs.mod (h : Bs S w A c l) (hm : Mod T w w') (hn : ∀ k, S k → ¬ T k) : Bs S w' A c l :=
  h.keep fun p hp hs => by
    cases hx : w.cell? p with
    | none => exact absurd hx hs
    | some v => rw [hm.cell (World.block_lt_of_cell? w p hx) (hn _ hp), hx]
theorem Bs.below {B : Nat} (h : Bs S w A c l) (hb : Below B w w') (hS : ∀ k, S k → k < B) : Bs S w' A c l := h.keep fun _ hp _ => hb.cell (hS _ hp)
theorem Bs.old (h : Bs S w A c l) (hb : Below w.heap.size w w') : Bs S w' A c l := h.mod (Mod.of_below hb Nil) (fun _ _ hf => hf)
/-- 's[k:]' -/
theorem Bs.drop (h : Bs S w A c l) {k : Nat} (hk : k ≤ l.length) : Bs S w (if c = k then A else A.map (·.add k)) (c - k) (l.drop k) := by
  have h1 := h.1
  refine ⟨by rw [List.length_drop]; omega, by have := h.2.1; omega, fun hn => ?_⟩
  rw [List.length_drop] at hn
  obtain ⟨g, o, rfl, hs, hc⟩ := h.2.2 (by omega)
  rw [if_neg (by omega)]
  refine ⟨g, o + k, by simp [Addr.add_lit], hs, fun j b hj => ?_⟩
  rw [Nat.add_assoc]
  exact hc _ _ (by rw [← hj, List.getElem?_drop])
/-- 's[:k]' -/
theorem Bs.take (h : Bs S w A c l) {k : Nat} (_hk : k ≤ l.length) : Bs S w A c (l.take k) := by
  have h1 := h.1
  refine ⟨by rw [List.length_take]; omega, h.2.1, fun hn => ?_⟩
  rw [List.length_take] at hn
  obtain ⟨g, o, rfl, hs, hc⟩ := h.2.2 (by omega)
  refine ⟨g, o, rfl, hs, fun j b hj => hc j b ?_⟩
  have hlt := (List.getElem?_eq_some_iff.1 hj).1
  rw [List.length_take] at hlt
  rwa [List.getElem?_take, if_pos (by omega)] at hj
end bss

/-! ## A slice of bytes of one's own -/

/-- e: the element type's number. The slice v is one's own, from block base on, and reads as l. -/
def Own (e : TypeId) (w : World) (base : Nat) (v : Value) (l : List UInt8) : Prop := w.ownsRow base e 1 v l.length (u8s l)

section owns
variable {S : Nat → Prop} {e : TypeId} {w w' : World} {base : Nat} {v : Value} {l : List UInt8}
theorem Own.nil (e : TypeId) (w : World) (base : Nat) : Own e w base (.slice none 0 0) [] := World.ownsRow_nil _ _ _ _
theorem Own.form (h : Own e w base v l) : ∃ A c, v = .slice A l.length c ∧ Bs (At v) w A c l := by
  have hh := h.2
  rcases hh with ⟨hv, hn⟩ | ⟨g, cap, cur, hv, hb, hg, hnc, hm, hs, ht⟩
  · have hl : l = [] := List.eq_nil_of_length_eq_zero hn
    subst hl
    exact ⟨none, 0, hv, Bs.nil _ _ _ (by simp [maxLen])⟩
  · refine ⟨some ⟨g, 0, none⟩, cap, hv, hnc, hm, fun _ => ⟨g, 0, rfl, by rw [hv]; rfl, fun j b hj => ?_⟩⟩
    have := h.cells (g := g) (by rw [hv]; rfl) j (u8v b) (by simp [u8s, hj])
    rwa [Addr.add_lit] at this
/-- where something is owned: its block, its cells, none frozen -/
theorem Own.block (h : Own e w base v l) (hn : 0 < l.length) : ∃ g c, v = .slice (some ⟨g, 0, none⟩) l.length c ∧ base ≤ g ∧ g < w.heap.size ∧ l.length ≤ c ∧ c ≤ maxLen ∧ (∀ j b, l[j]? = some b → w.cell? ⟨g, j, none⟩ = some (u8v b)) ∧ ∀ j, w.frozen? ⟨g, j, none⟩ = false := by
  rcases h.2 with ⟨_, h0⟩ | ⟨g, cap, cur, hv, hb, hg, hnc, hm, hs, ht⟩
  · omega
  · refine ⟨g, cap, hv, hb, (Array.getElem?_eq_some_iff.1 hg).1, hnc, hm, fun j b hj => ?_, fun j => Row.frozen (t := e) hg j⟩
    have := h.cells (g := g) (by rw [hv]; rfl) j (u8v b) (by simp [u8s, hj])
    rwa [Addr.add_lit, Nat.zero_add] at this
/-- a byte of it is written -/
theorem Own.set {g c k : Nat} (h : Own e w base (.slice (some ⟨g, 0, none⟩) l.length c) l) (b : UInt8) : Own e (w.setCell ⟨g, k, none⟩ (u8v b)) base (.slice (some ⟨g, 0, none⟩) (l.set k b).length c) (l.set k b) := by
  refine ⟨by rw [u8s_length]; omega, ?_⟩
  rcases h.2 with ⟨hh, _⟩ | ⟨g', cap, cur, hv, hb, hg, hnc, hm, hs, ht⟩
  · cases hh
  · simp only [Value.slice.injEq, Option.some.injEq, Addr.mk.injEq] at hv
    obtain ⟨⟨rfl, _⟩, _, rfl⟩ := hv
    refine .inr ⟨g, c, cur.setIfInBounds k (u8v b), by simp, hb, Row.set (t := e) hg k _, by simpa using hnc, hm, by simpa using hs, ?_⟩
    rw [Nat.mul_one] at ht ⊢
    rw [List.length_set]
    unfold u8s at ht ⊢
    rw [List.map_set, ← ht]
    simp [List.take_set]
theorem Own.lt (h : Own e w base v l) : ∀ k, At v k → base ≤ k ∧ k < w.heap.size := fun k hk => World.ownsRow.lt h k hk
theorem Own.mod (h : Own e w base v l) (hm : Mod S w w') (hn : ∀ k, At v k → ¬ S k) : Own e w' base v l := by
  refine ⟨h.1, ?_⟩
  rcases h.2 with hh | ⟨g, cap, cur, hv, hb, hg, r⟩
  · exact .inl hh
  · exact .inr ⟨g, cap, cur, hv, hb, (hm.block g (Array.getElem?_eq_some_iff.1 hg).1 (hn g (by rw [hv]; rfl))).trans hg, r⟩
theorem Own.old (h : Own e w base v l) (hb : Below w.heap.size w w') : Own e w' base v l := h.mod (Mod.of_below hb Nil) (fun _ _ hf => hf)
end owns

/-- What the table says of bytes (t: the slice's type, e: the byte's). -/
structure U8 (P : Program) (t e : TypeId) : Prop where
  ht : P.underlying t = some (.slice e)
  he : P.underlying e = some (.int .u8)
  info : (P.info? e).map (fun i => (i.zero, i.size, i.bytes)) = some (some (.int .u8 0), 1, 1)

section cuts
variable {P : Program} {S : Nat → Prop} {t e : TypeId} {w : World} {c : Nat} {l : List UInt8} {A : Option Addr}
theorem U8.size (hu : U8 P t e) (W : World) : (sizeOf e).run P W = .ok 1 W := by
  obtain ⟨i, hi, hz0, hz1, hz2⟩ := info_parts hu.info
  simp [sizeOf, typeInfo, hi, hz1]
end cuts

section appends
variable {P : Program} {S : Nat → Prop} {t ty e : TypeId} {w : World} {base c : Nat} {v : Value} {l m : List UInt8} {A : Option Addr}

end appends

end Go.Proofs.YtljpjfefjidakaaGreat

namespace Go.Proofs.YtljpjfefjidakaaGreat
open Go.RowKit

/-! ## What a frame's slots hold -/
def look : List (Nat × Value) → Nat → Option Value
  | [], _ => none
  | (k, v) :: r, s => match Nat.beq k s with | true => some v | false => look r s
def evs (env : List (Nat × Value)) : Operand → Option Value
  | .tmp t => look env t
  | .const v => some v
  | .global g => some (.pointer (some ⟨g, 0, none⟩))
  | .func f => some (.func (.func f) #[] #[])
/-- is the operation to be carried out? -/
def wants (ops : Array Oper) (o : Oper) (env : List (Nat × Value)) : Option Bool :=
  match o.guard with
  | none => some true
  | some (j, b) => match (ops[j]?).bind (·.dst) with
    | some t => match look env t with
      | some (.bool c) => some (c == b)
      | some (.tuple _) => some false
      | _ => none
    | none => none

structure Fr (n : Nat) (a : Act) (env : List (Nat × Value)) : Prop where
  size : a.tmps.size = n
  get : ∀ s v, look env s = some v → a.tmps[s]? = some v
  defers : a.defers = []

section frames
variable {n : Nat} {a : Act} {env env' : List (Nat × Value)}
theorem look_cons (k : Nat) (v : Value) (r : List (Nat × Value)) (s : Nat) : look ((k, v) :: r) s = if k = s then some v else look r s := by
  show (match Nat.beq k s with | true => some v | false => look r s) = _
  by_cases h : k = s
  · subst h; simp
  · rw [if_neg h]
    cases hb : Nat.beq k s with
    | false => rfl
    | true => exact absurd (Nat.eq_of_beq_eq_true hb) h
theorem Fr.ev (h : Fr n a env) {s : Nat} {v : Value} (hs : look env s = some v) : a.eval (.tmp s) = v := by
  simp [Act.eval, h.get s v hs]
theorem Fr.evs (h : Fr n a env) {x : Operand} {v : Value} (hx : evs env x = some v) : a.eval x = v := by
  cases x with
  | tmp t => exact h.ev hx
  | const u => exact Option.some.inj hx
  | global g => exact Option.some.inj hx
  | func f => exact Option.some.inj hx
theorem Fr.put (h : Fr n a env) {d : Nat} (hd : d < n) (v : Value) : Fr n (a.put (some d) v) ((d, v) :: env) := by
  refine ⟨by simp [Act.put, h.size], fun s u hs => ?_, h.defers⟩
  rw [look_cons] at hs
  show (a.tmps.setIfInBounds d v)[s]? = some u
  split at hs
  · rename_i he
    subst he
    cases hs
    rw [Array.getElem?_setIfInBounds_self_of_lt (by rw [h.size]; exact hd)]
  · rename_i he
    rw [Array.getElem?_setIfInBounds_ne he]
    exact h.get s u hs
theorem Fr.sub (h : Fr n a env) (hs : ∀ s v, look env' s = some v → look env s = some v) : Fr n a env' := ⟨h.size, fun s v hv => h.get s v (hs s v hv), h.defers⟩
/-- each slot of env' is known -/
def Sub (env : List (Nat × Value)) : List (Nat × Value) → Prop
  | [] => True
  | (k, v) :: r => look env k = some v ∧ Sub env r
theorem Sub.look {env : List (Nat × Value)} : ∀ {env' : List (Nat × Value)}, Sub env env' → ∀ s v, look env' s = some v → look env s = some v
  | [], _, s, v, h => by cases h
  | (k, u) :: r, hs, s, v, h => by
    rw [look_cons] at h
    split at h
    · rename_i he; subst he; cases h; exact hs.1
    · exact Sub.look hs.2 s v h
theorem Fr.keep (h : Fr n a env) (hs : Sub env env') : Fr n a env' := h.sub hs.look
theorem Fr.app {e1 e2 : List (Nat × Value)} (h1 : Fr n a e1) (h2 : Fr n a e2) : Fr n a (e1 ++ e2) := by
  refine ⟨h1.size, fun s v hs => ?_, h1.defers⟩
  have key : ∀ l : List (Nat × Value), look (l ++ e2) s = some v → look l s = some v ∨ look e2 s = some v := by
    intro l
    induction l with
    | nil => exact fun h => .inr h
    | cons p r ih =>
      obtain ⟨k, u⟩ := p
      intro h
      rw [List.cons_append, look_cons] at h
      rw [look_cons]
      split at h
      · rename_i he; rw [if_pos he]; exact .inl h
      · rename_i he; rw [if_neg he]; exact ih h
  rcases key e1 hs with h | h
  · exact h1.get s v h
  · exact h2.get s v h
theorem Fr.wants {ops : Array Oper} {o : Oper} {b : Bool} (h : Fr n a env) (hg : wants ops o env = some b) : Region.wanted o (yielded ops a.tmps) = b := by
  unfold Go.Proofs.YtljpjfefjidakaaGreat.wants at hg
  unfold Region.wanted
  cases hgd : o.guard with
  | none => rw [hgd] at hg; exact Option.some.inj hg
  | some jb =>
    obtain ⟨j, c⟩ := jb
    simp only [hgd] at hg ⊢
    cases ht : (ops[j]?).bind (·.dst) with
    | none => simp [ht] at hg
    | some t =>
      simp only [ht] at hg
      cases hl : look env t with
      | none => simp [hl] at hg
      | some u =>
        have hu := h.get t u hl
        simp only [hl] at hg
        cases u with
        | bool e =>
          have : e = (e : Bool) := rfl
          simp only [Option.some.injEq] at hg
          unfold yielded
          simp only [ht, Option.bind_some, hu]
          rw [← hg]
          cases e <;> cases c <;> rfl
        | tuple l =>
          simp only [Option.some.injEq] at hg
          unfold yielded
          simp only [ht, Option.bind_some, hu]
          rw [← hg]
          rfl
        | _ => simp at hg
end frames

/-! ## A function's beginning and its end -/
/-! ## Reading memory -/
/-- a variable of type T at place off of a row that holds cs reads as v -/
def Reads (P : Program) (T : TypeId) (cs : Array Value) (off : Nat) (v : Value) : Prop :=
  ∀ (w : World) (g : Nat) (t : TypeId), Row w g t cs → (loadVar T ⟨g, off, none⟩).run P w = .ok v w
def AggOf (P : Program) (T : TypeId) (k : Nat) : Prop := (∀ w, (isAgg T).run P w = .ok true w) ∧ (∀ w, (sizeOf T).run P w = .ok k w)
def OneOf (P : Program) (T : TypeId) : Prop := (∀ w, (isAgg T).run P w = .ok false w) ∧ (∀ w, (sizeOf T).run P w = .ok 1 w)
section reads
variable {P : Program} {T : TypeId} {k : Nat}
theorem aggOf {d : TypeDesc} (hu : P.underlying T = some d) (hd : (match d with | .struct _ | .array _ _ => true | _ => false) = true) (hi : (P.info? T).map (·.size) = some k) : AggOf P T k := by
  constructor
  · intro w
    unfold isAgg
    rw [Sem.run_bind, run_underlying hu w]
    cases d <;> simp_all
  · intro w
    cases hq : P.info? T with
    | none => simp [hq] at hi
    | some i =>
      have hs : i.size = k := by simpa [hq] using hi
      simp [sizeOf, typeInfo, hq, hs]
theorem oneOf {d : TypeDesc} (hu : P.underlying T = some d) (hd : (match d with | .struct _ | .array _ _ => true | _ => false) = false) (hi : (P.info? T).map (·.size) = some 1) : OneOf P T := by
  constructor
  · intro w
    unfold isAgg
    rw [Sem.run_bind, run_underlying hu w]
    cases d <;> simp_all
  · intro w
    cases hq : P.info? T with
    | none => simp [hq] at hi
    | some i =>
      have hs : i.size = 1 := by simpa [hq] using hi
      simp [sizeOf, typeInfo, hq, hs]
/-- the cells written out: the part is k of them -/
def part? (cs : List Value) (off k : Nat) : Option (List Value) := match cs.drop off |>.take k with | l => match Nat.beq l.length k with | true => some l | false => none
end reads

/-! ## New blocks, and stores -/
/-- a new block -/
structure Fresh (w w' : World) (g : Nat) (t : TypeId) (cs : Array Value) : Prop where
  eq : w' = w.alloc (.cells cs t)
  at_ : g = w.heap.size
section fresh
variable {B : Nat} {w0 w w' : World} {g x : Nat} {t T : TypeId} {cs c : Array Value}
theorem Fresh.row (h : Fresh w w' g t cs) : Row w' g t cs := by rw [h.eq, h.at_]; exact Row.new w t cs
theorem Fresh.keep (h : Fresh w w' g t cs) (r : Row w x T c) : Row w' x T c := by rw [h.eq]; exact r.alloc _
theorem Fresh.up (h : Fresh w w' g t cs) (u : Up B w0 w) : Up B w0 w' := by rw [h.eq]; exact u.alloc _
theorem Fresh.lt (h : Fresh w w' g t cs) (r : Row w x T c) : x < g := by rw [h.at_]; exact r.lt
theorem Fresh.ge (h : Fresh w w' g t cs) (u : Up B w0 w) : B ≤ g := by rw [h.at_]; exact u.size
theorem Fresh.below (h : Fresh w w' g t cs) : Below w.heap.size w w' := by rw [h.eq]; exact (Below.refl _ _).alloc (Nat.le_refl _) _
theorem Row.old (r : Row w x T c) (hb : Below w.heap.size w w') : Row w' x T c := r.below hb r.lt
theorem Row.mod_ne (r : Row w x T c) {g : Nat} (hm : Mod (One g) w w') (hne : x ≠ g) : Row w' x T c := r.mod hm hne
end fresh

/-! ## Steps within a region whose order is fixed -/
section steps
variable {P : Program} {ops : Array Oper} {Q : Exit → Act → World → Prop} {n : Nat} {a : Act} {w : World} {env : List (Nat × Value)} {rest : List Oper} {o : Oper} {d : Nat}
def Zero (P : Program) (T : TypeId) (zs : Array Value) : Prop := ∀ w, (Instr.alloc T true (.tuple #[])).run P w = .ok (.pointer (some ⟨w.heap.size, 0, none⟩)) (w.alloc (.cells zs T))
theorem zero_of {T : TypeId} {z : Value} {zs : Array Value} (h : (P.info? T).map (·.zero) = some (some z)) (hz : z.cells = zs) : Zero P T zs := by
  intro w
  cases hq : P.info? T with
  | none => simp [hq] at h
  | some i =>
    have hs : i.zero = some z := by simpa [hq] using h
    subst hz
    simp [Instr.alloc, zeroValue, typeInfo, hq, hs, newVar, newRow]
theorem exec_alloc {T : TypeId} {zs : Array Value} (ho : o.op = .alloc T) (hz : Zero P T zs) : (execOp a.eval o).run P w = .ok (.value (.pointer (some ⟨w.heap.size, 0, none⟩))) (w.alloc (.cells zs T)) := by
  unfold execOp
  simp only [ho, Sem.run_bind, Sem.run_pure, hz w, Result.andThen_ok]
/-- the cells with a part written over -/
def over? (cs : List Value) (off : Nat) (vs : List Value) : List Value := cs.take off ++ vs ++ cs.drop (off + vs.length)
/-- a call of a Go function, met by its contract -/
theorem run_enter {F : FuncId} {fn : Func} {c : Code} (hf : P.funcs[F]? = some fn) (hname : (fn.name == "runtime.NumGoroutine") = false) (hb : fn.body = some c) (args : Array Value) (w : World) :
    (callFunc F args).run P w = .ok (.enter F args) w := by
  have h1 : fn.name ≠ "runtime.NumGoroutine" := by simpa using hname
  simp [callFunc, hf, h1, hb]
def Ent (P : Program) (F : FuncId) : Prop := ∀ args w, (callFunc F args).run P w = .ok (.enter F args) w
theorem ent_of {F : FuncId} {fn : Func} (hf : P.funcs[F]? = some fn) (hname : (fn.name == "runtime.NumGoroutine") = false) (hb : fn.body.isSome = true) : Ent P F := by
  obtain ⟨c, hc⟩ := Option.isSome_iff_exists.1 hb
  exact fun args w => run_enter hf hname hc args w
end steps

/-! ## Code -/
section code
variable {P : Program} {Q : Exit → Act → World → Prop} {n : Nat} {a : Act} {w : World} {env : List (Nat × Value)}
end code

/-! ## The results -/
section ends
variable {P : Program} {fn : Func} {R : Ending → World → Prop} {n : Nat} {a : Act} {w : World} {env : List (Nat × Value)}
/-- what a result holds -/
inductive Res (P : Program) (env : List (Nat × Value)) (w : World) : ResultVar → Value → Prop
  | tmp {t : Tmp} {v : Value} (h : look env t = some v) : Res P env w (.tmp t) v
  | cell {s : Tmp} {T : TypeId} {g off : Nat} {t : TypeId} {cs : Array Value} {v : Value} (h : look env s = some (.pointer (some ⟨g, off, none⟩))) (hv : Reads P T cs off v) (hR : Row w g t cs) : Res P env w (.cell s T) v
def resRun (tmps : Array Value) : ResultVar → Sem Value
  | .tmp t => pure (tmps.getD t undef)
  | .cell a t => do loadVar t (← asAddr (tmps.getD a undef))
theorem Res.run {r : ResultVar} {v : Value} (h : Res P env w r v) (hF : Fr n a env) : (resRun a.tmps r).run P w = .ok v w := by
  cases h with
  | tmp h => simp [resRun, hF.get _ _ h]
  | cell h hv hR => simp [resRun, hF.get _ _ h, asAddr, hv w _ _ hR]
theorem results_eq (tmps : Array Value) : results fn tmps = (do let vs ← fn.results.mapM (resRun tmps); pure (if h : vs.size = 1 then vs[0] else .tuple vs)) := by
  unfold results
  congr 1
end ends
end Go.Proofs.YtljpjfefjidakaaGreat

namespace Go.Proofs.YtljpjfefjidakaaGreat.Run
noncomputable section
open Go.RowKit

/-! ## Tables by number -/
inductive Tr (α : Type) where
  | tE
  | tN (v : Option α) (l r : Tr α)
namespace Tr
variable {α : Type}
def get (t : Tr α) : Nat → Option α :=
  Tr.rec (motive := fun _ => Nat → Option α) (fun _ => none) (fun v _ _ gl gr k => Nat.rec (motive := fun _ => Option α) v (fun k' _ => Nat.rec (motive := fun _ => Option α) (gl (Nat.div k' 2)) (fun _ _ => gr (Nat.div k' 2)) (Nat.mod k' 2)) k) t
def val : Tr α → Option α | .tE => none | .tN v _ _ => v
def left : Tr α → Tr α | .tE => .tE | .tN _ l _ => l
def right : Tr α → Tr α | .tE => .tE | .tN _ _ r => r
def set (x : Option α) (f : Nat) : Tr α → Nat → Tr α :=
  Nat.rec (motive := fun _ => Tr α → Nat → Tr α) (fun t _ => t) (fun _ ih t k => Tr.rec (motive := fun _ => Tr α)
    (Nat.rec (motive := fun _ => Tr α) (.tN x .tE .tE) (fun k' _ => Nat.rec (motive := fun _ => Tr α) (.tN none (ih .tE (Nat.div k' 2)) .tE) (fun _ _ => .tN none .tE (ih .tE (Nat.div k' 2))) (Nat.mod k' 2)) k)
    (fun v l r _ _ => Nat.rec (motive := fun _ => Tr α) (.tN x l r) (fun k' _ => Nat.rec (motive := fun _ => Tr α) (.tN v (ih l (Nat.div k' 2)) r) (fun _ _ => .tN v l (ih r (Nat.div k' 2))) (Nat.mod k' 2)) k) t) f
theorem beqF {a b : Nat} (h : a ≠ b) : Nat.beq a b = false := by
  cases hb : Nat.beq a b with
  | false => rfl
  | true => exact absurd (Nat.eq_of_beq_eq_true hb) h
theorem beqT (a : Nat) : Nat.beq a a = true := by simp
theorem get_e (k : Nat) : (Tr.tE : Tr α).get k = none := rfl
theorem get_0 (t : Tr α) : t.get 0 = t.val := by cases t <;> rfl
theorem get_s (t : Tr α) (k : Nat) : t.get (k + 1) = if k % 2 = 0 then t.left.get (k / 2) else t.right.get (k / 2) := by
  cases t with
  | tE => simp [left, right, get_e]
  | tN v l r =>
    have e : (Tr.tN v l r).get (k + 1) = Nat.rec (motive := fun _ => Option α) (l.get (k / 2)) (fun _ _ => r.get (k / 2)) (k % 2) := rfl
    rw [e]
    by_cases h : k % 2 = 0
    · rw [h, if_pos rfl]; rfl
    · have h1 : k % 2 = 1 := by omega
      rw [h1, if_neg (by omega)]; rfl
theorem set_0 (x : Option α) (f : Nat) (t : Tr α) : set x (f + 1) t 0 = .tN x t.left t.right := by cases t <;> rfl
theorem set_s (x : Option α) (f : Nat) (t : Tr α) (k : Nat) : set x (f + 1) t (k + 1) = if k % 2 = 0 then .tN t.val (set x f t.left (k / 2)) t.right else .tN t.val t.left (set x f t.right (k / 2)) := by
  have e : set x (f + 1) t (k + 1) = Nat.rec (motive := fun _ => Tr α) (.tN t.val (set x f t.left (k / 2)) t.right) (fun _ _ => .tN t.val t.left (set x f t.right (k / 2))) (k % 2) := by cases t <;> rfl
  rw [e]
  by_cases h : k % 2 = 0
  · rw [h, if_pos rfl]; rfl
  · have h1 : k % 2 = 1 := by omega
    rw [h1, if_neg (by omega)]; rfl
theorem left_n (v : Option α) (l r : Tr α) : (Tr.tN v l r).left = l := rfl
theorem right_n (v : Option α) (l r : Tr α) : (Tr.tN v l r).right = r := rfl
theorem get_set (x : Option α) : ∀ (f : Nat) (t : Tr α) (k : Nat) (j : Nat), k + 1 < 2 ^ f → (set x f t k).get j = if j = k then x else t.get j
  | 0, t, k, j, h => by simp at h
  | f + 1, t, 0, j, h => by
    rw [set_0]
    cases j with
    | zero => rfl
    | succ j => rw [if_neg (by omega), get_s, get_s]; rfl
  | f + 1, t, k + 1, j, h => by
    have h2 : 2 ^ (f + 1) = 2 * 2 ^ f := by rw [Nat.pow_succ]; omega
    rw [set_s]
    split
    · rename_i hk
      cases j with
      | zero => rw [if_neg (by omega), get_0, get_0]; rfl
      | succ j =>
        rw [get_s, get_s]
        rw [left_n, right_n]
        by_cases hj : j % 2 = 0
        · rw [if_pos hj, if_pos hj, get_set x f t.left (k / 2) (j / 2) (by omega)]
          by_cases e : j = k
          · subst e; simp
          · rw [if_neg (by omega), if_neg (by omega)]
        · rw [if_neg hj, if_neg hj, if_neg (by omega)]
    · rename_i hk
      cases j with
      | zero => rw [if_neg (by omega), get_0, get_0]; rfl
      | succ j =>
        rw [get_s, get_s]
        rw [left_n, right_n]
        by_cases hj : j % 2 = 0
        · rw [if_pos hj, if_pos hj, if_neg (by omega)]
        · rw [if_neg hj, if_neg hj, get_set x f t.right (k / 2) (j / 2) (by omega)]
          by_cases e : j = k
          · subst e; simp
          · rw [if_neg (by omega), if_neg (by omega)]
end Tr
/-- how deep the tables are, and how large a number may be -/
abbrev dep : Nat := 24
def inT (k : Nat) : Bool := Nat.blt k 8388608
theorem inT_lt {k : Nat} (h : inT k = true) : k + 1 < 2 ^ dep := by
  have : k < 8388608 := by unfold inT at h; exact Nat.le_of_ble_eq_true h
  show k + 1 < 2 ^ 24
  omega
def put {α : Type} (t : Tr α) (k : Nat) (x : Option α) : Tr α := Tr.set x dep t k
theorem get_put {α : Type} {t : Tr α} {k : Nat} (h : inT k = true) (x : Option α) (j : Nat) : (put t k x).get j = if j = k then x else t.get j := Tr.get_set x dep t k j (inT_lt h)

/-! ## Values -/
/-- what the numbers stand for: a block, and how many elements it has -/
abbrev Rn := Nat → Option (Nat × Nat)
/-- a capacity that is not known is written so -/
abbrev BIG : Nat := 1180591620717411303424
mutual
/-- a value with numbers, and the one that it stands for -/
inductive VR (ρ : Rn) : Value → Value → Prop
  | bool (b : Bool) : VR ρ (.bool b) (.bool b)
  | int (k : IntKind) (n : Int) : VR ρ (.int k n) (.int k n)
  | str (s : ByteArray) : VR ρ (.string s) (.string s)
  | pnil : VR ρ (.pointer none) (.pointer none)
  | ptr {i g c off : Nat} (h : ρ i = some (g, c)) : VR ρ (.pointer (some ⟨i, off, none⟩)) (.pointer (some ⟨g, off, none⟩))
  | glob (g off : Nat) : VR ρ (.pointer (some ⟨g, off, some 1⟩)) (.pointer (some ⟨g, off, none⟩))
  | opq (A : Addr) : VR ρ (.pointer (some ⟨0, 0, some 2⟩)) (.pointer (some A))
  | snil (n c : Nat) : VR ρ (.slice none n c) (.slice none n c)
  | sl {i g c off n k : Nat} (h : ρ i = some (g, c)) (hk : k < BIG) : VR ρ (.slice (some ⟨i, off, none⟩) n k) (.slice (some ⟨g, off, none⟩) n k)
  | slu {i g c off n s : Nat} (h : ρ i = some (g, c)) (hs : n + s ≤ c) : VR ρ (.slice (some ⟨i, off, none⟩) n (BIG + s)) (.slice (some ⟨g, off, none⟩) n (c - s))
  | semp (A : Addr) (c : Nat) : VR ρ (.slice (some ⟨0, 0, some 0⟩) 0 0) (.slice (some A) 0 c)
  | mnil : VR ρ (.map none) (.map none)
  | mp {i g c : Nat} (h : ρ i = some (g, c)) : VR ρ (.map (some i)) (.map (some g))
  | func (F : FuncId) {a b a' b' : List Value} (ha : VRL ρ a a') (hb : VRL ρ b b') : VR ρ (.func (.func F) ⟨a⟩ ⟨b⟩) (.func (.func F) ⟨a'⟩ ⟨b'⟩)
  | yield {i g c : Nat} (h : ρ i = some (g, c)) : VR ρ (.func (.yield i) ⟨[]⟩ ⟨[]⟩) (.func (.yield g) ⟨[]⟩ ⟨[]⟩)
  | nilF : VR ρ .nilFunc .nilFunc
  | nilI : VR ρ .nilIface .nilIface
  | iface (t : TypeId) {v u : Value} (h : VR ρ v u) : VR ρ (.iface t v) (.iface t u)
  | agg {a a' : List Value} (h : VRL ρ a a') : VR ρ (.agg ⟨a⟩) (.agg ⟨a'⟩)
  | tuple {a a' : List Value} (h : VRL ρ a a') : VR ρ (.tuple ⟨a⟩) (.tuple ⟨a'⟩)
inductive VRL (ρ : Rn) : List Value → List Value → Prop
  | nil : VRL ρ [] []
  | cons {v u : Value} {a b : List Value} (h : VR ρ v u) (hs : VRL ρ a b) : VRL ρ (v :: a) (u :: b)
end
def Le (ρ ρ' : Rn) : Prop := ∀ i x, ρ i = some x → ρ' i = some x
mutual
theorem VR.mono {ρ ρ' : Rn} (hl : Le ρ ρ') : ∀ {v u : Value}, VR ρ v u → VR ρ' v u
  | _, _, .bool b => .bool b
  | _, _, .int k n => .int k n
  | _, _, .str s => .str s
  | _, _, .pnil => .pnil
  | _, _, .ptr h => .ptr (hl _ _ h)
  | _, _, .glob g off => .glob g off
  | _, _, .opq A => .opq A
  | _, _, .snil n c => .snil n c
  | _, _, .sl h hk => .sl (hl _ _ h) hk
  | _, _, .slu h hs => .slu (hl _ _ h) hs
  | _, _, .semp A c => .semp A c
  | _, _, .mnil => .mnil
  | _, _, .mp h => .mp (hl _ _ h)
  | _, _, .func F ha hb => .func F (VRL.mono hl ha) (VRL.mono hl hb)
  | _, _, .yield h => .yield (hl _ _ h)
  | _, _, .nilF => .nilF
  | _, _, .nilI => .nilI
  | _, _, .iface t h => .iface t (VR.mono hl h)
  | _, _, .agg h => .agg (VRL.mono hl h)
  | _, _, .tuple h => .tuple (VRL.mono hl h)
theorem VRL.mono {ρ ρ' : Rn} (hl : Le ρ ρ') : ∀ {v u : List Value}, VRL ρ v u → VRL ρ' v u
  | _, _, .nil => .nil
  | _, _, .cons h hs => .cons (VR.mono hl h) (VRL.mono hl hs)
end
section vrl
variable {ρ ρ' : Rn}
theorem VRL.length : ∀ {a b : List Value}, VRL ρ a b → b.length = a.length
  | _, _, .nil => rfl
  | _, _, .cons _ hs => by simp [VRL.length hs]
theorem VRL.get : ∀ {a b : List Value}, VRL ρ a b → ∀ (i : Nat) (v : Value), a[i]? = some v → ∃ u, b[i]? = some u ∧ VR ρ v u
  | _, _, .nil, i, v, h => by simp at h
  | _, _, .cons h hs, 0, v, e => by simp at e; subst e; exact ⟨_, rfl, h⟩
  | _, _, .cons h hs, i + 1, v, e => by simpa using VRL.get hs i v (by simpa using e)
theorem VRL.app : ∀ {a b c d : List Value}, VRL ρ a b → VRL ρ c d → VRL ρ (a ++ c) (b ++ d)
  | _, _, _, _, .nil, h => h
  | _, _, _, _, .cons h hs, h' => .cons h (hs.app h')
theorem VRL.take : ∀ {a b : List Value}, VRL ρ a b → ∀ n, VRL ρ (a.take n) (b.take n)
  | _, _, .nil, n => by simp; exact .nil
  | _, _, .cons h hs, 0 => .nil
  | _, _, .cons h hs, n + 1 => .cons h (hs.take n)
theorem VRL.drop : ∀ {a b : List Value}, VRL ρ a b → ∀ n, VRL ρ (a.drop n) (b.drop n)
  | _, _, .nil, n => by simp; exact .nil
  | _, _, .cons h hs, 0 => .cons h hs
  | _, _, .cons h hs, n + 1 => hs.drop n
theorem VRL.set : ∀ {a b : List Value}, VRL ρ a b → ∀ (i : Nat) {v u : Value}, VR ρ v u → VRL ρ (a.set i v) (b.set i u)
  | _, _, .nil, i, _, _, _ => by simp; exact .nil
  | _, _, .cons h hs, 0, _, _, h' => .cons h' hs
  | _, _, .cons h hs, i + 1, _, _, h' => .cons h (hs.set i h')
theorem VRL.none : ∀ {a b : List Value}, VRL ρ a b → ∀ (i : Nat), a[i]? = none → b[i]? = none := fun h i e => by
  have := h.length
  simp at e ⊢; omega
theorem VR.cells {v u : Value} (h : VR ρ v u) : VRL ρ v.cells.toList u.cells.toList := by
  cases h <;> first | assumption | exact .cons (by constructor <;> assumption) .nil
theorem VR.undef : VR ρ undef undef := .tuple .nil
/-- no number in it -/
def nb : Value → Bool
  | .bool _ | .int _ _ | .string _ | .pointer none | .slice none _ _ | .map none | .nilFunc | .nilIface => true
  | .func (.func _) ⟨[]⟩ ⟨[]⟩ => true
  | _ => false
/-- nor in its parts -/
def nb1 : Value → Bool
  | .agg ⟨cs⟩ => cs.all nb
  | .tuple ⟨cs⟩ => cs.all nb
  | .iface _ v => nb v
  | v => nb v
theorem nb.self {v : Value} (h : nb v = true) : VR ρ v v := by
  unfold nb at h
  split at h <;> first | exact .func _ .nil .nil | (constructor; done) | cases h
theorem nb.eq {v u : Value} (h : nb v = true) (hr : VR ρ v u) : u = v := by
  unfold nb at h
  split at h <;> first
    | (cases h; done)
    | (cases hr; rfl; done)
    | (cases hr; rename_i ha hb; cases ha; cases hb; rfl; done)
theorem nb.selfs : ∀ {a : List Value}, a.all nb = true → VRL ρ a a
  | [], _ => .nil
  | v :: r, h => by
    simp only [List.all_cons, Bool.and_eq_true] at h
    exact .cons (nb.self h.1) (nb.selfs h.2)
theorem nb.eqs : ∀ {a b : List Value}, a.all nb = true → VRL ρ a b → b = a
  | _, _, _, .nil => rfl
  | _, _, h, .cons h1 h2 => by
    simp only [List.all_cons, Bool.and_eq_true] at h
    rw [nb.eq h.1 h1, nb.eqs h.2 h2]
theorem nb1.self {v : Value} (h : nb1 v = true) : VR ρ v v := by
  unfold nb1 at h
  split at h
  · exact .agg (nb.selfs h)
  · exact .tuple (nb.selfs h)
  · exact .iface _ (nb.self h)
  · exact nb.self h
theorem nb1.eq {v u : Value} (h : nb1 v = true) (hr : VR ρ v u) : u = v := by
  unfold nb1 at h
  split at h
  · cases hr; rename_i hr; rw [nb.eqs h hr]
  · cases hr; rename_i hr; rw [nb.eqs h hr]
  · cases hr; rename_i hr; rw [nb.eq h hr]
  · exact nb.eq h hr
end vrl

/-! ## Rows -/
/-- a row: cells of a type, all of them, or the first of those that are there (k a element); or a map -/
inductive Ex where
  | nrm
  | exit (id : Nat)
  | ret
inductive AO where
  | cells (t : TypeId) (ex : Option Nat) (cs : List Value)
  | map (es : List (Value × Value × Nat)) (clock : Nat)
  | loop (e : Ex) (n : Nat) (env : Tr Value) (params : Array Tmp) (assign body : Code)
  | iter (m since stepped : Nat) (seen : List Nat)
  | inil (since stepped : Nat) (seen : List Nat)
  | glob (b : Nat) (cs : List Value) (ob : Obj)
/-- what a range over a function goes on with -/
def Ex.jump : Ex → Option Code
  | .nrm => none
  | .exit id => some (.exit id)
  | .ret => some .ret
def Ex.state : Ex → LoopState
  | .nrm => .ready
  | _ => .done
/-- block g has the cells ds, none of which is frozen -/
def RowF (w : World) (g : Nat) (t : TypeId) (ds : List Value) : Prop := ∃ fz, w.heap[g]? = some (.cells ⟨ds⟩ t fz) ∧ (fz = (0, 0) ∨ ds.length ≤ fz.1)
inductive ERL (ρ : Rn) : List (Value × Value × Nat) → List MapEntry → Prop
  | nil : ERL ρ [] []
  | cons {k v k' v' : Value} {b : Nat} {a : List (Value × Value × Nat)} {c : List MapEntry} (hk : VR ρ k k') (hv : VR ρ v v') (hs : ERL ρ a c) : ERL ρ ((k, v, b) :: a) (⟨k', v', b⟩ :: c)
theorem ERL.mono {ρ ρ' : Rn} (hl : Le ρ ρ') : ∀ {a : List (Value × Value × Nat)} {b : List MapEntry}, ERL ρ a b → ERL ρ' a b
  | _, _, .nil => .nil
  | _, _, .cons hk hv hs => .cons (hk.mono hl) (hv.mono hl) (hs.mono hl)
def exOK (ex : Option Nat) (m z c : Nat) : Prop := match ex with | none => z = 0 | some k => m + z = c * k
/-- what row o says of block g of w -/
def OK (ρ : Rn) (w : World) (g c : Nat) : AO → Prop
  | .cells t ex cs => ∃ ds zs, VRL ρ cs ds ∧ RowF w g t (ds ++ zs) ∧ exOK ex cs.length zs.length c
  | .map es k => ∃ fs, ERL ρ es fs ∧ w.heap[g]? = some (.map ⟨fs⟩ k)
  | .loop e n env ps as bd => ∃ r : Loop, w.heap[g]? = some (.loop r) ∧ r.state = e.state ∧ r.pending = e.jump ∧ r.params = ps ∧ r.assign = as ∧ r.body = bd ∧ r.tmps.size = n ∧ ∀ s v, env.get s = some v → ∃ u, r.tmps[s]? = some u ∧ VR ρ v u
  | .iter m since stepped seen => ∃ gm cm, ρ m = some (gm, cm) ∧ w.heap[g]? = some (.mapIter (some gm) since ⟨seen⟩ stepped)
  | .inil since stepped seen => w.heap[g]? = some (.mapIter none since ⟨seen⟩ stepped)
  | .glob b cs ob => g = b ∧ ∃ t ds fz, VRL ρ cs ds ∧ ob = .cells ⟨ds⟩ t fz ∧ w.heap[g]? = some ob
structure Rep (ρ : Rn) (H : Tr AO) (w : World) : Prop where
  ok : ∀ i o, H.get i = some o → ∃ g c, ρ i = some (g, c) ∧ OK ρ w g c o
  inj : ∀ i j o o' g c c', H.get i = some o → H.get j = some o' → ρ i = some (g, c) → ρ j = some (g, c') → i = j
def Blk (ρ : Rn) (H : Tr AO) (g : Nat) : Prop := ∃ i o c, H.get i = some o ∧ ρ i = some (g, c)
structure Stp (ρ : Rn) (H : Tr AO) (w : World) (ρ' : Rn) (H' : Tr AO) (w' : World) : Prop where
  os : w'.os = w.os
  tape : w'.tape = w.tape
  output : w'.output = w.output
  size : w.heap.size ≤ w'.heap.size
  block : ∀ g, g < w.heap.size → ¬ Blk ρ H g → w'.heap[g]? = w.heap[g]?
  own : ∀ g, g < w.heap.size → Blk ρ' H' g → Blk ρ H g
def Ext (ρ ρ' : Rn) (lo hi : Nat) : Prop := ∀ i, i < lo ∨ hi ≤ i → ρ' i = ρ i
def Fsh (ρ : Rn) (lo hi : Nat) : Prop := ∀ i, lo ≤ i → i < hi → ρ i = none
/-- what holds behind a step -/
structure Aft (ρ : Rn) (H : Tr AO) (w : World) (nx : Nat) (ρ' : Rn) (H' : Tr AO) (w' : World) (nx' : Nat) : Prop where
  ext : Ext ρ ρ' nx nx'
  rep : Rep ρ' H' w'
  stp : Stp ρ H w ρ' H' w'
section steps
variable {ρ ρ1 ρ2 : Rn} {H H1 H2 : Tr AO} {w w1 w2 : World} {nx nx1 nx2 : Nat}
theorem Ext.le (h : Ext ρ ρ1 nx nx1) (hf : Fsh ρ nx nx1) : Le ρ ρ1 := fun i x hx => by
  by_cases hi : i < nx ∨ nx1 ≤ i
  · rw [h i hi]; exact hx
  · rw [hf i (by omega) (by omega)] at hx; cases hx
theorem Ext.refl (ρ : Rn) (a b : Nat) : Ext ρ ρ a b := fun _ _ => rfl
theorem Ext.trans (h : Ext ρ ρ1 nx nx1) (h' : Ext ρ1 ρ2 nx1 nx2) (l1 : nx ≤ nx1) (l2 : nx1 ≤ nx2) : Ext ρ ρ2 nx nx2 := fun i hi => (h' i (by omega)).trans (h i (by omega))
theorem Fsh.left (h : Fsh ρ nx nx2) (l : nx1 ≤ nx2) : Fsh ρ nx nx1 := fun i h1 h2 => h i h1 (by omega)
theorem Fsh.right (h : Fsh ρ nx nx2) (he : Ext ρ ρ1 nx nx1) (l : nx ≤ nx1) : Fsh ρ1 nx1 nx2 := fun i h1 h2 => by rw [he i (by omega)]; exact h i (by omega) h2
theorem Stp.refl (ρ : Rn) (H : Tr AO) (w : World) : Stp ρ H w ρ H w := ⟨rfl, rfl, rfl, Nat.le_refl _, fun _ _ _ => rfl, fun _ _ h => h⟩
theorem Stp.trans (h : Stp ρ H w ρ1 H1 w1) (h' : Stp ρ1 H1 w1 ρ2 H2 w2) : Stp ρ H w ρ2 H2 w2 :=
  ⟨h'.os.trans h.os, h'.tape.trans h.tape, h'.output.trans h.output, Nat.le_trans h.size h'.size,
    fun g hg hn => (h'.block g (Nat.lt_of_lt_of_le hg h.size) (fun hb => hn (h.own g hg hb))).trans (h.block g hg hn),
    fun g hg hb => h.own g hg (h'.own g (Nat.lt_of_lt_of_le hg h.size) hb)⟩
theorem Aft.refl (hR : Rep ρ H w) : Aft ρ H w nx ρ H w nx := ⟨.refl _ _ _, hR, .refl _ _ _⟩
theorem Aft.trans (h : Aft ρ H w nx ρ1 H1 w1 nx1) (h' : Aft ρ1 H1 w1 nx1 ρ2 H2 w2 nx2) (l1 : nx ≤ nx1) (l2 : nx1 ≤ nx2) : Aft ρ H w nx ρ2 H2 w2 nx2 := ⟨h.ext.trans h'.ext l1 l2, h'.rep, h.stp.trans h'.stp⟩
theorem Stp.drew (h : Stp ρ H w ρ1 H1 w1) : Stp ρ H w ρ1 H1 w1.drew := ⟨h.os, h.tape, h.output, h.size, h.block, h.own⟩
theorem OK.same {g c : Nat} {o : AO} (h : OK ρ w g c o) (e : w1.heap[g]? = w.heap[g]?) : OK ρ w1 g c o := by
  cases o with
  | cells t ex cs => obtain ⟨ds, zs, h1, ⟨fz, h2, h3⟩, h4⟩ := h; exact ⟨ds, zs, h1, ⟨fz, e.trans h2, h3⟩, h4⟩
  | map es k => obtain ⟨fs, h1, h2⟩ := h; exact ⟨fs, h1, e.trans h2⟩
  | loop e' n env ps as bd => obtain ⟨r, h1, h2⟩ := h; exact ⟨r, e.trans h1, h2⟩
  | iter m a b l => obtain ⟨gm, cm, h1, h2⟩ := h; exact ⟨gm, cm, h1, e.trans h2⟩
  | inil a b l => exact e.trans h
  | glob b cs ob => obtain ⟨h1, t, ds, fz, h2, h3, h4⟩ := h; exact ⟨h1, t, ds, fz, h2, h3, e.trans h4⟩
theorem OK.lt {g c : Nat} {o : AO} (h : OK ρ w g c o) : g < w.heap.size := by
  cases o with
  | cells t ex cs => obtain ⟨ds, zs, h1, ⟨fz, h2, h3⟩, h4⟩ := h; exact (Array.getElem?_eq_some_iff.1 h2).1
  | map es k => obtain ⟨fs, h1, h2⟩ := h; exact (Array.getElem?_eq_some_iff.1 h2).1
  | loop e' n env ps as bd => obtain ⟨r, h1, h2⟩ := h; exact (Array.getElem?_eq_some_iff.1 h1).1
  | iter m a b l => obtain ⟨gm, cm, h1, h2⟩ := h; exact (Array.getElem?_eq_some_iff.1 h2).1
  | inil a b l => exact (Array.getElem?_eq_some_iff.1 h).1
  | glob b cs ob => obtain ⟨h1, t, ds, fz, h2, h3, h4⟩ := h; exact (Array.getElem?_eq_some_iff.1 h4).1
theorem OK.mono {g c : Nat} {o : AO} (h : OK ρ w g c o) (hl : Le ρ ρ1) : OK ρ1 w g c o := by
  cases o with
  | cells t ex cs => obtain ⟨ds, zs, h1, h2, h3⟩ := h; exact ⟨ds, zs, h1.mono hl, h2, h3⟩
  | map es k => obtain ⟨fs, h1, h2⟩ := h; exact ⟨fs, h1.mono hl, h2⟩
  | loop e' n env ps as bd =>
    obtain ⟨r, h1, h2, h3, h4, h5, h6, h7, h8⟩ := h
    exact ⟨r, h1, h2, h3, h4, h5, h6, h7, fun s v hs => by obtain ⟨u, q1, q2⟩ := h8 s v hs; exact ⟨u, q1, q2.mono hl⟩⟩
  | iter m a b l => obtain ⟨gm, cm, h1, h2⟩ := h; exact ⟨gm, cm, hl _ _ h1, h2⟩
  | inil a b l => exact h
  | glob b cs ob => obtain ⟨h1, t, ds, fz, h2, h3⟩ := h; exact ⟨h1, t, ds, fz, h2.mono hl, h3⟩
theorem Rep.drew (h : Rep ρ H w) : Rep ρ H w.drew := ⟨fun i o hi => by obtain ⟨g, c, h1, h2⟩ := h.ok i o hi; exact ⟨g, c, h1, h2.same rfl⟩, h.inj⟩
theorem Rep.lt (h : Rep ρ H w) {g : Nat} (hb : Blk ρ H g) : g < w.heap.size := by
  obtain ⟨i, o, c, h1, h2⟩ := hb
  obtain ⟨g', c', h3, h4⟩ := h.ok i o h1
  rw [h2] at h3; cases h3
  exact h4.lt
end steps

/-! ## One row new, or turned -/
section one
variable {ρ : Rn} {H : Tr AO} {w : World} {nx : Nat}
def upd (ρ : Rn) (i g c : Nat) : Rn := fun j => if j = i then some (g, c) else ρ j
theorem upd_same (ρ : Rn) (i g c : Nat) : upd ρ i g c i = some (g, c) := by simp [upd]
theorem upd_ne {ρ : Rn} {i g c j : Nat} (h : j ≠ i) : upd ρ i g c j = ρ j := by simp [upd, h]
theorem upd_ext (ρ : Rn) (nx g c : Nat) : Ext ρ (upd ρ nx g c) nx (nx + 1) := fun i hi => upd_ne (by omega)
theorem upd_le {ρ : Rn} {i g c : Nat} (h : ρ i = none) : Le ρ (upd ρ i g c) := fun j x hx => by
  by_cases e : j = i
  · subst e; rw [h] at hx; cases hx
  · rw [upd_ne e]; exact hx
/-- a new block becomes row nx -/
theorem Aft.new (hR : Rep ρ H w) (hf : Fsh ρ nx (nx + 1)) (hn : inT nx = true) (ob : Obj) (c : Nat) (o : AO)
    (hOK : OK (upd ρ nx w.heap.size c) (w.alloc ob) w.heap.size c o) : Aft ρ H w nx (upd ρ nx w.heap.size c) (put H nx (some o)) (w.alloc ob) (nx + 1) := by
  have hnx : ρ nx = none := hf nx (Nat.le_refl _) (by omega)
  have hle : Le ρ (upd ρ nx w.heap.size c) := upd_le hnx
  have hold : ∀ i o', i ≠ nx → (put H nx (some o)).get i = some o' → H.get i = some o' := fun i o' hi h => by rwa [get_put hn, if_neg hi] at h
  refine ⟨upd_ext _ _ _ _, ⟨fun i o' hi => ?_, fun i j o1 o2 g c1 c2 h1 h2 h3 h4 => ?_⟩, ⟨rfl, rfl, rfl, by simp, fun g hg _ => Below.heap_alloc w ob g hg, fun g hg hb => ?_⟩⟩
  · by_cases e : i = nx
    · subst e
      rw [get_put hn, if_pos rfl] at hi
      cases hi
      exact ⟨_, _, upd_same _ _ _ _, hOK⟩
    · obtain ⟨g, c', h1, h2⟩ := hR.ok i o' (hold i o' e hi)
      exact ⟨g, c', hle _ _ h1, (h2.same (Below.heap_alloc w ob g h2.lt)).mono hle⟩
  · by_cases e1 : i = nx <;> by_cases e2 : j = nx
    · rw [e1, e2]
    · subst e1
      rw [upd_same] at h3
      rw [upd_ne e2] at h4
      have := hR.lt ⟨j, o2, c2, hold j o2 e2 h2, h4⟩
      cases h3; omega
    · subst e2
      rw [upd_same] at h4
      rw [upd_ne e1] at h3
      have := hR.lt ⟨i, o1, c1, hold i o1 e1 h1, h3⟩
      cases h4; omega
    · rw [upd_ne e1] at h3
      rw [upd_ne e2] at h4
      exact hR.inj i j o1 o2 g c1 c2 (hold i o1 e1 h1) (hold j o2 e2 h2) h3 h4
  · obtain ⟨i, o', c', h1, h2⟩ := hb
    by_cases e : i = nx
    · subst e
      rw [upd_same] at h2
      cases h2; omega
    · rw [upd_ne e] at h2
      exact ⟨i, o', c', hold i o' e h1, h2⟩
/-- row i is turned -/
theorem Aft.turn (hR : Rep ρ H w) {i g c : Nat} {o o' : AO} (hi : H.get i = some o) (hg : ρ i = some (g, c)) (hn : inT i = true) {w' : World} (hm : Mod (One g) w w') (hOK : OK ρ w' g c o') : Aft ρ H w nx ρ (put H i (some o')) w' nx := by
  refine ⟨.refl _ _ _, ⟨fun j p hj => ?_, fun j k p q b c1 c2 h1 h2 h3 h4 => ?_⟩, ⟨hm.os, hm.tape, hm.output, hm.size, fun b hb hn => hm.block b hb (fun e => hn ⟨i, o, c, hi, by rw [e]; exact hg⟩), fun b hb h => ?_⟩⟩
  · by_cases e : j = i
    · subst e
      rw [get_put hn, if_pos rfl] at hj
      cases hj
      exact ⟨g, c, hg, hOK⟩
    · rw [get_put hn, if_neg e] at hj
      obtain ⟨b, c', h1, h2⟩ := hR.ok j p hj
      refine ⟨b, c', h1, h2.same (hm.block b h2.lt fun eq => e (hR.inj j i p o g c' c hj hi ?_ hg))⟩
      rw [h1, eq]
  · have key : ∀ x y, (put H i (some o')).get x = some y → ∃ z, H.get x = some z := fun x y h => by
      by_cases e : x = i
      · subst e; exact ⟨o, hi⟩
      · rw [get_put hn, if_neg e] at h; exact ⟨y, h⟩
    obtain ⟨p', h1'⟩ := key _ _ h1
    obtain ⟨q', h2'⟩ := key _ _ h2
    exact hR.inj j k p' q' b c1 c2 h1' h2' h3 h4
  · obtain ⟨j, p, c', h1, h2⟩ := h
    by_cases e : j = i
    · subst e; exact ⟨j, o, c', hi, h2⟩
    · rw [get_put hn, if_neg e] at h1; exact ⟨j, p, c', h1, h2⟩
end one
end
end Go.Proofs.YtljpjfefjidakaaGreat.Run
