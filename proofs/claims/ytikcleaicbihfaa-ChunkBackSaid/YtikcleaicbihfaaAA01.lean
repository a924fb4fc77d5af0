/-
  Words · Step
-/
import Derived.WalkKit
import Derived.WalkSpells
import Derived.Maps.AppendAt
import Derived.Great.BuildSlice
import Derived.Deep.AppendLies
import Derived.Lib.SlBytesConst
import Derived.Deep.Draws
set_option linter.unusedSimpArgs false
set_option linter.unusedVariables false

namespace Go.Proofs.Ytikcleaicbihfaa
open Go.RowKit

/-! ## What a call may change -/

/-- Of the blocks that were there only those of S may have changed. -/
structure Mod (S : Nat → Prop) (w w' : World) : Prop where
  os : w'.os = w.os
  tape : w'.tape = w.tape
  output : w'.output = w.output
  size : w.heap.size ≤ w'.heap.size
  block : ∀ k, k < w.heap.size → ¬ S k → w'.heap[k]? = w.heap[k]?

/-- no block -/
abbrev Nil : Nat → Prop := fun _ => False
/-- this one block -/
abbrev One (g : Nat) : Nat → Prop := fun k => k = g
/-- the blocks that a slice's value names -/
def At (v : Value) : Nat → Prop := fun k => v.ownBlock = some k

theorem At.iff {g n c k : Nat} {o : Nat} : At (.slice (some ⟨g, o, none⟩) n c) k ↔ k = g := by
  unfold At Value.ownBlock
  constructor
  · intro h; exact (Option.some.inj h).symm
  · rintro rfl; rfl
theorem At.none {n c k : Nat} : ¬ At (.slice none n c) k := by
  unfold At Value.ownBlock
  intro h; cases h

section mods
variable {S T : Nat → Prop} {w w' a b c : World}
theorem Mod.refl (S : Nat → Prop) (w : World) : Mod S w w := ⟨rfl, rfl, rfl, Nat.le_refl _, fun _ _ _ => rfl⟩
theorem Mod.trans (h : Mod S a b) (k : Mod T b c) (hT : ∀ i, i < a.heap.size → T i → S i) : Mod S a c :=
  ⟨k.os.trans h.os, k.tape.trans h.tape, k.output.trans h.output, Nat.le_trans h.size k.size,
    fun i hi hn => (k.block i (Nat.lt_of_lt_of_le hi h.size) (fun ht => hn (hT i hi ht))).trans (h.block i hi hn)⟩
theorem Mod.same (h : Mod S a b) (k : Mod S b c) : Mod S a c := h.trans k fun _ _ hi => hi
theorem Mod.weaken (h : Mod T a b) (hT : ∀ i, i < a.heap.size → T i → S i) : Mod S a b := (Mod.refl S a).trans h hT
theorem Mod.of_below (h : Below a.heap.size a b) (S : Nat → Prop) : Mod S a b := ⟨h.os, h.tape, h.output, h.size, fun i hi _ => h.block i hi⟩
theorem Mod.below (h : Mod S a b) {B : Nat} (hB : B ≤ a.heap.size) (hS : ∀ k, S k → B ≤ k) : Below B a b :=
  ⟨h.os, h.tape, h.output, h.size, fun i hi => h.block i (by omega) (fun hs => by have := hS i hs; omega)⟩
theorem Mod.of_grown {row : Option Nat} (h : a.grownBy b row) (hr : ∀ k, row = some k → S k) : Mod S a b :=
  ⟨h.os, h.tape, h.output, h.size, fun i hi hn => h.block i hi (fun e => hn (hr i e.symm))⟩
theorem Mod.drew (h : Mod S a b) : Mod S a b.drew := ⟨h.os, h.tape, h.output, h.size, h.block⟩
theorem Mod.alloc (h : Mod S a b) (o : Obj) : Mod S a (b.alloc o) :=
  h.trans (T := Nil) ⟨rfl, rfl, rfl, by simp, fun k hk _ => Below.heap_alloc b o k hk⟩ (fun _ _ hf => hf.elim)
theorem Mod.setCell (h : Mod S a b) {p : Addr} (hp : p.block < a.heap.size → S p.block) (u : Value) : Mod S a (b.setCell p u) :=
  h.trans (T := One p.block) ⟨rfl, rfl, rfl, by simp [World.setCell], fun k _ hn => Below.heap_setCell b p u k hn⟩ (fun i hi e => by subst e; exact hp hi)
theorem Mod.one (w : World) (g i : Nat) (u : Value) : Mod (One g) w (w.setCell ⟨g, i, none⟩ u) := Mod.setCell (p := ⟨g, i, none⟩) (Mod.refl (One g) w) (fun _ => rfl) u
theorem Mod.cell (h : Mod S w w') {p : Addr} (hp : p.block < w.heap.size) (hn : ¬ S p.block) : w'.cell? p = w.cell? p := World.cell?_of_block (w := w) (h.block p.block hp hn)
theorem Mod.frozen (h : Mod S w w') {p : Addr} (hp : p.block < w.heap.size) (hn : ¬ S p.block) : w'.frozen? p = w.frozen? p := World.frozen?_of_block (w := w) (h.block p.block hp hn)
end mods

/-- Below block B nothing has changed since w, and there are B blocks. -/
structure Up (B : Nat) (w a : World) : Prop where
  below : Below B w a
  size : B ≤ a.heap.size
section ups
variable {B : Nat} {w a b : World} {S : Nat → Prop}
theorem Up.refl (w : World) : Up w.heap.size w w := ⟨Below.refl _ _, Nat.le_refl _⟩
theorem Up.alloc (h : Up B w a) (o : Obj) : Up B w (a.alloc o) := ⟨h.below.alloc h.size o, Nat.le_trans h.size (by simp)⟩
theorem Up.drew (h : Up B w a) : Up B w a.drew := ⟨h.below.drew, h.size⟩
theorem Up.trans (h : Up B w a) (k : Below a.heap.size a b) : Up B w b := ⟨h.below.trans (k.mono h.size), Nat.le_trans h.size k.size⟩
theorem Up.mod (h : Up B w a) (k : Mod S a b) (hS : ∀ i, S i → B ≤ i) : Up B w b := ⟨h.below.trans (k.below h.size hS), Nat.le_trans h.size k.size⟩
theorem Up.one (h : Up B w a) {p : Nat} (k : Mod (One p) a b) (hp : B ≤ p) : Up B w b := h.mod k (fun i e => by unfold One at e; omega)
theorem Up.setCell (h : Up B w a) {p i : Nat} (hp : B ≤ p) (v : Value) : Up B w (a.setCell ⟨p, i, none⟩ v) := h.one (Mod.one a p i v) hp
end ups

/-! ## A block that is known whole -/

/-- Block g is the cells cs, of element type t, none of them frozen. -/
def Row (w : World) (g : Nat) (t : TypeId) (cs : Array Value) : Prop := w.heap[g]? = some (.cells cs t (0, 0))

section rows
variable {S : Nat → Prop} {w w' : World} {g : Nat} {t : TypeId} {cs : Array Value}
theorem Row.lt (h : Row w g t cs) : g < w.heap.size := (Array.getElem?_eq_some_iff.1 h).1
theorem Row.cell (h : Row w g t cs) (i : Nat) : w.cell? ⟨g, i, none⟩ = cs[i]? := cell_of_row w g i cs t (0, 0) h
theorem Row.frozen (h : Row w g t cs) (i : Nat) : w.frozen? ⟨g, i, none⟩ = false := by
  unfold Row at h; simp [World.frozen?, h]
theorem Row.new (w : World) (t : TypeId) (cs : Array Value) : Row (w.alloc (.cells cs t)) w.heap.size t cs := heap_alloc_new w _
theorem Row.mod (h : Row w g t cs) (hm : Mod S w w') (hn : ¬ S g) : Row w' g t cs := (hm.block g h.lt hn).trans h
theorem Row.below {B : Nat} (h : Row w g t cs) (hb : Below B w w') (hg : g < B) : Row w' g t cs := (hb.block g hg).trans h
theorem Row.alloc (h : Row w g t cs) (o : Obj) : Row (w.alloc o) g t cs := (Below.heap_alloc w o g h.lt).trans h
theorem Row.drew (h : Row w g t cs) : Row w.drew g t cs := h
theorem Row.set (h : Row w g t cs) (i : Nat) (u : Value) : Row (w.setCell ⟨g, i, none⟩ u) g t (cs.setIfInBounds i u) := by
  unfold Row at h ⊢; simp [World.setCell, Array.getElem?_modify, h]
theorem Row.far (h : Row w g t cs) {p : Addr} (hp : g ≠ p.block) (u : Value) : Row (w.setCell p u) g t cs := (Below.heap_setCell w p u g hp).trans h
theorem Row.ne {g' : Nat} {t' : TypeId} {cs' : Array Value} (h : Row w g t cs) (h' : Row w g' t' cs') (hne : t ≠ t') : g ≠ g' := by
  rintro rfl
  have e := h.symm.trans h'
  simp only [Option.some.injEq, Obj.cells.injEq] at e
  exact hne e.2.1
end rows

/-! ## A slice that reads as bytes -/

/-- A byte as a cell. -/
def u8v (b : UInt8) : Value := .int .u8 (b.toNat : Int)
def u8s (l : List UInt8) : List Value := l.map u8v
theorem u8s_length (l : List UInt8) : (u8s l).length = l.length := by simp [u8s]
theorem u8s_append (l m : List UInt8) : u8s (l ++ m) = u8s l ++ u8s m := by simp [u8s]
theorem u8s_one (l : List UInt8) : ∀ u ∈ u8s l, u.oneCell' = true := by
  intro u hu
  obtain ⟨_, _, rfl⟩ := List.mem_map.1 hu
  rfl
theorem u8s_get {l : List UInt8} {j : Nat} {u : Value} (h : (u8s l)[j]? = some u) : ∃ b, l[j]? = some b ∧ u = u8v b := by
  unfold u8s at h
  rw [List.getElem?_map] at h
  obtain ⟨b, hb, e⟩ := Option.map_eq_some_iff.1 h
  exact ⟨b, hb, e.symm⟩

/-- The slice '.slice A l.length c' reads as the bytes l; if there are any they lie in a block of S. -/
def Bs (S : Nat → Prop) (w : World) (A : Option Addr) (c : Nat) (l : List UInt8) : Prop :=
  l.length ≤ c ∧ c ≤ maxLen ∧ (0 < l.length → ∃ g o, A = some ⟨g, o, none⟩ ∧ S g ∧ ∀ j b, l[j]? = some b → w.cell? ⟨g, o + j, none⟩ = some (u8v b))

section bss
variable {S T : Nat → Prop} {w w' : World} {A : Option Addr} {c : Nat} {l : List UInt8}
theorem Bs.nil (S : Nat → Prop) (w : World) (A : Option Addr) {c : Nat} (hc : c ≤ maxLen) : Bs S w A c [] := ⟨by simp, hc, fun h => absurd h (by simp)⟩
theorem Bs.of_none (h : Bs S w none c l) : l = [] := by
  rcases Nat.eq_zero_or_pos l.length with h0 | h0
  · exact List.eq_nil_of_length_eq_zero h0
  · obtain ⟨g, o, h, _⟩ := h.2.2 h0
    cases h
theorem Bs.at_ (h : Bs S w A c l) {j : Nat} {b : UInt8} (hj : l[j]? = some b) : ∃ g o, A = some ⟨g, o, none⟩ ∧ S g ∧ w.cell? ⟨g, o + j, none⟩ = some (u8v b) := by
  have hlt := (List.getElem?_eq_some_iff.1 hj).1
  obtain ⟨g, o, e, hs, hc⟩ := h.2.2 (by omega)
  exact ⟨g, o, e, hs, hc j b hj⟩
theorem Bs.keep (h : Bs S w A c l) (hk : ∀ p : Addr, S p.block → w.cell? p ≠ none → w'.cell? p = w.cell? p) : Bs S w' A c l :=
  ⟨h.1, h.2.1, fun hn => by
    obtain ⟨g, o, e, hs, hc⟩ := h.2.2 hn
    exact ⟨g, o, e, hs, fun j b hj => (hk _ hs (by rw [hc j b hj]; simp)).trans (hc j b hj)⟩⟩
theorem Bs.mod (h : Bs S w A c l) (hm : Mod T w w') (hn : ∀ k, S k → ¬ T k) : Bs S w' A c l :=
  h.keep fun p hp hs => by
    cases hx : w.cell? p with
    | none => exact absurd hx hs
    | some v => rw [hm.cell (World.block_lt_of_cell? w p hx) (hn _ hp), hx]
theorem Bs.below {B : Nat} (h : Bs S w A c l) (hb : Below B w w') (hS : ∀ k, S k → k < B) : Bs S w' A c l := h.keep fun _ hp _ => hb.cell (hS _ hp)
theorem Bs.old (h : Bs S w A c l) (hb : Below w.heap.size w w') : Bs S w' A c l := h.mod (Mod.of_below hb Nil) (fun _ _ hf => hf)
theorem Bs.weaken (h : Bs S w A c l) (hT : ∀ k, k < w.heap.size → S k → T k) : Bs T w A c l :=
  ⟨h.1, h.2.1, fun hn => by
    obtain ⟨g, o, e, hs, hc⟩ := h.2.2 hn
    have h0 := hc 0 (l[0]) (by simp [hn])
    exact ⟨g, o, e, hT _ (World.block_lt_of_cell? _ _ h0) hs, hc⟩⟩
/-- the block is one that was there -/
theorem Bs.cut_old (h : Bs S w A c l) : Bs (fun k => S k ∧ k < w.heap.size) w A c l := h.weaken fun _ hk hs => ⟨hs, hk⟩
/-- 's[k:]' -/
theorem Bs.drop (h : Bs S w A c l) {k : Nat} (hk : k ≤ l.length) : Bs S w (if c = k then A else A.map (·.add k)) (c - k) (l.drop k) := by
  have h1 := h.1
  refine ⟨by rw [List.length_drop]; omega, by have := h.2.1; omega, fun hn => ?_⟩
  rw [List.length_drop] at hn
  obtain ⟨g, o, rfl, hs, hc⟩ := h.2.2 (by omega)
  rw [if_neg (by omega)]
  refine ⟨g, o + k, by simp [Addr.add_lit], hs, fun j b hj => ?_⟩
  rw [Nat.add_assoc]
  exact hc _ _ (by rw [← hj, List.getElem?_drop])
/-- 's[:k]' -/
theorem Bs.take (h : Bs S w A c l) {k : Nat} (_hk : k ≤ l.length) : Bs S w A c (l.take k) := by
  have h1 := h.1
  refine ⟨by rw [List.length_take]; omega, h.2.1, fun hn => ?_⟩
  rw [List.length_take] at hn
  obtain ⟨g, o, rfl, hs, hc⟩ := h.2.2 (by omega)
  refine ⟨g, o, rfl, hs, fun j b hj => hc j b ?_⟩
  have hlt := (List.getElem?_eq_some_iff.1 hj).1
  rw [List.length_take] at hlt
  rwa [List.getElem?_take, if_pos (by omega)] at hj
end bss

/-! ## A slice of bytes of one's own -/

/-- e: the element type's number. The slice v is one's own, from block base on, and reads as l. -/
def Own (e : TypeId) (w : World) (base : Nat) (v : Value) (l : List UInt8) : Prop := w.ownsRow base e 1 v l.length (u8s l)

section owns
variable {S : Nat → Prop} {e : TypeId} {w w' : World} {base : Nat} {v : Value} {l : List UInt8}
theorem Own.nil (e : TypeId) (w : World) (base : Nat) : Own e w base (.slice none 0 0) [] := World.ownsRow_nil _ _ _ _
theorem Own.form (h : Own e w base v l) : ∃ A c, v = .slice A l.length c ∧ Bs (At v) w A c l := by
  have hh := h.2
  rcases hh with ⟨hv, hn⟩ | ⟨g, cap, cur, hv, hb, hg, hnc, hm, hs, ht⟩
  · have hl : l = [] := List.eq_nil_of_length_eq_zero hn
    subst hl
    exact ⟨none, 0, hv, Bs.nil _ _ _ (by simp [maxLen])⟩
  · refine ⟨some ⟨g, 0, none⟩, cap, hv, hnc, hm, fun _ => ⟨g, 0, rfl, by rw [hv]; rfl, fun j b hj => ?_⟩⟩
    have := h.cells (g := g) (by rw [hv]; rfl) j (u8v b) (by simp [u8s, hj])
    rwa [Addr.add_lit] at this
/-- where something is owned: its block, its cells, none frozen -/
theorem Own.block (h : Own e w base v l) (hn : 0 < l.length) : ∃ g c, v = .slice (some ⟨g, 0, none⟩) l.length c ∧ base ≤ g ∧ g < w.heap.size ∧ l.length ≤ c ∧ c ≤ maxLen ∧ (∀ j b, l[j]? = some b → w.cell? ⟨g, j, none⟩ = some (u8v b)) ∧ ∀ j, w.frozen? ⟨g, j, none⟩ = false := by
  rcases h.2 with ⟨_, h0⟩ | ⟨g, cap, cur, hv, hb, hg, hnc, hm, hs, ht⟩
  · omega
  · refine ⟨g, cap, hv, hb, (Array.getElem?_eq_some_iff.1 hg).1, hnc, hm, fun j b hj => ?_, fun j => Row.frozen (t := e) hg j⟩
    have := h.cells (g := g) (by rw [hv]; rfl) j (u8v b) (by simp [u8s, hj])
    rwa [Addr.add_lit, Nat.zero_add] at this
/-- a byte of it is written -/
theorem Own.set {g c k : Nat} (h : Own e w base (.slice (some ⟨g, 0, none⟩) l.length c) l) (b : UInt8) : Own e (w.setCell ⟨g, k, none⟩ (u8v b)) base (.slice (some ⟨g, 0, none⟩) (l.set k b).length c) (l.set k b) := by
  refine ⟨by rw [u8s_length]; omega, ?_⟩
  rcases h.2 with ⟨hh, _⟩ | ⟨g', cap, cur, hv, hb, hg, hnc, hm, hs, ht⟩
  · cases hh
  · simp only [Value.slice.injEq, Option.some.injEq, Addr.mk.injEq] at hv
    obtain ⟨⟨rfl, _⟩, _, rfl⟩ := hv
    refine .inr ⟨g, c, cur.setIfInBounds k (u8v b), by simp, hb, Row.set (t := e) hg k _, by simpa using hnc, hm, by simpa using hs, ?_⟩
    rw [Nat.mul_one] at ht ⊢
    rw [List.length_set]
    unfold u8s at ht ⊢
    rw [List.map_set, ← ht]
    simp [List.take_set]
theorem Own.lt (h : Own e w base v l) : ∀ k, At v k → base ≤ k ∧ k < w.heap.size := fun k hk => World.ownsRow.lt h k hk
theorem Own.mod (h : Own e w base v l) (hm : Mod S w w') (hn : ∀ k, At v k → ¬ S k) : Own e w' base v l := by
  refine ⟨h.1, ?_⟩
  rcases h.2 with hh | ⟨g, cap, cur, hv, hb, hg, r⟩
  · exact .inl hh
  · exact .inr ⟨g, cap, cur, hv, hb, (hm.block g (Array.getElem?_eq_some_iff.1 hg).1 (hn g (by rw [hv]; rfl))).trans hg, r⟩
theorem Own.old (h : Own e w base v l) (hb : Below w.heap.size w w') : Own e w' base v l := h.mod (Mod.of_below hb Nil) (fun _ _ hf => hf)
end owns

/-- What the table says of bytes (t: the slice's type, e: the byte's). -/
structure U8 (P : Program) (t e : TypeId) : Prop where
  ht : P.underlying t = some (.slice e)
  he : P.underlying e = some (.int .u8)
  info : (P.info? e).map (fun i => (i.zero, i.size, i.bytes)) = some (some (.int .u8 0), 1, 1)

section cuts
variable {P : Program} {S : Nat → Prop} {t e : TypeId} {w : World} {c : Nat} {l : List UInt8} {A : Option Addr}
theorem U8.elem (hu : U8 P t e) : P.elem t = e := by simp [Program.elem, hu.ht]
theorem U8.size (hu : U8 P t e) (W : World) : (sizeOf e).run P W = .ok 1 W := by
  obtain ⟨i, hi, hz0, hz1, hz2⟩ := info_parts hu.info
  simp [sizeOf, typeInfo, hi, hz1]
end cuts

/-- 'string(b)' -/
theorem run_str {P : Program} {S : Nat → Prop} {t ts e : TypeId} {w : World} {c : Nat} {l : List UInt8} {A : Option Addr} (hu : U8 P t e) (hs : P.underlying ts = some .string) (h : Bs S w A c l) :
    (convert t ts (.slice A l.length c)).run P w = .ok (.string ⟨l.toArray⟩) w := by
  cases A with
  | none =>
    have hl := h.of_none
    subst hl
    exact run_convert_bytes_nil (P := P) (w := w) t e hu.ht hu.he 0 c ts hs
  | some a =>
    by_cases hn : 0 < l.length
    · obtain ⟨g, o, he, _, hc⟩ := h.2.2 hn
      cases he
      exact run_convert_bytes_back w t ts e ⟨g, o, none⟩ c l hu.ht hu.he hs (fun j hj => by
        rw [Addr.add_lit]
        exact hc j l[j] (List.getElem?_eq_getElem hj))
    · have hl : l = [] := List.eq_nil_of_length_eq_zero (by omega)
      subst hl
      exact run_convert_bytes_back w t ts e a c [] hu.ht hu.he hs (fun j hj => by simp at hj)

section appends
variable {P : Program} {S : Nat → Prop} {t ty e : TypeId} {w : World} {base c : Nat} {v : Value} {l m : List UInt8} {A : Option Addr}

/-- append of any bytes that can be read onto a slice of one's own -/
theorem run_append_bs (hu : U8 P t e) (hown : Own e w base v l) (hb : base ≤ w.heap.size) (hr : Bs S w A c m) (hlen : l.length + m.length ≤ 140737488355328) :
    ∃ v' w', (Builtin.append_ #[t, t] ty #[v, .slice A m.length c]).run P w = .ok v' w' ∧ Own e w' base v' (l ++ m) ∧ Mod (At v) w w' ∧ (∀ k, At v' k → At v k ∨ k = w.heap.size) := by
  obtain ⟨i, hi, hz0, hz1, hz2⟩ := info_parts hu.info
  cases A with
  | none =>
    have hm : m = [] := hr.of_none
    subst hm
    refine ⟨v, w, ?_, by simpa using hown, Mod.refl _ _, fun k hk => .inl hk⟩
    have hh := hown.2
    rcases hh with ⟨rfl, hn⟩ | ⟨g, cap, cur, rfl, _, _, hnc, _⟩
    · simp [Builtin.append_, run_underlying hu.ht, sizeOf, typeInfo, hi, Builtin.lenOf, Builtin.firstCells]
    · simp [Builtin.append_, run_underlying hu.ht, sizeOf, typeInfo, hi, Builtin.lenOf, Builtin.firstCells, hnc, storeCells]
  | some a =>
    have hcells : ∀ j u, (u8s m)[j]? = some u → w.cell? (a.add j) = some u := by
      intro j u hj
      obtain ⟨b, hb, rfl⟩ := u8s_get hj
      obtain ⟨g, o, e', _, hc⟩ := hr.at_ hb
      cases e'
      rw [Addr.add_lit]
      exact hc
    obtain ⟨v', w', hrun, h2, h3, _, h5⟩ := run_append_own_at (P := P) w base t ty e i (.int .u8 0) 1 1 hu.ht hi hz0 hz1 hz2 rfl (by decide) v l.length (u8s l) hown a m.length c (u8s m) (by simp [u8s_length]) hcells (u8s_one m)
      (by unfold maxLen; omega) (by omega) hb
    refine ⟨v', w', hrun, ?_, Mod.of_grown h3 (fun k hk => hk), fun k hk => ?_⟩
    · unfold Own
      rw [u8s_append, List.length_append]
      exact h2
    · rcases h5 with h5 | h5
      · exact .inl (by unfold At at hk ⊢; rw [← h5]; exact hk)
      · right
        unfold At at hk
        rw [h5] at hk
        exact (Option.some.inj hk).symm

theorem wpList_append_bs {ops : Array Oper} {rest : List Oper} {o : Oper} {a : Act} {Q : Exit → Act → World → Prop} (hu : U8 P t e) (hgd : o.guard = none) (s x : Operand)
    (ho : o.op = .call { callee := .builtin .append, args := #[s, x], argTypes := #[t, t] })
    (hown : Own e w base v l) (hb : base ≤ w.heap.size) (hr : Bs S w A c m) (n : Nat) (hn : n = l.length + m.length) (hs : a.eval s = v) (hx : a.eval x = .slice A m.length c) (hlen : n ≤ 140737488355328)
    (h : ∀ A' c' w', Own e w' base (.slice A' n c') (l ++ m) → Mod (At v) w w' → (∀ k, At (.slice A' n c') k → At v k ∨ k = w.heap.size) → wpList P ops Q rest (a.put o.dst (.slice A' n c')) w') : wpList P ops Q (o :: rest) a w := by
  refine wpList_plain hgd fun K hK => ?_
  obtain ⟨v', w', hrun, h2, h3, h4⟩ := run_append_bs (P := P) (ty := o.type) hu hown hb hr (by omega)
  obtain ⟨A', c', rfl, _⟩ := h2.form
  rw [List.length_append, ← hn] at h2 hrun h4
  unfold Oper.wp execOp
  simp only [ho, resolve, invoke, builtin, Sem.run_bind, Sem.run_pure, Result.andThen_ok, List.map_toArray, List.map_cons, List.map_nil, hs, hx, hrun]
  exact hK _ _ (h A' c' w' h2 h3 h4)
end appends

end Go.Proofs.Ytikcleaicbihfaa

namespace Go.Proofs.Ytikcleaicbihfaa
open Go.RowKit

/-! ## What a frame's slots hold -/
def look : List (Nat × Value) → Nat → Option Value
  | [], _ => none
  | (k, v) :: r, s => match Nat.beq k s with | true => some v | false => look r s
def evs (env : List (Nat × Value)) : Operand → Option Value
  | .tmp t => look env t
  | .const v => some v
  | .global g => some (.pointer (some ⟨g, 0, none⟩))
  | .func f => some (.func (.func f) #[] #[])
def evl (env : List (Nat × Value)) : List Operand → Option (List Value)
  | [] => some []
  | x :: r => match evs env x, evl env r with
    | some v, some l => some (v :: l)
    | _, _ => none
/-- is the operation to be carried out? -/
def wants (ops : Array Oper) (o : Oper) (env : List (Nat × Value)) : Option Bool :=
  match o.guard with
  | none => some true
  | some (j, b) => match (ops[j]?).bind (·.dst) with
    | some t => match look env t with
      | some (.bool c) => some (c == b)
      | some (.tuple _) => some false
      | _ => none
    | none => none

structure Fr (n : Nat) (a : Act) (env : List (Nat × Value)) : Prop where
  size : a.tmps.size = n
  get : ∀ s v, look env s = some v → a.tmps[s]? = some v
  defers : a.defers = []

section frames
variable {n : Nat} {a : Act} {env env' : List (Nat × Value)}
theorem look_cons (k : Nat) (v : Value) (r : List (Nat × Value)) (s : Nat) : look ((k, v) :: r) s = if k = s then some v else look r s := by
  show (match Nat.beq k s with | true => some v | false => look r s) = _
  by_cases h : k = s
  · subst h; simp
  · rw [if_neg h]
    cases hb : Nat.beq k s with
    | false => rfl
    | true => exact absurd (Nat.eq_of_beq_eq_true hb) h
theorem Fr.ev (h : Fr n a env) {s : Nat} {v : Value} (hs : look env s = some v) : a.eval (.tmp s) = v := by
  simp [Act.eval, h.get s v hs]
theorem Fr.evs (h : Fr n a env) {x : Operand} {v : Value} (hx : evs env x = some v) : a.eval x = v := by
  cases x with
  | tmp t => exact h.ev hx
  | const u => exact Option.some.inj hx
  | global g => exact Option.some.inj hx
  | func f => exact Option.some.inj hx
theorem Fr.evl (h : Fr n a env) : ∀ {xs : List Operand} {vs : List Value}, evl env xs = some vs → xs.map a.eval = vs
  | [], vs, hx => by cases hx; rfl
  | x :: r, vs, hx => by
    unfold Go.Proofs.Ytikcleaicbihfaa.evl at hx
    cases h1 : Go.Proofs.Ytikcleaicbihfaa.evs env x with
    | none => simp [h1] at hx
    | some v =>
      cases h2 : Go.Proofs.Ytikcleaicbihfaa.evl env r with
      | none => simp [h1, h2] at hx
      | some l =>
        simp only [h1, h2, Option.some.injEq] at hx
        subst hx
        rw [List.map_cons, h.evs h1, Fr.evl h h2]
theorem Fr.put (h : Fr n a env) {d : Nat} (hd : d < n) (v : Value) : Fr n (a.put (some d) v) ((d, v) :: env) := by
  refine ⟨by simp [Act.put, h.size], fun s u hs => ?_, h.defers⟩
  rw [look_cons] at hs
  show (a.tmps.setIfInBounds d v)[s]? = some u
  split at hs
  · rename_i he
    subst he
    cases hs
    rw [Array.getElem?_setIfInBounds_self_of_lt (by rw [h.size]; exact hd)]
  · rename_i he
    rw [Array.getElem?_setIfInBounds_ne he]
    exact h.get s u hs
theorem Fr.sub (h : Fr n a env) (hs : ∀ s v, look env' s = some v → look env s = some v) : Fr n a env' := ⟨h.size, fun s v hv => h.get s v (hs s v hv), h.defers⟩
/-- each slot of env' is known -/
def Sub (env : List (Nat × Value)) : List (Nat × Value) → Prop
  | [] => True
  | (k, v) :: r => look env k = some v ∧ Sub env r
theorem Sub.look {env : List (Nat × Value)} : ∀ {env' : List (Nat × Value)}, Sub env env' → ∀ s v, look env' s = some v → look env s = some v
  | [], _, s, v, h => by cases h
  | (k, u) :: r, hs, s, v, h => by
    rw [look_cons] at h
    split at h
    · rename_i he; subst he; cases h; exact hs.1
    · exact Sub.look hs.2 s v h
theorem Fr.keep (h : Fr n a env) (hs : Sub env env') : Fr n a env' := h.sub hs.look
theorem Fr.app {e1 e2 : List (Nat × Value)} (h1 : Fr n a e1) (h2 : Fr n a e2) : Fr n a (e1 ++ e2) := by
  refine ⟨h1.size, fun s v hs => ?_, h1.defers⟩
  have key : ∀ l : List (Nat × Value), look (l ++ e2) s = some v → look l s = some v ∨ look e2 s = some v := by
    intro l
    induction l with
    | nil => exact fun h => .inr h
    | cons p r ih =>
      obtain ⟨k, u⟩ := p
      intro h
      rw [List.cons_append, look_cons] at h
      rw [look_cons]
      split at h
      · rename_i he; rw [if_pos he]; exact .inl h
      · rename_i he; rw [if_neg he]; exact ih h
  rcases key e1 hs with h | h
  · exact h1.get s v h
  · exact h2.get s v h
theorem Fr.wants {ops : Array Oper} {o : Oper} {b : Bool} (h : Fr n a env) (hg : wants ops o env = some b) : Region.wanted o (yielded ops a.tmps) = b := by
  unfold Go.Proofs.Ytikcleaicbihfaa.wants at hg
  unfold Region.wanted
  cases hgd : o.guard with
  | none => rw [hgd] at hg; exact Option.some.inj hg
  | some jb =>
    obtain ⟨j, c⟩ := jb
    simp only [hgd] at hg ⊢
    cases ht : (ops[j]?).bind (·.dst) with
    | none => simp [ht] at hg
    | some t =>
      simp only [ht] at hg
      cases hl : look env t with
      | none => simp [hl] at hg
      | some u =>
        have hu := h.get t u hl
        simp only [hl] at hg
        cases u with
        | bool e =>
          have : e = (e : Bool) := rfl
          simp only [Option.some.injEq] at hg
          unfold yielded
          simp only [ht, Option.bind_some, hu]
          rw [← hg]
          cases e <;> cases c <;> rfl
        | tuple l =>
          simp only [Option.some.injEq] at hg
          unfold yielded
          simp only [ht, Option.bind_some, hu]
          rw [← hg]
          rfl
        | _ => simp at hg
end frames

/-! ## A function's beginning and its end -/
theorem calls_enter {P : Program} {f : FuncId} {fn : Func} {c : Code} {args : Array Value} {w : World} {R : Ending → World → Prop} (n : Nat) (env : List (Nat × Value))
    (hf : P.funcs[f]? = some fn) (hb : fn.body = some c) (hn : fn.ntmps = n) (hs : args.size ≤ n) (hargs : ∀ s v, look env s = some v → args[s]? = some v)
    (h : ∀ a, Fr n a env → c.wp P (bodyPost P fn R) a w) : Calls P f args w R := by
  refine calls_of_wp hf hb (h _ ⟨?_, fun s v hv => ?_, rfl⟩)
  · simp [hn]; omega
  · have := hargs s v hv
    have hlt : s < args.size := (Array.getElem?_eq_some_iff.1 this).1
    simp [Array.getElem?_append, hlt]
    exact Array.getElem?_eq_some_iff.1 this |>.2
/-- the arguments, one a slot -/
def argEnv : Nat → List Value → List (Nat × Value)
  | _, [] => []
  | i, v :: r => (i, v) :: argEnv (i + 1) r
theorem argEnv_look : ∀ (l : List Value) (i s : Nat) (v : Value), look (argEnv i l) s = some v → i ≤ s ∧ l[s - i]? = some v
  | [], i, s, v, h => by cases h
  | u :: r, i, s, v, h => by
    unfold argEnv at h
    rw [look_cons] at h
    split at h
    · rename_i he; subst he; cases h; simp
    · rename_i he
      obtain ⟨h1, h2⟩ := argEnv_look r (i + 1) s v h
      refine ⟨by omega, ?_⟩
      rw [show s - i = (s - (i + 1)) + 1 by omega, List.getElem?_cons_succ]
      exact h2
theorem calls_in {P : Program} {f : FuncId} {fn : Func} {c : Code} {args : List Value} {w : World} {R : Ending → World → Prop} (n : Nat)
    (hf : P.funcs[f]? = some fn) (hb : fn.body = some c) (hn : fn.ntmps = n) (hs : args.length ≤ n)
    (h : ∀ a, Fr n a (argEnv 0 args) → c.wp P (bodyPost P fn R) a w) : Calls P f args.toArray w R :=
  calls_enter n _ hf hb hn (by simpa using hs) (fun s v hv => by
    have := (argEnv_look args 0 s v hv).2
    simpa using this) h

/-! ## Reading memory -/
/-- a variable of type T at place off of a row that holds cs reads as v -/
def Reads (P : Program) (T : TypeId) (cs : Array Value) (off : Nat) (v : Value) : Prop :=
  ∀ (w : World) (g : Nat) (t : TypeId), Row w g t cs → (loadVar T ⟨g, off, none⟩).run P w = .ok v w
def AggOf (P : Program) (T : TypeId) (k : Nat) : Prop := (∀ w, (isAgg T).run P w = .ok true w) ∧ (∀ w, (sizeOf T).run P w = .ok k w)
def OneOf (P : Program) (T : TypeId) : Prop := (∀ w, (isAgg T).run P w = .ok false w) ∧ (∀ w, (sizeOf T).run P w = .ok 1 w)
section reads
variable {P : Program} {T : TypeId} {k : Nat}
theorem aggOf {d : TypeDesc} (hu : P.underlying T = some d) (hd : (match d with | .struct _ | .array _ _ => true | _ => false) = true) (hi : (P.info? T).map (·.size) = some k) : AggOf P T k := by
  constructor
  · intro w
    unfold isAgg
    rw [Sem.run_bind, run_underlying hu w]
    cases d <;> simp_all
  · intro w
    cases hq : P.info? T with
    | none => simp [hq] at hi
    | some i =>
      have hs : i.size = k := by simpa [hq] using hi
      simp [sizeOf, typeInfo, hq, hs]
theorem oneOf {d : TypeDesc} (hu : P.underlying T = some d) (hd : (match d with | .struct _ | .array _ _ => true | _ => false) = false) (hi : (P.info? T).map (·.size) = some 1) : OneOf P T := by
  constructor
  · intro w
    unfold isAgg
    rw [Sem.run_bind, run_underlying hu w]
    cases d <;> simp_all
  · intro w
    cases hq : P.info? T with
    | none => simp [hq] at hi
    | some i =>
      have hs : i.size = 1 := by simpa [hq] using hi
      simp [sizeOf, typeInfo, hq, hs]
theorem reads_sub (hA : AggOf P T k) {cs : Array Value} {off : Nat} (l : List Value) (hl : l.length = k) (hc : ∀ j v, l[j]? = some v → cs[off + j]? = some v) : Reads P T cs off (.agg l.toArray) := by
  intro w g t hR
  have h := run_loadCells_list (P := P) w ⟨g, off, none⟩ l (fun j v hv => by
    have hadd : (⟨g, off, none⟩ : Addr).add j = ⟨g, off + j, none⟩ := by simp [Addr.add]
    rw [hadd, hR.cell]
    exact hc j v hv)
  rw [hl] at h
  simp [loadVar, Sem.run_bind, hA.1, hA.2, h]
/-- the cells written out: the part is k of them -/
def part? (cs : List Value) (off k : Nat) : Option (List Value) := match cs.drop off |>.take k with | l => match Nat.beq l.length k with | true => some l | false => none
theorem reads_agg (hA : AggOf P T k) {cs : List Value} {off : Nat} {l : List Value} (h : part? cs off k = some l) : Reads P T cs.toArray off (.agg l.toArray) := by
  unfold part? at h
  have hb : ∀ b, Nat.beq ((cs.drop off).take k).length k = b → (match b with | true => some ((cs.drop off).take k) | false => none) = some l → Reads P T cs.toArray off (.agg l.toArray) := by
    intro b hb h
    cases b with
    | false => cases h
    | true =>
      cases h
      have hlen : ((cs.drop off).take k).length = k := Nat.eq_of_beq_eq_true hb
      refine reads_sub hA _ hlen (fun j v hv => ?_)
      have hj : j < k := by
        have := (List.getElem?_eq_some_iff.1 hv).1
        omega
      rw [List.getElem?_take, if_pos hj, List.getElem?_drop] at hv
      simpa using hv
  exact hb _ rfl h
theorem reads_one (hO : OneOf P T) {cs : Array Value} {off : Nat} {v : Value} (h : cs[off]? = some v) : Reads P T cs off v := by
  intro w g t hR
  have hc : w.cell? ⟨g, off, none⟩ = some v := by rw [hR.cell]; exact h
  simp [loadVar, Sem.run_bind, hO.1, run_load, hc]
end reads

/-! ## New blocks, and stores -/
/-- a new block -/
structure Fresh (w w' : World) (g : Nat) (t : TypeId) (cs : Array Value) : Prop where
  eq : w' = w.alloc (.cells cs t)
  at_ : g = w.heap.size
section fresh
variable {B : Nat} {w0 w w' : World} {g x : Nat} {t T : TypeId} {cs c : Array Value}
theorem Fresh.row (h : Fresh w w' g t cs) : Row w' g t cs := by rw [h.eq, h.at_]; exact Row.new w t cs
theorem Fresh.keep (h : Fresh w w' g t cs) (r : Row w x T c) : Row w' x T c := by rw [h.eq]; exact r.alloc _
theorem Fresh.up (h : Fresh w w' g t cs) (u : Up B w0 w) : Up B w0 w' := by rw [h.eq]; exact u.alloc _
theorem Fresh.lt (h : Fresh w w' g t cs) (r : Row w x T c) : x < g := by rw [h.at_]; exact r.lt
theorem Fresh.ge (h : Fresh w w' g t cs) (u : Up B w0 w) : B ≤ g := by rw [h.at_]; exact u.size
theorem Fresh.below (h : Fresh w w' g t cs) : Below w.heap.size w w' := by rw [h.eq]; exact (Below.refl _ _).alloc (Nat.le_refl _) _
theorem Row.old (r : Row w x T c) (hb : Below w.heap.size w w') : Row w' x T c := r.below hb r.lt
theorem Row.mod_ne (r : Row w x T c) {g : Nat} (hm : Mod (One g) w w') (hne : x ≠ g) : Row w' x T c := r.mod hm hne
end fresh

/-! ## Steps within a region whose order is fixed -/
section steps
variable {P : Program} {ops : Array Oper} {Q : Exit → Act → World → Prop} {n : Nat} {a : Act} {w : World} {env : List (Nat × Value)} {rest : List Oper} {o : Oper} {d : Nat}
theorem wpList_on (hF : Fr n a env) (hg : wants ops o env = some true) (h : ∀ K : Act → World → Prop, (∀ a w, wpList P ops Q rest a w → K a w) → o.wp P a w K Q) : wpList P ops Q (o :: rest) a w :=
  wpList_step fun K hK => by rw [if_pos (hF.wants hg)]; exact h K hK
/-- what leaves the world as it is -/
theorem st_q (hF : Fr n a env) (hg : wants ops o env = some true) (hd : o.dst = some d) (hn : d < n) (v : Value)
    (hrun : ∀ b, Fr n b env → (execOp b.eval o).run P w = .ok (.value v) w)
    (h : ∀ b, Fr n b ((d, v) :: env) → wpList P ops Q rest b w) : wpList P ops Q (o :: rest) a w :=
  wpList_on hF hg fun K hK => by
    unfold Oper.wp
    rw [hrun a hF, Oper.upon_value, hd]
    exact hK _ _ (h _ (hF.put hn v))
/-- what is not carried out -/
theorem st_skip (hF : Fr n a env) (hg : wants ops o env = some false) (hd : o.dst = some d) (hn : d < n)
    (h : ∀ b, Fr n b ((d, undef) :: env) → wpList P ops Q rest b w) : wpList P ops Q (o :: rest) a w :=
  wpList_step fun K hK => by
    rw [if_neg (by rw [hF.wants hg]; simp), hd]
    exact hK _ _ (h _ (hF.put hn undef))
theorem exec_move {x : Operand} {v : Value} (ho : o.op = .move x) (hx : evs env x = some v) (hF : Fr n a env) : (execOp a.eval o).run P w = .ok (.value v) w := by
  unfold execOp; simp only [ho, hF.evs hx, Sem.run_pure]
theorem exec_assign {x : Operand} {v : Value} (ho : o.op = .assign x) (hx : evs env x = some v) (hF : Fr n a env) : (execOp a.eval o).run P w = .ok (.value v) w := by
  unfold execOp; simp only [ho, hF.evs hx, Sem.run_pure]
theorem exec_extract {x : Operand} {i : Nat} {vs : Array Value} {v : Value} (ho : o.op = .extract x i) (hx : evs env x = some (.tuple vs)) (hi : vs[i]? = some v) (hF : Fr n a env) : (execOp a.eval o).run P w = .ok (.value v) w := by
  unfold execOp
  simp only [ho, hF.evs hx, Instr.extract, hi, Sem.run_bind, Sem.run_pure, Result.andThen_ok]
theorem exec_pick {x y z : Operand} {c : Bool} {v : Value} (ho : o.op = .pick x y z) (hx : evs env x = some (.bool c)) (hv : evs env (if c then y else z) = some v) (hF : Fr n a env) : (execOp a.eval o).run P w = .ok (.value v) w := by
  unfold execOp
  have h1 := hF.evs hx
  have h2 := hF.evs hv
  simp only [ho, h1, asBool, Sem.run_bind, Sem.run_pure, Result.andThen_ok]
  cases c <;> simp_all
theorem exec_load {T : TypeId} {x : Operand} {g off : Nat} {t : TypeId} {cs : Array Value} {v : Value} (ho : o.op = .load T x) (hx : evs env x = some (.pointer (some ⟨g, off, none⟩))) (hv : Reads P T cs off v) (hR : Row w g t cs) (hF : Fr n a env) : (execOp a.eval o).run P w = .ok (.value v) w := by
  unfold execOp
  simp only [ho, hF.evs hx, Instr.loadAt, Instr.sureAddr, Sem.run_bind, Sem.run_pure, Result.andThen_ok, hv w g t hR]
def Zero (P : Program) (T : TypeId) (zs : Array Value) : Prop := ∀ w, (Instr.alloc T true (.tuple #[])).run P w = .ok (.pointer (some ⟨w.heap.size, 0, none⟩)) (w.alloc (.cells zs T))
theorem zero_of {T : TypeId} {z : Value} {zs : Array Value} (h : (P.info? T).map (·.zero) = some (some z)) (hz : z.cells = zs) : Zero P T zs := by
  intro w
  cases hq : P.info? T with
  | none => simp [hq] at h
  | some i =>
    have hs : i.zero = some z := by simpa [hq] using h
    subst hz
    simp [Instr.alloc, zeroValue, typeInfo, hq, hs, newVar, newRow]
theorem exec_alloc {T : TypeId} {zs : Array Value} (ho : o.op = .alloc T) (hz : Zero P T zs) : (execOp a.eval o).run P w = .ok (.value (.pointer (some ⟨w.heap.size, 0, none⟩))) (w.alloc (.cells zs T)) := by
  unfold execOp
  simp only [ho, Sem.run_bind, Sem.run_pure, hz w, Result.andThen_ok]
/-- storing cells from place i on -/
theorem run_storeCells_at (g : Nat) (t : TypeId) : ∀ (vs : List Value) (i : Nat) (cur : Array Value) (w : World) (off : Nat), Row w g t cur → off + i + vs.length ≤ cur.size → (∀ v ∈ vs, v.oneCell' = true) →
    ∃ w', (storeCells ⟨g, off, none⟩ vs i).run P w = .ok () w' ∧ Row w' g t (cur.toList.take (off + i) ++ vs ++ cur.toList.drop (off + i + vs.length)).toArray ∧ Mod (One g) w w'
  | [], i, cur, w, off, hR, hl, _ => by
    refine ⟨w, rfl, ?_, Mod.refl _ _⟩
    simpa [List.take_append_drop] using hR
  | v :: rest, i, cur, w, off, hR, hl, h1 => by
    have hi : off + i < cur.size := by simp at hl; omega
    have hadd : (⟨g, off, none⟩ : Addr).add i = ⟨g, off + i, none⟩ := by simp [Addr.add]
    have hcell : w.cell? ⟨g, off + i, none⟩ = some cur[off + i] := by rw [hR.cell]; simp [hi]
    have hfro := hR.frozen (off + i)
    have hst : (store ((⟨g, off, none⟩ : Addr).add i) v).run P w = .ok () (w.setCell ⟨g, off + i, none⟩ v) := by
      rw [hadd, run_store P w _ v _ (h1 v (by simp)), hcell]
      simp [hfro]
    obtain ⟨w', hr, hR', hm⟩ := run_storeCells_at g t rest (i + 1) (cur.setIfInBounds (off + i) v) (w.setCell ⟨g, off + i, none⟩ v) off (hR.set (off + i) v) (by simp at hl ⊢; omega) (fun x hx => h1 x (by simp [hx]))
    refine ⟨w', ?_, ?_, (Mod.one w g (off + i) v).same hm⟩
    · simp only [storeCells, Sem.run_bind, hst, Result.andThen_ok, hr]
    · have : ((cur.setIfInBounds (off + i) v).toList.take (off + (i + 1)) ++ rest ++ (cur.setIfInBounds (off + i) v).toList.drop (off + (i + 1) + rest.length)) = (cur.toList.take (off + i) ++ (v :: rest) ++ cur.toList.drop (off + i + (v :: rest).length)) := by
        have hlen : (cur.toList.take (off + i)).length = off + i := by simp; omega
        apply List.ext_getElem?
        intro k
        simp only [Array.toList_setIfInBounds, List.getElem?_append, List.length_append, List.length_take, List.length_set, Array.length_toList, List.length_cons, List.getElem?_take, List.getElem?_set, List.getElem?_drop]
        rw [show min (off + (i + 1)) cur.size = off + i + 1 by omega, show min (off + i) cur.size = off + i by omega]
        by_cases hk : k < off + i
        · simp only [show k < off + i + 1 + rest.length by omega, show k < off + i + 1 by omega, show k < off + (i + 1) by omega, hk, show k < off + i + (rest.length + 1) by omega, if_true]
          simp [show ¬ off + i = k by omega]
        · by_cases hk2 : k = off + i
          · subst hk2
            simp [show off + i < off + (i + 1) by omega, hi, show off + i < off + i + 1 + rest.length by omega, show off + i < off + i + (rest.length + 1) by omega]
          · have h3 : ¬ k < off + i + 1 := by omega
            rw [show off + i + (rest.length + 1) = off + i + 1 + rest.length by omega]
            simp only [h3, hk, if_false]
            by_cases hk3 : k < off + i + 1 + rest.length
            · simp only [hk3, if_true]
              rw [show k - (off + i) = (k - (off + i + 1)) + 1 by omega, List.getElem?_cons_succ]
            · simp only [hk3, if_false]
              first | (congr 1 <;> omega) | (rw [if_neg (by omega)]; congr 1 <;> omega)
      rwa [this] at hR'
/-- the cells with a part written over -/
def over? (cs : List Value) (off : Nat) (vs : List Value) : List Value := cs.take off ++ vs ++ cs.drop (off + vs.length)
/-- a call of a Go function, met by its contract -/
theorem run_enter {F : FuncId} {fn : Func} {c : Code} (hf : P.funcs[F]? = some fn) (hname : (fn.name == "runtime.NumGoroutine") = false) (hb : fn.body = some c) (args : Array Value) (w : World) :
    (callFunc F args).run P w = .ok (.enter F args) w := by
  have h1 : fn.name ≠ "runtime.NumGoroutine" := by simpa using hname
  simp [callFunc, hf, h1, hb]
def Ent (P : Program) (F : FuncId) : Prop := ∀ args w, (callFunc F args).run P w = .ok (.enter F args) w
theorem ent_of {F : FuncId} {fn : Func} (hf : P.funcs[F]? = some fn) (hname : (fn.name == "runtime.NumGoroutine") = false) (hb : fn.body.isSome = true) : Ent P F := by
  obtain ⟨c, hc⟩ := Option.isSome_iff_exists.1 hb
  exact fun args w => run_enter hf hname hc args w
theorem exec_call {F : FuncId} (hE : Ent P F) {f : Operand} {args : Array Operand} {ats : Array TypeId} {vs : List Value} (ho : o.op = .call { callee := .value f, args := args, argTypes := ats })
    (hf : evs env f = some (.func (.func F) #[] #[])) (hx : evl env args.toList = some vs) (hF : Fr n a env) : (execOp a.eval o).run P w = .ok (.enter F vs.toArray) w := by
  unfold execOp
  have h1 : args.map a.eval = vs.toArray := by
    have := hF.evl hx
    rw [← this]
    cases args; simp
  have h2 := hE vs.toArray w
  simp [ho, resolve, h1, hF.evs hf, Deferred.ofValue, invoke, h2]
end steps

/-! ## Code -/
section code
variable {P : Program} {Q : Exit → Act → World → Prop} {n : Nat} {a : Act} {w : World} {env : List (Nat × Value)}
theorem cd_then {c : Operand} {x y : Code} (hF : Fr n a env) (hc : evs env c = some (.bool true)) (h : x.wp P Q a w) : (Code.cond c x y).wp P Q a w := wp_cond (hF.evs hc) h
theorem cd_else {c : Operand} {x y : Code} (hF : Fr n a env) (hc : evs env c = some (.bool false)) (h : y.wp P Q a w) : (Code.cond c x y).wp P Q a w := wp_cond (hF.evs hc) h
end code

/-! ## The results -/
section ends
variable {P : Program} {fn : Func} {R : Ending → World → Prop} {n : Nat} {a : Act} {w : World} {env : List (Nat × Value)}
/-- what a result holds -/
inductive Res (P : Program) (env : List (Nat × Value)) (w : World) : ResultVar → Value → Prop
  | tmp {t : Tmp} {v : Value} (h : look env t = some v) : Res P env w (.tmp t) v
  | cell {s : Tmp} {T : TypeId} {g off : Nat} {t : TypeId} {cs : Array Value} {v : Value} (h : look env s = some (.pointer (some ⟨g, off, none⟩))) (hv : Reads P T cs off v) (hR : Row w g t cs) : Res P env w (.cell s T) v
def resRun (tmps : Array Value) : ResultVar → Sem Value
  | .tmp t => pure (tmps.getD t undef)
  | .cell a t => do loadVar t (← asAddr (tmps.getD a undef))
theorem Res.run {r : ResultVar} {v : Value} (h : Res P env w r v) (hF : Fr n a env) : (resRun a.tmps r).run P w = .ok v w := by
  cases h with
  | tmp h => simp [resRun, hF.get _ _ h]
  | cell h hv hR => simp [resRun, hF.get _ _ h, asAddr, hv w _ _ hR]
theorem results_eq (tmps : Array Value) : results fn tmps = (do let vs ← fn.results.mapM (resRun tmps); pure (if h : vs.size = 1 then vs[0] else .tuple vs)) := by
  unfold results
  congr 1
theorem fin1 {r1 : ResultVar} {v1 : Value} (hF : Fr n a env) (hr : fn.results = #[r1]) (h1 : Res P env w r1 v1) (hR : R (.returned v1) w) : bodyPost P fn R .ret a w :=
  ⟨hF.defers, v1, by rw [results_eq, hr]; simp [h1.run hF], hR⟩
theorem fin2 {r1 r2 : ResultVar} {v1 v2 : Value} (hF : Fr n a env) (hr : fn.results = #[r1, r2]) (h1 : Res P env w r1 v1) (h2 : Res P env w r2 v2) (hR : R (.returned (.tuple #[v1, v2])) w) : bodyPost P fn R .ret a w :=
  ⟨hF.defers, .tuple #[v1, v2], by rw [results_eq, hr]; simp [h1.run hF, h2.run hF], hR⟩
theorem fin3 {r1 r2 r3 : ResultVar} {v1 v2 v3 : Value} (hF : Fr n a env) (hr : fn.results = #[r1, r2, r3]) (h1 : Res P env w r1 v1) (h2 : Res P env w r2 v2) (h3 : Res P env w r3 v3) (hR : R (.returned (.tuple #[v1, v2, v3])) w) : bodyPost P fn R .ret a w :=
  ⟨hF.defers, .tuple #[v1, v2, v3], by rw [results_eq, hr]; simp [h1.run hF, h2.run hF, h3.run hF], hR⟩
theorem fin0n (hF : Fr n a env) (hr : fn.results = #[]) (hR : R (.returned (.tuple #[])) w) : bodyPost P fn R .normal a w :=
  ⟨hF.defers, .tuple #[], by rw [results_eq, hr]; simp, hR⟩
end ends
end Go.Proofs.Ytikcleaicbihfaa
