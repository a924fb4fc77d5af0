/-
  Words of this seat's proofs, over any program: what a call may change ('Mod'), a slice that reads as bytes ('Bs'), a slice of bytes that a call owns ('Own'), append of bytes onto it. Nothing here speaks of the program.
-/
import Derived.WalkKit
import Derived.WalkSpells
import Derived.Maps.AppendAt
import Derived.Great.BuildSlice
import Derived.Deep.AppendLies
import Derived.Lib.SlBytesConst
import Derived.Deep.Draws
namespace Go.Proofs.YtfalllekhcocgaaDoor
open Go.RowKit

/-- a fact that the walk does not look into -/
theorem hid {p : Prop} (h : p) : Hid p := h

/-! ## What a call may change -/

/-- Of the blocks that were there only those of S may have changed. -/
structure Mod (S : Nat → Prop) (w w' : World) : Prop where
  os : w'.os = w.os
  tape : w'.tape = w.tape
  output : w'.output = w.output
  size : w.heap.size ≤ w'.heap.size
  block : ∀ k, k < w.heap.size → ¬ S k → w'.heap[k]? = w.heap[k]?

/-- no block -/
abbrev Nil : Nat → Prop := fun _ => False
/-- this one block -/
abbrev One (g : Nat) : Nat → Prop := fun k => k = g
/-- the blocks that a slice's value names -/
def At (v : Value) : Nat → Prop := fun k => v.ownBlock = some k

theorem At.iff {g n c k : Nat} {o : Nat} : At (.slice (some ⟨g, o, none⟩) n c) k ↔ k = g := by
  unfold At Value.ownBlock
  constructor
  · intro h; exact (Option.some.inj h).symm
  · rintro rfl; rfl
theorem At.none {n c k : Nat} : ¬ At (.slice none n c) k := by
  unfold At Value.ownBlock
  intro h; cases h

section mods
variable {S T : Nat → Prop} {w w' a b c : World}
theorem Mod.refl (S : Nat → Prop) (w : World) : Mod S w w := ⟨rfl, rfl, rfl, Nat.le_refl _, fun _ _ _ => rfl⟩
theorem Mod.trans (h : Mod S a b) (k : Mod T b c) (hT : ∀ i, i < a.heap.size → T i → S i) : Mod S a c :=
  ⟨k.os.trans h.os, k.tape.trans h.tape, k.output.trans h.output, Nat.le_trans h.size k.size,
    fun i hi hn => (k.block i (Nat.lt_of_lt_of_le hi h.size) (fun ht => hn (hT i hi ht))).trans (h.block i hi hn)⟩
theorem Mod.same (h : Mod S a b) (k : Mod S b c) : Mod S a c := h.trans k fun _ _ hi => hi
theorem Mod.weaken (h : Mod T a b) (hT : ∀ i, i < a.heap.size → T i → S i) : Mod S a b := (Mod.refl S a).trans h hT
theorem Mod.of_below (h : Below a.heap.size a b) (S : Nat → Prop) : Mod S a b := ⟨h.os, h.tape, h.output, h.size, fun i hi _ => h.block i hi⟩
theorem Mod.below (h : Mod S a b) {B : Nat} (hB : B ≤ a.heap.size) (hS : ∀ k, S k → B ≤ k) : Below B a b :=
  ⟨h.os, h.tape, h.output, h.size, fun i hi => h.block i (by omega) (fun hs => by have := hS i hs; omega)⟩
theorem Mod.of_grown {row : Option Nat} (h : a.grownBy b row) (hr : ∀ k, row = some k → S k) : Mod S a b :=
  ⟨h.os, h.tape, h.output, h.size, fun i hi hn => h.block i hi (fun e => hn (hr i e.symm))⟩
theorem Mod.drew (h : Mod S a b) : Mod S a b.drew := ⟨h.os, h.tape, h.output, h.size, h.block⟩
theorem Mod.drewN (h : Mod S a b) (n : Nat) : Mod S a (b.drewN n) := ⟨h.os, h.tape, h.output, h.size, h.block⟩
theorem Mod.alloc (h : Mod S a b) (o : Obj) : Mod S a (b.alloc o) :=
  h.trans (T := Nil) ⟨rfl, rfl, rfl, by simp, fun k hk _ => Below.heap_alloc b o k hk⟩ (fun _ _ hf => hf.elim)
theorem Mod.setCell (h : Mod S a b) {p : Addr} (hp : p.block < a.heap.size → S p.block) (u : Value) : Mod S a (b.setCell p u) :=
  h.trans (T := One p.block) ⟨rfl, rfl, rfl, by simp [World.setCell], fun k _ hn => Below.heap_setCell b p u k hn⟩ (fun i hi e => by subst e; exact hp hi)
theorem Mod.one (w : World) (g i : Nat) (u : Value) : Mod (One g) w (w.setCell ⟨g, i, none⟩ u) := Mod.setCell (p := ⟨g, i, none⟩) (Mod.refl (One g) w) (fun _ => rfl) u
theorem Mod.cell (h : Mod S w w') {p : Addr} (hp : p.block < w.heap.size) (hn : ¬ S p.block) : w'.cell? p = w.cell? p := World.cell?_of_block (w := w) (h.block p.block hp hn)
theorem Mod.frozen (h : Mod S w w') {p : Addr} (hp : p.block < w.heap.size) (hn : ¬ S p.block) : w'.frozen? p = w.frozen? p := World.frozen?_of_block (w := w) (h.block p.block hp hn)
end mods

/-- Below block B nothing has changed since w, and there are B blocks. -/
structure Up (B : Nat) (w a : World) : Prop where
  below : Below B w a
  size : B ≤ a.heap.size
section ups
variable {B : Nat} {w a b : World} {S : Nat → Prop}
theorem Up.refl (w : World) : Up w.heap.size w w := ⟨Below.refl _ _, Nat.le_refl _⟩
theorem Up.alloc (h : Up B w a) (o : Obj) : Up B w (a.alloc o) := ⟨h.below.alloc h.size o, Nat.le_trans h.size (by simp)⟩
theorem Up.drew (h : Up B w a) : Up B w a.drew := ⟨h.below.drew, h.size⟩
theorem Up.drewN (h : Up B w a) (n : Nat) : Up B w (a.drewN n) := ⟨⟨h.below.os, h.below.tape, h.below.output, h.below.size, h.below.block⟩, h.size⟩
theorem Up.trans (h : Up B w a) (k : Below a.heap.size a b) : Up B w b := ⟨h.below.trans (k.mono h.size), Nat.le_trans h.size k.size⟩
theorem Up.mod (h : Up B w a) (k : Mod S a b) (hS : ∀ i, S i → B ≤ i) : Up B w b := ⟨h.below.trans (k.below h.size hS), Nat.le_trans h.size k.size⟩
theorem Up.one (h : Up B w a) {p : Nat} (k : Mod (One p) a b) (hp : B ≤ p) : Up B w b := h.mod k (fun i e => by unfold One at e; omega)
theorem Up.setCell (h : Up B w a) {p i : Nat} (hp : B ≤ p) (v : Value) : Up B w (a.setCell ⟨p, i, none⟩ v) := h.one (Mod.one a p i v) hp
end ups

/-! ## A block that is known whole -/

/-- Block g is the cells cs, of element type t, none of them frozen. -/
def Row (w : World) (g : Nat) (t : TypeId) (cs : Array Value) : Prop := w.heap[g]? = some (.cells cs t (0, 0))

section rows
variable {S : Nat → Prop} {w w' : World} {g : Nat} {t : TypeId} {cs : Array Value}
theorem Row.lt (h : Row w g t cs) : g < w.heap.size := (Array.getElem?_eq_some_iff.1 h).1
theorem Row.cell (h : Row w g t cs) (i : Nat) : w.cell? ⟨g, i, none⟩ = cs[i]? := cell_of_row w g i cs t (0, 0) h
theorem Row.frozen (h : Row w g t cs) (i : Nat) : w.frozen? ⟨g, i, none⟩ = false := by
  unfold Row at h; simp [World.frozen?, h]
theorem Row.new (w : World) (t : TypeId) (cs : Array Value) : Row (w.alloc (.cells cs t)) w.heap.size t cs := heap_alloc_new w _
theorem Row.mod (h : Row w g t cs) (hm : Mod S w w') (hn : ¬ S g) : Row w' g t cs := (hm.block g h.lt hn).trans h
theorem Row.below {B : Nat} (h : Row w g t cs) (hb : Below B w w') (hg : g < B) : Row w' g t cs := (hb.block g hg).trans h
theorem Row.alloc (h : Row w g t cs) (o : Obj) : Row (w.alloc o) g t cs := (Below.heap_alloc w o g h.lt).trans h
theorem Row.drew (h : Row w g t cs) : Row w.drew g t cs := h
theorem Row.set (h : Row w g t cs) (i : Nat) (u : Value) : Row (w.setCell ⟨g, i, none⟩ u) g t (cs.setIfInBounds i u) := by
  unfold Row at h ⊢; simp [World.setCell, Array.getElem?_modify, h]
theorem Row.far (h : Row w g t cs) {p : Addr} (hp : g ≠ p.block) (u : Value) : Row (w.setCell p u) g t cs := (Below.heap_setCell w p u g hp).trans h
theorem Row.ne {g' : Nat} {t' : TypeId} {cs' : Array Value} (h : Row w g t cs) (h' : Row w g' t' cs') (hne : t ≠ t') : g ≠ g' := by
  rintro rfl
  have e := h.symm.trans h'
  simp only [Option.some.injEq, Obj.cells.injEq] at e
  exact hne e.2.1
end rows

/-! ## A slice that reads as bytes -/

/-- A byte as a cell. -/
def u8v (b : UInt8) : Value := .int .u8 (b.toNat : Int)
def u8s (l : List UInt8) : List Value := l.map u8v
theorem u8s_length (l : List UInt8) : (u8s l).length = l.length := by simp [u8s]
theorem u8s_append (l m : List UInt8) : u8s (l ++ m) = u8s l ++ u8s m := by simp [u8s]
theorem u8s_one (l : List UInt8) : ∀ u ∈ u8s l, u.oneCell' = true := by
  intro u hu
  obtain ⟨_, _, rfl⟩ := List.mem_map.1 hu
  rfl
theorem u8s_get {l : List UInt8} {j : Nat} {u : Value} (h : (u8s l)[j]? = some u) : ∃ b, l[j]? = some b ∧ u = u8v b := by
  unfold u8s at h
  rw [List.getElem?_map] at h
  obtain ⟨b, hb, e⟩ := Option.map_eq_some_iff.1 h
  exact ⟨b, hb, e.symm⟩

/-- The slice '.slice A l.length c' reads as the bytes l; if there are any they lie in a block of S. -/
def Bs (S : Nat → Prop) (w : World) (A : Option Addr) (c : Nat) (l : List UInt8) : Prop :=
  l.length ≤ c ∧ c ≤ maxLen ∧ (0 < l.length → ∃ g o, A = some ⟨g, o, none⟩ ∧ S g ∧ ∀ j b, l[j]? = some b → w.cell? ⟨g, o + j, none⟩ = some (u8v b))

section bss
variable {S T : Nat → Prop} {w w' : World} {A : Option Addr} {c : Nat} {l : List UInt8}
theorem Bs.nil (S : Nat → Prop) (w : World) (A : Option Addr) {c : Nat} (hc : c ≤ maxLen) : Bs S w A c [] := ⟨by simp, hc, fun h => absurd h (by simp)⟩
theorem Bs.of_none (h : Bs S w none c l) : l = [] := by
  rcases Nat.eq_zero_or_pos l.length with h0 | h0
  · exact List.eq_nil_of_length_eq_zero h0
  · obtain ⟨g, o, h, _⟩ := h.2.2 h0
    cases h
theorem Bs.at_ (h : Bs S w A c l) {j : Nat} {b : UInt8} (hj : l[j]? = some b) : ∃ g o, A = some ⟨g, o, none⟩ ∧ S g ∧ w.cell? ⟨g, o + j, none⟩ = some (u8v b) := by
  have hlt := (List.getElem?_eq_some_iff.1 hj).1
  obtain ⟨g, o, e, hs, hc⟩ := h.2.2 (by omega)
  exact ⟨g, o, e, hs, hc j b hj⟩
theorem Bs.keep (h : Bs S w A c l) (hk : ∀ p : Addr, S p.block → w.cell? p ≠ none → w'.cell? p = w.cell? p) : Bs S w' A c l :=
  ⟨h.1, h.2.1, fun hn => by
    obtain ⟨g, o, e, hs, hc⟩ := h.2.2 hn
    exact ⟨g, o, e, hs, fun j b hj => (hk _ hs (by rw [hc j b hj]; simp)).trans (hc j b hj)⟩⟩
theorem Bs.mod (h : Bs S w A c l) (hm : Mod T w w') (hn : ∀ k, S k → ¬ T k) : Bs S w' A c l :=
  h.keep fun p hp hs => by
    cases hx : w.cell? p with
    | none => exact absurd hx hs
    | some v => rw [hm.cell (World.block_lt_of_cell? w p hx) (hn _ hp), hx]
theorem Bs.below {B : Nat} (h : Bs S w A c l) (hb : Below B w w') (hS : ∀ k, S k → k < B) : Bs S w' A c l := h.keep fun _ hp _ => hb.cell (hS _ hp)
theorem Bs.old (h : Bs S w A c l) (hb : Below w.heap.size w w') : Bs S w' A c l := h.mod (Mod.of_below hb Nil) (fun _ _ hf => hf)
theorem Bs.weaken (h : Bs S w A c l) (hT : ∀ k, k < w.heap.size → S k → T k) : Bs T w A c l :=
  ⟨h.1, h.2.1, fun hn => by
    obtain ⟨g, o, e, hs, hc⟩ := h.2.2 hn
    have h0 := hc 0 (l[0]) (by simp [hn])
    exact ⟨g, o, e, hT _ (World.block_lt_of_cell? _ _ h0) hs, hc⟩⟩
/-- the block is one that was there -/
theorem Bs.cut_old (h : Bs S w A c l) : Bs (fun k => S k ∧ k < w.heap.size) w A c l := h.weaken fun _ hk hs => ⟨hs, hk⟩
/-- 's[k:]' -/
theorem Bs.drop (h : Bs S w A c l) {k : Nat} (hk : k ≤ l.length) : Bs S w (if c = k then A else A.map (·.add k)) (c - k) (l.drop k) := by
  have h1 := h.1
  refine ⟨by rw [List.length_drop]; omega, by have := h.2.1; omega, fun hn => ?_⟩
  rw [List.length_drop] at hn
  obtain ⟨g, o, rfl, hs, hc⟩ := h.2.2 (by omega)
  rw [if_neg (by omega)]
  refine ⟨g, o + k, by simp [Addr.add_lit], hs, fun j b hj => ?_⟩
  rw [Nat.add_assoc]
  exact hc _ _ (by rw [← hj, List.getElem?_drop])
/-- 's[:k]' -/
theorem Bs.take (h : Bs S w A c l) {k : Nat} (_hk : k ≤ l.length) : Bs S w A c (l.take k) := by
  have h1 := h.1
  refine ⟨by rw [List.length_take]; omega, h.2.1, fun hn => ?_⟩
  rw [List.length_take] at hn
  obtain ⟨g, o, rfl, hs, hc⟩ := h.2.2 (by omega)
  refine ⟨g, o, rfl, hs, fun j b hj => hc j b ?_⟩
  have hlt := (List.getElem?_eq_some_iff.1 hj).1
  rw [List.length_take] at hlt
  rwa [List.getElem?_take, if_pos (by omega)] at hj
end bss

/-! ## A slice of bytes of one's own -/

/-- e: the element type's number. The slice v is one's own, from block base on, and reads as l. -/
def Own (e : TypeId) (w : World) (base : Nat) (v : Value) (l : List UInt8) : Prop := w.ownsRow base e 1 v l.length (u8s l)

section owns
variable {S : Nat → Prop} {e : TypeId} {w w' : World} {base : Nat} {v : Value} {l : List UInt8}
theorem Own.nil (e : TypeId) (w : World) (base : Nat) : Own e w base (.slice none 0 0) [] := World.ownsRow_nil _ _ _ _
theorem Own.form (h : Own e w base v l) : ∃ A c, v = .slice A l.length c ∧ Bs (At v) w A c l := by
  have hh := h.2
  rcases hh with ⟨hv, hn⟩ | ⟨g, cap, cur, hv, hb, hg, hnc, hm, hs, ht⟩
  · have hl : l = [] := List.eq_nil_of_length_eq_zero hn
    subst hl
    exact ⟨none, 0, hv, Bs.nil _ _ _ (by simp [maxLen])⟩
  · refine ⟨some ⟨g, 0, none⟩, cap, hv, hnc, hm, fun _ => ⟨g, 0, rfl, by rw [hv]; rfl, fun j b hj => ?_⟩⟩
    have := h.cells (g := g) (by rw [hv]; rfl) j (u8v b) (by simp [u8s, hj])
    rwa [Addr.add_lit] at this
/-- where something is owned: its block, its cells, none frozen -/
theorem Own.block (h : Own e w base v l) (hn : 0 < l.length) : ∃ g c, v = .slice (some ⟨g, 0, none⟩) l.length c ∧ base ≤ g ∧ g < w.heap.size ∧ l.length ≤ c ∧ c ≤ maxLen ∧ (∀ j b, l[j]? = some b → w.cell? ⟨g, j, none⟩ = some (u8v b)) ∧ ∀ j, w.frozen? ⟨g, j, none⟩ = false := by
  rcases h.2 with ⟨_, h0⟩ | ⟨g, cap, cur, hv, hb, hg, hnc, hm, hs, ht⟩
  · omega
  · refine ⟨g, cap, hv, hb, (Array.getElem?_eq_some_iff.1 hg).1, hnc, hm, fun j b hj => ?_, fun j => Row.frozen (t := e) hg j⟩
    have := h.cells (g := g) (by rw [hv]; rfl) j (u8v b) (by simp [u8s, hj])
    rwa [Addr.add_lit, Nat.zero_add] at this
/-- a byte of it is written -/
theorem Own.set {g c k : Nat} (h : Own e w base (.slice (some ⟨g, 0, none⟩) l.length c) l) (b : UInt8) : Own e (w.setCell ⟨g, k, none⟩ (u8v b)) base (.slice (some ⟨g, 0, none⟩) (l.set k b).length c) (l.set k b) := by
  refine ⟨by rw [u8s_length]; omega, ?_⟩
  rcases h.2 with ⟨hh, _⟩ | ⟨g', cap, cur, hv, hb, hg, hnc, hm, hs, ht⟩
  · cases hh
  · simp only [Value.slice.injEq, Option.some.injEq, Addr.mk.injEq] at hv
    obtain ⟨⟨rfl, _⟩, _, rfl⟩ := hv
    refine .inr ⟨g, c, cur.setIfInBounds k (u8v b), by simp, hb, Row.set (t := e) hg k _, by simpa using hnc, hm, by simpa using hs, ?_⟩
    rw [Nat.mul_one] at ht ⊢
    rw [List.length_set]
    unfold u8s at ht ⊢
    rw [List.map_set, ← ht]
    simp [List.take_set]
theorem Own.lt (h : Own e w base v l) : ∀ k, At v k → base ≤ k ∧ k < w.heap.size := fun k hk => World.ownsRow.lt h k hk
theorem Own.mod (h : Own e w base v l) (hm : Mod S w w') (hn : ∀ k, At v k → ¬ S k) : Own e w' base v l := by
  refine ⟨h.1, ?_⟩
  rcases h.2 with hh | ⟨g, cap, cur, hv, hb, hg, r⟩
  · exact .inl hh
  · exact .inr ⟨g, cap, cur, hv, hb, (hm.block g (Array.getElem?_eq_some_iff.1 hg).1 (hn g (by rw [hv]; rfl))).trans hg, r⟩
theorem Own.old (h : Own e w base v l) (hb : Below w.heap.size w w') : Own e w' base v l := h.mod (Mod.of_below hb Nil) (fun _ _ hf => hf)
theorem Own.rebase {base' : Nat} (h : Own e w base v l) (hb : ∀ k, At v k → base' ≤ k) : Own e w base' v l := by
  refine ⟨h.1, ?_⟩
  rcases h.2 with hh | ⟨g, cap, cur, hv, _, r⟩
  · exact .inl hh
  · exact .inr ⟨g, cap, cur, hv, hb g (by rw [hv]; rfl), r⟩
theorem Own.ne_row (h : Own e w base v l) {g : Nat} {t : TypeId} {cs : Array Value} (hg : Row w g t cs) (hne : e ≠ t) : ¬ At v g := by
  rcases h.2 with ⟨rfl, _⟩ | ⟨g', cap, cur, rfl, _, hh, _⟩
  · simp [At, Value.ownBlock]
  · intro he
    have : g' = g := by simpa [At, Value.ownBlock] using he
    subst this
    exact Row.ne (t := e) hh hg hne rfl
end owns

/-- What the table says of bytes (t: the slice's type, e: the byte's). -/
structure U8 (P : Program) (t e : TypeId) : Prop where
  ht : P.underlying t = some (.slice e)
  he : P.underlying e = some (.int .u8)
  info : (P.info? e).map (fun i => (i.zero, i.size, i.bytes)) = some (some (.int .u8 0), 1, 1)

/-- a slice literal of bytes, in a new block -/
theorem new_src (w : World) (e : TypeId) (l : List UInt8) (hl : l.length ≤ maxLen) : Bs (One w.heap.size) (w.alloc (.cells (u8s l).toArray e)) (some ⟨w.heap.size, 0, none⟩) l.length l :=
  ⟨Nat.le_refl _, hl, fun _ => ⟨_, _, rfl, rfl, fun j b hj => by
    rw [(Row.new w e (u8s l).toArray).cell (0 + j)]
    simp [u8s, hj]⟩⟩
/-- likewise where the block bears the run-time's mark: '[]byte("..")' -/
theorem const_src (w : World) (e : TypeId) (l : List UInt8) (fr : Nat × Nat) (hl : l.length ≤ maxLen) : Bs (One w.heap.size) (w.alloc (.cells (u8s l).toArray e fr)) (some ⟨w.heap.size, 0, none⟩) l.length l :=
  ⟨Nat.le_refl _, hl, fun _ => ⟨_, _, rfl, rfl, fun j b hj => by
    rw [cell_of_row (w.alloc (.cells (u8s l).toArray e fr)) w.heap.size (0 + j) (u8s l).toArray e fr (heap_alloc_new w _)]
    simp [u8s, hj]⟩⟩
theorem one_src (w : World) (e : TypeId) (b : UInt8) {x : Int} (hx : x = (b.toNat : Int)) : Bs (One w.heap.size) (w.alloc (.cells #[.int .u8 x] e)) (some ⟨w.heap.size, 0, none⟩) 1 [b] := by
  subst hx
  exact new_src w e [b] (by simp [maxLen])

section cuts
variable {P : Program} {S : Nat → Prop} {t e : TypeId} {w : World} {c : Nat} {l : List UInt8} {A : Option Addr}
theorem U8.elem (hu : U8 P t e) : P.elem t = e := by simp [Program.elem, hu.ht]
theorem U8.size (hu : U8 P t e) (W : World) : (sizeOf e).run P W = .ok 1 W := by
  obtain ⟨i, hi, hz0, hz1, hz2⟩ := info_parts hu.info
  simp [sizeOf, typeInfo, hi, hz1]
/-- 's[k:j]' -/
theorem run_cut (hu : U8 P t e) (h : Bs S w A c l) (k j : Nat) (hk : k ≤ j) (hj : j ≤ l.length) :
    ∃ A', Bs S w A' (c - k) ((l.take j).drop k) ∧
      ∀ W, (Instr.slice t (.slice A l.length c) (some (.int .i64 (k : Int))) (some (.int .i64 (j : Int))) none).run P W = .ok (.slice A' ((l.take j).drop k).length (c - k)) W := by
  have h1 := h.1
  refine ⟨_, (h.take hj).drop (k := k) (by rw [List.length_take]; omega), fun W => ?_⟩
  rw [run_slice_lh W t A l.length c (by rw [hu.elem]; exact hu.ht) .i64 .i64 k j (by omega) (by omega) (by omega), hu.elem, hu.size]
  simp only [Result.andThen, sliced, Int.toNat_natCast, Nat.mul_one, List.length_drop, List.length_take]
  rw [Nat.min_eq_left hj]
/-- 's[k:]' -/
theorem run_from (hu : U8 P t e) (h : Bs S w A c l) (k : Nat) (hk : k ≤ l.length) :
    ∃ A', Bs S w A' (c - k) (l.drop k) ∧ ∀ W, (Instr.slice t (.slice A l.length c) (some (.int .i64 (k : Int))) none none).run P W = .ok (.slice A' (l.drop k).length (c - k)) W := by
  refine ⟨_, h.drop hk, fun W => ?_⟩
  rw [run_slice_l W t A l.length c (by rw [hu.elem]; exact hu.ht) .i64 k (by omega) (by omega), hu.elem, hu.size]
  simp only [Result.andThen, sliced, Int.toNat_natCast, Nat.mul_one, List.length_drop]
/-- 's[:j]' -/
theorem run_upto (hu : U8 P t e) (h : Bs S w A c l) (j : Nat) (hj : j ≤ l.length) :
    ∃ A', Bs S w A' c (l.take j) ∧ ∀ W, (Instr.slice t (.slice A l.length c) none (some (.int .i64 (j : Int))) none).run P W = .ok (.slice A' (l.take j).length c) W := by
  have h1 := h.1
  refine ⟨A, h.take hj, fun W => ?_⟩
  rw [run_slice_h W t A l.length c (by rw [hu.elem]; exact hu.ht) .i64 j (by omega) (by omega), hu.elem, hu.size]
  simp only [Result.andThen, sliced, Int.toNat_natCast, Nat.mul_one, List.length_take, Nat.sub_zero, Nat.min_eq_left hj, Nat.zero_mul]
  have e : A.map (·.add 0) = A := by cases A <;> simp [Addr.add]
  simp [Addr.add]
end cuts

/-- 'string(b)' -/
theorem run_str {P : Program} {S : Nat → Prop} {t ts e : TypeId} {w : World} {c : Nat} {l : List UInt8} {A : Option Addr} (hu : U8 P t e) (hs : P.underlying ts = some .string) (h : Bs S w A c l) :
    (convert t ts (.slice A l.length c)).run P w = .ok (.string ⟨l.toArray⟩) w := by
  cases A with
  | none =>
    have hl := h.of_none
    subst hl
    exact run_convert_bytes_nil (P := P) (w := w) t e hu.ht hu.he 0 c ts hs
  | some a =>
    by_cases hn : 0 < l.length
    · obtain ⟨g, o, he, _, hc⟩ := h.2.2 hn
      cases he
      exact run_convert_bytes_back w t ts e ⟨g, o, none⟩ c l hu.ht hu.he hs (fun j hj => by
        rw [Addr.add_lit]
        exact hc j l[j] (List.getElem?_eq_getElem hj))
    · have hl : l = [] := List.eq_nil_of_length_eq_zero (by omega)
      subst hl
      exact run_convert_bytes_back w t ts e a c [] hu.ht hu.he hs (fun j hj => by simp at hj)

section appends
variable {P : Program} {S : Nat → Prop} {t ty e : TypeId} {w : World} {base c : Nat} {v : Value} {l m : List UInt8} {A : Option Addr}

/-- append of any bytes that can be read onto a slice of one's own -/
theorem run_append_bs (hu : U8 P t e) (hown : Own e w base v l) (hb : base ≤ w.heap.size) (hr : Bs S w A c m) (hlen : l.length + m.length ≤ 140737488355328) :
    ∃ v' w', (Builtin.append_ #[t, t] ty #[v, .slice A m.length c]).run P w = .ok v' w' ∧ Own e w' base v' (l ++ m) ∧ Mod (At v) w w' ∧ (∀ k, At v' k → At v k ∨ k = w.heap.size) := by
  obtain ⟨i, hi, hz0, hz1, hz2⟩ := info_parts hu.info
  cases A with
  | none =>
    have hm : m = [] := hr.of_none
    subst hm
    refine ⟨v, w, ?_, by simpa using hown, Mod.refl _ _, fun k hk => .inl hk⟩
    have hh := hown.2
    rcases hh with ⟨rfl, hn⟩ | ⟨g, cap, cur, rfl, _, _, hnc, _⟩
    · simp [Builtin.append_, run_underlying hu.ht, sizeOf, typeInfo, hi, Builtin.lenOf, Builtin.firstCells]
    · simp [Builtin.append_, run_underlying hu.ht, sizeOf, typeInfo, hi, Builtin.lenOf, Builtin.firstCells, hnc, storeCells]
  | some a =>
    have hcells : ∀ j u, (u8s m)[j]? = some u → w.cell? (a.add j) = some u := by
      intro j u hj
      obtain ⟨b, hb, rfl⟩ := u8s_get hj
      obtain ⟨g, o, e', _, hc⟩ := hr.at_ hb
      cases e'
      rw [Addr.add_lit]
      exact hc
    obtain ⟨v', w', hrun, h2, h3, _, h5⟩ := run_append_own_at (P := P) w base t ty e i (.int .u8 0) 1 1 hu.ht hi hz0 hz1 hz2 rfl (by decide) v l.length (u8s l) hown a m.length c (u8s m) (by simp [u8s_length]) hcells (u8s_one m)
      (by unfold maxLen; omega) (by omega) hb
    refine ⟨v', w', hrun, ?_, Mod.of_grown h3 (fun k hk => hk), fun k hk => ?_⟩
    · unfold Own
      rw [u8s_append, List.length_append]
      exact h2
    · rcases h5 with h5 | h5
      · exact .inl (by unfold At at hk ⊢; rw [← h5]; exact hk)
      · right
        unfold At at hk
        rw [h5] at hk
        exact (Option.some.inj hk).symm

theorem wpList_append_bs {ops : Array Oper} {rest : List Oper} {o : Oper} {a : Act} {Q : Exit → Act → World → Prop} (hu : U8 P t e) (hgd : o.guard = none) (s x : Operand)
    (ho : o.op = .call { callee := .builtin .append, args := #[s, x], argTypes := #[t, t] })
    (hown : Own e w base v l) (hb : base ≤ w.heap.size) (hr : Bs S w A c m) (n : Nat) (hn : n = l.length + m.length) (hs : a.eval s = v) (hx : a.eval x = .slice A m.length c) (hlen : n ≤ 140737488355328)
    (h : ∀ A' c' w', Own e w' base (.slice A' n c') (l ++ m) → Mod (At v) w w' → (∀ k, At (.slice A' n c') k → At v k ∨ k = w.heap.size) → wpList P ops Q rest (a.put o.dst (.slice A' n c')) w') : wpList P ops Q (o :: rest) a w := by
  refine wpList_plain hgd fun K hK => ?_
  obtain ⟨v', w', hrun, h2, h3, h4⟩ := run_append_bs (P := P) (ty := o.type) hu hown hb hr (by omega)
  obtain ⟨A', c', rfl, _⟩ := h2.form
  rw [List.length_append, ← hn] at h2 hrun h4
  unfold Oper.wp execOp
  simp only [ho, resolve, invoke, builtin, Sem.run_bind, Sem.run_pure, Result.andThen_ok, List.map_toArray, List.map_cons, List.map_nil, hs, hx, hrun]
  exact hK _ _ (h A' c' w' h2 h3 h4)
end appends

end Go.Proofs.YtfalllekhcocgaaDoor
