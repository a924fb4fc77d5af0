/-
  Words · Sign · Wide1 · Wide2 · Wide3
-/
import Derived.WalkKit
import Derived.WalkSpells
import Derived.Maps.AppendAt
import Derived.Great.BuildSlice
import Derived.Deep.AppendLies
import Derived.Lib.SlBytesConst
import Derived.Deep.Draws
import Derived.Test.YtmamedobphlpkaaDoorRows
import Derived.Laws.Externs
import Derived.Deep.RegionHeld3
set_option linter.unusedSimpArgs false
set_option linter.unusedVariables false

namespace Go.Proofs.YtmamedobphlpkaaDoor
open Go.RowKit

/-- a fact that the walk does not look into -/
theorem hid {p : Prop} (h : p) : Hid p := h

/-! ## What a call may change -/

/-- Of the blocks that were there only those of S may have changed. -/
structure Mod (S : Nat → Prop) (w w' : World) : Prop where
  os : w'.os = w.os
  tape : w'.tape = w.tape
  output : w'.output = w.output
  size : w.heap.size ≤ w'.heap.size
  block : ∀ k, k < w.heap.size → ¬ S k → w'.heap[k]? = w.heap[k]?

/-- no block -/
abbrev Nil : Nat → Prop := fun _ => False
/-- this one block -/
abbrev One (g : Nat) : Nat → Prop := fun k => k = g
/-- the blocks that a slice's value names -/
def At (v : Value) : Nat → Prop := fun k => v.ownBlock = some k

theorem At.none {n c k : Nat} : ¬ At (.slice none n c) k := by
  unfold At Value.ownBlock
  intro h; cases h

section mods
variable {S T : Nat → Prop} {w w' a b c : World}
theorem Mod.refl (S : Nat → Prop) (w : World) : Mod S w w := ⟨rfl, rfl, rfl, Nat.le_refl _, fun _ _ _ => rfl⟩
theorem Mod.trans (h : Mod S a b) (k : Mod T b c) (hT : ∀ i, i < a.heap.size → T i → S i) : Mod S a c :=
  ⟨k.os.trans h.os, k.tape.trans h.tape, k.output.trans h.output, Nat.le_trans h.size k.size,
    fun i hi hn => (k.block i (Nat.lt_of_lt_of_le hi h.size) (fun ht => hn (hT i hi ht))).trans (h.block i hi hn)⟩
theorem Mod.same (h : Mod S a b) (k : Mod S b c) : Mod S a c := h.trans k fun _ _ hi => hi
theorem Mod.of_below (h : Below a.heap.size a b) (S : Nat → Prop) : Mod S a b := ⟨h.os, h.tape, h.output, h.size, fun i hi _ => h.block i hi⟩
theorem Mod.below (h : Mod S a b) {B : Nat} (hB : B ≤ a.heap.size) (hS : ∀ k, S k → B ≤ k) : Below B a b :=
  ⟨h.os, h.tape, h.output, h.size, fun i hi => h.block i (by omega) (fun hs => by have := hS i hs; omega)⟩
theorem Mod.drew (h : Mod S a b) : Mod S a b.drew := ⟨h.os, h.tape, h.output, h.size, h.block⟩
theorem Mod.drewN (h : Mod S a b) (n : Nat) : Mod S a (b.drewN n) := ⟨h.os, h.tape, h.output, h.size, h.block⟩
theorem Mod.alloc (h : Mod S a b) (o : Obj) : Mod S a (b.alloc o) :=
  h.trans (T := Nil) ⟨rfl, rfl, rfl, by simp, fun k hk _ => Below.heap_alloc b o k hk⟩ (fun _ _ hf => hf.elim)
theorem Mod.setCell (h : Mod S a b) {p : Addr} (hp : p.block < a.heap.size → S p.block) (u : Value) : Mod S a (b.setCell p u) :=
  h.trans (T := One p.block) ⟨rfl, rfl, rfl, by simp [World.setCell], fun k _ hn => Below.heap_setCell b p u k hn⟩ (fun i hi e => by subst e; exact hp hi)
theorem Mod.one (w : World) (g i : Nat) (u : Value) : Mod (One g) w (w.setCell ⟨g, i, none⟩ u) := Mod.setCell (p := ⟨g, i, none⟩) (Mod.refl (One g) w) (fun _ => rfl) u
theorem Mod.cell (h : Mod S w w') {p : Addr} (hp : p.block < w.heap.size) (hn : ¬ S p.block) : w'.cell? p = w.cell? p := World.cell?_of_block (w := w) (h.block p.block hp hn)
theorem Mod.frozen (h : Mod S w w') {p : Addr} (hp : p.block < w.heap.size) (hn : ¬ S p.block) : w'.frozen? p = w.frozen? p := World.frozen?_of_block (w := w) (h.block p.block hp hn)
end mods

/-- Below block B nothing has changed since w, and there are B blocks. -/
structure Up (B : Nat) (w a : World) : Prop where
  below : Below B w a
  size : B ≤ a.heap.size
section ups
variable {B : Nat} {w a b : World} {S : Nat → Prop}
theorem Up.refl (w : World) : Up w.heap.size w w := ⟨Below.refl _ _, Nat.le_refl _⟩
theorem Up.alloc (h : Up B w a) (o : Obj) : Up B w (a.alloc o) := ⟨h.below.alloc h.size o, Nat.le_trans h.size (by simp)⟩
theorem Up.drew (h : Up B w a) : Up B w a.drew := ⟨h.below.drew, h.size⟩
theorem Up.drewN (h : Up B w a) (n : Nat) : Up B w (a.drewN n) := ⟨⟨h.below.os, h.below.tape, h.below.output, h.below.size, h.below.block⟩, h.size⟩
theorem Up.trans (h : Up B w a) (k : Below a.heap.size a b) : Up B w b := ⟨h.below.trans (k.mono h.size), Nat.le_trans h.size k.size⟩
theorem Up.mod (h : Up B w a) (k : Mod S a b) (hS : ∀ i, S i → B ≤ i) : Up B w b := ⟨h.below.trans (k.below h.size hS), Nat.le_trans h.size k.size⟩
theorem Up.one (h : Up B w a) {p : Nat} (k : Mod (One p) a b) (hp : B ≤ p) : Up B w b := h.mod k (fun i e => by unfold One at e; omega)
theorem Up.setCell (h : Up B w a) {p i : Nat} (hp : B ≤ p) (v : Value) : Up B w (a.setCell ⟨p, i, none⟩ v) := h.one (Mod.one a p i v) hp
end ups

/-! ## A block that is known whole -/

/-- Block g is the cells cs, of element type t, none of them frozen. -/
def Row (w : World) (g : Nat) (t : TypeId) (cs : Array Value) : Prop := w.heap[g]? = some (.cells cs t (0, 0))

section rows
variable {S : Nat → Prop} {w w' : World} {g : Nat} {t : TypeId} {cs : Array Value}
theorem Row.lt (h : Row w g t cs) : g < w.heap.size := (Array.getElem?_eq_some_iff.1 h).1
theorem Row.cell (h : Row w g t cs) (i : Nat) : w.cell? ⟨g, i, none⟩ = cs[i]? := cell_of_row w g i cs t (0, 0) h
theorem Row.frozen (h : Row w g t cs) (i : Nat) : w.frozen? ⟨g, i, none⟩ = false := by
  unfold Row at h; simp [World.frozen?, h]
theorem Row.new (w : World) (t : TypeId) (cs : Array Value) : Row (w.alloc (.cells cs t)) w.heap.size t cs := heap_alloc_new w _
theorem Row.mod (h : Row w g t cs) (hm : Mod S w w') (hn : ¬ S g) : Row w' g t cs := (hm.block g h.lt hn).trans h
theorem Row.below {B : Nat} (h : Row w g t cs) (hb : Below B w w') (hg : g < B) : Row w' g t cs := (hb.block g hg).trans h
theorem Row.alloc (h : Row w g t cs) (o : Obj) : Row (w.alloc o) g t cs := (Below.heap_alloc w o g h.lt).trans h
theorem Row.drew (h : Row w g t cs) : Row w.drew g t cs := h
theorem Row.set (h : Row w g t cs) (i : Nat) (u : Value) : Row (w.setCell ⟨g, i, none⟩ u) g t (cs.setIfInBounds i u) := by
  unfold Row at h ⊢; simp [World.setCell, Array.getElem?_modify, h]
theorem Row.far (h : Row w g t cs) {p : Addr} (hp : g ≠ p.block) (u : Value) : Row (w.setCell p u) g t cs := (Below.heap_setCell w p u g hp).trans h
end rows

/-! ## A slice that reads as bytes -/

/-- A byte as a cell. -/
def u8v (b : UInt8) : Value := .int .u8 (b.toNat : Int)
def u8s (l : List UInt8) : List Value := l.map u8v
theorem u8s_length (l : List UInt8) : (u8s l).length = l.length := by simp [u8s]
/-- The slice '.slice A l.length c' reads as the bytes l; if there are any they lie in a block of S. -/
def Bs (S : Nat → Prop) (w : World) (A : Option Addr) (c : Nat) (l : List UInt8) : Prop :=
  l.length ≤ c ∧ c ≤ maxLen ∧ (0 < l.length → ∃ g o, A = some ⟨g, o, none⟩ ∧ S g ∧ ∀ j b, l[j]? = some b → w.cell? ⟨g, o + j, none⟩ = some (u8v b))

section bss
variable {S T : Nat → Prop} {w w' : World} {A : Option Addr} {c : Nat} {l : List UInt8}
theorem Bs.nil (S : Nat → Prop) (w : World) (A : Option Addr) {c : Nat} (hc : c ≤ maxLen) : Bs S w A c [] := ⟨by simp, hc, fun h => absurd h (by simp)⟩
theorem Bs.at_ (h : Bs S w A c l) {j : Nat} {b : UInt8} (hj : l[j]? = some b) : ∃ g o, A = some ⟨g, o, none⟩ ∧ S g ∧ w.cell? ⟨g, o + j, none⟩ = some (u8v b) := by
  have hlt := (List.getElem?_eq_some_iff.1 hj).1
  obtain ⟨g, o, e, hs, hc⟩ := h.2.2 (by omega)
  exact ⟨g, o, e, hs, hc j b hj⟩
theorem Bs.keep (h : Bs S w A c l) (hk : ∀ p : Addr, S p.block → w.cell? p ≠ none → w'.cell? p = w.cell? p) : Bs S w' A c l :=
  ⟨h.1, h.2.1, fun hn => by
    obtain ⟨g, o, e, hs, hc⟩ := h.2.2 hn
    exact ⟨g, o, e, hs, fun j b hj => (hk _ hs (by rw [hc j b hj]; simp)).trans (hc j b hj)⟩⟩
theorem Bs.mod (h : Bs S w A c l) (hm : Mod T w w') (hn : ∀ k, S k → ¬ T k) : Bs S w' A c l :=
  h.keep fun p hp hs => by
    cases hx : w.cell? p with
    | none => exact absurd hx hs
    | some v => rw [hm.cell (World.block_lt_of_cell? w p hx) (hn _ hp), hx]
theorem Bs.below {B : Nat} (h : Bs S w A c l) (hb : Below B w w') (hS : ∀ k, S k → k < B) : Bs S w' A c l := h.keep fun _ hp _ => hb.cell (hS _ hp)
theorem Bs.old (h : Bs S w A c l) (hb : Below w.heap.size w w') : Bs S w' A c l := h.mod (Mod.of_below hb Nil) (fun _ _ hf => hf)
/-- 's[k:]' -/
theorem Bs.drop (h : Bs S w A c l) {k : Nat} (hk : k ≤ l.length) : Bs S w (if c = k then A else A.map (·.add k)) (c - k) (l.drop k) := by
  have h1 := h.1
  refine ⟨by rw [List.length_drop]; omega, by have := h.2.1; omega, fun hn => ?_⟩
  rw [List.length_drop] at hn
  obtain ⟨g, o, rfl, hs, hc⟩ := h.2.2 (by omega)
  rw [if_neg (by omega)]
  refine ⟨g, o + k, by simp [Addr.add_lit], hs, fun j b hj => ?_⟩
  rw [Nat.add_assoc]
  exact hc _ _ (by rw [← hj, List.getElem?_drop])
/-- 's[:k]' -/
theorem Bs.take (h : Bs S w A c l) {k : Nat} (_hk : k ≤ l.length) : Bs S w A c (l.take k) := by
  have h1 := h.1
  refine ⟨by rw [List.length_take]; omega, h.2.1, fun hn => ?_⟩
  rw [List.length_take] at hn
  obtain ⟨g, o, rfl, hs, hc⟩ := h.2.2 (by omega)
  refine ⟨g, o, rfl, hs, fun j b hj => hc j b ?_⟩
  have hlt := (List.getElem?_eq_some_iff.1 hj).1
  rw [List.length_take] at hlt
  rwa [List.getElem?_take, if_pos (by omega)] at hj
end bss

/-! ## A slice of bytes of one's own -/

/-- e: the element type's number. The slice v is one's own, from block base on, and reads as l. -/
def Own (e : TypeId) (w : World) (base : Nat) (v : Value) (l : List UInt8) : Prop := w.ownsRow base e 1 v l.length (u8s l)

section owns
variable {S : Nat → Prop} {e : TypeId} {w w' : World} {base : Nat} {v : Value} {l : List UInt8}
theorem Own.nil (e : TypeId) (w : World) (base : Nat) : Own e w base (.slice none 0 0) [] := World.ownsRow_nil _ _ _ _
theorem Own.form (h : Own e w base v l) : ∃ A c, v = .slice A l.length c ∧ Bs (At v) w A c l := by
  have hh := h.2
  rcases hh with ⟨hv, hn⟩ | ⟨g, cap, cur, hv, hb, hg, hnc, hm, hs, ht⟩
  · have hl : l = [] := List.eq_nil_of_length_eq_zero hn
    subst hl
    exact ⟨none, 0, hv, Bs.nil _ _ _ (by simp [maxLen])⟩
  · refine ⟨some ⟨g, 0, none⟩, cap, hv, hnc, hm, fun _ => ⟨g, 0, rfl, by rw [hv]; rfl, fun j b hj => ?_⟩⟩
    have := h.cells (g := g) (by rw [hv]; rfl) j (u8v b) (by simp [u8s, hj])
    rwa [Addr.add_lit] at this
/-- where something is owned: its block, its cells, none frozen -/
theorem Own.block (h : Own e w base v l) (hn : 0 < l.length) : ∃ g c, v = .slice (some ⟨g, 0, none⟩) l.length c ∧ base ≤ g ∧ g < w.heap.size ∧ l.length ≤ c ∧ c ≤ maxLen ∧ (∀ j b, l[j]? = some b → w.cell? ⟨g, j, none⟩ = some (u8v b)) ∧ ∀ j, w.frozen? ⟨g, j, none⟩ = false := by
  rcases h.2 with ⟨_, h0⟩ | ⟨g, cap, cur, hv, hb, hg, hnc, hm, hs, ht⟩
  · omega
  · refine ⟨g, cap, hv, hb, (Array.getElem?_eq_some_iff.1 hg).1, hnc, hm, fun j b hj => ?_, fun j => Row.frozen (t := e) hg j⟩
    have := h.cells (g := g) (by rw [hv]; rfl) j (u8v b) (by simp [u8s, hj])
    rwa [Addr.add_lit, Nat.zero_add] at this
/-- a byte of it is written -/
theorem Own.set {g c k : Nat} (h : Own e w base (.slice (some ⟨g, 0, none⟩) l.length c) l) (b : UInt8) : Own e (w.setCell ⟨g, k, none⟩ (u8v b)) base (.slice (some ⟨g, 0, none⟩) (l.set k b).length c) (l.set k b) := by
  refine ⟨by rw [u8s_length]; omega, ?_⟩
  rcases h.2 with ⟨hh, _⟩ | ⟨g', cap, cur, hv, hb, hg, hnc, hm, hs, ht⟩
  · cases hh
  · simp only [Value.slice.injEq, Option.some.injEq, Addr.mk.injEq] at hv
    obtain ⟨⟨rfl, _⟩, _, rfl⟩ := hv
    refine .inr ⟨g, c, cur.setIfInBounds k (u8v b), by simp, hb, Row.set (t := e) hg k _, by simpa using hnc, hm, by simpa using hs, ?_⟩
    rw [Nat.mul_one] at ht ⊢
    rw [List.length_set]
    unfold u8s at ht ⊢
    rw [List.map_set, ← ht]
    simp [List.take_set]
theorem Own.lt (h : Own e w base v l) : ∀ k, At v k → base ≤ k ∧ k < w.heap.size := fun k hk => World.ownsRow.lt h k hk
theorem Own.mod (h : Own e w base v l) (hm : Mod S w w') (hn : ∀ k, At v k → ¬ S k) : Own e w' base v l := by
  refine ⟨h.1, ?_⟩
  rcases h.2 with hh | ⟨g, cap, cur, hv, hb, hg, r⟩
  · exact .inl hh
  · exact .inr ⟨g, cap, cur, hv, hb, (hm.block g (Array.getElem?_eq_some_iff.1 hg).1 (hn g (by rw [hv]; rfl))).trans hg, r⟩
theorem Own.old (h : Own e w base v l) (hb : Below w.heap.size w w') : Own e w' base v l := h.mod (Mod.of_below hb Nil) (fun _ _ hf => hf)
end owns

/-- What the table says of bytes (t: the slice's type, e: the byte's). -/
structure U8 (P : Program) (t e : TypeId) : Prop where
  ht : P.underlying t = some (.slice e)
  he : P.underlying e = some (.int .u8)
  info : (P.info? e).map (fun i => (i.zero, i.size, i.bytes)) = some (some (.int .u8 0), 1, 1)

section cuts
variable {P : Program} {S : Nat → Prop} {t e : TypeId} {w : World} {c : Nat} {l : List UInt8} {A : Option Addr}
theorem U8.elem (hu : U8 P t e) : P.elem t = e := by simp [Program.elem, hu.ht]
theorem U8.size (hu : U8 P t e) (W : World) : (sizeOf e).run P W = .ok 1 W := by
  obtain ⟨i, hi, hz0, hz1, hz2⟩ := info_parts hu.info
  simp [sizeOf, typeInfo, hi, hz1]
end cuts

section appends
variable {P : Program} {S : Nat → Prop} {t ty e : TypeId} {w : World} {base c : Nat} {v : Value} {l m : List UInt8} {A : Option Addr}

end appends

end Go.Proofs.YtmamedobphlpkaaDoor

namespace Go.Proofs.YtmamedobphlpkaaDoor
open Go.RowKit

/-- a number that has a place in 128 bits -/
def Fits (x : Int) : Prop := -170141183460469231731687303715884105728 ≤ x ∧ x < 170141183460469231731687303715884105728
instance (x : Int) : Decidable (Fits x) := by unfold Fits; infer_instance
/-- as the program holds it -/
def WV (x : Int) : Value := .agg #[.int .i64 (x / 18446744073709551616), .int .u64 (x % 18446744073709551616)]
/-- how great a number is, as the program holds it -/
def UV (m : Int) : Value := .agg #[.int .u64 (m / 18446744073709551616), .int .u64 (m % 18446744073709551616)]
/-- a size that has a place -/
def Big (m : Int) : Prop := 0 ≤ m ∧ m < 340282366920938463463374607431768211456
/-- what a function answers of an exact number -/
def resV (z : Int) : Value := if Fits z then .tuple #[WV z, .int .i64 0] else .tuple #[WV 0, .int .i64 20]
theorem resV_fit {z : Int} (h : Fits z) : resV z = .tuple #[WV z, .int .i64 0] := if_pos h
theorem resV_over {z : Int} (h : ¬ Fits z) : resV z = .tuple #[WV 0, .int .i64 20] := if_neg h

theorem WV_words {hi lo : Int} (h0 : 0 ≤ lo) (h1 : lo < 18446744073709551616) : WV (hi * 18446744073709551616 + lo) = .agg #[.int .i64 hi, .int .u64 lo] := by
  unfold WV
  rw [show (hi * 18446744073709551616 + lo) / 18446744073709551616 = hi by omega, show (hi * 18446744073709551616 + lo) % 18446744073709551616 = lo by omega]
theorem UV_words {hi lo : Int} (h0 : 0 ≤ lo) (h1 : lo < 18446744073709551616) : UV (hi * 18446744073709551616 + lo) = .agg #[.int .u64 hi, .int .u64 lo] := by
  unfold UV
  rw [show (hi * 18446744073709551616 + lo) / 18446744073709551616 = hi by omega, show (hi * 18446744073709551616 + lo) % 18446744073709551616 = lo by omega]
/-! ## Signs -/
theorem ofInt_wrap (v : BitVec 64) : BitVec.ofInt 64 (IntKind.i64.wrap (v.toNat : Int)) = v := by
  apply BitVec.eq_of_toNat_eq
  have h := v.isLt
  rw [BitVec.toNat_ofInt, IntKind.wrap_i64]
  omega
theorem wrap_neg (v : BitVec 64) : IntKind.i64.wrap (v.toNat : Int) < 0 ↔ v.msb = true := by
  have h := v.isLt
  rw [BitVec.msb_eq_decide, IntKind.wrap_i64, decide_eq_true_iff]
  omega
theorem msb_of (a : Int) (h0 : -9223372036854775808 ≤ a) (h1 : a < 9223372036854775808) : (BitVec.ofInt 64 a).msb = decide (a < 0) := by
  rw [BitVec.msb_eq_decide, BitVec.toNat_ofInt]
  by_cases h : a < 0
  · rw [decide_eq_true h]
    apply decide_eq_true
    omega
  · rw [decide_eq_false h]
    apply decide_eq_false
    omega
theorem ofInt_xor (a b : Int) : BitVec.ofInt 64 (bits .xor .i64 a b) = BitVec.ofInt 64 a ^^^ BitVec.ofInt 64 b := ofInt_wrap _
/-- '(a ^ c) & (b ^ d) < 0' -/
theorem sign_two (a b c d : Int) (ha : -9223372036854775808 ≤ a ∧ a < 9223372036854775808) (hb : -9223372036854775808 ≤ b ∧ b < 9223372036854775808) (hc : -9223372036854775808 ≤ c ∧ c < 9223372036854775808) (hd : -9223372036854775808 ≤ d ∧ d < 9223372036854775808) :
    bits .and .i64 (bits .xor .i64 a c) (bits .xor .i64 b d) < 0 ↔ ((a < 0 ↔ ¬ c < 0) ∧ (b < 0 ↔ ¬ d < 0)) := by
  show IntKind.i64.wrap ((BitVec.ofInt 64 (bits .xor .i64 a c) &&& BitVec.ofInt 64 (bits .xor .i64 b d)).toNat : Int) < 0 ↔ _
  rw [wrap_neg, ofInt_xor, ofInt_xor, BitVec.msb_and, BitVec.msb_xor, BitVec.msb_xor, msb_of a ha.1 ha.2, msb_of b hb.1 hb.2, msb_of c hc.1 hc.2, msb_of d hd.1 hd.2]
  by_cases h1 : a < 0 <;> by_cases h2 : b < 0 <;> by_cases h3 : c < 0 <;> by_cases h4 : d < 0 <;> simp [h1, h2, h3, h4]
theorem or_pos (a b : Int) (ha : 0 ≤ a) (ha' : a < 18446744073709551616) (hb : 0 ≤ b) (hb' : b < 18446744073709551616) : 0 < bits .or .u64 a b ↔ ¬ (a = 0 ∧ b = 0) := by
  obtain ⟨a, rfl⟩ := Int.eq_ofNat_of_zero_le ha
  obtain ⟨b, rfl⟩ := Int.eq_ofNat_of_zero_le hb
  have hx : a ||| b < 2 ^ 64 := Nat.or_lt_two_pow (by omega) (by omega)
  have e : bits .or .u64 (a : Int) (b : Int) = ((a ||| b : Nat) : Int) := by
    show IntKind.u64.wrap ((BitVec.ofInt 64 (a : Int) ||| BitVec.ofInt 64 (b : Int)).toNat : Int) = _
    rw [BitVec.toNat_or, BitVec.ofInt_natCast, BitVec.ofInt_natCast, BitVec.toNat_ofNat, BitVec.toNat_ofNat, Nat.mod_eq_of_lt (by omega), Nat.mod_eq_of_lt (by omega)]
    simp [IntKind.wrap, IntKind.signed, IntKind.bits]
    omega
  rw [e]
  have h1 := @Nat.left_le_or a b
  have h2 := @Nat.right_le_or a b
  constructor
  · rintro h ⟨h3, h4⟩
    have h3 : a = 0 := by omega
    have h4 : b = 0 := by omega
    subst h3; subst h4
    simp at h
  · intro h
    have : a ≠ 0 ∨ b ≠ 0 := by omega
    omega
end Go.Proofs.YtmamedobphlpkaaDoor

namespace Go.Proofs.YtmamedobphlpkaaDoor
open Go.RowKit

/-! ## The carry's two functions -/
def sub64E : Array Value → Sem Value := fun args => do
  let (x, y, b) ← Extern.MathBitsCarry.three "Sub64" args
  pure (Extern.MathBitsCarry.pair ((x + Extern.MathBitsCarry.m64 - y - b) % Extern.MathBitsCarry.m64) (if x < y + b then 1 else 0))
theorem run_sub64E {P : Program} (x y b : Nat) (hb : b ≤ 1) (w : World) :
    (sub64E #[.int .u64 x, .int .u64 y, .int .u64 b]).run P w =
      .ok (.tuple #[.int .u64 (((x + 18446744073709551616 - y - b) % 18446744073709551616 : Nat) : Int), .int .u64 ((if x < y + b then 1 else 0 : Nat) : Int)]) w := by
  have : b = 0 ∨ b = 1 := by omega
  rcases this with rfl | rfl <;> rfl

theorem add64 (x y c : Int) (hx : 0 ≤ x) (hy : 0 ≤ y) (hc0 : 0 ≤ c) (hc : c ≤ 1) (w : World) : (callFunc 57 #[.int .u64 x, .int .u64 y, .int .u64 c]).run Tryd.prog w =
    .ok (.value (.tuple #[.int .u64 ((x + y + c) % 18446744073709551616), .int .u64 ((x + y + c) / 18446744073709551616)])) w := by
  rw [run_callFunc_extern Tryd.func57 (by kernel_rfl) (by kernel_rfl) (by kernel_rfl) (e := add64Entry) (by kernel_rfl), run_add64 x y c hx hy hc0 hc]
  rfl
theorem sub64 (x y b : Int) (hx : 0 ≤ x) (hy : 0 ≤ y) (hy' : y < 18446744073709551616) (hb0 : 0 ≤ b) (hb : b ≤ 1) (hx' : x < 18446744073709551616) (w : World) : (callFunc 56 #[.int .u64 x, .int .u64 y, .int .u64 b]).run Tryd.prog w =
    .ok (.value (.tuple #[.int .u64 ((x - y - b) % 18446744073709551616), .int .u64 (-((x - y - b) / 18446744073709551616))])) w := by
  obtain ⟨x, rfl⟩ := Int.eq_ofNat_of_zero_le hx
  obtain ⟨y, rfl⟩ := Int.eq_ofNat_of_zero_le hy
  obtain ⟨b, rfl⟩ := Int.eq_ofNat_of_zero_le hb0
  rw [run_callFunc_extern Tryd.func56 (by kernel_rfl) (by kernel_rfl) (by kernel_rfl) (e := sub64E) (by kernel_rfl), run_sub64E x y b (by omega)]
  have e1 : (((x + 18446744073709551616 - y - b) % 18446744073709551616 : Nat) : Int) = ((x : Int) - y - b) % 18446744073709551616 := by omega
  have e2 : ((if x < y + b then 1 else 0 : Nat) : Int) = -(((x : Int) - y - b) / 18446744073709551616) := by split <;> omega
  rw [e1, e2]
  rfl

/-! ## Add, Sub, Neg -/
set_option maxHeartbeats 1000000 in
theorem add_words (w : World) (ah al bh bl : Int) (h1 : -9223372036854775808 ≤ ah ∧ ah < 9223372036854775808) (h2 : 0 ≤ al ∧ al < 18446744073709551616) (h3 : -9223372036854775808 ≤ bh ∧ bh < 9223372036854775808) (h4 : 0 ≤ bl ∧ bl < 18446744073709551616) :
    Calls Tryd.prog 30 #[.agg #[.int .i64 ah, .int .u64 al], .agg #[.int .i64 bh, .int .u64 bl]] w fun e w' =>
      e = .returned (resV (ah * 18446744073709551616 + al + (bh * 18446744073709551616 + bl))) ∧ Below w.heap.size w w' := by
  have hA := fun w => add64 al bl 0 h2.1 h4.1 (Int.le_refl 0) (by decide) w
  rw [Int.add_zero] at hA
  obtain ⟨s, hs⟩ : ∃ s, s = (al + bl) % 18446744073709551616 := ⟨_, rfl⟩
  obtain ⟨c, hc⟩ : ∃ c, c = (al + bl) / 18446744073709551616 := ⟨_, rfl⟩
  obtain ⟨t, ht⟩ : ∃ t, t = IntKind.i64.wrap (ah + bh) := ⟨_, rfl⟩
  obtain ⟨r, hr⟩ : ∃ r, r = IntKind.i64.wrap (t + c) := ⟨_, rfl⟩
  rw [← hs, ← hc] at hA
  have ht' := ht
  have hr' := hr
  rw [IntKind.wrap_i64] at ht' hr'
  have hrr : -9223372036854775808 ≤ r ∧ r < 9223372036854775808 := by omega
  have hcw : IntKind.i64.wrap c = c := by rw [IntKind.wrap_i64]; omega
  have hsg := sign_two ah bh r r h1 h3 hrr hrr
  have hsum : resV (ah * 18446744073709551616 + al + (bh * 18446744073709551616 + bl)) = if bits .and .i64 (bits .xor .i64 ah r) (bits .xor .i64 bh r) < 0 then .tuple #[.agg #[.int .i64 0, .int .u64 0], .int .i64 20] else .tuple #[.agg #[.int .i64 r, .int .u64 s], .int .i64 0] := by
    by_cases hf : Fits (ah * 18446744073709551616 + al + (bh * 18446744073709551616 + bl))
    · rw [resV_fit hf]
      unfold Fits at hf
      rw [if_neg (by rw [hsg]; omega), show ah * 18446744073709551616 + al + (bh * 18446744073709551616 + bl) = r * 18446744073709551616 + s by omega, WV_words (by omega) (by omega)]
    · rw [resV_over hf]
      unfold Fits at hf
      rw [if_pos (by rw [hsg]; omega)]
      rfl
  rw [hsum]
  clear hsg hsum ht' hr' hrr
  have HS := hid hs
  have HC := hid hc
  clear hs hc
  have hts := ht.symm
  have hrs := hr.symm
  clear ht hr h1 h2 h3 h4
  by_cases hn : bits .and .i64 (bits .xor .i64 ah r) (bits .xor .i64 bh r) < 0
  · rw [if_pos hn]
    go_enter Tryd.func30, Tryd.ntmps30
    go_wp2
    simp [bodyPost, results, Tryd.results30, go_sem]
    exact ((((Up.refl w).alloc _).alloc _).alloc _).below
  · rw [if_neg hn]
    go_enter Tryd.func30, Tryd.ntmps30
    go_wp2
    simp [bodyPost, results, Tryd.results30, go_sem]
    exact ((((Up.refl w).alloc _).alloc _).alloc _).below

theorem WV_of {x : Int} (h : Fits x) : ∃ hi lo : Int, WV x = .agg #[.int .i64 hi, .int .u64 lo] ∧ x = hi * 18446744073709551616 + lo ∧ (-9223372036854775808 ≤ hi ∧ hi < 9223372036854775808) ∧ (0 ≤ lo ∧ lo < 18446744073709551616) := by
  unfold Fits at h
  exact ⟨_, _, rfl, by omega, by omega, by omega⟩
theorem UV_of {m : Int} (h : Big m) : ∃ hi lo : Int, UV m = .agg #[.int .u64 hi, .int .u64 lo] ∧ m = hi * 18446744073709551616 + lo ∧ (0 ≤ hi ∧ hi < 18446744073709551616) ∧ (0 ≤ lo ∧ lo < 18446744073709551616) := by
  unfold Big at h
  exact ⟨_, _, rfl, by omega, by omega, by omega⟩

theorem add_any (w : World) (x y : Int) (hx : Fits x) (hy : Fits y) : Calls Tryd.prog 30 #[WV x, WV y] w fun e w' => e = .returned (resV (x + y)) ∧ Below w.heap.size w w' := by
  obtain ⟨ah, al, e1, rfl, h1, h2⟩ := WV_of hx
  obtain ⟨bh, bl, e2, rfl, h3, h4⟩ := WV_of hy
  rw [e1, e2]
  exact add_words w ah al bh bl h1 h2 h3 h4

set_option maxHeartbeats 1000000 in
theorem sub_words (w : World) (ah al bh bl : Int) (h1 : -9223372036854775808 ≤ ah ∧ ah < 9223372036854775808) (h2 : 0 ≤ al ∧ al < 18446744073709551616) (h3 : -9223372036854775808 ≤ bh ∧ bh < 9223372036854775808) (h4 : 0 ≤ bl ∧ bl < 18446744073709551616) :
    Calls Tryd.prog 29 #[.agg #[.int .i64 ah, .int .u64 al], .agg #[.int .i64 bh, .int .u64 bl]] w fun e w' =>
      e = .returned (resV (ah * 18446744073709551616 + al - (bh * 18446744073709551616 + bl))) ∧ Below w.heap.size w w' := by
  have hA := fun w => sub64 al bl 0 h2.1 h4.1 h4.2 (Int.le_refl 0) (by decide) h2.2 w
  rw [Int.sub_zero] at hA
  obtain ⟨s, hs⟩ : ∃ s, s = (al - bl) % 18446744073709551616 := ⟨_, rfl⟩
  obtain ⟨c, hc⟩ : ∃ c, c = -((al - bl) / 18446744073709551616) := ⟨_, rfl⟩
  obtain ⟨t, ht⟩ : ∃ t, t = IntKind.i64.wrap (ah - bh) := ⟨_, rfl⟩
  obtain ⟨r, hr⟩ : ∃ r, r = IntKind.i64.wrap (t - c) := ⟨_, rfl⟩
  rw [← hs, ← hc] at hA
  have ht' := ht
  have hr' := hr
  rw [IntKind.wrap_i64] at ht' hr'
  have hrr : -9223372036854775808 ≤ r ∧ r < 9223372036854775808 := by omega
  have hcw : IntKind.i64.wrap c = c := by rw [IntKind.wrap_i64]; omega
  have hsg := sign_two ah ah bh r h1 h1 h3 hrr
  have hsum : resV (ah * 18446744073709551616 + al - (bh * 18446744073709551616 + bl)) = if bits .and .i64 (bits .xor .i64 ah bh) (bits .xor .i64 ah r) < 0 then .tuple #[.agg #[.int .i64 0, .int .u64 0], .int .i64 20] else .tuple #[.agg #[.int .i64 r, .int .u64 s], .int .i64 0] := by
    by_cases hf : Fits (ah * 18446744073709551616 + al - (bh * 18446744073709551616 + bl))
    · rw [resV_fit hf]
      unfold Fits at hf
      rw [if_neg (by rw [hsg]; omega), show ah * 18446744073709551616 + al - (bh * 18446744073709551616 + bl) = r * 18446744073709551616 + s by omega, WV_words (by omega) (by omega)]
    · rw [resV_over hf]
      unfold Fits at hf
      rw [if_pos (by rw [hsg]; omega)]
      rfl
  rw [hsum]
  clear hsg hsum ht' hr' hrr
  have HS := hid hs
  have HC := hid hc
  clear hs hc
  have hts := ht.symm
  have hrs := hr.symm
  clear ht hr h1 h2 h3 h4
  by_cases hn : bits .and .i64 (bits .xor .i64 ah bh) (bits .xor .i64 ah r) < 0
  · rw [if_pos hn]
    go_enter Tryd.func29, Tryd.ntmps29
    go_wp2
    simp [bodyPost, results, Tryd.results29, go_sem]
    exact ((((Up.refl w).alloc _).alloc _).alloc _).below
  · rw [if_neg hn]
    go_enter Tryd.func29, Tryd.ntmps29
    go_wp2
    simp [bodyPost, results, Tryd.results29, go_sem]
    exact ((((Up.refl w).alloc _).alloc _).alloc _).below

theorem sub_any (w : World) (x y : Int) (hx : Fits x) (hy : Fits y) : Calls Tryd.prog 29 #[WV x, WV y] w fun e w' => e = .returned (resV (x - y)) ∧ Below w.heap.size w w' := by
  obtain ⟨ah, al, e1, rfl, h1, h2⟩ := WV_of hx
  obtain ⟨bh, bl, e2, rfl, h3, h4⟩ := WV_of hy
  rw [e1, e2]
  exact sub_words w ah al bh bl h1 h2 h3 h4

/-- a variable of two words, written -/
theorem Row.two {w : World} {g : Nat} {t : TypeId} {x y : Value} (h : Row w g t #[x, y]) (u v : Value) :
    (w.setCell ⟨g, 0, none⟩ u).cell? ⟨g, 0, none⟩ = some u ∧ ((w.setCell ⟨g, 0, none⟩ u).setCell ⟨g, 1, none⟩ v).cell? ⟨g, 1, none⟩ = some v ∧ ((w.setCell ⟨g, 0, none⟩ u).setCell ⟨g, 1, none⟩ v).cell? ⟨g, 0, none⟩ = some u := by
  have h1 := h.set 0 u
  have h2 := h1.set 1 v
  exact ⟨by simpa using h1.cell 0, by simpa using h2.cell 1, by simpa using h2.cell 0⟩

theorem resV_form (z : Int) : ∃ a b k : Int, resV z = .tuple #[.agg #[.int .i64 a, .int .u64 b], .int .i64 k] := by
  unfold resV
  split <;> exact ⟨_, _, _, rfl⟩

theorem neg_any (w : World) (x : Int) (hx : Fits x) : Calls Tryd.prog 32 #[WV x] w fun e w' => e = .returned (resV (-x)) ∧ Below w.heap.size w w' := by
  obtain ⟨ah, al, e1, rfl, h1, h2⟩ := WV_of hx
  have hC := fun w => sub_words w 0 0 ah al (by decide) (by decide) h1 h2
  rw [show (0 : Int) * 18446744073709551616 + 0 - (ah * 18446744073709551616 + al) = -(ah * 18446744073709551616 + al) by omega] at hC
  rw [e1]
  obtain ⟨ra, rb, k, hr⟩ := resV_form (-(ah * 18446744073709551616 + al))
  rw [hr] at hC ⊢
  have HC := hid hC
  clear hC hr h1 h2 hx e1
  go_enter Tryd.func32, Tryd.ntmps32
  go_wp2_with fail
  refine Calls.mono (HC.out _) ?_; rintro e w' ⟨rfl, hb⟩
  have hR := (Row.new (w.alloc (.cells #[.int .i64 ah, .int .u64 al] 24)) 24 #[.int .i64 0, .int .u64 0]).mod (Mod.of_below hb Nil) (fun hf => hf)
  have c0 := hR.cell 0
  have c1 := hR.cell 1
  have f0 := hR.frozen 0
  have f1 := hR.frozen 1
  simp at c0 c1 f0 f1
  obtain ⟨d0, d1, _⟩ := hR.two (.int .i64 ra) (.int .u64 rb)
  simp at d0 d1
  go_wp2_with fail
  simp [bodyPost, results, Tryd.results32, go_sem, d0, d1]
  exact ((((((Up.refl w).alloc _).alloc _).trans hb).setCell (by simp) _).setCell (by simp) _).below

theorem of_any (w : World) (n : Int) (h : -9223372036854775808 ≤ n ∧ n < 9223372036854775808) : Calls Tryd.prog 65 #[.int .i64 n] w fun e w' => e = .returned (WV n) ∧ Below w.heap.size w w' := by
  have e : WV n = .agg #[.int .i64 (n / 18446744073709551616), .int .u64 (n % 18446744073709551616)] := rfl
  rw [e]
  by_cases hn : n < 0
  · rw [show n / 18446744073709551616 = -1 by omega]
    go_enter Tryd.func65, Tryd.ntmps65
    go_wp2
    simp [bodyPost, results, Tryd.results65, go_sem]
    refine ⟨⟨by omega, ?_⟩, ((Up.refl w).alloc _).below⟩
    first | (rw [IntKind.wrap_u64]) | omega
  · rw [show n / 18446744073709551616 = 0 by omega]
    go_enter Tryd.func65, Tryd.ntmps65
    go_wp2
    simp [bodyPost, results, Tryd.results65, go_sem]
    refine ⟨⟨by omega, ?_⟩, ((Up.refl w).alloc _).below⟩
    first | (rw [IntKind.wrap_u64]) | omega
end Go.Proofs.YtmamedobphlpkaaDoor

namespace Go.Proofs.YtmamedobphlpkaaDoor
open Go.RowKit

theorem alloc_size (w : World) (o : Obj) : (w.alloc o).heap.size = w.heap.size + 1 := by simp
/-- which of two is greater -/
def cmp3 (a b : Int) : Int := if a < b then -1 else if b < a then 1 else 0
theorem cmp3_lt {a b : Int} (h : a < b) : cmp3 a b = -1 := if_pos h
theorem cmp3_gt {a b : Int} (h : b < a) : cmp3 a b = 1 := by unfold cmp3; rw [if_neg (by omega), if_pos h]
theorem cmp3_eq (a : Int) : cmp3 a a = 0 := by unfold cmp3; rw [if_neg (by omega), if_neg (by omega)]
theorem cmp3_cases (a b : Int) : (a < b ∧ cmp3 a b = -1) ∨ (b < a ∧ cmp3 a b = 1) ∨ (a = b ∧ cmp3 a b = 0) := by
  rcases Int.lt_trichotomy a b with h | h | h
  · exact .inl ⟨h, cmp3_lt h⟩
  · subst h; exact .inr (.inr ⟨rfl, cmp3_eq a⟩)
  · exact .inr (.inl ⟨h, cmp3_gt h⟩)

theorem nanI (w : World) (x : Int) : Calls Tryd.prog 77 #[.int .i64 x] w fun e w' => e = .returned (.bool false) ∧ w = w' := by
  go_enter Tryd.func77, Tryd.ntmps77
  go_wp2
  go_ret
  simp
theorem nanU (w : World) (x : Int) : Calls Tryd.prog 78 #[.int .u64 x] w fun e w' => e = .returned (.bool false) ∧ w = w' := by
  go_enter Tryd.func78, Tryd.ntmps78
  go_wp2
  go_ret
  simp
theorem compareI (w : World) (a b : Int) : Calls Tryd.prog 59 #[.int .i64 a, .int .i64 b] w fun e w' => e = .returned (.int .i64 (cmp3 a b)) ∧ w = w' := by
  rcases cmp3_cases a b with ⟨h, e⟩ | ⟨h, e⟩ | ⟨h, e⟩
  · rw [e]
    go_enter Tryd.func59, Tryd.ntmps59
    go_wp2_with (go_at_call 77; refine (nanI _ _).mono ?_; rintro e w' ⟨rfl, rfl⟩)
    go_ret
    exact ⟨rfl, rfl⟩
  · rw [e]
    have h2 : ¬ a < b := by omega
    go_enter Tryd.func59, Tryd.ntmps59
    go_wp2_with (go_at_call 77; refine (nanI _ _).mono ?_; rintro e w' ⟨rfl, rfl⟩)
    go_ret
    exact ⟨rfl, rfl⟩
  · rw [e]
    subst h
    go_enter Tryd.func59, Tryd.ntmps59
    go_wp2_with (go_at_call 77; refine (nanI _ _).mono ?_; rintro e w' ⟨rfl, rfl⟩)
    go_ret
    exact ⟨rfl, rfl⟩
theorem compareU (w : World) (a b : Int) : Calls Tryd.prog 60 #[.int .u64 a, .int .u64 b] w fun e w' => e = .returned (.int .i64 (cmp3 a b)) ∧ w = w' := by
  rcases cmp3_cases a b with ⟨h, e⟩ | ⟨h, e⟩ | ⟨h, e⟩
  · rw [e]
    go_enter Tryd.func60, Tryd.ntmps60
    go_wp2_with (go_at_call 78; refine (nanU _ _).mono ?_; rintro e w' ⟨rfl, rfl⟩)
    go_ret
    exact ⟨rfl, rfl⟩
  · rw [e]
    have h2 : ¬ a < b := by omega
    go_enter Tryd.func60, Tryd.ntmps60
    go_wp2_with (go_at_call 78; refine (nanU _ _).mono ?_; rintro e w' ⟨rfl, rfl⟩)
    go_ret
    exact ⟨rfl, rfl⟩
  · rw [e]
    subst h
    go_enter Tryd.func60, Tryd.ntmps60
    go_wp2_with (go_at_call 78; refine (nanU _ _).mono ?_; rintro e w' ⟨rfl, rfl⟩)
    go_ret
    exact ⟨rfl, rfl⟩

/-- the first of two that is not 0 -/
theorem or_any (w : World) (g : Nat) (x y : Int) (h0 : w.cell? ⟨g, 0, none⟩ = some (.int .i64 x)) (h1 : w.cell? ⟨g, 1, none⟩ = some (.int .i64 y)) :
    Calls Tryd.prog 58 #[.slice (some ⟨g, 0, none⟩) 2 2] w fun e w' => e = .returned (.int .i64 (if x = 0 then y else x)) ∧ Below w.heap.size w w' := by
  go_enter Tryd.func58, Tryd.ntmps58
  go_wp2
  go_loopw [8] (fun i wr => ∃ k : Nat, k ≤ 2 ∧ i = .int .i64 k ∧ (1 ≤ k → x = 0) ∧ (2 ≤ k → y = 0) ∧ Below w.heap.size w wr) (fun i _ => 2 - (intOf i).toNat)
  case atStart => exact ⟨0, by omega, rfl, fun h => by omega, fun h => by omega, Below.refl _ _⟩
  case round =>
    obtain ⟨k, hk, rfl, hx, hy, hb⟩ := hrel
    have h0' : x = x → wr.cell? ⟨g, 0, none⟩ = some (.int .i64 x) := fun _ => (hb.cell (p := ⟨g, 0, none⟩) (World.block_lt_of_cell? _ _ h0)).trans h0
    have h1' : y = y → wr.cell? ⟨g, 1, none⟩ = some (.int .i64 y) := fun _ => (hb.cell (p := ⟨g, 1, none⟩) (World.block_lt_of_cell? _ _ h1)).trans h1
    have h0' := h0' rfl
    have h1' := h1' rfl
    rcases (show k = 0 ∨ k = 1 ∨ k = 2 by omega) with rfl | rfl | rfl
    · by_cases hz : x = 0
      · subst hz
        go_wp2
        go_roundw
        case rel => exact ⟨1, by omega, by go_num, fun _ => by trivial, fun h => by omega, hb⟩
        case measure => simp [intOf]
      · have hz' : ¬ 0 = x := fun h => hz h.symm
        go_wp2
        go_ret
        exact ⟨rfl, hb⟩
    · obtain rfl := hx (by omega)
      by_cases hz : y = 0
      · subst hz
        go_wp2
        go_roundw
        case rel => exact ⟨2, by omega, by go_num, fun _ => by trivial, fun _ => by trivial, hb⟩
        case measure => simp [intOf]
      · have hz' : ¬ 0 = y := fun h => hz h.symm
        go_wp2
        go_ret
        exact ⟨rfl, hb⟩
    · obtain rfl := hx (by omega)
      obtain rfl := hy (by omega)
      go_wp2
      go_ret
      exact ⟨rfl, hb⟩

/-! ## Sizes -/
theorem less_words (w : World) (mh ml nh nl : Int) (h1 : 0 ≤ mh ∧ mh < 18446744073709551616) (h2 : 0 ≤ ml ∧ ml < 18446744073709551616) (h3 : 0 ≤ nh ∧ nh < 18446744073709551616) (h4 : 0 ≤ nl ∧ nl < 18446744073709551616) :
    Calls Tryd.prog 92 #[.agg #[.int .u64 mh, .int .u64 ml], .agg #[.int .u64 nh, .int .u64 nl]] w fun e w' =>
      e = .returned (UV ((mh * 18446744073709551616 + ml - (nh * 18446744073709551616 + nl)) % 340282366920938463463374607431768211456)) ∧ Below w.heap.size w w' := by
  have hA := fun w => sub64 ml nl 0 h2.1 h4.1 h4.2 (Int.le_refl 0) (by decide) h2.2 w
  rw [Int.sub_zero] at hA
  obtain ⟨s, hs⟩ : ∃ s, s = (ml - nl) % 18446744073709551616 := ⟨_, rfl⟩
  obtain ⟨b, hb⟩ : ∃ b, b = -((ml - nl) / 18446744073709551616) := ⟨_, rfl⟩
  have hB := fun w => sub64 mh nh b h1.1 h3.1 h3.2 (by omega) (by omega) h1.2 w
  obtain ⟨r, hr⟩ : ∃ r, r = (mh - nh - b) % 18446744073709551616 := ⟨_, rfl⟩
  obtain ⟨b2, hb2⟩ : ∃ b2, b2 = -((mh - nh - b) / 18446744073709551616) := ⟨_, rfl⟩
  rw [← hs, ← hb] at hA
  rw [← hr, ← hb2] at hB
  rw [show (mh * 18446744073709551616 + ml - (nh * 18446744073709551616 + nl)) % 340282366920938463463374607431768211456 = r * 18446744073709551616 + s by omega, UV_words (by omega) (by omega)]
  clear hs hb hr hb2 h1 h2 h3 h4
  go_enter Tryd.func92, Tryd.ntmps92
  go_wp2
  simp [bodyPost, results, Tryd.results92, go_sem]
  exact ((((Up.refl w).alloc _).alloc _).alloc _).below

theorem turned_words (w : World) (mh ml : Int) (h1 : 0 ≤ mh ∧ mh < 18446744073709551616) (h2 : 0 ≤ ml ∧ ml < 18446744073709551616) :
    Calls Tryd.prog 74 #[.agg #[.int .u64 mh, .int .u64 ml]] w fun e w' =>
      e = .returned (UV ((-(mh * 18446744073709551616 + ml)) % 340282366920938463463374607431768211456)) ∧ Below w.heap.size w w' := by
  have hC := fun w => less_words w 0 0 mh ml (by decide) (by decide) h1 h2
  rw [show (0 : Int) * 18446744073709551616 + 0 - (mh * 18446744073709551616 + ml) = -(mh * 18446744073709551616 + ml) by omega] at hC
  obtain ⟨ra, rb, hr, _⟩ := UV_of (m := (-(mh * 18446744073709551616 + ml)) % 340282366920938463463374607431768211456) (by unfold Big; omega)
  rw [hr] at hC ⊢
  have HC := hid hC
  clear hC hr h1 h2
  go_enter Tryd.func74, Tryd.ntmps74
  go_wp2_with fail
  refine Calls.mono (HC.out _) ?_; rintro e w' ⟨rfl, hb⟩
  have hR := (Row.new (w.alloc (.cells #[.int .u64 mh, .int .u64 ml] 79)) 79 #[.int .u64 0, .int .u64 0]).mod (Mod.of_below hb Nil) (fun hf => hf)
  have c0 := hR.cell 0
  have c1 := hR.cell 1
  have f0 := hR.frozen 0
  have f1 := hR.frozen 1
  obtain ⟨d0, d1, _⟩ := hR.two (.int .u64 ra) (.int .u64 rb)
  simp at c0 c1 f0 f1 d0 d1
  go_wp2_with fail
  simp [bodyPost, results, Tryd.results74, go_sem, d0, d1]
  exact ((((((Up.refl w).alloc _).alloc _).trans hb).setCell (by simp) _).setCell (by simp) _).below

/-- how great a number is -/
def mag (x : Int) : Int := if x < 0 then -x else x
theorem mag_cases (x : Int) : (x < 0 ∧ mag x = -x) ∨ (0 ≤ x ∧ mag x = x) := by
  unfold mag
  split
  · exact .inl ⟨by assumption, rfl⟩
  · exact .inr ⟨by omega, rfl⟩
theorem mag_big {x : Int} (h : Fits x) : Big (mag x) := by
  unfold Fits at h
  unfold Big
  rcases mag_cases x with ⟨_, e⟩ | ⟨_, e⟩ <;> omega

theorem sized_words (w : World) (hi lo : Int) (h1 : -9223372036854775808 ≤ hi ∧ hi < 9223372036854775808) (h2 : 0 ≤ lo ∧ lo < 18446744073709551616) :
    Calls Tryd.prog 75 #[.agg #[.int .i64 hi, .int .u64 lo]] w fun e w' =>
      e = .returned (.tuple #[UV (mag (hi * 18446744073709551616 + lo)), .bool (decide (hi < 0))]) ∧ Below w.heap.size w w' := by
  obtain ⟨u, hu⟩ : ∃ u, u = IntKind.u64.wrap hi := ⟨_, rfl⟩
  have hu' := hu
  rw [IntKind.wrap_u64] at hu'
  have hus := hu.symm
  by_cases hn : hi < 0
  · have e : mag (hi * 18446744073709551616 + lo) = (-(u * 18446744073709551616 + lo)) % 340282366920938463463374607431768211456 := by
      rcases mag_cases (hi * 18446744073709551616 + lo) with ⟨_, e⟩ | ⟨_, e⟩ <;> rw [e] <;> omega
    have hC := fun w => turned_words w u lo (by omega) h2
    rw [e, decide_eq_true hn]
    obtain ⟨ra, rb, hr, _⟩ := UV_of (m := (-(u * 18446744073709551616 + lo)) % 340282366920938463463374607431768211456) (by unfold Big; omega)
    rw [hr] at hC ⊢
    have HC := hid hC
    clear hC hr h1 h2 hu' hu e
    go_enter Tryd.func75, Tryd.ntmps75
    go_wp2_with fail
    refine Calls.mono (HC.out _) ?_; rintro e w' ⟨rfl, hb⟩
    have hR := ((Row.new (w.alloc (.cells #[.int .i64 hi, .int .u64 lo] 24)) 79 #[.int .u64 0, .int .u64 0]).alloc (.cells #[.int .u64 u, .int .u64 lo] 79)).mod (Mod.of_below hb Nil) (fun hf => hf)
    have c0 := hR.cell 0
    have c1 := hR.cell 1
    have f0 := hR.frozen 0
    have f1 := hR.frozen 1
    obtain ⟨d0, d1, _⟩ := hR.two (.int .u64 ra) (.int .u64 rb)
    simp at c0 c1 f0 f1 d0 d1
    go_wp2_with fail
    simp [bodyPost, results, Tryd.results75, go_sem, d0, d1]
    exact (((((((Up.refl w).alloc _).alloc _).alloc _).trans hb).setCell (by simp) _).setCell (by simp) _).below
  · have e : mag (hi * 18446744073709551616 + lo) = u * 18446744073709551616 + lo := by
      rcases mag_cases (hi * 18446744073709551616 + lo) with ⟨_, e⟩ | ⟨_, e⟩ <;> rw [e] <;> omega
    rw [e, UV_words h2.1 h2.2, decide_eq_false hn]
    clear e hu' hu h1 h2
    go_enter Tryd.func75, Tryd.ntmps75
    go_wp2_with fail
    simp [bodyPost, results, Tryd.results75, go_sem]
    exact ((((Up.refl w).alloc _).alloc _).alloc _).below

end Go.Proofs.YtmamedobphlpkaaDoor

namespace Go.Proofs.YtmamedobphlpkaaDoor
open Go.RowKit

set_option maxHeartbeats 4000000 in
theorem signed_words (w : World) (hi lo : Int) (minus : Bool) (h1 : 0 ≤ hi ∧ hi < 18446744073709551616) (h2 : 0 ≤ lo ∧ lo < 18446744073709551616) :
    Calls Tryd.prog 53 #[.agg #[.int .u64 hi, .int .u64 lo], .bool minus] w fun e w' =>
      e = .returned (resV (if minus then -(hi * 18446744073709551616 + lo) else hi * 18446744073709551616 + lo)) ∧ Below w.heap.size w w' := by
  have hw0 : WV 0 = .agg #[.int .i64 0, .int .u64 0] := rfl
  cases minus
  · obtain ⟨s, hs⟩ : ∃ s, s = IntKind.i64.wrap hi := ⟨_, rfl⟩
    have hs' := hs
    rw [IntKind.wrap_i64] at hs'
    have hss := hs.symm
    rw [if_neg (by decide)]
    by_cases hf : s < 0
    · have hnf : ¬ Fits (hi * 18446744073709551616 + lo) := by unfold Fits; omega
      have hz : ¬ hi = 0 := by omega
      rw [resV_over hnf, hw0]
      clear hs' hs h1 h2 hnf hw0
      go_enter Tryd.func53, Tryd.ntmps53
      go_wp2_with fail
      simp [bodyPost, results, Tryd.results53, go_sem]
      exact (((((Up.refl w).alloc _).alloc _).alloc _).alloc _).below
    · have hnf : Fits (hi * 18446744073709551616 + lo) := by unfold Fits; omega
      rw [resV_fit hnf, WV_words h2.1 h2.2]
      have e : hi = s := by omega
      subst e
      clear hs' hs h1 h2 hnf hw0
      go_enter Tryd.func53, Tryd.ntmps53
      go_wp2_with fail
      all_goals
        simp [bodyPost, results, Tryd.results53, go_sem]
        exact (((((Up.refl w).alloc _).alloc _).alloc _).alloc _).below
  · rw [if_pos rfl]
    have hC := fun w => turned_words w hi lo h1 h2
    obtain ⟨th, tl, hr, ht, h3, h4⟩ := UV_of (m := (-(hi * 18446744073709551616 + lo)) % 340282366920938463463374607431768211456) (by unfold Big; omega)
    rw [hr] at hC
    obtain ⟨s, hs⟩ : ∃ s, s = IntKind.i64.wrap th := ⟨_, rfl⟩
    have hs' := hs
    rw [IntKind.wrap_i64] at hs'
    have hss := hs.symm
    have HC := hid hC
    clear hC hr
    by_cases hz : hi * 18446744073709551616 + lo = 0
    · have e1 : hi = 0 := by omega
      have e2 : lo = 0 := by omega
      have e3 : s = 0 := by omega
      have e4 : tl = 0 := by omega
      subst e1; subst e2; subst e3; subst e4
      rw [show -((0 : Int) * 18446744073709551616 + 0) = 0 by omega, resV_fit (by unfold Fits; omega), hw0]
      clear hs' hs h1 h2 h3 h4 ht hz hw0
      go_enter Tryd.func53, Tryd.ntmps53
      go_wp2_with fail
      refine Calls.mono (HC.out _) ?_; rintro e w' ⟨rfl, hb⟩
      have hR0 := (((Row.new w 79 #[.int .u64 0, .int .u64 0]).alloc (.cells #[.int .i64 0, .int .u64 0] 24)).alloc (.cells #[.int .u64 0, .int .u64 0] 79)).mod (Mod.of_below hb Nil) (fun hf => hf)
      have hR1 := ((Row.new (w.alloc (.cells #[.int .u64 0, .int .u64 0] 79)) 24 #[.int .i64 0, .int .u64 0]).alloc (.cells #[.int .u64 0, .int .u64 0] 79)).mod (Mod.of_below hb Nil) (fun hf => hf)
      have hR2 := (Row.new ((w.alloc (.cells #[.int .u64 0, .int .u64 0] 79)).alloc (.cells #[.int .i64 0, .int .u64 0] 24)) 79 #[.int .u64 0, .int .u64 0]).mod (Mod.of_below hb Nil) (fun hf => hf)
      simp only [alloc_size] at hR0 hR1 hR2
      have q0 := hR2.cell 0
      have q1 := hR2.cell 1
      have f0 := hR2.frozen 0
      have f1 := hR2.frozen 1
      obtain ⟨d0, d1, d2⟩ := hR2.two (.int .u64 th) (.int .u64 0)
      have hT0 := ((hR0.far (p := ⟨w.heap.size + 1 + 1, 0, none⟩) (by simp; omega) (.int .u64 th)).far (p := ⟨w.heap.size + 1 + 1, 1, none⟩) (by simp; omega) (.int .u64 0)).alloc (.cells #[.int .i64 0, .int .u64 0] 24)
      have hT1 := ((hR1.far (p := ⟨w.heap.size + 1 + 1, 0, none⟩) (by simp) (.int .u64 th)).far (p := ⟨w.heap.size + 1 + 1, 1, none⟩) (by simp) (.int .u64 0)).alloc (.cells #[.int .i64 0, .int .u64 0] 24)
      have m0 := hT0.cell 0
      have m1 := hT0.cell 1
      have n0 := hT1.cell 0
      have n1 := hT1.cell 1
      have nf0 := hT1.frozen 0
      have nf1 := hT1.frozen 1
      obtain ⟨b0, b1, b2⟩ := hT1.two (.int .i64 0) (.int .u64 0)
      simp at q0 q1 f0 f1 d0 d1 d2 m0 m1 n0 n1 nf0 nf1 b0 b1 b2
      clear hR0 hR1 hR2 hT0 hT1
      go_wp2_with fail
      all_goals
        simp [bodyPost, results, Tryd.results53, go_sem, b0, b1, b2]
        exact (((((((((Up.refl w).alloc _).alloc _).alloc _).trans hb).setCell (by omega) _).setCell (by omega) _).alloc _).setCell (by simp) _ |>.setCell (by simp) _).below
    · by_cases hf : s < 0
      · have hnf : Fits (-(hi * 18446744073709551616 + lo)) := by unfold Fits; omega
        rw [resV_fit hnf, show -(hi * 18446744073709551616 + lo) = s * 18446744073709551616 + tl by omega, WV_words h4.1 h4.2]
        clear hs' hs h1 h2 h3 h4 ht hz hw0 hnf
        go_enter Tryd.func53, Tryd.ntmps53
        go_wp2_with fail
        refine Calls.mono (HC.out _) ?_; rintro e w' ⟨rfl, hb⟩
        have hR0 := (((Row.new w 79 #[.int .u64 hi, .int .u64 lo]).alloc (.cells #[.int .i64 0, .int .u64 0] 24)).alloc (.cells #[.int .u64 hi, .int .u64 lo] 79)).mod (Mod.of_below hb Nil) (fun hf => hf)
        have hR1 := ((Row.new (w.alloc (.cells #[.int .u64 hi, .int .u64 lo] 79)) 24 #[.int .i64 0, .int .u64 0]).alloc (.cells #[.int .u64 hi, .int .u64 lo] 79)).mod (Mod.of_below hb Nil) (fun hf => hf)
        have hR2 := (Row.new ((w.alloc (.cells #[.int .u64 hi, .int .u64 lo] 79)).alloc (.cells #[.int .i64 0, .int .u64 0] 24)) 79 #[.int .u64 hi, .int .u64 lo]).mod (Mod.of_below hb Nil) (fun hf => hf)
        simp only [alloc_size] at hR0 hR1 hR2
        have q0 := hR2.cell 0
        have q1 := hR2.cell 1
        have f0 := hR2.frozen 0
        have f1 := hR2.frozen 1
        obtain ⟨d0, d1, d2⟩ := hR2.two (.int .u64 th) (.int .u64 tl)
        have hT0 := ((hR0.far (p := ⟨w.heap.size + 1 + 1, 0, none⟩) (by simp; omega) (.int .u64 th)).far (p := ⟨w.heap.size + 1 + 1, 1, none⟩) (by simp; omega) (.int .u64 tl)).alloc (.cells #[.int .i64 s, .int .u64 tl] 24)
        have hT1 := ((hR1.far (p := ⟨w.heap.size + 1 + 1, 0, none⟩) (by simp) (.int .u64 th)).far (p := ⟨w.heap.size + 1 + 1, 1, none⟩) (by simp) (.int .u64 tl)).alloc (.cells #[.int .i64 s, .int .u64 tl] 24)
        have m0 := hT0.cell 0
        have m1 := hT0.cell 1
        have n0 := hT1.cell 0
        have n1 := hT1.cell 1
        have nf0 := hT1.frozen 0
        have nf1 := hT1.frozen 1
        obtain ⟨b0, b1, b2⟩ := hT1.two (.int .i64 s) (.int .u64 tl)
        simp at q0 q1 f0 f1 d0 d1 d2 m0 m1 n0 n1 nf0 nf1 b0 b1 b2
        clear hR0 hR1 hR2 hT0 hT1
        go_wp2_with fail
        all_goals
          simp [bodyPost, results, Tryd.results53, go_sem, b0, b1, b2]
          exact (((((((((Up.refl w).alloc _).alloc _).alloc _).trans hb).setCell (by omega) _).setCell (by omega) _).alloc _).setCell (by simp) _ |>.setCell (by simp) _).below
      · have hnf : ¬ Fits (-(hi * 18446744073709551616 + lo)) := by unfold Fits; omega
        rw [resV_over hnf, hw0]
        have hz1 : ¬ hi = 0 := by omega
        clear hs' hs h1 h2 h3 h4 ht hz hw0 hnf
        go_enter Tryd.func53, Tryd.ntmps53
        go_wp2_with fail
        refine Calls.mono (HC.out _) ?_; rintro e w' ⟨rfl, hb⟩
        have hR0 := (((Row.new w 79 #[.int .u64 hi, .int .u64 lo]).alloc (.cells #[.int .i64 0, .int .u64 0] 24)).alloc (.cells #[.int .u64 hi, .int .u64 lo] 79)).mod (Mod.of_below hb Nil) (fun hf => hf)
        have hR1 := ((Row.new (w.alloc (.cells #[.int .u64 hi, .int .u64 lo] 79)) 24 #[.int .i64 0, .int .u64 0]).alloc (.cells #[.int .u64 hi, .int .u64 lo] 79)).mod (Mod.of_below hb Nil) (fun hf => hf)
        have hR2 := (Row.new ((w.alloc (.cells #[.int .u64 hi, .int .u64 lo] 79)).alloc (.cells #[.int .i64 0, .int .u64 0] 24)) 79 #[.int .u64 hi, .int .u64 lo]).mod (Mod.of_below hb Nil) (fun hf => hf)
        simp only [alloc_size] at hR0 hR1 hR2
        have q0 := hR2.cell 0
        have q1 := hR2.cell 1
        have f0 := hR2.frozen 0
        have f1 := hR2.frozen 1
        obtain ⟨d0, d1, d2⟩ := hR2.two (.int .u64 th) (.int .u64 tl)
        have hT0 := ((hR0.far (p := ⟨w.heap.size + 1 + 1, 0, none⟩) (by simp; omega) (.int .u64 th)).far (p := ⟨w.heap.size + 1 + 1, 1, none⟩) (by simp; omega) (.int .u64 tl)).alloc (.cells #[.int .i64 s, .int .u64 tl] 24)
        have hT1 := ((hR1.far (p := ⟨w.heap.size + 1 + 1, 0, none⟩) (by simp) (.int .u64 th)).far (p := ⟨w.heap.size + 1 + 1, 1, none⟩) (by simp) (.int .u64 tl)).alloc (.cells #[.int .i64 s, .int .u64 tl] 24)
        have m0 := hT0.cell 0
        have m1 := hT0.cell 1
        have n0 := hT1.cell 0
        have n1 := hT1.cell 1
        have nf0 := hT1.frozen 0
        have nf1 := hT1.frozen 1
        obtain ⟨b0, b1, b2⟩ := hT1.two (.int .i64 0) (.int .u64 0)
        simp at q0 q1 f0 f1 d0 d1 d2 m0 m1 n0 n1 nf0 nf1 b0 b1 b2
        clear hR0 hR1 hR2 hT0 hT1
        go_wp2_with fail
        all_goals
          rename_i hsp
          first
          | exact absurd hsp (by simp; omega)
          | (simp [bodyPost, results, Tryd.results53, go_sem, b0, b1, b2]
             exact (((((((((Up.refl w).alloc _).alloc _).alloc _).trans hb).setCell (by omega) _).setCell (by omega) _).alloc _).setCell (by simp) _ |>.setCell (by simp) _).below)

end Go.Proofs.YtmamedobphlpkaaDoor
