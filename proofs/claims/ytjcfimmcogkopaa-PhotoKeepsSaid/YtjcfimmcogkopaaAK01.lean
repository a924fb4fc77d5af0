/-
  AgT · HdM · PhM · PhU
-/
import Derived.Test.YtjcfimmcogkopaaAA07
import Derived.Test.YtjcfimmcogkopaaAB03
import Derived.Test.YtjcfimmcogkopaaAI01
import Derived.Lib.ConvBytes
import Derived.Laws.AppendOwn
set_option linter.unusedSimpArgs false
set_option linter.unusedVariables false

namespace Go.Proofs.Ytjcfimmcogkopaa.Sep
open Go.RowKit
open Go.Proofs.Ytjcfimmcogkopaa.Mem (Dist Blk Chg below0)
/-- each once -/
def onceL : List Nat → List Nat
  | [] => []
  | a :: l => if a ∈ onceL l then onceL l else a :: onceL l
theorem once_mem {a : Nat} : ∀ {l : List Nat}, a ∈ onceL l ↔ a ∈ l
  | [] => Iff.rfl
  | b :: l => by
    have ih := once_mem (a := a) (l := l)
    unfold onceL
    split
    · rename_i h
      rw [ih, List.mem_cons]
      refine ⟨.inr, fun h2 => ?_⟩
      rcases h2 with rfl | h2
      · exact once_mem.1 h
      · exact h2
    · rw [List.mem_cons, List.mem_cons, ih]
theorem once_nodup : ∀ l : List Nat, (onceL l).Nodup
  | [] => List.nodup_nil
  | b :: l => by
    unfold onceL
    split
    · exact once_nodup l
    · rename_i h
      exact List.nodup_cons.2 ⟨h, once_nodup l⟩
def rowAt (w : World) (g : Nat) : RowT := (g, none, match w.heap[g]? with | some (.cells C e f) => litC C e f | _ => #[])
def ArgT (w : World) (gs : List Nat) : Ass := fun rs => rs = (onceL gs).map (rowAt w)
def CellsAt (w : World) (g : Nat) : Prop := ∃ C e f, w.heap[g]? = some (.cells C e f)
theorem litC_inj {C C' : Array Value} {e e' : TypeId} {f f' : Nat × Nat} (h : litC C e f = litC C' e' f') : C = C' ∧ e = e' ∧ f = f' := by
  obtain ⟨f1, f2⟩ := f
  obtain ⟨g1, g2⟩ := f'
  unfold litC at h
  simp at h
  obtain ⟨h1, h2, h3, h4⟩ := h
  refine ⟨h1, ?_, ?_⟩
  · first | exact h2 | exact Int.ofNat.inj h2 | omega
  · rw [show f1 = g1 by first | exact h3 | omega, show f2 = g2 by first | exact h4 | omega]
theorem row_is {w w' : World} {g : Nat} (hc : CellsAt w g) (h : RowX w' (rowAt w g)) : w'.heap[g]? = w.heap[g]? := by
  obtain ⟨C, e, f, hw⟩ := hc
  unfold rowAt at h
  rw [hw] at h
  rcases h with ⟨es, c, _, h2⟩ | ⟨b, s, seen, c, _, h2⟩ | ⟨C', e', f', h1, h2⟩
  · unfold litC mapC at h2
    simp at h2
  · unfold litC iterC at h2
    simp at h2
  · obtain ⟨rfl, rfl, rfl⟩ := litC_inj h2
    rw [hw]; exact h1
theorem row_at {w : World} {g : Nat} (hc : CellsAt w g) : RowX w (rowAt w g) := by
  obtain ⟨C, e, f, hw⟩ := hc
  unfold rowAt
  rw [hw]
  exact .inr (.inr ⟨C, e, f, hw, rfl⟩)
theorem cells_of {w : World} {a : Addr} {x : Value} (h : w.cell? a = some x) : CellsAt w a.block := by
  unfold World.cell? at h
  split at h
  · rename_i c e f hc
    exact ⟨c, e, f, hc⟩
  · cases h
theorem cell_eq {w w' : World} {a : Addr} (h : w'.heap[a.block]? = w.heap[a.block]?) : w'.cell? a = w.cell? a := by
  unfold World.cell?
  rw [h]
/-- the blocks that a slice's reading needs -/
theorem sl_blocks {w : World} {k : Nat} {v : Value} {m : Nat} {ys : List Value} (h : SlRd w k v m ys) : ∃ gs : List Nat, (∀ g ∈ gs, CellsAt w g) ∧ ∀ w' : World, (∀ g ∈ gs, w'.heap[g]? = w.heap[g]?) → SlRd w' k v m ys := by
  obtain ⟨h1, A, c, e, h2⟩ := h
  rcases h2 with h2 | ⟨a, ha, h2⟩
  · exact ⟨[], (fun _ h => nomatch h), fun w' _ => ⟨h1, A, c, e, .inl h2⟩⟩
  · cases ys with
    | nil => exact ⟨[], (fun _ h => nomatch h), fun w' _ => ⟨h1, A, c, e, .inr ⟨a, ha, fun j x hx => by simp at hx⟩⟩⟩
    | cons y ys =>
      have h3 := cells_of (h2 0 y rfl)
      refine ⟨[(a.add 0).block], fun g hg => by rw [List.mem_singleton.1 hg]; exact h3, fun w' hw => ⟨h1, A, c, e, .inr ⟨a, ha, fun j x hx => ?_⟩⟩⟩
      have hb : (a.add j).block = (a.add 0).block := by unfold Addr.add; split <;> rfl
      exact (cell_eq (by rw [hb]; exact hw _ (List.mem_singleton.2 rfl))).trans (h2 j x hx)
theorem s8_blocks {w : World} {v : Value} {l : List UInt8} (h : Sl8 w v l) : ∃ gs : List Nat, (∀ g ∈ gs, CellsAt w g) ∧ ∀ w' : World, (∀ g ∈ gs, w'.heap[g]? = w.heap[g]?) → Sl8 w' v l := by
  obtain ⟨A, c, e, h1, h2, h3⟩ := h
  cases l with
  | nil => exact ⟨[], (fun _ h => nomatch h), fun w' _ => ⟨A, c, e, h1, h2, fun h => absurd h (by simp)⟩⟩
  | cons y ys =>
    obtain ⟨g, o, hA, _, h4⟩ := h3 (by simp)
    have h5 := cells_of (h4 0 y rfl)
    refine ⟨[g], fun k hk => by rw [List.mem_singleton.1 hk]; exact h5, fun w' hw => ⟨A, c, e, h1, h2, fun _ => ⟨g, o, hA, trivial, fun j b hb => ?_⟩⟩⟩
    rw [cell_eq (a := ⟨g, o + j, none⟩) (hw g (List.mem_singleton.2 rfl))]
    exact h4 j b hb
theorem argT_same {w w' : World} {gs : List Nat} (hc : ∀ g ∈ gs, CellsAt w g) {rs : List RowT} (h : ArgT w gs rs) (hr : RowsOf w' rs) : ∀ g ∈ gs, w'.heap[g]? = w.heap[g]? := fun g hg => by
  obtain rfl : rs = _ := h
  exact row_is (hc g hg) (hr.mem _ (List.mem_map.2 ⟨g, once_mem.2 hg, rfl⟩))
theorem argT_rd {w : World} {gs : List Nat} (hc : ∀ g ∈ gs, CellsAt w g) {α : Type} {k : Nat} {enc : α → List Value} {v : Value} {m : List α} (h : ∀ w' : World, (∀ g ∈ gs, w'.heap[g]? = w.heap[g]?) → SlRd w' k v m.length (flat enc m)) : Rd (ArgT w gs) k enc v m := fun _ w' h1 h2 => h w' (argT_same hc h1 h2)
theorem argT_rd8 {w : World} {gs : List Nat} (hc : ∀ g ∈ gs, CellsAt w g) {v : Value} {l : List UInt8} (h : ∀ w' : World, (∀ g ∈ gs, w'.heap[g]? = w.heap[g]?) → Sl8 w' v l) : Rd8 (ArgT w gs) v l := fun _ w' h1 h2 => h w' (argT_same hc h1 h2)
theorem calls_argT {P : Program} {F : FuncId} {args : Array Value} {val : Value} {w : World} {gs : List Nat} (hc : ∀ g ∈ gs, CellsAt w g) (h : Does P F args [ArgT w gs] (fun _ : Unit => val) (fun _ => [ArgT w gs])) : Calls P F args w fun e w' => e = .returned val ∧ Below w.heap.size w w' := by
  have hd : Dist ((onceL gs).map (rowAt w)) := dist_iff.2 (by
    rw [List.map_map]
    have : ((fun x : RowT => x.1) ∘ rowAt w) = id := rfl
    first
      | (rw [this, List.map_id]; exact once_nodup gs)
      | (simpa [Function.comp_def, rowAt] using once_nodup gs))
  refine (h w _ (Parts.one rfl) (rows_iff.2 fun x hx => ?_) hd).mono ?_
  · obtain ⟨g, hg, rfl⟩ := List.mem_map.1 hx
    exact row_at (hc g (once_mem.1 hg))
  · rintro e w' ⟨_, he, rs', hp, hch⟩
    have hrs := hp.one'
    refine ⟨he, hch.mod.os, hch.mod.tape, hch.mod.output, hch.mod.size, fun k hk => ?_⟩
    cases Classical.em (k ∈ gs) with
    | inl hk2 => exact argT_same hc hrs hch.rows k hk2
    | inr hk2 =>
      refine hch.mod.block k hk ?_
      rintro ⟨x, hx, rfl⟩
      obtain ⟨g, hg, rfl⟩ := List.mem_map.1 hx
      exact hk2 (once_mem.1 hg)
end Go.Proofs.Ytjcfimmcogkopaa.Sep

namespace Go.Proofs.Ytjcfimmcogkopaa.Sep

/-! ## A value -/
abbrev HV := Nat × Nat
def hvOk (h : HV) : Prop := h.1 ≤ 72057594037927935 ∧ h.2 ≤ 7
instance (h : HV) : Decidable (hvOk h) := by unfold hvOk; infer_instance
def layH (h : HV) : List UInt8 := vlay h.1 ++ [UInt8.ofNat h.2]
def readH (x : List UInt8) : Option HV :=
  if rend (rbyte 7 (rnum 72057594037927935 x 0).2.1 (rnum 72057594037927935 x 0).2.2).2.1 (rbyte 7 (rnum 72057594037927935 x 0).2.1 (rnum 72057594037927935 x 0).2.2).2.2 = 0 then some ((rnum 72057594037927935 x 0).1, (rbyte 7 (rnum 72057594037927935 x 0).2.1 (rnum 72057594037927935 x 0).2.2).1) else none
theorem readH_of {x l1 l2 : List UInt8} {t f1 v f2 : Nat} (h1 : rnum 72057594037927935 x 0 = (t, l1, f1)) (h2 : rbyte 7 l1 f1 = (v, l2, f2)) : readH x = if rend l2 f2 = 0 then some (t, v) else none := by
  unfold readH
  rw [h1]
  simp only
  rw [h2]
theorem layH_len {h : HV} (hk : hvOk h) : (layH h).length ≤ 9 := by
  have := vlay_length_pow 7 h.1 (by have := hk.1; omega)
  unfold layH
  rw [List.length_append]
  simp only [List.length_cons, List.length_nil]
  omega
theorem readH_lay {h : HV} (hk : hvOk h) : readH (layH h) = some h := by
  have h1 := rnum_lay 72057594037927935 h.1 [UInt8.ofNat h.2] hk.1 (by have := hk.1; omega)
  have h2 := (good_byte 7).lay h.2 [] ⟨hk.2, by have := hk.2; omega⟩
  rw [List.append_nil] at h2
  rw [layH, readH_of h1 h2]
  rfl
/-- what the frames hold, up to the first that holds none -/
def hdP : List (List UInt8) → List HV
  | [] => []
  | p :: ps => match readH p with | some h => h :: hdP ps | none => []
theorem hdP_cons {p : List UInt8} {h : HV} (e : readH p = some h) (ps : List (List UInt8)) : hdP (p :: ps) = h :: hdP ps := by
  show (match readH p with | some h => h :: hdP ps | none => []) = _
  rw [e]
theorem hdP_lay : ∀ {L : List HV}, (∀ h, h ∈ L → hvOk h) → hdP (L.map layH) = L
  | [], _ => rfl
  | h :: L, hk => by
    rw [List.map_cons, hdP_cons (readH_lay (hk h (by simp))), hdP_lay (fun x hx => hk x (by simp [hx]))]
def lastH (L : List HV) : HV := L.getLast?.getD (0, 0)
theorem lastH_push (L : List HV) (h : HV) : lastH (L ++ [h]) = h := by simp [lastH]
/-- the last value at the beginning of a file, and where its frame ends -/
def latB (b : List UInt8) : HV × Nat := (lastH (hdP (listL b).1), sumF ((listL b).1.take (hdP (listL b).1).length))
theorem frames_sumF : ∀ (ps : List (List UInt8)), (∀ x, x ∈ ps → x.length ≤ 65536) → (framesL ps).length = sumF ps
  | [], _ => rfl
  | p :: ps, h => by
    rw [frames_cons, List.length_append, frame_len (h p (by simp)), sumF_cons, frames_sumF ps (fun x hx => h x (by simp [hx]))]
def frH (L : List HV) : List UInt8 := framesL (L.map layH)
theorem frH_short {L : List HV} (h : ∀ x, x ∈ L → hvOk x) : ∀ x, x ∈ L.map layH → x.length ≤ 65536 := fun x hx => by
  obtain ⟨y, hy, rfl⟩ := List.mem_map.1 hx
  have := layH_len (h y hy)
  omega
theorem frH_push (L : List HV) (h : HV) : frH (L ++ [h]) = frH L ++ frameL (layH h) := by
  unfold frH; rw [List.map_append]; exact frames_push _ _
theorem latB_fr {L : List HV} (hk : ∀ h, h ∈ L → hvOk h) {junk : List UInt8} (hj : nextF junk = none) : latB (frH L ++ junk) = (lastH L, (frH L).length) := by
  have h1 := list_frames (L.map layH) (frH_short hk) junk
  rw [listL_none hj] at h1
  have h2 : (listL (frH L ++ junk)).1 = L.map layH := by unfold frH; rw [h1]; simp
  unfold latB
  rw [h2, hdP_lay hk, show (L.map layH).take L.length = L.map layH by rw [List.take_of_length_le (by simp)]]
  unfold frH
  rw [frames_sumF _ (frH_short hk)]
theorem next_nil : nextF [] = none := by unfold nextF; rw [if_neg (by simp)]
theorem fr_len {h : HV} (hk : hvOk h) : (frameL (layH h)).length ≤ 17 := by
  have := layH_len hk
  rw [frame_len (by omega)]; omega
theorem fr_cut {h : HV} (hk : hvOk h) {t : Nat} (ht : t < (frameL (layH h)).length) : nextF ((frameL (layH h)).take t) = none := by
  have := layH_len hk
  rw [frame_len (by omega)] at ht
  exact next_cut (by omega) ht

/-! ## What hard does to a disk -/
def hardN : List UInt8 := [104, 97, 114, 100]
def newN : List UInt8 := [104, 97, 114, 100, 46, 110, 101, 119]
def rmNewD (d : DiskD) : DiskD × Nat := if (readD d newN).isSome = true then delD d newN else (d, 0)
def openHD (d : DiskD) : DiskD × HV × Nat :=
  if (rmNewD d).2 ≠ 0 then ((rmNewD d).1, (0, 0), (rmNewD d).2)
  else if (latB ((readD (rmNewD d).1 hardN).getD [])).2 < ((readD (rmNewD d).1 hardN).getD []).length then
    if (cutD (rmNewD d).1 hardN ((latB ((readD (rmNewD d).1 hardN).getD [])).2 : Int)).2 ≠ 0 then ((cutD (rmNewD d).1 hardN ((latB ((readD (rmNewD d).1 hardN).getD [])).2 : Int)).1, (0, 0), (cutD (rmNewD d).1 hardN ((latB ((readD (rmNewD d).1 hardN).getD [])).2 : Int)).2)
    else ((cutD (rmNewD d).1 hardN ((latB ((readD (rmNewD d).1 hardN).getD [])).2 : Int)).1, (latB ((readD (rmNewD d).1 hardN).getD [])).1, 0)
  else ((rmNewD d).1, (latB ((readD (rmNewD d).1 hardN).getD [])).1, 0)
def beginHD (d : DiskD) (f : List UInt8) : DiskD × Nat :=
  if (rmNewD d).2 ≠ 0 then rmNewD d
  else if (appendD (rmNewD d).1 newN f).2 ≠ 0 then appendD (rmNewD d).1 newN f
  else renD (appendD (rmNewD d).1 newN f).1 newN hardN
def saveHD (d : DiskD) (h : HV) : DiskD × Nat :=
  if ((readD d hardN).getD []).length < 256 then appendD d hardN (frameL (layH h)) else beginHD d (frameL (layH h))

/-! ## Sizes -/
def DiskD.fitK (k : Nat) (d : DiskD) : Prop := usedF d.syn + (d.wait.map OpD.size).sum + 65536 * k ≤ 1099511627776 ∧ d.wait.length + k ≤ 10000
theorem DiskD.fitK.fit {k : Nat} {d : DiskD} (h : d.fitK k) : d.fit := ⟨by have := h.1; omega, by have := h.2; omega⟩
theorem DiskD.fitK.less {k : Nat} {d : DiskD} (h : d.fitK (k + 1)) : d.fitK k := ⟨by have := h.1; omega, by have := h.2; omega⟩
theorem fitK_does {k : Nat} {d : DiskD} {o : OpD} (h : d.fitK (k + 1)) (ho : o.size ≤ 65536) : (doesD d o).fitK k := by
  obtain ⟨h1, h2⟩ := h
  refine ⟨?_, ?_⟩
  · show usedF d.syn + ((d.wait ++ [o]).map OpD.size).sum + _ ≤ _
    rw [List.map_append, List.sum_append]
    simp only [List.map_cons, List.map_nil, List.sum_cons, List.sum_nil]
    omega
  · show (d.wait ++ [o]).length + k ≤ _
    rw [List.length_append]; simp only [List.length_cons, List.length_nil]; omega
theorem fitK_begin {k : Nat} {d : DiskD} (h : d.fitK k) : (beginD d).1.fitK k := by
  unfold beginD
  split
  · exact h
  · exact h
theorem fitK_append {k : Nat} {d : DiskD} {n b : List UInt8} (h : d.fitK (k + 1)) (hb : b.length ≤ 65536) : (appendD d n b).1.fitK k := by
  have h1 := fitK_begin h
  unfold appendD
  cases e : beginD d with
  | mk d1 e1 =>
    rw [e] at h1
    simp only
    split
    · exact h1.less
    · split
      · exact h1.less
      · split
        · exact h1.less
        · exact fitK_does h1 hb
theorem fitK_del {k : Nat} {d : DiskD} {n : List UInt8} (h : d.fitK (k + 1)) : (delD d n).1.fitK k := by
  have h1 := fitK_begin h
  unfold delD
  cases e : beginD d with
  | mk d1 e1 =>
    rw [e] at h1
    simp only
    split
    · exact h1.less
    · split
      · exact h1.less
      · exact fitK_does h1 (Nat.zero_le _)
theorem fitK_ren {k : Nat} {d : DiskD} {a b : List UInt8} (h : d.fitK (k + 1)) : (renD d a b).1.fitK k := by
  have h1 := fitK_begin h
  unfold renD
  cases e : beginD d with
  | mk d1 e1 =>
    rw [e] at h1
    simp only
    split
    · exact h1.less
    · split
      · exact h1.less
      · split
        · exact h1.less
        · exact fitK_does h1 (Nat.zero_le _)
/-! ## The files of hard -/
structure HFile (f : FS) (V : HV → Prop) : Prop where
  nd : (keysM f).Nodup
  ks : ∀ k, k ∈ keysM f → k = hardN ∨ k = newN
  has : ∃ L junk, (∀ h, h ∈ L → hvOk h) ∧ (getM f hardN).getD [] = frH L ++ junk ∧ nextF junk = none ∧ V (lastH L)
  lh : ((getM f hardN).getD []).length ≤ 400
  ln : ((getM f newN).getD []).length ≤ 100
theorem HFile.imp {f : FS} {V V' : HV → Prop} (h : HFile f V) (hv : ∀ x, V x → V' x) : HFile f V' := by
  obtain ⟨L, j, h1, h2, h3, h4⟩ := h.has
  exact ⟨h.nd, h.ks, ⟨L, j, h1, h2, h3, hv _ h4⟩, h.lh, h.ln⟩
theorem used_two {f : FS} {a b : List UInt8} (hn : (keysM f).Nodup) (hk : ∀ k, k ∈ keysM f → k = a ∨ k = b) : usedF f ≤ ((getM f a).getD []).length + ((getM f b).getD []).length := by
  have step : ∀ (g : FS) (k : List UInt8), (keysM g).Nodup → usedF g = usedF (delM g k) + ((getM g k).getD []).length := fun g k hg => by
    cases e : getM g k with
    | none => rw [del_none e]; rfl
    | some x => exact (used_del hg e).symm
  have h1 := step f a hn
  have h2 := step (delM f a) b (nodup_del hn)
  have h3 : delM (delM f a) b = [] := by
    cases e : delM (delM f a) b with
    | nil => rfl
    | cons p r =>
      have hp : p ∈ delM (delM f a) b := by rw [e]; simp
      obtain ⟨h4, h5⟩ := (mem_del (nodup_del hn) p).1 hp
      obtain ⟨h6, h7⟩ := (mem_del hn p).1 h4
      rcases hk p.1 (List.mem_map.2 ⟨p, h6, rfl⟩) with h | h
      · exact absurd h h7
      · exact absurd h h5
  have h4 : ((getM (delM f a) b).getD []).length ≤ ((getM f b).getD []).length := by
    rw [getM_del hn]
    split
    · simp
    · exact Nat.le_refl _
  rw [h3] at h2
  have h5 : usedF ([] : FS) = 0 := rfl
  omega
theorem HFile.used {f : FS} {V : HV → Prop} (h : HFile f V) : usedF f ≤ 500 := by
  have h1 := used_two h.nd h.ks
  have h2 := h.lh
  have h3 := h.ln
  omega
theorem hard_ne : hardN ≠ newN := by decide
theorem hd_begin {d : DiskD} (h1 : d.down = false) (h2 : d.fuse = none) : beginD d = (d, 0) := by
  unfold beginD
  rw [if_neg (by simp [h1, h2]), h2]
  obtain ⟨a, b, c, e, f⟩ := d
  subst h2
  rfl
/-- what is opened behind a crash -/
theorem open_left {room : Int} {f : FS} {V : HV → Prop} (h : HFile f V) : ∃ d' x, openHD ⟨room, f, [], none, false⟩ = (d', x, 0) ∧ V x := by
  obtain ⟨L, junk, hL, hc, hj, hV⟩ := h.has
  obtain ⟨d, hd⟩ : ∃ d : DiskD, d = ⟨room, f, [], none, false⟩ := ⟨_, rfl⟩
  have hnow : d.now = f := by rw [hd]; rfl
  have hup : d.down = false := by rw [hd]
  have hfz : d.fuse = none := by rw [hd]
  have key : ∃ d1, rmNewD d = (d1, 0) ∧ d1.down = false ∧ d1.fuse = none ∧ getM d1.now hardN = getM f hardN := by
    unfold rmNewD
    split
    · rename_i hs
      unfold readD at hs
      rw [hup, if_neg (by simp), hnow] at hs
      obtain ⟨x, hx⟩ := Option.isSome_iff_exists.1 hs
      refine ⟨doesD d (.del newN), ?_, hup, hfz, ?_⟩
      · unfold delD
        rw [hd_begin hup hfz]
        simp only
        rw [if_neg (by simp), hnow, hx]
      · rw [now_does, hnow]
        show getM (delM f newN) hardN = _
        rw [getM_del h.nd, if_neg hard_ne]
    · exact ⟨d, rfl, hup, hfz, by rw [hnow]⟩
  obtain ⟨d1, e1, u1, z1, g1⟩ := key
  have hr : (readD d1 hardN).getD [] = frH L ++ junk := by
    unfold readD
    rw [u1, if_neg (by simp), g1, hc]
  rw [← hd]
  unfold openHD
  rw [e1]
  simp only
  rw [if_neg (by simp), hr, latB_fr hL hj]
  simp only
  split
  · rename_i hlt
    have hgs : getM d1.now hardN = some (frH L ++ junk) := by
      rw [g1]
      cases e : getM f hardN with
      | none =>
        rw [e] at hc
        simp only [Option.getD_none] at hc
        rw [← hc] at hlt
        simp at hlt
      | some x => rw [e] at hc; simp only [Option.getD_some] at hc; rw [hc]
    have hcut : cutD d1 hardN (((frH L).length : Nat) : Int) = (doesD d1 (.cut hardN (frH L).length), 0) := by
      unfold cutD
      rw [hd_begin u1 z1]
      simp only
      rw [if_neg (by simp), hgs]
      simp only
      rw [if_neg (by omega)]
      simp
    rw [hcut]
    simp only
    rw [if_neg (by simp)]
    exact ⟨_, _, rfl, hV⟩
  · exact ⟨_, _, rfl, hV⟩

/-! ## Saving, synced now and then -/
/-- the disk shows the values L, one behind the other, and nothing else -/
structure HS (d : DiskD) (L : List HV) : Prop where
  up : d.down = false
  fz : d.fuse = none
  rm : d.room = 1048576
  nd : (keysM d.syn).Nodup
  ks : ∀ k, k ∈ keysM d.now → k = hardN
  at_ : (getM d.now hardN).getD [] = frH L
  ok : ∀ h, h ∈ L → hvOk h
  le : (frH L).length ≤ 300
theorem HS.nnd {d : DiskD} {L : List HV} (h : HS d L) : (keysM d.now).Nodup := nodup_all d.wait h.nd
theorem HS.none_ {d : DiskD} {L : List HV} (h : HS d L) : getM d.now newN = none := getM_none.2 fun hm => hard_ne (h.ks _ hm).symm
theorem HS.file {d : DiskD} {L : List HV} (h : HS d L) {V : HV → Prop} (hV : V (lastH L)) : HFile d.now V :=
  ⟨h.nnd, fun k hk => .inl (h.ks k hk), ⟨L, [], h.ok, by rw [h.at_]; simp, next_nil, hV⟩, by have := h.le; rw [h.at_]; omega, by rw [h.none_]; simp⟩
theorem HS.used {d : DiskD} {L : List HV} (h : HS d L) : usedF d.now ≤ 500 := (h.file (V := fun _ => True) trivial).used
theorem HS.few {d : DiskD} {L : List HV} (h : HS d L) : d.now.length ≤ 1 := by
  have h1 := h.nnd
  have h2 := h.ks
  cases e : d.now with
  | nil => simp
  | cons p r =>
    cases r with
    | nil => simp
    | cons q r =>
      rw [e] at h1 h2
      have a1 := h2 p.1 (by simp [keysM])
      have a2 := h2 q.1 (by simp [keysM])
      simp only [keysM, List.map_cons, List.nodup_cons, List.mem_cons] at h1
      exact absurd (.inl (a1.trans a2.symm)) h1.1
theorem keys_put {f : FS} {n x : List UInt8} (hf : (keysM f).Nodup) {k : List UInt8} (h : k ∈ keysM (putM f n x)) : k = n ∨ k ∈ keysM f := by
  obtain ⟨p, hp, rfl⟩ := List.mem_map.1 h
  rcases (mem_put hf p).1 hp with rfl | ⟨h1, _⟩
  · exact .inl rfl
  · exact .inr (List.mem_map.2 ⟨p, h1, rfl⟩)
theorem keys_del {f : FS} {n : List UInt8} (hf : (keysM f).Nodup) {k : List UInt8} (h : k ∈ keysM (delM f n)) : k ∈ keysM f ∧ k ≠ n := by
  obtain ⟨p, hp, rfl⟩ := List.mem_map.1 h
  obtain ⟨h1, h2⟩ := (mem_del hf p).1 hp
  exact ⟨List.mem_map.2 ⟨p, h1, rfl⟩, h2⟩
/-- what a crash may leave that keeps k operations -/
def CRk (d : DiskD) (V : HV → Prop) (k : Nat) : Prop := HFile ((d.wait.take k).foldl doneF d.syn) V ∧ ∀ n b, d.wait[k]? = some (.app n b) → ∀ t, t < b.length → HFile (doneF ((d.wait.take k).foldl doneF d.syn) (.app n (b.take t))) V
def CR (d : DiskD) (V : HV → Prop) : Prop := ∀ k, k ≤ d.wait.length → CRk d V k
theorem CR.imp {d : DiskD} {V V' : HV → Prop} (h : CR d V) (hv : ∀ x, V x → V' x) : CR d V' := fun k hk => ⟨(h k hk).1.imp hv, fun n b e t ht => ((h k hk).2 n b e t ht).imp hv⟩
theorem CRk.left {d : DiskD} {V : HV → Prop} {keep : Int} (h : CRk d V (keepD d keep)) (torn : Int) : HFile (leftF d keep torn) V := by
  obtain ⟨h1, h2⟩ := h
  unfold leftF
  split
  · rename_i n b e
    split
    · exact h1
    · rename_i hn
      refine h2 n b e _ ?_
      have hb : b ≠ [] := fun e => hn (.inr e)
      have hpos : 0 < (b.length : Int) := by
        have : b.length ≠ 0 := fun e => hb (List.eq_nil_of_length_eq_zero e)
        omega
      have := Int.emod_lt_of_pos torn hpos
      have := Int.emod_nonneg torn (show (b.length : Int) ≠ 0 by omega)
      omega
  · exact h1
theorem CRk.crash {d : DiskD} {V : HV → Prop} {keep : Int} (h : CRk d V (keepD d keep)) (torn : Int) : (crashD d keep torn).fitK 9 ∧ ∃ d' x, openHD (crashD d keep torn) = (d', x, 0) ∧ V x := by
  have h1 := h.left torn
  refine ⟨⟨?_, ?_⟩, open_left h1⟩
  · show usedF (leftF d keep torn) + (([] : List OpD).map OpD.size).sum + 65536 * 9 ≤ _
    have := h1.used
    simp only [List.map_nil, List.sum_nil]
    omega
  · show ([] : List OpD).length + 9 ≤ _
    simp
theorem CR.crash {d : DiskD} {V : HV → Prop} (h : CR d V) (keep torn : Int) : (crashD d keep torn).fitK 9 ∧ ∃ d' x, openHD (crashD d keep torn) = (d', x, 0) ∧ V x := (h (keepD d keep) (keepD_le d keep)).crash torn
theorem CRk.old {d : DiskD} {V : HV → Prop} {o : OpD} {k : Nat} (h : CRk d V k) (hlt : k < d.wait.length) : CRk (doesD d o) V k := by
  show HFile (((d.wait ++ [o]).take k).foldl doneF d.syn) V ∧ ∀ n b, (d.wait ++ [o])[k]? = some (.app n b) → ∀ t, t < b.length → HFile (doneF (((d.wait ++ [o]).take k).foldl doneF d.syn) (.app n (b.take t))) V
  rw [List.take_append_of_le_length (by omega), List.getElem?_append_left hlt]
  exact h
theorem crk_at {d : DiskD} {V : HV → Prop} {o : OpD} (h1 : HFile d.now V) (h2 : ∀ n b, o = .app n b → ∀ t, t < b.length → HFile (doneF d.now (.app n (b.take t))) V) : CRk (doesD d o) V d.wait.length := by
  show HFile (((d.wait ++ [o]).take d.wait.length).foldl doneF d.syn) V ∧ ∀ n b, (d.wait ++ [o])[d.wait.length]? = some (.app n b) → ∀ t, t < b.length → HFile (doneF (((d.wait ++ [o]).take d.wait.length).foldl doneF d.syn) (.app n (b.take t))) V
  rw [List.take_append_of_le_length (Nat.le_refl _), List.take_length]
  refine ⟨h1, fun n b e t ht => ?_⟩
  rw [List.getElem?_append_right (Nat.le_refl _), Nat.sub_self] at e
  obtain rfl := Option.some.inj e
  exact h2 n b rfl t ht
/-- one more operation, of which nothing, all, or a part may be left -/
theorem CR.push {d : DiskD} {V : HV → Prop} {o : OpD} (h : CR d V) (h1 : HFile (doneF d.now o) V) (h2 : ∀ n b, o = .app n b → ∀ t, t < b.length → HFile (doneF d.now (.app n (b.take t))) V) : CR (doesD d o) V := by
  intro k hk
  change k ≤ (d.wait ++ [o]).length at hk
  rw [List.length_append] at hk
  simp only [List.length_cons, List.length_nil] at hk
  rcases Nat.lt_or_ge k d.wait.length with hlt | hge
  · exact (h k (by omega)).old hlt
  · rcases Nat.lt_or_ge d.wait.length k with hlt | hle
    · obtain rfl : k = d.wait.length + 1 := by omega
      show HFile (((d.wait ++ [o]).take (d.wait.length + 1)).foldl doneF d.syn) V ∧ ∀ n b, (d.wait ++ [o])[d.wait.length + 1]? = some (.app n b) → ∀ t, t < b.length → HFile (doneF (((d.wait ++ [o]).take (d.wait.length + 1)).foldl doneF d.syn) (.app n (b.take t))) V
      rw [List.take_of_length_le (by simp), List.foldl_append]
      refine ⟨h1, fun n b e => ?_⟩
      rw [List.getElem?_eq_none (by simp)] at e
      cases e
    · obtain rfl : k = d.wait.length := by omega
      refine crk_at ?_ h2
      have := (h d.wait.length (Nat.le_refl _)).1
      rwa [List.take_length] at this
theorem hard_name : nameB hardN = true := by decide
theorem new_name : nameB newN = true := by decide
theorem up_fits {d : DiskD} {n b : List UInt8} (hr : d.room = 1048576) (hu : usedF d.now ≤ 600) (hl : d.now.length ≤ 2) (hb : b.length ≤ 17) : fitsD d n b = true := by
  unfold fitsD
  rw [Bool.and_eq_true, decide_eq_true_eq]
  refine ⟨by rw [hr]; omega, ?_⟩
  rw [Bool.not_eq_true', Bool.and_eq_false_iff]
  right
  rw [decide_eq_false_iff_not]
  omega
theorem up_append {d : DiskD} {n b : List UInt8} (h1 : d.down = false) (h2 : d.fuse = none) (hn : nameB n = true) (hf : fitsD d n b = true) : appendD d n b = (doesD d (.app n b), 0) := by
  unfold appendD
  rw [hd_begin h1 h2]
  simp only
  rw [if_neg (by simp), hn, if_neg (by simp), hf, if_neg (by simp)]
theorem HS.save {d : DiskD} {L : List HV} {V : HV → Prop} (hs : HS d L) (hc : CR d V) (hL : V (lastH L)) {x : HV} (hx : hvOk x) (hV : V x) : ∃ d' L', saveHD d x = (d', 0) ∧ HS d' L' ∧ CR d' V ∧ lastH L' = x ∧ d'.wait.length ≤ d.wait.length + 2 ∧ ∀ V0 : HV → Prop, V0 (lastH L) → CRk d' V0 d.wait.length := by
  have hf := fr_len hx
  have hr : (readD d hardN).getD [] = frH L := by
    unfold readD
    rw [hs.up, if_neg (by simp), hs.at_]
  have hfew := hs.few
  have hused := hs.used
  unfold saveHD
  rw [hr]
  split
  · rename_i hlt
    rw [up_append hs.up hs.fz hard_name (up_fits hs.rm (by omega) (by omega) hf)]
    have happ : ∀ b, doneF d.now (.app hardN b) = putM d.now hardN (frH L ++ b) := fun b => by
      show putM d.now hardN ((getM d.now hardN).getD [] ++ b) = _
      rw [hs.at_]
    have hput : ∀ (V : HV → Prop) b, b.length ≤ 17 → ∀ L1 j, (∀ h, h ∈ L1 → hvOk h) → frH L ++ b = frH L1 ++ j → nextF j = none → V (lastH L1) → HFile (doneF d.now (.app hardN b)) V := fun V b hb L1 j h1 h2 h3 h4 => by
      rw [happ]
      refine ⟨nodup_put hs.nnd, fun k hk => ?_, ⟨L1, j, h1, ?_, h3, h4⟩, ?_, ?_⟩
      · rcases keys_put hs.nnd hk with h | h
        · exact .inl h
        · exact .inl (hs.ks k h)
      · rw [getM_put hs.nnd, if_pos rfl]; exact h2
      · rw [getM_put hs.nnd, if_pos rfl]
        simp only [Option.getD_some, List.length_append]
        omega
      · rw [getM_put hs.nnd, if_neg (fun e => hard_ne e.symm), hs.none_]
        simp
    have hok : ∀ h, h ∈ L ++ [x] → hvOk h := fun h hm => by
      rcases List.mem_append.1 hm with h1 | h1
      · exact hs.ok h h1
      · rw [List.mem_singleton.1 h1]; exact hx
    refine ⟨_, L ++ [x], rfl, ⟨hs.up, hs.fz, hs.rm, hs.nd, fun k hk => ?_, ?_, hok, ?_⟩, hc.push ?_ ?_, lastH_push _ _, ?_, fun V0 h0 => crk_at (hs.file h0) ?_⟩
    · rw [now_does, happ] at hk
      rcases keys_put hs.nnd hk with h | h
      · exact h
      · exact hs.ks k h
    · rw [now_does, happ, getM_put hs.nnd, if_pos rfl, frH_push]; rfl
    · rw [frH_push, List.length_append]; omega
    · exact hput V _ hf (L ++ [x]) [] hok (by rw [frH_push]; simp) next_nil (by rw [lastH_push]; exact hV)
    · rintro n b e t ht
      cases e
      exact hput V _ (by rw [List.length_take]; omega) L _ hs.ok rfl (fr_cut hx ht) hL
    · show (d.wait ++ [_]).length ≤ _
      simp
    · rintro n b e t ht
      cases e
      exact hput V0 _ (by rw [List.length_take]; omega) L _ hs.ok rfl (fr_cut hx ht) h0
  · rename_i hge
    have hrm : rmNewD d = (d, 0) := by
      unfold rmNewD readD
      rw [if_neg]
      rw [hs.up, if_neg (by simp), hs.none_]
      simp
    unfold beginHD
    rw [hrm]
    simp only
    rw [if_neg (by simp), up_append hs.up hs.fz new_name (up_fits hs.rm (by omega) (by omega) hf)]
    simp only
    rw [if_neg (by simp)]
    obtain ⟨d1, hd1⟩ : ∃ d1, doesD d (.app newN (frameL (layH x))) = d1 := ⟨_, rfl⟩
    have happ : ∀ b, doneF d.now (.app newN b) = putM d.now newN b := fun b => by
      show putM d.now newN ((getM d.now newN).getD [] ++ b) = _
      rw [hs.none_]; rfl
    have hn1 : d1.now = putM d.now newN (frameL (layH x)) := by rw [← hd1, now_does, happ]
    have hg1 : getM d1.now newN = some (frameL (layH x)) := by rw [hn1, getM_put hs.nnd, if_pos rfl]
    have hu1 : d1.down = false := by rw [← hd1]; exact hs.up
    have hz1 : d1.fuse = none := by rw [← hd1]; exact hs.fz
    have hnd1 : (keysM d1.now).Nodup := by rw [hn1]; exact nodup_put hs.nnd
    have hren : renD d1 newN hardN = (doesD d1 (.ren newN hardN), 0) := by
      unfold renD
      rw [hd_begin hu1 hz1]
      simp only
      rw [if_neg (by simp), hard_name, if_neg (by simp), hg1]
    have hdone : doneF d1.now (.ren newN hardN) = putM (delM d1.now newN) hardN (frameL (layH x)) := by
      show (match getM d1.now newN with | some y => putM (delM d1.now newN) hardN y | none => d1.now) = _
      rw [hg1]
    have hfile : ∀ (V : HV → Prop), V (lastH L) → ∀ b, b.length ≤ 17 → HFile (doneF d.now (.app newN b)) V := fun V hL b hb => by
      rw [happ]
      refine ⟨nodup_put hs.nnd, fun k hk => ?_, ⟨L, [], hs.ok, ?_, next_nil, hL⟩, ?_, ?_⟩
      · rcases keys_put hs.nnd hk with h | h
        · exact .inr h
        · exact .inl (hs.ks k h)
      · rw [getM_put hs.nnd, if_neg hard_ne, hs.at_]; simp
      · rw [getM_put hs.nnd, if_neg hard_ne, hs.at_]; have := hs.le; omega
      · rw [getM_put hs.nnd, if_pos rfl]
        simp only [Option.getD_some]
        omega
    have hfr : frH [x] = frameL (layH x) := by simp [frH, framesL]
    have hkeys : ∀ k, k ∈ keysM (doneF d1.now (.ren newN hardN)) → k = hardN := fun k hk => by
      rw [hdone] at hk
      rcases keys_put (nodup_del hnd1) hk with h | h
      · exact h
      · obtain ⟨h1, h2⟩ := keys_del hnd1 h
        rw [hn1] at h1
        rcases keys_put hs.nnd h1 with h3 | h3
        · exact absurd h3 h2
        · exact hs.ks k h3
    have hget : getM (doneF d1.now (.ren newN hardN)) hardN = some (frameL (layH x)) := by rw [hdone, getM_put (nodup_del hnd1), if_pos rfl]
    have hgn : getM (doneF d1.now (.ren newN hardN)) newN = none := getM_none.2 fun hm => hard_ne (hkeys _ hm).symm
    have hndd : (keysM (doneF d1.now (.ren newN hardN))).Nodup := by rw [hdone]; exact nodup_put (nodup_del hnd1)
    have hok : ∀ h, h ∈ [x] → hvOk h := fun h hm => by rw [List.mem_singleton.1 hm]; exact hx
    have hc1 : CR d1 V := by
      rw [← hd1]
      refine hc.push (hfile V hL _ hf) ?_
      rintro n b e t ht
      cases e
      exact hfile V hL _ (by rw [List.length_take]; omega)
    rw [hd1, hren]
    refine ⟨_, [x], rfl, ⟨hu1, hz1, by rw [← hd1]; exact hs.rm, by rw [← hd1]; exact hs.nd, ?_, ?_, hok, ?_⟩, hc1.push ?_ ?_, rfl, ?_, fun V0 h0 => ?_⟩
    · rw [now_does]; exact hkeys
    · rw [now_does, hget, hfr]; rfl
    · rw [hfr]; omega
    · exact ⟨hndd, fun k hk => .inl (hkeys k hk), ⟨[x], [], hok, by rw [hget, hfr]; simp, next_nil, hV⟩, by rw [hget]; simp only [Option.getD_some]; omega, by rw [hgn]; simp⟩
    · rintro n b e
      cases e
    · rw [← hd1]
      show ((d.wait ++ [_]) ++ [_]).length ≤ _
      simp
    · have h9 : CRk d1 V0 d.wait.length := by
        rw [← hd1]
        refine crk_at (hs.file h0) ?_
        rintro n b e t ht
        cases e
        exact hfile V0 h0 _ (by rw [List.length_take]; omega)
      refine h9.old ?_
      rw [← hd1]
      show _ < (d.wait ++ [_]).length
      simp
end Go.Proofs.Ytjcfimmcogkopaa.Sep

namespace Go.Proofs.Ytjcfimmcogkopaa.Sep

/-! ## A snapshot -/
structure SnV where
  i : Int
  t : Int
  c : Int
  d : List UInt8
instance : Inhabited SnV := ⟨⟨0, 0, 0, []⟩⟩
def rightP (s : SnV) : Bool := numB s.i && numB s.t && setB s.c && (s.c != 0) && decide (s.d.length ≤ 32768)
structure SnOk (s : SnV) : Prop where
  i : 1 ≤ s.i ∧ s.i ≤ 72057594037927935
  t : 1 ≤ s.t ∧ s.t ≤ 72057594037927935
  c : 1 ≤ s.c ∧ s.c ≤ 254
  e : s.c % 2 = 0
  d : s.d.length ≤ 32768
theorem rightP_iff {s : SnV} : rightP s = true ↔ SnOk s := by
  unfold rightP numB setB
  simp only [Bool.and_eq_true, decide_eq_true_eq, bne_iff_ne, ne_eq]
  constructor
  · rintro ⟨⟨⟨⟨h1, h2⟩, h3⟩, h4⟩, h5⟩
    exact ⟨by omega, by omega, by omega, by omega, h5⟩
  · rintro ⟨h1, h2, h3, h4, h5⟩
    exact ⟨⟨⟨⟨by omega, by omega⟩, by omega⟩, by omega⟩, h5⟩
def layP (s : SnV) : List UInt8 := layB (s.i, s.t, s.c) ++ layT s.d
def readP (x : List UInt8) : Option SnV :=
  match rbase x 0 with
  | ((i, t, c), l3, f3) => match rtext 32768 l3 f3 with
    | (d, l4, f4) => if rend l4 f4 = 0 then (if rightP ⟨i, t, c, d⟩ = true then some ⟨i, t, c, d⟩ else none) else none
theorem readP_of {x l3 d l4 : List UInt8} {i t c : Int} {f3 f4 : Nat} (h1 : rbase x 0 = ((i, t, c), l3, f3)) (h2 : rtext 32768 l3 f3 = (d, l4, f4)) : readP x = if rend l4 f4 = 0 then (if rightP ⟨i, t, c, d⟩ = true then some ⟨i, t, c, d⟩ else none) else none := by
  simp only [readP, h1, h2]
theorem layP_len {s : SnV} (h : SnOk s) : (layP s).length ≤ 32800 := by
  obtain ⟨h1, h2, h3, _, h5⟩ := h
  have e1 := vlay_length_pow 7 s.i.toNat (by omega)
  have e2 := vlay_length_pow 7 s.t.toNat (by omega)
  have e3 := vlay_length_pow 2 s.d.length (by omega)
  unfold layP layB layT layU
  simp only [List.length_append, List.length_cons, List.length_nil]
  omega
theorem readP_lay {s : SnV} (h : SnOk s) : readP (layP s) = some s := by
  obtain ⟨h1, h2, h3, h4, h5⟩ := h
  have e1 := good_base.lay (s.i, s.t, s.c) (layT s.d) ⟨by simp only; omega, by simp only; omega, by simp only; omega⟩
  have e2 := (good_text 32768).lay s.d [] ⟨by omega, by omega⟩
  rw [List.append_nil] at e2
  rw [layP, readP_of e1 e2, if_pos (show rend [] 0 = 0 from rfl), if_pos (rightP_iff.2 ⟨h1, h2, h3, h4, h5⟩)]
def frP (s : SnV) : List UInt8 := frameL (layP s)
theorem frP_len {s : SnV} (h : SnOk s) : (frP s).length ≤ 32808 := by
  have := layP_len h
  unfold frP
  rw [frame_len (by omega)]; omega
/-- the one frame of a file, read -/
def onlyP (b : List UInt8) : Option SnV :=
  match listL b with
  | ([p], k) => if k = b.length then readP p else none
  | _ => none
theorem onlyP_one {b p : List UInt8} {k : Nat} (h : listL b = ([p], k)) : onlyP b = if k = b.length then readP p else none := by
  unfold onlyP; rw [h]
theorem onlyP_nil : onlyP [] = none := by
  unfold onlyP; rw [listL_none next_nil]
theorem onlyP_fr {s : SnV} (h : SnOk s) : onlyP (frP s) = some s := by
  have hl := layP_len h
  have h1 := list_frames [layP s] (fun x hx => by rw [List.mem_singleton.1 hx]; omega) []
  rw [listL_none next_nil] at h1
  have h2 : listL (frP s) = ([layP s], (frP s).length) := by
    have e : framesL [layP s] = frP s := by simp [framesL, frP]
    rw [e, List.append_nil] at h1
    rw [h1]; rfl
  rw [onlyP_one h2, if_pos rfl, readP_lay h]

/-! ## What photo does to a disk -/
def snapN : List UInt8 := [115, 110, 97, 112]
def snewN : List UInt8 := [115, 110, 97, 112, 46, 110, 101, 119]
def rmSD (d : DiskD) : DiskD × Nat := if (readD d snewN).isSome = true then delD d snewN else (d, 0)
def openPD (d : DiskD) : DiskD × Option SnV × Nat :=
  if (rmSD d).2 ≠ 0 then ((rmSD d).1, none, (rmSD d).2) else ((rmSD d).1, onlyP ((readD (rmSD d).1 snapN).getD []), 0)
def savePD (d : DiskD) (f : List UInt8) : DiskD × Nat :=
  if (rmSD d).2 ≠ 0 then rmSD d
  else if (appendD (rmSD d).1 snewN f).2 ≠ 0 then appendD (rmSD d).1 snewN f
  else renD (appendD (rmSD d).1 snewN f).1 snewN snapN
theorem snap_ne : snapN ≠ snewN := by decide
theorem snap_name : nameB snapN = true := by decide
theorem snew_name : nameB snewN = true := by decide
theorem fitK_rmS {k : Nat} {d : DiskD} (h : d.fitK (k + 1)) : (rmSD d).1.fitK k := by
  unfold rmSD
  split
  · exact fitK_del h
  · exact h.less
theorem fitK_monoP {k j : Nat} {d : DiskD} (h : d.fitK k) (hj : j ≤ k) : d.fitK j := by
  obtain ⟨h1, h2⟩ := h
  exact ⟨by omega, by omega⟩
theorem fitK_saveP {k : Nat} {d : DiskD} {f : List UInt8} (h : d.fitK (k + 3)) (hl : f.length ≤ 65536) : (savePD d f).1.fitK k := by
  unfold savePD
  have h1 := fitK_rmS (k := k + 2) h
  split
  · exact fitK_monoP h1 (by omega)
  · have h2 := fitK_append (n := snewN) (b := f) (k := k + 1) h1 hl
    split
    · exact fitK_monoP h2 (by omega)
    · exact fitK_ren h2

/-! ## The files of photo -/
structure PFile (V : Option SnV → Prop) (f : FS) : Prop where
  nd : (keysM f).Nodup
  ks : ∀ k, k ∈ keysM f → k = snapN ∨ k = snewN
  has : ∃ o, getM f snapN = o.map frP ∧ (∀ s, o = some s → SnOk s) ∧ V o
  ln : ((getM f snewN).getD []).length ≤ 40000
theorem PFile.imp {f : FS} {V V' : Option SnV → Prop} (h : PFile V f) (hv : ∀ x, V x → V' x) : PFile V' f := by
  obtain ⟨o, h1, h2, h3⟩ := h.has
  exact ⟨h.nd, h.ks, ⟨o, h1, h2, hv _ h3⟩, h.ln⟩
theorem fr_opt {o : Option SnV} (h : ∀ s, o = some s → SnOk s) : ((o.map frP).getD []).length ≤ 32808 := by
  cases o with
  | none => simp
  | some s => exact frP_len (h s rfl)
theorem only_opt {o : Option SnV} (h : ∀ s, o = some s → SnOk s) : onlyP ((o.map frP).getD []) = o := by
  cases o with
  | none => exact onlyP_nil
  | some s => exact onlyP_fr (h s rfl)
theorem PFile.used {f : FS} {V : Option SnV → Prop} (h : PFile V f) : usedF f ≤ 80000 := by
  have h1 := used_two h.nd h.ks
  have h3 := h.ln
  obtain ⟨o, h4, h5, _⟩ := h.has
  have h6 := fr_opt h5
  rw [← h4] at h6
  omega
/-- what is opened behind a crash -/
theorem open_leftP {room : Int} {f : FS} {V : Option SnV → Prop} (h : PFile V f) : ∃ d' o, openPD ⟨room, f, [], none, false⟩ = (d', o, 0) ∧ V o ∧ (∀ s, o = some s → SnOk s) := by
  obtain ⟨o, hc, hO, hV⟩ := h.has
  obtain ⟨d, hd⟩ : ∃ d : DiskD, d = ⟨room, f, [], none, false⟩ := ⟨_, rfl⟩
  have hnow : d.now = f := by rw [hd]; rfl
  have hup : d.down = false := by rw [hd]
  have hfz : d.fuse = none := by rw [hd]
  have key : ∃ d1, rmSD d = (d1, 0) ∧ d1.down = false ∧ getM d1.now snapN = getM f snapN := by
    unfold rmSD
    split
    · rename_i hs
      unfold readD at hs
      rw [hup, if_neg (by simp), hnow] at hs
      obtain ⟨x, hx⟩ := Option.isSome_iff_exists.1 hs
      refine ⟨doesD d (.del snewN), ?_, hup, ?_⟩
      · unfold delD
        rw [hd_begin hup hfz]
        simp only
        rw [if_neg (by simp), hnow, hx]
      · rw [now_does, hnow]
        show getM (delM f snewN) snapN = _
        rw [getM_del h.nd, if_neg snap_ne]
    · exact ⟨d, rfl, hup, by rw [hnow]⟩
  obtain ⟨d1, e1, u1, g1⟩ := key
  have hr : onlyP ((readD d1 snapN).getD []) = o := by
    unfold readD
    rw [u1, if_neg (by simp), g1, hc]
    exact only_opt hO
  rw [← hd]
  unfold openPD
  rw [e1]
  simp only
  rw [if_neg (by simp), hr]
  exact ⟨_, _, rfl, hV, hO⟩

/-! ## What a crash may leave, of any property of files -/
def PRk (d : DiskD) (F : FS → Prop) (k : Nat) : Prop := F ((d.wait.take k).foldl doneF d.syn) ∧ ∀ n b, d.wait[k]? = some (.app n b) → ∀ t, t < b.length → F (doneF ((d.wait.take k).foldl doneF d.syn) (.app n (b.take t)))
def PR (d : DiskD) (F : FS → Prop) : Prop := ∀ k, k ≤ d.wait.length → PRk d F k
theorem PRk.imp {d : DiskD} {F F' : FS → Prop} {k : Nat} (h : PRk d F k) (hv : ∀ x, F x → F' x) : PRk d F' k := ⟨hv _ h.1, fun n b e t ht => hv _ (h.2 n b e t ht)⟩
theorem PR.imp {d : DiskD} {F F' : FS → Prop} (h : PR d F) (hv : ∀ x, F x → F' x) : PR d F' := fun k hk => (h k hk).imp hv
theorem PRk.left {d : DiskD} {F : FS → Prop} {keep : Int} (h : PRk d F (keepD d keep)) (torn : Int) : F (leftF d keep torn) := by
  obtain ⟨h1, h2⟩ := h
  unfold leftF
  split
  · rename_i n b e
    split
    · exact h1
    · rename_i hn
      refine h2 n b e _ ?_
      have hb : b ≠ [] := fun e => hn (.inr e)
      have hpos : 0 < (b.length : Int) := by
        have : b.length ≠ 0 := fun e => hb (List.eq_nil_of_length_eq_zero e)
        omega
      have := Int.emod_lt_of_pos torn hpos
      have := Int.emod_nonneg torn (show (b.length : Int) ≠ 0 by omega)
      omega
  · exact h1
theorem PRk.old {d : DiskD} {F : FS → Prop} {o : OpD} {k : Nat} (h : PRk d F k) (hlt : k < d.wait.length) : PRk (doesD d o) F k := by
  show F (((d.wait ++ [o]).take k).foldl doneF d.syn) ∧ ∀ n b, (d.wait ++ [o])[k]? = some (.app n b) → ∀ t, t < b.length → F (doneF (((d.wait ++ [o]).take k).foldl doneF d.syn) (.app n (b.take t)))
  rw [List.take_append_of_le_length (by omega), List.getElem?_append_left hlt]
  exact h
theorem prk_at {d : DiskD} {F : FS → Prop} {o : OpD} (h1 : F d.now) (h2 : ∀ n b, o = .app n b → ∀ t, t < b.length → F (doneF d.now (.app n (b.take t)))) : PRk (doesD d o) F d.wait.length := by
  show F (((d.wait ++ [o]).take d.wait.length).foldl doneF d.syn) ∧ ∀ n b, (d.wait ++ [o])[d.wait.length]? = some (.app n b) → ∀ t, t < b.length → F (doneF (((d.wait ++ [o]).take d.wait.length).foldl doneF d.syn) (.app n (b.take t)))
  rw [List.take_append_of_le_length (Nat.le_refl _), List.take_length]
  refine ⟨h1, fun n b e t ht => ?_⟩
  rw [List.getElem?_append_right (Nat.le_refl _), Nat.sub_self] at e
  obtain rfl := Option.some.inj e
  exact h2 n b rfl t ht
/-- one more operation, of which nothing, all, or a part may be left -/
theorem PR.push {d : DiskD} {F : FS → Prop} {o : OpD} (h : PR d F) (h1 : F (doneF d.now o)) (h2 : ∀ n b, o = .app n b → ∀ t, t < b.length → F (doneF d.now (.app n (b.take t)))) : PR (doesD d o) F := by
  intro k hk
  change k ≤ (d.wait ++ [o]).length at hk
  rw [List.length_append] at hk
  simp only [List.length_cons, List.length_nil] at hk
  rcases Nat.lt_or_ge k d.wait.length with hlt | hge
  · exact (h k (by omega)).old hlt
  · rcases Nat.lt_or_ge d.wait.length k with hlt | hle
    · obtain rfl : k = d.wait.length + 1 := by omega
      show F (((d.wait ++ [o]).take (d.wait.length + 1)).foldl doneF d.syn) ∧ ∀ n b, (d.wait ++ [o])[d.wait.length + 1]? = some (.app n b) → ∀ t, t < b.length → F (doneF (((d.wait ++ [o]).take (d.wait.length + 1)).foldl doneF d.syn) (.app n (b.take t)))
      rw [List.take_of_length_le (by simp), List.foldl_append]
      refine ⟨h1, fun n b e => ?_⟩
      rw [List.getElem?_eq_none (by simp)] at e
      cases e
    · obtain rfl : k = d.wait.length := by omega
      refine prk_at ?_ h2
      have := (h d.wait.length (Nat.le_refl _)).1
      rwa [List.take_length] at this
theorem PRk.crash {d : DiskD} {V : Option SnV → Prop} {keep : Int} (h : PRk d (PFile V) (keepD d keep)) (torn : Int) : (crashD d keep torn).fitK 9 ∧ PFile V (leftF d keep torn) ∧ ∃ d' o, openPD (crashD d keep torn) = (d', o, 0) ∧ V o ∧ (∀ s, o = some s → SnOk s) := by
  have h1 := h.left torn
  refine ⟨⟨?_, ?_⟩, h1, open_leftP h1⟩
  · show usedF (leftF d keep torn) + (([] : List OpD).map OpD.size).sum + 65536 * 9 ≤ _
    have := h1.used
    simp only [List.map_nil, List.sum_nil]
    omega
  · show ([] : List OpD).length + 9 ≤ _
    simp

/-! ## Saving, synced now and then -/
/-- the disk shows this snapshot, or none, and nothing else -/
structure PS (d : DiskD) (o : Option SnV) : Prop where
  up : d.down = false
  fz : d.fuse = none
  rm : d.room = 1048576
  nd : (keysM d.syn).Nodup
  ks : ∀ k, k ∈ keysM d.now → k = snapN
  at_ : getM d.now snapN = o.map frP
  ok : ∀ s, o = some s → SnOk s
theorem PS.nnd {d : DiskD} {o : Option SnV} (h : PS d o) : (keysM d.now).Nodup := nodup_all d.wait h.nd
theorem PS.none_ {d : DiskD} {o : Option SnV} (h : PS d o) : getM d.now snewN = none := getM_none.2 fun hm => snap_ne (h.ks _ hm).symm
theorem PS.file {d : DiskD} {o : Option SnV} (h : PS d o) {V : Option SnV → Prop} (hV : V o) : PFile V d.now :=
  ⟨h.nnd, fun k hk => .inl (h.ks k hk), ⟨o, h.at_, h.ok, hV⟩, by rw [h.none_]; simp⟩
theorem PS.used {d : DiskD} {o : Option SnV} (h : PS d o) : usedF d.now ≤ 80000 := (h.file (V := fun _ => True) trivial).used
theorem PS.few {d : DiskD} {o : Option SnV} (h : PS d o) : d.now.length ≤ 1 := by
  have h1 := h.nnd
  have h2 := h.ks
  cases e : d.now with
  | nil => simp
  | cons p r =>
    cases r with
    | nil => simp
    | cons q r =>
      rw [e] at h1 h2
      have a1 := h2 p.1 (by simp [keysM])
      have a2 := h2 q.1 (by simp [keysM])
      simp only [keysM, List.map_cons, List.nodup_cons, List.mem_cons] at h1
      exact absurd (.inl (a1.trans a2.symm)) h1.1
theorem PS.rm_ {d : DiskD} {o : Option SnV} (h : PS d o) : rmSD d = (d, 0) := by
  unfold rmSD readD
  rw [if_neg]
  rw [h.up, if_neg (by simp), h.none_]
  simp
theorem PS.open_ {d : DiskD} {o : Option SnV} (h : PS d o) : openPD d = (d, o, 0) := by
  have hr : onlyP ((readD d snapN).getD []) = o := by
    unfold readD
    rw [h.up, if_neg (by simp), h.at_]
    exact only_opt h.ok
  unfold openPD
  rw [h.rm_]
  simp only
  rw [if_neg (by simp), hr]
theorem ps_new {room : Int} (hr : room = 1048576) : PS (newD room) none := ⟨rfl, rfl, hr, List.nodup_nil, fun k hk => (by cases hk), rfl, fun h hm => (by cases hm)⟩
theorem pr_new {room : Int} {V : Option SnV → Prop} (hV : V none) : PR (newD room) (PFile V) := fun k hk => by
  obtain rfl : k = 0 := Nat.le_zero.1 hk
  exact ⟨⟨List.nodup_nil, fun k hk => (by cases hk), ⟨none, rfl, fun h hm => (by cases hm), hV⟩, Nat.zero_le _⟩, fun n b e => (by cases e)⟩
theorem ps_sync {d : DiskD} {o : Option SnV} (h : PS d o) {V : Option SnV → Prop} (hV : V o) : ∃ d', syncD d = (d', 0) ∧ PS d' o ∧ PR d' (PFile V) ∧ d'.wait = [] := by
  refine ⟨{ d with syn := d.now, wait := [] }, ?_, ⟨h.up, h.fz, h.rm, h.nnd, h.ks, h.at_, h.ok⟩, fun k hk => ?_, rfl⟩
  · unfold syncD
    rw [hd_begin h.up h.fz]
    simp only
    rw [if_neg (by simp)]
  · obtain rfl : k = 0 := Nat.le_zero.1 hk
    exact ⟨h.file hV, fun n b e => (by cases e)⟩
theorem PS.fit0 {d : DiskD} {o : Option SnV} {k : Nat} (h : PS d o) (hw : d.wait = []) (hk : k ≤ 9000) : d.fitK k := by
  have h1 := h.used
  have h2 : d.now = d.syn := by unfold DiskD.now; rw [hw]; rfl
  rw [h2] at h1
  refine ⟨?_, ?_⟩
  · rw [hw]
    show usedF d.syn + 0 + _ ≤ _
    omega
  · rw [hw]
    show 0 + k ≤ _
    omega
theorem up_fitsP {d : DiskD} {n b : List UInt8} (hr : d.room = 1048576) (hu : usedF d.now ≤ 80000) (hl : d.now.length ≤ 2) (hb : b.length ≤ 40000) : fitsD d n b = true := by
  unfold fitsD
  rw [Bool.and_eq_true, decide_eq_true_eq]
  refine ⟨by rw [hr]; omega, ?_⟩
  rw [Bool.not_eq_true', Bool.and_eq_false_iff]
  right
  rw [decide_eq_false_iff_not]
  omega
theorem PS.save {d : DiskD} {o : Option SnV} {V : Option SnV → Prop} (hs : PS d o) (hc : PR d (PFile V)) (hL : V o) {x : SnV} (hx : SnOk x) (hV : V (some x)) : ∃ d', savePD d (frP x) = (d', 0) ∧ PS d' (some x) ∧ PR d' (PFile V) ∧ d'.wait.length = d.wait.length + 2 ∧ ∀ V0 : Option SnV → Prop, V0 o → PRk d' (PFile V0) (d.wait.length + 1) := by
  have hf := frP_len hx
  have hfew := hs.few
  have hused := hs.used
  unfold savePD
  rw [hs.rm_]
  simp only
  rw [if_neg (by simp), up_append hs.up hs.fz snew_name (up_fitsP hs.rm hused (by omega) (by omega))]
  simp only
  rw [if_neg (by simp)]
  obtain ⟨d1, hd1⟩ : ∃ d1, doesD d (.app snewN (frP x)) = d1 := ⟨_, rfl⟩
  have happ : ∀ b, doneF d.now (.app snewN b) = putM d.now snewN b := fun b => by
    show putM d.now snewN ((getM d.now snewN).getD [] ++ b) = _
    rw [hs.none_]; rfl
  have hn1 : d1.now = putM d.now snewN (frP x) := by rw [← hd1, now_does, happ]
  have hg1 : getM d1.now snewN = some (frP x) := by rw [hn1, getM_put hs.nnd, if_pos rfl]
  have hu1 : d1.down = false := by rw [← hd1]; exact hs.up
  have hz1 : d1.fuse = none := by rw [← hd1]; exact hs.fz
  have hnd1 : (keysM d1.now).Nodup := by rw [hn1]; exact nodup_put hs.nnd
  have hren : renD d1 snewN snapN = (doesD d1 (.ren snewN snapN), 0) := by
    unfold renD
    rw [hd_begin hu1 hz1]
    simp only
    rw [if_neg (by simp), snap_name, if_neg (by simp), hg1]
  have hdone : doneF d1.now (.ren snewN snapN) = putM (delM d1.now snewN) snapN (frP x) := by
    show (match getM d1.now snewN with | some y => putM (delM d1.now snewN) snapN y | none => d1.now) = _
    rw [hg1]
  have hfile : ∀ (V : Option SnV → Prop), V o → ∀ b, b.length ≤ 32808 → PFile V (doneF d.now (.app snewN b)) := fun V hL b hb => by
    rw [happ]
    refine ⟨nodup_put hs.nnd, fun k hk => ?_, ⟨o, ?_, hs.ok, hL⟩, ?_⟩
    · rcases keys_put hs.nnd hk with h | h
      · exact .inr h
      · exact .inl (hs.ks k h)
    · rw [getM_put hs.nnd, if_neg snap_ne, hs.at_]
    · rw [getM_put hs.nnd, if_pos rfl]
      simp only [Option.getD_some]
      omega
  have hkeys : ∀ k, k ∈ keysM (doneF d1.now (.ren snewN snapN)) → k = snapN := fun k hk => by
    rw [hdone] at hk
    rcases keys_put (nodup_del hnd1) hk with h | h
    · exact h
    · obtain ⟨h1, h2⟩ := keys_del hnd1 h
      rw [hn1] at h1
      rcases keys_put hs.nnd h1 with h3 | h3
      · exact absurd h3 h2
      · exact hs.ks k h3
  have hget : getM (doneF d1.now (.ren snewN snapN)) snapN = some (frP x) := by rw [hdone, getM_put (nodup_del hnd1), if_pos rfl]
  have hgn : getM (doneF d1.now (.ren snewN snapN)) snewN = none := getM_none.2 fun hm => snap_ne (hkeys _ hm).symm
  have hndd : (keysM (doneF d1.now (.ren snewN snapN))).Nodup := by rw [hdone]; exact nodup_put (nodup_del hnd1)
  have hok : ∀ s, some x = some s → SnOk s := fun s hm => by obtain rfl := Option.some.inj hm; exact hx
  have hc1 : PR d1 (PFile V) := by
    rw [← hd1]
    refine hc.push (hfile V hL _ hf) ?_
    rintro n b e t ht
    cases e
    exact hfile V hL _ (by rw [List.length_take]; omega)
  have hw1 : d1.wait.length = d.wait.length + 1 := by
    rw [← hd1]
    show (d.wait ++ [_]).length = _
    simp
  rw [hd1, hren]
  refine ⟨_, rfl, ⟨hu1, hz1, by rw [← hd1]; exact hs.rm, by rw [← hd1]; exact hs.nd, ?_, ?_, hok⟩, hc1.push ?_ ?_, ?_, fun V0 h0 => ?_⟩
  · rw [now_does]; exact hkeys
  · rw [now_does, hget]; rfl
  · exact ⟨hndd, fun k hk => .inl (hkeys k hk), ⟨some x, by rw [hget]; rfl, hok, hV⟩, by rw [hgn]; simp⟩
  · rintro n b e
    cases e
  · show (d1.wait ++ [_]).length = _
    simp only [List.length_append, List.length_cons, List.length_nil]
    omega
  · rw [← hw1]
    refine prk_at ?_ ?_
    · rw [← hd1, now_does]; exact hfile V0 h0 _ hf
    · rintro n b e
      cases e

/-! ## Many that are saved -/
def optL (A : List SnV) : List (Option SnV) := none :: A.map some
structure PI (i a : Nat) (A : List SnV) (d : DiskD) (o : Option SnV) : Prop where
  hs : PS d o
  cr : PR d (PFile fun x => ∃ j, a ≤ j ∧ (optL A)[j]? = some x)
  len : A.length = i
  ai : a ≤ i
  last : (optL A)[i]? = some o
  fit : d.fitK (300 - 3 * i)
theorem new_fitP {room : Int} {k : Nat} (hk : k ≤ 9000) : (newD room).fitK k := ⟨by
  show 0 + 0 + 65536 * k ≤ _
  omega, by
  show 0 + k ≤ _
  omega⟩
theorem pi0 : PI 0 0 [] (newD 1048576) none := ⟨ps_new rfl, pr_new ⟨0, Nat.le_refl _, rfl⟩, rfl, Nat.le_refl _, rfl, new_fitP (by decide)⟩
theorem PI.sync {i a : Nat} {A : List SnV} {d : DiskD} {o : Option SnV} (h : PI i a A d o) : ∃ d', syncD d = (d', 0) ∧ PI i i A d' o := by
  obtain ⟨d', h1, h2, h3, h4⟩ := ps_sync h.hs (V := fun x => ∃ j, i ≤ j ∧ (optL A)[j]? = some x) ⟨i, Nat.le_refl _, h.last⟩
  exact ⟨d', h1, h2, h3, h.len, Nat.le_refl _, h.last, h2.fit0 h4 (by omega)⟩
theorem optL_push (A : List SnV) (x : SnV) : optL (A ++ [x]) = optL A ++ [some x] := by simp [optL]
theorem optL_len (A : List SnV) : (optL A).length = A.length + 1 := by simp [optL]
theorem PI.save {i a : Nat} {A : List SnV} {d : DiskD} {o : Option SnV} (h : PI i a A d o) (hi : i < 90) {x : SnV} (hx : SnOk x) : ∃ d', savePD d (frP x) = (d', 0) ∧ PI (i + 1) a (A ++ [x]) d' (some x) := by
  have hll := optL_len A
  have hlen := h.len
  have hold : ∀ y, (∃ j, a ≤ j ∧ (optL A)[j]? = some y) → ∃ j, a ≤ j ∧ (optL (A ++ [x]))[j]? = some y := fun y ⟨j, h1, h2⟩ => ⟨j, h1, by rw [optL_push, List.getElem?_append_left (List.getElem?_eq_some_iff.1 h2).1]; exact h2⟩
  have hnew : (optL (A ++ [x]))[i + 1]? = some (some x) := by rw [optL_push, List.getElem?_append_right (by omega), hll, hlen]; simp
  obtain ⟨d', h1, h2, h3, _, _⟩ := h.hs.save (h.cr.imp fun f hf => hf.imp hold) (hold _ ⟨i, h.ai, h.last⟩) hx ⟨i + 1, by have := h.ai; omega, hnew⟩
  refine ⟨d', h1, h2, h3, by rw [List.length_append, hlen]; rfl, by have := h.ai; omega, hnew, ?_⟩
  have h5 := fitK_saveP (k := 300 - 3 * (i + 1)) (d := d) (f := frP x) (fitK_monoP h.fit (by omega)) (by have := frP_len hx; omega)
  rwa [h1] at h5
theorem file_readP {room : Int} {f : FS} {V : Option SnV → Prop} (h : PFile V f) {b : List UInt8} (hb : (readD (rmSD ⟨room, f, [], none, false⟩).1 snapN).getD [] = b) : b.length ≤ 137438953472 := by
  have h1 : (readD (rmSD ⟨room, f, [], none, false⟩).1 snapN).getD [] = (getM f snapN).getD [] := by
    unfold rmSD
    split
    · rename_i hs
      have hx : ∃ x, getM f snewN = some x := Option.isSome_iff_exists.1 hs
      obtain ⟨x, hx⟩ := hx
      have hdel : delD ⟨room, f, [], none, false⟩ snewN = (doesD ⟨room, f, [], none, false⟩ (.del snewN), 0) := by
        unfold delD
        rw [hd_begin rfl rfl]
        simp only
        rw [if_neg (by simp)]
        show (match getM f snewN with | none => _ | some _ => _) = _
        rw [hx]
      rw [hdel]
      show ((if false = true then none else getM (doesD ⟨room, f, [], none, false⟩ (.del snewN)).now snapN).getD []) = _
      rw [if_neg (by simp), now_does]
      show (getM (delM f snewN) snapN).getD [] = _
      rw [getM_del h.nd, if_neg snap_ne]
    · rfl
  obtain ⟨o, h4, h5, _⟩ := h.has
  have h6 := fr_opt h5
  rw [← h4] at h6
  rw [← hb, h1]; omega
theorem ps_readP {d : DiskD} {o : Option SnV} (h : PS d o) {b : List UInt8} (hb : (readD (rmSD d).1 snapN).getD [] = b) : b.length ≤ 137438953472 := by
  rw [h.rm_] at hb
  have hr : (readD d snapN).getD [] = (o.map frP).getD [] := by
    unfold readD
    rw [h.up, if_neg (by simp), h.at_]
  have := fr_opt h.ok
  rw [← hb, hr]; omega
theorem PI.crash {i a : Nat} {A : List SnV} {d : DiskD} {o : Option SnV} (h : PI i a A d o) (keep torn : Int) : (crashD d keep torn).fitK 9 ∧ (∀ b, (readD (rmSD (crashD d keep torn)).1 snapN).getD [] = b → b.length ≤ 137438953472) ∧ ∃ d' x j, openPD (crashD d keep torn) = (d', x, 0) ∧ a ≤ j ∧ (optL A)[j]? = some x := by
  obtain ⟨h1, hF, d', x, h2, ⟨j, h3, h4⟩, _⟩ := (h.cr (keepD d keep) (keepD_le d keep)).crash torn
  exact ⟨h1, fun b hb => file_readP hF hb, d', x, j, h2, h3, h4⟩
/-- the example -/
theorem knp {a b : SnV} (ha : SnOk a) (hb : SnOk b) : ∃ d1 d2 d3 : DiskD, savePD (newD 1048576) (frP a) = (d1, 0) ∧ d1.fit ∧ syncD d1 = (d2, 0) ∧ d2.fitK 9 ∧ savePD d2 (frP b) = (d3, 0) ∧ d3.fitK 6 ∧ openPD d3 = (d3, some b, 0) ∧ (∀ x, (readD (rmSD d3).1 snapN).getD [] = x → x.length ≤ 137438953472) ∧ (crashD d3 1 0).fitK 9 ∧ (∀ x, (readD (rmSD (crashD d3 1 0)).1 snapN).getD [] = x → x.length ≤ 137438953472) ∧ ∃ d4, openPD (crashD d3 1 0) = (d4, some a, 0) := by
  have hs0 : PS (newD 1048576) none := ps_new rfl
  obtain ⟨d1, h1, hs1, hc1, hw1, _⟩ := hs0.save (pr_new (V := fun _ => True) trivial) trivial ha trivial
  have hf1 := fitK_saveP (k := 6) (d := newD 1048576) (f := frP a) (new_fitP (by decide)) (by have := frP_len ha; omega)
  rw [h1] at hf1
  obtain ⟨d2, h2, hs2, hc2, hw2⟩ := ps_sync hs1 (V := fun _ => True) trivial
  obtain ⟨d3, h3, hs3, hc3, hw3, hk3⟩ := hs2.save hc2 trivial hb trivial
  have hf3 := fitK_saveP (k := 6) (d := d2) (f := frP b) (hs2.fit0 hw2 (by decide)) (by have := frP_len hb; omega)
  rw [h3] at hf3
  have hk := hk3 (fun x => x = some a) rfl
  have he : keepD d3 1 = d2.wait.length + 1 := by unfold keepD; rw [hw3, hw2]; rfl
  rw [← he] at hk
  obtain ⟨hf4, hF, d4, x, h4, rfl, _⟩ := hk.crash 0
  exact ⟨d1, d2, d3, h1, hf1.fit, h2, hs2.fit0 hw2 (by decide), h3, hf3, hs3.open_, fun x hx => ps_readP hs3 hx, hf4, fun x hx => file_readP hF hx, d4, h4⟩
end Go.Proofs.Ytjcfimmcogkopaa.Sep

namespace Go.Proofs.Ytjcfimmcogkopaa.Sep
open Go.RowKit
open Go.Proofs.Ytjcfimmcogkopaa.Mem (Dist Blk Chg below0)
/-- something that a slice's bytes are read of -/
def RdB (v : Value) (d : List UInt8) : Ass := fun rs => ∃ X : Ass, Rd8 X v d ∧ X rs
theorem rdB_rd8 {v : Value} {d : List UInt8} : Rd8 (RdB v d) v d := fun rs w ⟨_, h1, h2⟩ h3 => h1 rs w h2 h3
theorem rdB_of {X : Ass} {v : Value} {d : List UInt8} (h : Rd8 X v d) : ∀ rs, Parts [X] rs → RdB v d rs := fun _ h2 => ⟨X, h, h2.one'⟩
theorem rd8_cutP {X : Ass} {A : Option Addr} {c : Nat} {l : List UInt8} (n : Nat) (h : Rd8 X (.slice A l.length c) l) : Rd8 X (.slice A (l.take n).length c) (l.take n) := fun rs w h1 h2 => by
  obtain ⟨A', c', e, hb1, hb2, hb3⟩ := h rs w h1 h2
  simp only [Value.slice.injEq] at e
  obtain ⟨rfl, _, rfl⟩ := e
  refine ⟨_, _, rfl, ?_, hb2, fun hp => ?_⟩
  · rw [List.length_take]; omega
  · obtain ⟨g, o, e1, e2, h3⟩ := hb3 (by rw [List.length_take] at hp; omega)
    refine ⟨g, o, e1, e2, fun j b hb => h3 j b ?_⟩
    rw [List.getElem?_take] at hb
    split at hb
    · exact hb
    · cases hb
theorem vec_capP {e : TypeId} {A : Option Addr} {c n : Nat} {l : List UInt8} : ∀ rs, Vec e 1 encB (.slice A n c) l rs → l.length ≤ c := fun rs h => by
  rcases h with ⟨h1, h2, _⟩ | ⟨g, cap, cs, h1, h2, _⟩
  · rw [h2]; exact Nat.zero_le _
  · simp only [Value.slice.injEq] at h1; omega
theorem all_blocks {w : World} {α : Type} {f : α → Value} {d : α → List UInt8} : ∀ {l : List α}, (∀ y ∈ l, Sl8 w (f y) (d y)) → ∃ gs : List Nat, (∀ g ∈ gs, CellsAt w g) ∧ ∀ w' : World, (∀ g ∈ gs, w'.heap[g]? = w.heap[g]?) → ∀ y ∈ l, Sl8 w' (f y) (d y)
  | [], _ => ⟨[], (fun _ h => nomatch h), fun _ _ _ h => nomatch h⟩
  | y :: l, h => by
    obtain ⟨g0, hc0, r0⟩ := s8_blocks (h y (by simp))
    obtain ⟨g1, hc1, r1⟩ := all_blocks (l := l) fun z hz => h z (by simp [hz])
    refine ⟨g0 ++ g1, fun g hg => (List.mem_append.1 hg).elim (hc0 g) (hc1 g), fun w' hw z hz => ?_⟩
    rcases List.mem_cons.1 hz with rfl | hz
    · exact r0 w' fun g hg => hw g (List.mem_append.2 (.inl hg))
    · exact r1 w' (fun g hg => hw g (List.mem_append.2 (.inr hg))) z hz
/-- a law over a slice of structs, each with bytes of its own, all read only -/
theorem calls_argS {P : Program} {F : FuncId} {args : Array Value} {val : Value} {w : World} {α : Type} {k : Nat} {enc : α → List Value} {v : Value} {l : List α} {f : α → Value} {d : α → List UInt8} (h0 : SlRd w k v l.length (flat enc l)) (h1 : ∀ y ∈ l, Sl8 w (f y) (d y)) (h : ∀ X : Ass, Rd X k enc v l → (∀ y ∈ l, Rd8 X (f y) (d y)) → Does P F args [X] (fun _ : Unit => val) (fun _ => [X])) : Calls P F args w fun e w' => e = .returned val ∧ Below w.heap.size w w' := by
  obtain ⟨g0, hc0, r0⟩ := sl_blocks h0
  obtain ⟨g1, hc1, r1⟩ := all_blocks h1
  have hc : ∀ g ∈ g0 ++ g1, CellsAt w g := fun g hg => (List.mem_append.1 hg).elim (hc0 g) (hc1 g)
  exact calls_argT hc (h _ (argT_rd hc fun w' hw => r0 w' fun g hg => hw g (List.mem_append.2 (.inl hg))) fun y hy => argT_rd8 hc fun w' hw => r1 w' (fun g hg => hw g (List.mem_append.2 (.inr hg))) y hy)
/-- bytes made of a string: a row that is only read -/
def BytP (e : TypeId) (g c : Nat) (l : List UInt8) : Ass := fun rs => (l.length ≤ c ∧ c ≤ maxLen) ∧ ∃ cs f, (∀ (j : Nat) (b : UInt8), l[j]? = some b → cs[j]? = some (.int .u8 (b.toNat : Int))) ∧ rs = [(g, none, litC cs e f)]
section
variable {P : Program} {B : Nat → Prop} {w0 w : World} {os : List Ass} {n : Nat} {env : List (Nat × Value)} {Q : Exit → Act → World → Prop} {o : Oper} {act : Act}
theorem a_tobytesP {src dst e : TypeId} {u : TypeDesc} {l : List UInt8} (hl : l.length ≤ maxLen) (hs : P.underlying src = some u) (hd : P.underlying dst = some (.slice e)) (he : P.underlying e = some (.int .u8)) {x : Operand} (ho : o.op = .convert src dst x) (hx : evs env x = some (.string (bs l))) :
    Acts P Q n env B w0 os o (fun x : Nat × Nat => .slice (some ⟨x.1, 0, none⟩) l.length x.2) (fun x => BytP e x.1 x.2 l :: os) := fun act w hH hF K hK => by
  have hrun : (execOp act.eval o).run P w = .ok (.value (.slice (some ⟨w.heap.size, 0, none⟩) l.length (grownCap w l.length 0 e))) (Lib.bytesWorld w e (bs l)) := by
    unfold execOp
    have := Lib.run_convert_string_bytes (P := P) w src dst e (bs l) hs hd he
    have hsz : (bs l).size = l.length := by simp [bs, ByteArray.size]
    simp only [ho, hF.evs hx, Sem.run_bind, this, Result.andThen_ok, Sem.run_pure, hsz]
  have hH2 : Hp B w0 (Lib.bytesWorld w e (bs l)) (BytP e w.heap.size (grownCap w l.length 0 e) l :: os) := by
    have hb : Below w.heap.size w (Lib.bytesWorld w e (bs l)) := ⟨rfl, rfl, rfl, by rw [Lib.bytesWorld_size]; omega, fun j hj => Lib.bytesWorld_at_old w e _ j hj⟩
    obtain ⟨rs, h1, h0⟩ := hH
    have h2 := h0.call hb
    have hnew := Lib.bytesWorld_at_new w e (bs l)
    refine ⟨(w.heap.size, none, litC (Lib.bytesCells w e (bs l)) e ((Lib.bytesCells w e (bs l)).size, (Lib.bytesCells w e (bs l)).size + 1)) :: rs, ⟨[_], rs, rfl, ⟨⟨grownCap_ge .., grownCap_le_maxLen _ _ _ _ hl⟩, _, _, fun j b hj => ?_, rfl⟩, h1⟩, h2.up, ⟨rowx_lit.2 hnew, h2.rows⟩, ⟨fun y hy e1 => ?_, h2.apart⟩, fun x hx hlt => ?_⟩
    · have hjl := (List.getElem?_eq_some_iff.1 hj).1
      have hsz : (bs l).size = l.length := by simp [bs, ByteArray.size]
      have hc := Lib.bytesWorld_cell w e (bs l) j (by rw [hsz]; exact hjl)
      unfold World.cell? at hc
      rw [hnew] at hc
      have h3 : (Lib.bytesCells w e (bs l))[j]? = some (.int .u8 (((bs l).data.toList.getD j 0).toNat : Int)) := hc
      rw [h3]
      have h4 : (bs l).data.toList.getD j 0 = b := by
        show l.toArray.toList.getD j 0 = b
        simp [hj]
      rw [h4]
    · have h5 := (h0.rows.mem y hy).lt
      have e2 : y.1 = w.heap.size := e1
      omega
    · rcases List.mem_cons.1 hx with rfl | hx
      · have := h0.up.size; exact absurd hlt (by show ¬ w.heap.size < w0.heap.size; omega)
      · exact h2.own x hx hlt
  exact a_val (w0 := w) act hrun (hK (w.heap.size, _) _ hH2)
end
theorem bytP_rd8 {e : TypeId} {g c : Nat} {l : List UInt8} : Rd8 (BytP e g c l) (.slice (some ⟨g, 0, none⟩) l.length c) l := fun rs w h1 h2 => by
  obtain ⟨⟨hl, hc⟩, cs, f, h3, rfl⟩ := h1
  refine ⟨_, _, rfl, hl, hc, fun _ => ⟨g, 0, rfl, trivial, fun j b hb => ?_⟩⟩
  have h4 := rowx_lit.1 h2.1
  rw [Nat.zero_add]
  simp only [World.cell?, h4]
  exact h3 j b hb
theorem eqBaseP (a b c d e f : Int) (z : Bool) (h : (a == d && (b == e && c == f)) = z) : EqAt Try.prog 28 (.agg #[.int .u64 a, .int .u64 b, .int .i64 c]) (.agg #[.int .u64 d, .int .u64 e, .int .i64 f]) z := by
  have h1 := eqBase a b c d e f
  rwa [h] at h1
theorem tmodP {a b : Int} (h : 0 ≤ a) : a.tmod b = a % b := Int.tmod_eq_emod_of_nonneg h
theorem prt_rd8p {te : TypeId} {v : Value} {l : List PtT} {y : PtT} {j : Nat} (hj : l[j]? = some y) : Rd8 (PartsT te v l) y.1 y.2 := prt_rd8 (u := y.1) (d := y.2) hj
end Go.Proofs.Ytjcfimmcogkopaa.Sep
