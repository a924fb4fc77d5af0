/-
  AgT · HdM · PhM · PhU
-/
import Derived.Test.YtjcfimmcogkopaaGreatPA08
import Derived.Test.YtjcfimmcogkopaaGreatPB03
import Derived.Test.YtjcfimmcogkopaaGreatPB04
import Derived.Test.YtjcfimmcogkopaaGreatPI01
import Derived.Lib.ConvBytes
import Derived.Laws.AppendOwn
set_option linter.unusedSimpArgs false
set_option linter.unusedVariables false
namespace Go.Proofs.YtjcfimmcogkopaaGreat.Sep
open Go.RowKit
open Go.Proofs.YtjcfimmcogkopaaGreat.Mem (Bh Cs Chg AA)
def Jt : List Nat → List Nat
  | [] => []
  | a :: l => if a ∈ Jt l then Jt l else a :: Jt l
theorem Hw {a : Nat} : ∀ {l : List Nat}, a ∈ Jt l ↔ a ∈ l
  | [] => Iff.rfl
  | b :: l => by
    have ih := Hw (a := a) (l := l)
    unfold Jt
    split
    · rename_i h
      rw [ih, List.mem_cons]
      refine ⟨.inr, fun h2 => ?_⟩
      rcases h2 with rfl | h2
      · exact Hw.1 h
      · exact h2
    · rw [List.mem_cons, List.mem_cons, ih]
theorem GM : ∀ l : List Nat, (Jt l).Nodup
  | [] => List.nodup_nil
  | b :: l => by
    unfold Jt
    split
    · exact GM l
    · rename_i h
      exact List.nodup_cons.2 ⟨h, GM l⟩
def Kn (w : World) (g : Nat) : RowT := (g, none, match w.heap[g]? with | some (.cells C e f) => F5 C e f | _ => #[])
def Ut (w : World) (gs : List Nat) : Ass := fun rs => rs = (Jt gs).map (Kn w)
def Eu (w : World) (g : Nat) : Prop := ∃ C e f, w.heap[g]? = some (.cells C e f)
theorem Uu {C C' : Array Value} {e e' : TypeId} {f f' : Nat × Nat} (h : F5 C e f = F5 C' e' f') : C = C' ∧ e = e' ∧ f = f' := by
  obtain ⟨f1, f2⟩ := f
  obtain ⟨g1, g2⟩ := f'
  unfold F5 at h
  simp at h
  obtain ⟨h1, h2, h3, h4⟩ := h
  refine ⟨h1, ?_, ?_⟩
  · first | exact h2 | exact Int.ofNat.inj h2 | omega
  · rw [show f1 = g1 by first | exact h3 | omega, show f2 = g2 by first | exact h4 | omega]
theorem Xm {w w' : World} {g : Nat} (hc : Eu w g) (h : C3 w' (Kn w g)) : w'.heap[g]? = w.heap[g]? := by
  obtain ⟨C, e, f, hw⟩ := hc
  unfold Kn at h
  rw [hw] at h
  rcases h with ⟨es, c, _, h2⟩ | ⟨b, s, seen, c, _, h2⟩ | ⟨C', e', f', h1, h2⟩
  · unfold F5 Fc at h2
    simp at h2
  · unfold F5 DZ at h2
    simp at h2
  · obtain ⟨rfl, rfl, rfl⟩ := Uu h2
    rw [hw]; exact h1
theorem Xn {w : World} {g : Nat} (hc : Eu w g) : C3 w (Kn w g) := by
 obtain ⟨C, e, f, hw⟩ := hc
 unfold Kn
 rw [hw]
 exact .inr (.inr ⟨C, e, f, hw, rfl⟩)
theorem OP {w : World} {a : Addr} {x : Value} (h : w.cell? a = some x) : Eu w a.block := by
  unfold World.cell? at h
  split at h
  · rename_i c e f hc
    exact ⟨c, e, f, hc⟩
  · cases h
theorem Ro {w w' : World} {a : Addr} (h : w'.heap[a.block]? = w.heap[a.block]?) : w'.cell? a = w.cell? a := by
 unfold World.cell?
 rw [h]
theorem SI {w : World} {k : Nat} {v : Value} {m : Nat} {ys : List Value} (h : Dy w k v m ys) : ∃ gs : List Nat, (∀ g ∈ gs, Eu w g) ∧ ∀ w' : World, (∀ g ∈ gs, w'.heap[g]? = w.heap[g]?) → Dy w' k v m ys := by
  obtain ⟨h1, A, c, e, h2⟩ := h
  rcases h2 with h2 | ⟨a, ha, h2⟩
  · exact ⟨[], (fun _ h => nomatch h), fun w' _ => ⟨h1, A, c, e, .inl h2⟩⟩
  · cases ys with
    | nil => exact ⟨[], (fun _ h => nomatch h), fun w' _ => ⟨h1, A, c, e, .inr ⟨a, ha, fun j x hx => by simp at hx⟩⟩⟩
    | cons y ys =>
      have h3 := OP (h2 0 y rfl)
      refine ⟨[(a.add 0).block], fun g hg => by rw [List.mem_singleton.1 hg]; exact h3, fun w' hw => ⟨h1, A, c, e, .inr ⟨a, ha, fun j x hx => ?_⟩⟩⟩
      have hb : (a.add j).block = (a.add 0).block := by unfold Addr.add; split <;> rfl
      exact (Ro (by rw [hb]; exact hw _ (List.mem_singleton.2 rfl))).trans (h2 j x hx)
theorem SJ {w : World} {v : Value} {l : List UInt8} (h : D6 w v l) : ∃ gs : List Nat, (∀ g ∈ gs, Eu w g) ∧ ∀ w' : World, (∀ g ∈ gs, w'.heap[g]? = w.heap[g]?) → D6 w' v l := by
  obtain ⟨A, c, e, h1, h2, h3⟩ := h
  cases l with
  | nil => exact ⟨[], (fun _ h => nomatch h), fun w' _ => ⟨A, c, e, h1, h2, fun h => absurd h (by simp)⟩⟩
  | cons y ys =>
    obtain ⟨g, o, hA, _, h4⟩ := h3 (by simp)
    have h5 := OP (h4 0 y rfl)
    refine ⟨[g], fun k hk => by rw [List.mem_singleton.1 hk]; exact h5, fun w' hw => ⟨A, c, e, h1, h2, fun _ => ⟨g, o, hA, trivial, fun j b hb => ?_⟩⟩⟩
    rw [Ro (a := ⟨g, o + j, none⟩) (hw g (List.mem_singleton.2 rfl))]
    exact h4 j b hb
theorem J4 {w w' : World} {gs : List Nat} (hc : ∀ g ∈ gs, Eu w g) {rs : List RowT} (h : Ut w gs rs) (hr : RowsOf w' rs) : ∀ g ∈ gs, w'.heap[g]? = w.heap[g]? := fun g hg => by
 obtain rfl : rs = _ := h
 exact Xm (hc g hg) (hr.mem _ (List.mem_map.2 ⟨g, Hw.2 hg, rfl⟩))
theorem V5 {w : World} {gs : List Nat} (hc : ∀ g ∈ gs, Eu w g) {α : Type} {k : Nat} {enc : α → List Value} {v : Value} {m : List α} (h : ∀ w' : World, (∀ g ∈ gs, w'.heap[g]? = w.heap[g]?) → Dy w' k v m.length (flat enc m)) : Rd (Ut w gs) k enc v m := fun _ w' h1 h2 => h w' (J4 hc h1 h2)
theorem Uv {w : World} {gs : List Nat} (hc : ∀ g ∈ gs, Eu w g) {v : Value} {l : List UInt8} (h : ∀ w' : World, (∀ g ∈ gs, w'.heap[g]? = w.heap[g]?) → D6 w' v l) : CO (Ut w gs) v l := fun _ w' h1 h2 => h w' (J4 hc h1 h2)
theorem Ql {P : Program} {F : FuncId} {args : Array Value} {val : Value} {w : World} {gs : List Nat} (hc : ∀ g ∈ gs, Eu w g) (h : AX P F args [Ut w gs] (fun _ : Unit => val) (fun _ => [Ut w gs])) : Calls P F args w fun e w' => e = .returned val ∧ Below w.heap.size w w' := by
  have hd : Bh ((Jt gs).map (Kn w)) := Bq.2 (by
    rw [List.map_map]
    have : ((fun x : RowT => x.1) ∘ Kn w) = id := rfl
    first
      | (rw [this, List.map_id]; exact GM gs)
      | (simpa [Function.comp_def, Kn] using GM gs))
  refine (h w _ (Al.one rfl) (AT.2 fun x hx => ?_) hd).mono ?_
  · obtain ⟨g, hg, rfl⟩ := List.mem_map.1 hx
    exact Xn (hc g (Hw.1 hg))
  · rintro e w' ⟨_, he, rs', hp, hch⟩
    have hrs := hp.one'
    refine ⟨he, hch.mod.os, hch.mod.tape, hch.mod.output, hch.mod.size, fun k hk => ?_⟩
    cases Classical.em (k ∈ gs) with
    | inl hk2 => exact J4 hc hrs hch.rows k hk2
    | inr hk2 =>
      refine hch.mod.block k hk ?_
      rintro ⟨x, hx, rfl⟩
      obtain ⟨g, hg, rfl⟩ := List.mem_map.1 hx
      exact hk2 (Hw.1 hg)
end Go.Proofs.YtjcfimmcogkopaaGreat.Sep
namespace Go.Proofs.YtjcfimmcogkopaaGreat.Sep
abbrev HV := Nat × Nat
def GX (h : HV) : Prop := h.1 ≤ 72057594037927935 ∧ h.2 ≤ 7
instance (h : HV) : Decidable (GX h) := by unfold GX; infer_instance
def layH (h : HV) : List UInt8 := Dp h.1 ++ [UInt8.ofNat h.2]
def Mw (x : List UInt8) : Option HV :=
  if DP (Bj 7 (BW 72057594037927935 x 0).2.1 (BW 72057594037927935 x 0).2.2).2.1 (Bj 7 (BW 72057594037927935 x 0).2.1 (BW 72057594037927935 x 0).2.2).2.2 = 0 then some ((BW 72057594037927935 x 0).1, (Bj 7 (BW 72057594037927935 x 0).2.1 (BW 72057594037927935 x 0).2.2).1) else none
theorem Uw {x l1 l2 : List UInt8} {t f1 v f2 : Nat} (h1 : BW 72057594037927935 x 0 = (t, l1, f1)) (h2 : Bj 7 l1 f1 = (v, l2, f2)) : Mw x = if DP l2 f2 = 0 then some (t, v) else none := by
 unfold Mw
 rw [h1]
 simp only
 rw [h2]
theorem LG {h : HV} (hk : GX h) : (layH h).length ≤ 9 := by
 have := Cb 7 h.1 (by have := hk.1; omega)
 unfold layH
 rw [List.length_append]
 simp only [List.length_cons, List.length_nil]
 omega
theorem SK {h : HV} (hk : GX h) : Mw (layH h) = some h := by
 have h1 := NZ 72057594037927935 h.1 [UInt8.ofNat h.2] hk.1 (by have := hk.1; omega)
 have h2 := (Fv 7).lay h.2 [] ⟨hk.2, by have := hk.2; omega⟩
 rw [List.append_nil] at h2
 rw [layH, Uw h1 h2]
 rfl
def Xo : List (List UInt8) → List HV
  | [] => []
  | p :: ps => match Mw p with | some h => h :: Xo ps | none => []
theorem Ux {p : List UInt8} {h : HV} (e : Mw p = some h) (ps : List (List UInt8)) : Xo (p :: ps) = h :: Xo ps := by
  show (match Mw p with | some h => h :: Xo ps | none => []) = _
  rw [e]
theorem Rp : ∀ {L : List HV}, (∀ h, h ∈ L → GX h) → Xo (L.map layH) = L
  | [], _ => rfl
  | h :: L, hk => by
    rw [List.map_cons, Ux (SK (hk h (by simp))), Rp (fun x hx => hk x (by simp [hx]))]
def Gn (L : List HV) : HV := L.getLast?.getD (0, 0)
theorem LH (L : List HV) (h : HV) : Gn (L ++ [h]) = h := by simp [Gn]
def Np (b : List UInt8) : HV × Nat := (Gn (Xo (Ca b).1), C0 ((Ca b).1.take (Xo (Ca b).1).length))
theorem Ko : ∀ (ps : List (List UInt8)), (∀ x, x ∈ ps → x.length ≤ 65536) → (Du ps).length = C0 ps
  | [], _ => rfl
  | p :: ps, h => by
    rw [Kk, List.length_append, EU (h p (by simp)), Mu, Ko ps (fun x hx => h x (by simp [hx]))]
def L6 (L : List HV) : List UInt8 := Du (L.map layH)
theorem Mx {L : List HV} (h : ∀ x, x ∈ L → GX x) : ∀ x, x ∈ L.map layH → x.length ≤ 65536 := fun x hx => by
 obtain ⟨y, hy, rfl⟩ := List.mem_map.1 hx
 have := LG (h y hy)
 omega
theorem LI (L : List HV) (h : HV) : L6 (L ++ [h]) = L6 L ++ BZ (layH h) := by
 unfold L6; rw [List.map_append]; exact OH _ _
theorem V6 {L : List HV} (hk : ∀ h, h ∈ L → GX h) {junk : List UInt8} (hj : Cc junk = none) : Np (L6 L ++ junk) = (Gn L, (L6 L).length) := by
 have h1 := Hu (L.map layH) (Mx hk) junk
 rw [CZ hj] at h1
 have h2 : (Ca (L6 L ++ junk)).1 = L.map layH := by unfold L6; rw [h1]; simp
 unfold Np
 rw [h2, Rp hk, show (L.map layH).take L.length = L.map layH by rw [List.take_of_length_le (by simp)]]
 unfold L6
 rw [Ko _ (Mx hk)]
theorem Gp : Cc [] = none := by unfold Cc; rw [if_neg (by simp)]
theorem Qm {h : HV} (hk : GX h) : (BZ (layH h)).length ≤ 17 := by
 have := LG hk
 rw [EU (by omega)]; omega
theorem Uy {h : HV} (hk : GX h) {t : Nat} (ht : t < (BZ (layH h)).length) : Cc ((BZ (layH h)).take t) = none := by
 have := LG hk
 rw [EU (by omega)] at ht
 exact Uc (by omega) ht
def hardN : List UInt8 := [104, 97, 114, 100]
def newN : List UInt8 := [104, 97, 114, 100, 46, 110, 101, 119]
def Ch (d : DiskD) : DiskD × Nat := if (Bx d newN).isSome = true then Fp d newN else (d, 0)
def LJ (d : DiskD) : DiskD × HV × Nat :=
  if (Ch d).2 ≠ 0 then ((Ch d).1, (0, 0), (Ch d).2)
  else if (Np ((Bx (Ch d).1 hardN).getD [])).2 < ((Bx (Ch d).1 hardN).getD []).length then
    if (Oc (Ch d).1 hardN ((Np ((Bx (Ch d).1 hardN).getD [])).2 : Int)).2 ≠ 0 then ((Oc (Ch d).1 hardN ((Np ((Bx (Ch d).1 hardN).getD [])).2 : Int)).1, (0, 0), (Oc (Ch d).1 hardN ((Np ((Bx (Ch d).1 hardN).getD [])).2 : Int)).2)
    else ((Oc (Ch d).1 hardN ((Np ((Bx (Ch d).1 hardN).getD [])).2 : Int)).1, (Np ((Bx (Ch d).1 hardN).getD [])).1, 0)
  else ((Ch d).1, (Np ((Bx (Ch d).1 hardN).getD [])).1, 0)
def KD (d : DiskD) (f : List UInt8) : DiskD × Nat :=
  if (Ch d).2 ≠ 0 then Ch d
  else if (Ci (Ch d).1 newN f).2 ≠ 0 then Ci (Ch d).1 newN f
  else Ie (Ci (Ch d).1 newN f).1 newN hardN
def IK (d : DiskD) (h : HV) : DiskD × Nat :=
  if ((Bx d hardN).getD []).length < 256 then Ci d hardN (BZ (layH h)) else KD d (BZ (layH h))
def DiskD.fitK (k : Nat) (d : DiskD) : Prop := AN d.syn + (d.wait.map OpD.size).sum + 65536 * k ≤ 1099511627776 ∧ d.wait.length + k ≤ 10000
theorem DiskD.fitK.fit {k : Nat} {d : DiskD} (h : d.fitK k) : d.fit := ⟨by have := h.1; omega, by have := h.2; omega⟩
theorem DiskD.fitK.less {k : Nat} {d : DiskD} (h : d.fitK (k + 1)) : d.fitK k := ⟨by have := h.1; omega, by have := h.2; omega⟩
theorem J5 {k : Nat} {d : DiskD} {o : OpD} (h : d.fitK (k + 1)) (ho : o.size ≤ 65536) : (Cp d o).fitK k := by
  obtain ⟨h1, h2⟩ := h
  refine ⟨?_, ?_⟩
  · show AN d.syn + ((d.wait ++ [o]).map OpD.size).sum + _ ≤ _
    rw [List.map_append, List.sum_append]
    simp only [List.map_cons, List.map_nil, List.sum_cons, List.sum_nil]
    omega
  · show (d.wait ++ [o]).length + k ≤ _
    rw [List.length_append]; simp only [List.length_cons, List.length_nil]; omega
theorem IL {k : Nat} {d : DiskD} (h : d.fitK k) : (Bv d).1.fitK k := by
  unfold Bv
  split
  · exact h
  · exact h
theorem E8 {k : Nat} {d : DiskD} {n b : List UInt8} (h : d.fitK (k + 1)) (hb : b.length ≤ 65536) : (Ci d n b).1.fitK k := by
  have h1 := IL h
  unfold Ci
  cases e : Bv d with
  | mk d1 e1 =>
    rw [e] at h1
    simp only
    split
    · exact h1.less
    · split
      · exact h1.less
      · split
        · exact h1.less
        · exact J5 h1 hb
theorem OQ {k : Nat} {d : DiskD} {n : List UInt8} (h : d.fitK (k + 1)) : (Fp d n).1.fitK k := by
  have h1 := IL h
  unfold Fp
  cases e : Bv d with
  | mk d1 e1 =>
    rw [e] at h1
    simp only
    split
    · exact h1.less
    · split
      · exact h1.less
      · exact J5 h1 (Nat.zero_le _)
theorem OR {k : Nat} {d : DiskD} {a b : List UInt8} (h : d.fitK (k + 1)) : (Ie d a b).1.fitK k := by
  have h1 := IL h
  unfold Ie
  cases e : Bv d with
  | mk d1 e1 =>
    rw [e] at h1
    simp only
    split
    · exact h1.less
    · split
      · exact h1.less
      · split
        · exact h1.less
        · exact J5 h1 (Nat.zero_le _)
theorem V7 {k : Nat} {d : DiskD} (h : d.fitK (k + 1)) : (Ch d).1.fitK k := by
  unfold Ch
  split
  · exact OQ h
  · exact h.less
structure HFile (f : FS) (V : HV → Prop) : Prop where
  nd : (AO f).Nodup
  ks : ∀ k, k ∈ AO f → k = hardN ∨ k = newN
  has : ∃ L junk, (∀ h, h ∈ L → GX h) ∧ (AS f hardN).getD [] = L6 L ++ junk ∧ Cc junk = none ∧ V (Gn L)
  lh : ((AS f hardN).getD []).length ≤ 400
  ln : ((AS f newN).getD []).length ≤ 100
theorem HFile.imp {f : FS} {V V' : HV → Prop} (h : HFile f V) (hv : ∀ x, V x → V' x) : HFile f V' := by
 obtain ⟨L, j, h1, h2, h3, h4⟩ := h.has
 exact ⟨h.nd, h.ks, ⟨L, j, h1, h2, h3, hv _ h4⟩, h.lh, h.ln⟩
theorem OS {f : FS} {a b : List UInt8} (hn : (AO f).Nodup) (hk : ∀ k, k ∈ AO f → k = a ∨ k = b) : AN f ≤ ((AS f a).getD []).length + ((AS f b).getD []).length := by
  have step : ∀ (g : FS) (k : List UInt8), (AO g).Nodup → AN g = AN (BY g k) + ((AS g k).getD []).length := fun g k hg => by
    cases e : AS g k with
    | none => rw [Lf e]; rfl
    | some x => exact (Gg hg e).symm
  have h1 := step f a hn
  have h2 := step (BY f a) b (B4 hn)
  have h3 : BY (BY f a) b = [] := by
    cases e : BY (BY f a) b with
    | nil => rfl
    | cons p r =>
      have hp : p ∈ BY (BY f a) b := by rw [e]; simp
      obtain ⟨h4, h5⟩ := (DB (B4 hn) p).1 hp
      obtain ⟨h6, h7⟩ := (DB hn p).1 h4
      rcases hk p.1 (List.mem_map.2 ⟨p, h6, rfl⟩) with h | h
      · exact absurd h h7
      · exact absurd h h5
  have h4 : ((AS (BY f a) b).getD []).length ≤ ((AS f b).getD []).length := by
    rw [Ge hn]
    split
    · simp
    · exact Nat.le_refl _
  rw [h3] at h2
  have h5 : AN ([] : FS) = 0 := rfl
  omega
theorem HFile.used {f : FS} {V : HV → Prop} (h : HFile f V) : AN f ≤ 500 := by
 have h1 := OS h.nd h.ks
 have h2 := h.lh
 have h3 := h.ln
 omega
theorem GN : hardN ≠ newN := by decide
theorem Dx {d : DiskD} (h1 : d.down = false) (h2 : d.fuse = none) : Bv d = (d, 0) := by
 unfold Bv
 rw [if_neg (by simp [h1, h2]), h2]
 obtain ⟨a, b, c, e, f⟩ := d
 subst h2
 rfl
theorem SL {room : Int} {f : FS} {V : HV → Prop} (h : HFile f V) : ∃ d' x, LJ ⟨room, f, [], none, false⟩ = (d', x, 0) ∧ V x := by
  obtain ⟨L, junk, hL, hc, hj, hV⟩ := h.has
  obtain ⟨d, hd⟩ : ∃ d : DiskD, d = ⟨room, f, [], none, false⟩ := ⟨_, rfl⟩
  have hnow : d.now = f := by rw [hd]; rfl
  have hup : d.down = false := by rw [hd]
  have hfz : d.fuse = none := by rw [hd]
  have key : ∃ d1, Ch d = (d1, 0) ∧ d1.down = false ∧ d1.fuse = none ∧ AS d1.now hardN = AS f hardN := by
    unfold Ch
    split
    · rename_i hs
      unfold Bx at hs
      rw [hup, if_neg (by simp), hnow] at hs
      obtain ⟨x, hx⟩ := Option.isSome_iff_exists.1 hs
      refine ⟨Cp d (.del newN), ?_, hup, hfz, ?_⟩
      · unfold Fp
        rw [Dx hup hfz]
        simp only
        rw [if_neg (by simp), hnow, hx]
      · rw [Cq, hnow]
        show AS (BY f newN) hardN = _
        rw [Ge h.nd, if_neg GN]
    · exact ⟨d, rfl, hup, hfz, by rw [hnow]⟩
  obtain ⟨d1, e1, u1, z1, g1⟩ := key
  have hr : (Bx d1 hardN).getD [] = L6 L ++ junk := by
    unfold Bx
    rw [u1, if_neg (by simp), g1, hc]
  rw [← hd]
  unfold LJ
  rw [e1]
  simp only
  rw [if_neg (by simp), hr, V6 hL hj]
  simp only
  split
  · rename_i hlt
    have hgs : AS d1.now hardN = some (L6 L ++ junk) := by
      rw [g1]
      cases e : AS f hardN with
      | none =>
        rw [e] at hc
        simp only [Option.getD_none] at hc
        rw [← hc] at hlt
        simp at hlt
      | some x => rw [e] at hc; simp only [Option.getD_some] at hc; rw [hc]
    have hcut : Oc d1 hardN (((L6 L).length : Nat) : Int) = (Cp d1 (.cut hardN (L6 L).length), 0) := by
      unfold Oc
      rw [Dx u1 z1]
      simp only
      rw [if_neg (by simp), hgs]
      simp only
      rw [if_neg (by omega)]
      simp
    rw [hcut]
    simp only
    rw [if_neg (by simp)]
    exact ⟨_, _, rfl, hV⟩
  · exact ⟨_, _, rfl, hV⟩
structure HS (d : DiskD) (L : List HV) : Prop where
  up : d.down = false
  fz : d.fuse = none
  rm : d.room = 1048576
  nd : (AO d.syn).Nodup
  ks : ∀ k, k ∈ AO d.now → k = hardN
  at_ : (AS d.now hardN).getD [] = L6 L
  ok : ∀ h, h ∈ L → GX h
  le : (L6 L).length ≤ 300
theorem HS.nnd {d : DiskD} {L : List HV} (h : HS d L) : (AO d.now).Nodup := Ed d.wait h.nd
theorem HS.none_ {d : DiskD} {L : List HV} (h : HS d L) : AS d.now newN = none := CM.2 fun hm => GN (h.ks _ hm).symm
theorem HS.file {d : DiskD} {L : List HV} (h : HS d L) {V : HV → Prop} (hV : V (Gn L)) : HFile d.now V :=
 ⟨h.nnd, fun k hk => .inl (h.ks k hk), ⟨L, [], h.ok, by rw [h.at_]; simp, Gp, hV⟩, by have := h.le; rw [h.at_]; omega, by rw [h.none_]; simp⟩
theorem HS.used {d : DiskD} {L : List HV} (h : HS d L) : AN d.now ≤ 500 := (h.file (V := fun _ => True) trivial).used
theorem HS.few {d : DiskD} {L : List HV} (h : HS d L) : d.now.length ≤ 1 := by
  have h1 := h.nnd
  have h2 := h.ks
  cases e : d.now with
  | nil => simp
  | cons p r =>
    cases r with
    | nil => simp
    | cons q r =>
      rw [e] at h1 h2
      have a1 := h2 p.1 (by simp [AO])
      have a2 := h2 q.1 (by simp [AO])
      simp only [AO, List.map_cons, List.nodup_cons, List.mem_cons] at h1
      exact absurd (.inl (a1.trans a2.symm)) h1.1
theorem E9 {f : FS} {n x : List UInt8} (hf : (AO f).Nodup) {k : List UInt8} (h : k ∈ AO (BF f n x)) : k = n ∨ k ∈ AO f := by
  obtain ⟨p, hp, rfl⟩ := List.mem_map.1 h
  rcases (Fo hf p).1 hp with rfl | ⟨h1, _⟩
  · exact .inl rfl
  · exact .inr (List.mem_map.2 ⟨p, h1, rfl⟩)
theorem OT {f : FS} {n : List UInt8} (hf : (AO f).Nodup) {k : List UInt8} (h : k ∈ AO (BY f n)) : k ∈ AO f ∧ k ≠ n := by
 obtain ⟨p, hp, rfl⟩ := List.mem_map.1 h
 obtain ⟨h1, h2⟩ := (DB hf p).1 hp
 exact ⟨List.mem_map.2 ⟨p, h1, rfl⟩, h2⟩
def Uz (d : DiskD) (V : HV → Prop) (k : Nat) : Prop := HFile ((d.wait.take k).foldl AG d.syn) V ∧ ∀ n b, d.wait[k]? = some (.app n b) → ∀ t, t < b.length → HFile (AG ((d.wait.take k).foldl AG d.syn) (.app n (b.take t))) V
def CR (d : DiskD) (V : HV → Prop) : Prop := ∀ k, k ≤ d.wait.length → Uz d V k
theorem CR.imp {d : DiskD} {V V' : HV → Prop} (h : CR d V) (hv : ∀ x, V x → V' x) : CR d V' := fun k hk => ⟨(h k hk).1.imp hv, fun n b e t ht => ((h k hk).2 n b e t ht).imp hv⟩
theorem Uz.left {d : DiskD} {V : HV → Prop} {keep : Int} (h : Uz d V (Cw d keep)) (torn : Int) : HFile (CJ d keep torn) V := by
  obtain ⟨h1, h2⟩ := h
  unfold CJ
  split
  · rename_i n b e
    split
    · exact h1
    · rename_i hn
      refine h2 n b e _ ?_
      have hb : b ≠ [] := fun e => hn (.inr e)
      have hpos : 0 < (b.length : Int) := by
        have : b.length ≠ 0 := fun e => hb (List.eq_nil_of_length_eq_zero e)
        omega
      have := Int.emod_lt_of_pos torn hpos
      have := Int.emod_nonneg torn (show (b.length : Int) ≠ 0 by omega)
      omega
  · exact h1
theorem Uz.crash {d : DiskD} {V : HV → Prop} {keep : Int} (h : Uz d V (Cw d keep)) (torn : Int) : (Cg d keep torn).fitK 9 ∧ ∃ d' x, LJ (Cg d keep torn) = (d', x, 0) ∧ V x := by
  have h1 := h.left torn
  refine ⟨⟨?_, ?_⟩, SL h1⟩
  · show AN (CJ d keep torn) + (([] : List OpD).map OpD.size).sum + 65536 * 9 ≤ _
    have := h1.used
    simp only [List.map_nil, List.sum_nil]
    omega
  · show ([] : List OpD).length + 9 ≤ _
    simp
theorem CR.crash {d : DiskD} {V : HV → Prop} (h : CR d V) (keep torn : Int) : (Cg d keep torn).fitK 9 ∧ ∃ d' x, LJ (Cg d keep torn) = (d', x, 0) ∧ V x := (h (Cw d keep) (Hd d keep)).crash torn
theorem Uz.old {d : DiskD} {V : HV → Prop} {o : OpD} {k : Nat} (h : Uz d V k) (hlt : k < d.wait.length) : Uz (Cp d o) V k := by
 show HFile (((d.wait ++ [o]).take k).foldl AG d.syn) V ∧ ∀ n b, (d.wait ++ [o])[k]? = some (.app n b) → ∀ t, t < b.length → HFile (AG (((d.wait ++ [o]).take k).foldl AG d.syn) (.app n (b.take t))) V
 rw [List.take_append_of_le_length (by omega), List.getElem?_append_left hlt]
 exact h
theorem Qn {d : DiskD} {V : HV → Prop} {o : OpD} (h1 : HFile d.now V) (h2 : ∀ n b, o = .app n b → ∀ t, t < b.length → HFile (AG d.now (.app n (b.take t))) V) : Uz (Cp d o) V d.wait.length := by
 show HFile (((d.wait ++ [o]).take d.wait.length).foldl AG d.syn) V ∧ ∀ n b, (d.wait ++ [o])[d.wait.length]? = some (.app n b) → ∀ t, t < b.length → HFile (AG (((d.wait ++ [o]).take d.wait.length).foldl AG d.syn) (.app n (b.take t))) V
 rw [List.take_append_of_le_length (Nat.le_refl _), List.take_length]
 refine ⟨h1, fun n b e t ht => ?_⟩
 rw [List.getElem?_append_right (Nat.le_refl _), Nat.sub_self] at e
 obtain rfl := Option.some.inj e
 exact h2 n b rfl t ht
theorem CR.push {d : DiskD} {V : HV → Prop} {o : OpD} (h : CR d V) (h1 : HFile (AG d.now o) V) (h2 : ∀ n b, o = .app n b → ∀ t, t < b.length → HFile (AG d.now (.app n (b.take t))) V) : CR (Cp d o) V := by
  intro k hk
  change k ≤ (d.wait ++ [o]).length at hk
  rw [List.length_append] at hk
  simp only [List.length_cons, List.length_nil] at hk
  rcases Nat.lt_or_ge k d.wait.length with hlt | hge
  · exact (h k (by omega)).old hlt
  · rcases Nat.lt_or_ge d.wait.length k with hlt | hle
    · obtain rfl : k = d.wait.length + 1 := by omega
      show HFile (((d.wait ++ [o]).take (d.wait.length + 1)).foldl AG d.syn) V ∧ ∀ n b, (d.wait ++ [o])[d.wait.length + 1]? = some (.app n b) → ∀ t, t < b.length → HFile (AG (((d.wait ++ [o]).take (d.wait.length + 1)).foldl AG d.syn) (.app n (b.take t))) V
      rw [List.take_of_length_le (by simp), List.foldl_append]
      refine ⟨h1, fun n b e => ?_⟩
      rw [List.getElem?_eq_none (by simp)] at e
      cases e
    · obtain rfl : k = d.wait.length := by omega
      refine Qn ?_ h2
      have := (h d.wait.length (Nat.le_refl _)).1
      rwa [List.take_length] at this
theorem V8 {d : DiskD} {L : List HV} (h : HS d L) {V : HV → Prop} (hV : V (Gn L)) : ∃ d', E5 d = (d', 0) ∧ HS d' L ∧ CR d' V ∧ d'.wait = [] := by
  refine ⟨{ d with syn := d.now, wait := [] }, ?_, ⟨h.up, h.fz, h.rm, h.nnd, h.ks, h.at_, h.ok, h.le⟩, fun k hk => ?_, rfl⟩
  · unfold E5
    rw [Dx h.up h.fz]
    simp only
    rw [if_neg (by simp)]
  · obtain rfl : k = 0 := Nat.le_zero.1 hk
    exact ⟨h.file hV, fun n b e => (by cases e)⟩
theorem My : CI hardN = true := by decide
theorem UA : CI newN = true := by decide
theorem Rq {d : DiskD} {n b : List UInt8} (hr : d.room = 1048576) (hu : AN d.now ≤ 600) (hl : d.now.length ≤ 2) (hb : b.length ≤ 17) : Eo d n b = true := by
 unfold Eo
 rw [Bool.and_eq_true, decide_eq_true_eq]
 refine ⟨by rw [hr]; omega, ?_⟩
 rw [Bool.not_eq_true', Bool.and_eq_false_iff]
 right
 rw [decide_eq_false_iff_not]
 omega
theorem J6 {d : DiskD} {n b : List UInt8} (h1 : d.down = false) (h2 : d.fuse = none) (hn : CI n = true) (hf : Eo d n b = true) : Ci d n b = (Cp d (.app n b), 0) := by
 unfold Ci
 rw [Dx h1 h2]
 simp only
 rw [if_neg (by simp), hn, if_neg (by simp), hf, if_neg (by simp)]
theorem HS.save {d : DiskD} {L : List HV} {V : HV → Prop} (hs : HS d L) (hc : CR d V) (hL : V (Gn L)) {x : HV} (hx : GX x) (hV : V x) : ∃ d' L', IK d x = (d', 0) ∧ HS d' L' ∧ CR d' V ∧ Gn L' = x ∧ d'.wait.length ≤ d.wait.length + 2 ∧ ∀ V0 : HV → Prop, V0 (Gn L) → Uz d' V0 d.wait.length := by
  have hf := Qm hx
  have hr : (Bx d hardN).getD [] = L6 L := by
    unfold Bx
    rw [hs.up, if_neg (by simp), hs.at_]
  have hfew := hs.few
  have hused := hs.used
  unfold IK
  rw [hr]
  split
  · rename_i hlt
    rw [J6 hs.up hs.fz My (Rq hs.rm (by omega) (by omega) hf)]
    have happ : ∀ b, AG d.now (.app hardN b) = BF d.now hardN (L6 L ++ b) := fun b => by
      show BF d.now hardN ((AS d.now hardN).getD [] ++ b) = _
      rw [hs.at_]
    have hput : ∀ (V : HV → Prop) b, b.length ≤ 17 → ∀ L1 j, (∀ h, h ∈ L1 → GX h) → L6 L ++ b = L6 L1 ++ j → Cc j = none → V (Gn L1) → HFile (AG d.now (.app hardN b)) V := fun V b hb L1 j h1 h2 h3 h4 => by
      rw [happ]
      refine ⟨Cd hs.nnd, fun k hk => ?_, ⟨L1, j, h1, ?_, h3, h4⟩, ?_, ?_⟩
      · rcases E9 hs.nnd hk with h | h
        · exact .inl h
        · exact .inl (hs.ks k h)
      · rw [Da hs.nnd, if_pos rfl]; exact h2
      · rw [Da hs.nnd, if_pos rfl]
        simp only [Option.getD_some, List.length_append]
        omega
      · rw [Da hs.nnd, if_neg (fun e => GN e.symm), hs.none_]
        simp
    have hok : ∀ h, h ∈ L ++ [x] → GX h := fun h hm => by
      rcases List.mem_append.1 hm with h1 | h1
      · exact hs.ok h h1
      · rw [List.mem_singleton.1 h1]; exact hx
    refine ⟨_, L ++ [x], rfl, ⟨hs.up, hs.fz, hs.rm, hs.nd, fun k hk => ?_, ?_, hok, ?_⟩, hc.push ?_ ?_, LH _ _, ?_, fun V0 h0 => Qn (hs.file h0) ?_⟩
    · rw [Cq, happ] at hk
      rcases E9 hs.nnd hk with h | h
      · exact h
      · exact hs.ks k h
    · rw [Cq, happ, Da hs.nnd, if_pos rfl, LI]; rfl
    · rw [LI, List.length_append]; omega
    · exact hput V _ hf (L ++ [x]) [] hok (by rw [LI]; simp) Gp (by rw [LH]; exact hV)
    · rintro n b e t ht
      cases e
      exact hput V _ (by rw [List.length_take]; omega) L _ hs.ok rfl (Uy hx ht) hL
    · show (d.wait ++ [_]).length ≤ _
      simp
    · rintro n b e t ht
      cases e
      exact hput V0 _ (by rw [List.length_take]; omega) L _ hs.ok rfl (Uy hx ht) h0
  · rename_i hge
    have hrm : Ch d = (d, 0) := by
      unfold Ch Bx
      rw [if_neg]
      rw [hs.up, if_neg (by simp), hs.none_]
      simp
    unfold KD
    rw [hrm]
    simp only
    rw [if_neg (by simp), J6 hs.up hs.fz UA (Rq hs.rm (by omega) (by omega) hf)]
    simp only
    rw [if_neg (by simp)]
    obtain ⟨d1, hd1⟩ : ∃ d1, Cp d (.app newN (BZ (layH x))) = d1 := ⟨_, rfl⟩
    have happ : ∀ b, AG d.now (.app newN b) = BF d.now newN b := fun b => by
      show BF d.now newN ((AS d.now newN).getD [] ++ b) = _
      rw [hs.none_]; rfl
    have hn1 : d1.now = BF d.now newN (BZ (layH x)) := by rw [← hd1, Cq, happ]
    have hg1 : AS d1.now newN = some (BZ (layH x)) := by rw [hn1, Da hs.nnd, if_pos rfl]
    have hu1 : d1.down = false := by rw [← hd1]; exact hs.up
    have hz1 : d1.fuse = none := by rw [← hd1]; exact hs.fz
    have hnd1 : (AO d1.now).Nodup := by rw [hn1]; exact Cd hs.nnd
    have hren : Ie d1 newN hardN = (Cp d1 (.ren newN hardN), 0) := by
      unfold Ie
      rw [Dx hu1 hz1]
      simp only
      rw [if_neg (by simp), My, if_neg (by simp), hg1]
    have hdone : AG d1.now (.ren newN hardN) = BF (BY d1.now newN) hardN (BZ (layH x)) := by
      show (match AS d1.now newN with | some y => BF (BY d1.now newN) hardN y | none => d1.now) = _
      rw [hg1]
    have hfile : ∀ (V : HV → Prop), V (Gn L) → ∀ b, b.length ≤ 17 → HFile (AG d.now (.app newN b)) V := fun V hL b hb => by
      rw [happ]
      refine ⟨Cd hs.nnd, fun k hk => ?_, ⟨L, [], hs.ok, ?_, Gp, hL⟩, ?_, ?_⟩
      · rcases E9 hs.nnd hk with h | h
        · exact .inr h
        · exact .inl (hs.ks k h)
      · rw [Da hs.nnd, if_neg GN, hs.at_]; simp
      · rw [Da hs.nnd, if_neg GN, hs.at_]; have := hs.le; omega
      · rw [Da hs.nnd, if_pos rfl]
        simp only [Option.getD_some]
        omega
    have hfr : L6 [x] = BZ (layH x) := by simp [L6, Du]
    have hkeys : ∀ k, k ∈ AO (AG d1.now (.ren newN hardN)) → k = hardN := fun k hk => by
      rw [hdone] at hk
      rcases E9 (B4 hnd1) hk with h | h
      · exact h
      · obtain ⟨h1, h2⟩ := OT hnd1 h
        rw [hn1] at h1
        rcases E9 hs.nnd h1 with h3 | h3
        · exact absurd h3 h2
        · exact hs.ks k h3
    have hget : AS (AG d1.now (.ren newN hardN)) hardN = some (BZ (layH x)) := by rw [hdone, Da (B4 hnd1), if_pos rfl]
    have hgn : AS (AG d1.now (.ren newN hardN)) newN = none := CM.2 fun hm => GN (hkeys _ hm).symm
    have hndd : (AO (AG d1.now (.ren newN hardN))).Nodup := by rw [hdone]; exact Cd (B4 hnd1)
    have hok : ∀ h, h ∈ [x] → GX h := fun h hm => by rw [List.mem_singleton.1 hm]; exact hx
    have hc1 : CR d1 V := by
      rw [← hd1]
      refine hc.push (hfile V hL _ hf) ?_
      rintro n b e t ht
      cases e
      exact hfile V hL _ (by rw [List.length_take]; omega)
    rw [hd1, hren]
    refine ⟨_, [x], rfl, ⟨hu1, hz1, by rw [← hd1]; exact hs.rm, by rw [← hd1]; exact hs.nd, ?_, ?_, hok, ?_⟩, hc1.push ?_ ?_, rfl, ?_, fun V0 h0 => ?_⟩
    · rw [Cq]; exact hkeys
    · rw [Cq, hget, hfr]; rfl
    · rw [hfr]; omega
    · exact ⟨hndd, fun k hk => .inl (hkeys k hk), ⟨[x], [], hok, by rw [hget, hfr]; simp, Gp, hV⟩, by rw [hget]; simp only [Option.getD_some]; omega, by rw [hgn]; simp⟩
    · rintro n b e
      cases e
    · rw [← hd1]
      show ((d.wait ++ [_]) ++ [_]).length ≤ _
      simp
    · have h9 : Uz d1 V0 d.wait.length := by
        rw [← hd1]
        refine Qn (hs.file h0) ?_
        rintro n b e t ht
        cases e
        exact hfile V0 h0 _ (by rw [List.length_take]; omega)
      refine h9.old ?_
      rw [← hd1]
      show _ < (d.wait ++ [_]).length
      simp
end Go.Proofs.YtjcfimmcogkopaaGreat.Sep
namespace Go.Proofs.YtjcfimmcogkopaaGreat.Sep
structure SnV where
  i : Int
  t : Int
  c : Int
  d : List UInt8
instance : Inhabited SnV := ⟨⟨0, 0, 0, []⟩⟩
def D9 (s : SnV) : Bool := EC s.i && EC s.t && GU s.c && (s.c != 0) && decide (s.d.length ≤ 32768)
structure SnOk (s : SnV) : Prop where
  i : 1 ≤ s.i ∧ s.i ≤ 72057594037927935
  t : 1 ≤ s.t ∧ s.t ≤ 72057594037927935
  c : 1 ≤ s.c ∧ s.c ≤ 254
  e : s.c % 2 = 0
  d : s.d.length ≤ 32768
theorem EV {s : SnV} : D9 s = true ↔ SnOk s := by
  unfold D9 EC GU
  simp only [Bool.and_eq_true, decide_eq_true_eq, bne_iff_ne, ne_eq]
  constructor
  · rintro ⟨⟨⟨⟨h1, h2⟩, h3⟩, h4⟩, h5⟩
    exact ⟨by omega, by omega, by omega, by omega, h5⟩
  · rintro ⟨h1, h2, h3, h4, h5⟩
    exact ⟨⟨⟨⟨by omega, by omega⟩, by omega⟩, by omega⟩, h5⟩
def Ff (s : SnV) : List UInt8 := IG (s.i, s.t, s.c) ++ Id s.d
def Ju (x : List UInt8) : Option SnV :=
  match Ln x 0 with
  | ((i, t, c), l3, f3) => match B8 32768 l3 f3 with
    | (d, l4, f4) => if DP l4 f4 = 0 then (if D9 ⟨i, t, c, d⟩ = true then some ⟨i, t, c, d⟩ else none) else none
theorem Hx {x l3 d l4 : List UInt8} {i t c : Int} {f3 f4 : Nat} (h1 : Ln x 0 = ((i, t, c), l3, f3)) (h2 : B8 32768 l3 f3 = (d, l4, f4)) : Ju x = if DP l4 f4 = 0 then (if D9 ⟨i, t, c, d⟩ = true then some ⟨i, t, c, d⟩ else none) else none := by
 simp only [Ju, h1, h2]
theorem Hy {s : SnV} (h : SnOk s) : (Ff s).length ≤ 32800 := by
 obtain ⟨h1, h2, h3, _, h5⟩ := h
 have e1 := Cb 7 s.i.toNat (by omega)
 have e2 := Cb 7 s.t.toNat (by omega)
 have e3 := Cb 2 s.d.length (by omega)
 unfold Ff IG Id De
 simp only [List.length_append, List.length_cons, List.length_nil]
 omega
theorem SM {s : SnV} (h : SnOk s) : Ju (Ff s) = some s := by
 obtain ⟨h1, h2, h3, h4, h5⟩ := h
 have e1 := Sf.lay (s.i, s.t, s.c) (Id s.d) ⟨by simp only; omega, by simp only; omega, by simp only; omega⟩
 have e2 := (Mf 32768).lay s.d [] ⟨by omega, by omega⟩
 rw [List.append_nil] at e2
 rw [Ff, Hx e1 e2, if_pos (show DP [] 0 = 0 from rfl), if_pos (EV.2 ⟨h1, h2, h3, h4, h5⟩)]
def GR (s : SnV) : List UInt8 := BZ (Ff s)
theorem F2 {s : SnV} (h : SnOk s) : (GR s).length ≤ 32808 := by
 have := Hy h
 unfold GR
 rw [EU (by omega)]; omega
def Ev (b : List UInt8) : Option SnV :=
  match Ca b with
  | ([p], k) => if k = b.length then Ju p else none
  | _ => none
theorem SN {b p : List UInt8} {k : Nat} (h : Ca b = ([p], k)) : Ev b = if k = b.length then Ju p else none := by
 unfold Ev; rw [h]
theorem SO : Ev [] = none := by
 unfold Ev; rw [CZ Gp]
theorem UB {s : SnV} (h : SnOk s) : Ev (GR s) = some s := by
 have hl := Hy h
 have h1 := Hu [Ff s] (fun x hx => by rw [List.mem_singleton.1 hx]; omega) []
 rw [CZ Gp] at h1
 have h2 : Ca (GR s) = ([Ff s], (GR s).length) := by
  have e : Du [Ff s] = GR s := by simp [Du, GR]
  rw [e, List.append_nil] at h1
  rw [h1]; rfl
 rw [SN h2, if_pos rfl, SM h]
def snapN : List UInt8 := [115, 110, 97, 112]
def snewN : List UInt8 := [115, 110, 97, 112, 46, 110, 101, 119]
def Ce (d : DiskD) : DiskD × Nat := if (Bx d snewN).isSome = true then Fp d snewN else (d, 0)
def C5 (d : DiskD) : DiskD × Option SnV × Nat :=
  if (Ce d).2 ≠ 0 then ((Ce d).1, none, (Ce d).2) else ((Ce d).1, Ev ((Bx (Ce d).1 snapN).getD []), 0)
def Ew (d : DiskD) (f : List UInt8) : DiskD × Nat :=
  if (Ce d).2 ≠ 0 then Ce d
  else if (Ci (Ce d).1 snewN f).2 ≠ 0 then Ci (Ce d).1 snewN f
  else Ie (Ci (Ce d).1 snewN f).1 snewN snapN
theorem H8 : snapN ≠ snewN := by decide
theorem SP : CI snapN = true := by decide
theorem SQ : CI snewN = true := by decide
theorem FN {k : Nat} {d : DiskD} (h : d.fitK (k + 1)) : (Ce d).1.fitK k := by
  unfold Ce
  split
  · exact OQ h
  · exact h.less
theorem CG {k j : Nat} {d : DiskD} (h : d.fitK k) (hj : j ≤ k) : d.fitK j := by
 obtain ⟨h1, h2⟩ := h
 exact ⟨by omega, by omega⟩
theorem IM {k : Nat} {d : DiskD} {f : List UInt8} (h : d.fitK (k + 3)) (hl : f.length ≤ 65536) : (Ew d f).1.fitK k := by
  unfold Ew
  have h1 := FN (k := k + 2) h
  split
  · exact CG h1 (by omega)
  · have h2 := E8 (n := snewN) (b := f) (k := k + 1) h1 hl
    split
    · exact CG h2 (by omega)
    · exact OR h2
structure PFile (V : Option SnV → Prop) (f : FS) : Prop where
  nd : (AO f).Nodup
  ks : ∀ k, k ∈ AO f → k = snapN ∨ k = snewN
  has : ∃ o, AS f snapN = o.map GR ∧ (∀ s, o = some s → SnOk s) ∧ V o
  ln : ((AS f snewN).getD []).length ≤ 40000
theorem PFile.imp {f : FS} {V V' : Option SnV → Prop} (h : PFile V f) (hv : ∀ x, V x → V' x) : PFile V' f := by
 obtain ⟨o, h1, h2, h3⟩ := h.has
 exact ⟨h.nd, h.ks, ⟨o, h1, h2, hv _ h3⟩, h.ln⟩
theorem Qo {o : Option SnV} (h : ∀ s, o = some s → SnOk s) : ((o.map GR).getD []).length ≤ 32808 := by
  cases o with
  | none => simp
  | some s => exact F2 (h s rfl)
theorem OU {o : Option SnV} (h : ∀ s, o = some s → SnOk s) : Ev ((o.map GR).getD []) = o := by
  cases o with
  | none => exact SO
  | some s => exact UB (h s rfl)
theorem PFile.used {f : FS} {V : Option SnV → Prop} (h : PFile V f) : AN f ≤ 80000 := by
 have h1 := OS h.nd h.ks
 have h3 := h.ln
 obtain ⟨o, h4, h5, _⟩ := h.has
 have h6 := Qo h5
 rw [← h4] at h6
 omega
theorem Qp {room : Int} {f : FS} {V : Option SnV → Prop} (h : PFile V f) : ∃ d' o, C5 ⟨room, f, [], none, false⟩ = (d', o, 0) ∧ V o ∧ (∀ s, o = some s → SnOk s) := by
  obtain ⟨o, hc, hO, hV⟩ := h.has
  obtain ⟨d, hd⟩ : ∃ d : DiskD, d = ⟨room, f, [], none, false⟩ := ⟨_, rfl⟩
  have hnow : d.now = f := by rw [hd]; rfl
  have hup : d.down = false := by rw [hd]
  have hfz : d.fuse = none := by rw [hd]
  have key : ∃ d1, Ce d = (d1, 0) ∧ d1.down = false ∧ AS d1.now snapN = AS f snapN := by
    unfold Ce
    split
    · rename_i hs
      unfold Bx at hs
      rw [hup, if_neg (by simp), hnow] at hs
      obtain ⟨x, hx⟩ := Option.isSome_iff_exists.1 hs
      refine ⟨Cp d (.del snewN), ?_, hup, ?_⟩
      · unfold Fp
        rw [Dx hup hfz]
        simp only
        rw [if_neg (by simp), hnow, hx]
      · rw [Cq, hnow]
        show AS (BY f snewN) snapN = _
        rw [Ge h.nd, if_neg H8]
    · exact ⟨d, rfl, hup, by rw [hnow]⟩
  obtain ⟨d1, e1, u1, g1⟩ := key
  have hr : Ev ((Bx d1 snapN).getD []) = o := by
    unfold Bx
    rw [u1, if_neg (by simp), g1, hc]
    exact OU hO
  rw [← hd]
  unfold C5
  rw [e1]
  simp only
  rw [if_neg (by simp), hr]
  exact ⟨_, _, rfl, hV, hO⟩
def SR (d : DiskD) (F : FS → Prop) (k : Nat) : Prop := F ((d.wait.take k).foldl AG d.syn) ∧ ∀ n b, d.wait[k]? = some (.app n b) → ∀ t, t < b.length → F (AG ((d.wait.take k).foldl AG d.syn) (.app n (b.take t)))
def PR (d : DiskD) (F : FS → Prop) : Prop := ∀ k, k ≤ d.wait.length → SR d F k
theorem SR.imp {d : DiskD} {F F' : FS → Prop} {k : Nat} (h : SR d F k) (hv : ∀ x, F x → F' x) : SR d F' k := ⟨hv _ h.1, fun n b e t ht => hv _ (h.2 n b e t ht)⟩
theorem PR.imp {d : DiskD} {F F' : FS → Prop} (h : PR d F) (hv : ∀ x, F x → F' x) : PR d F' := fun k hk => (h k hk).imp hv
theorem SR.left {d : DiskD} {F : FS → Prop} {keep : Int} (h : SR d F (Cw d keep)) (torn : Int) : F (CJ d keep torn) := by
  obtain ⟨h1, h2⟩ := h
  unfold CJ
  split
  · rename_i n b e
    split
    · exact h1
    · rename_i hn
      refine h2 n b e _ ?_
      have hb : b ≠ [] := fun e => hn (.inr e)
      have hpos : 0 < (b.length : Int) := by
        have : b.length ≠ 0 := fun e => hb (List.eq_nil_of_length_eq_zero e)
        omega
      have := Int.emod_lt_of_pos torn hpos
      have := Int.emod_nonneg torn (show (b.length : Int) ≠ 0 by omega)
      omega
  · exact h1
theorem SR.old {d : DiskD} {F : FS → Prop} {o : OpD} {k : Nat} (h : SR d F k) (hlt : k < d.wait.length) : SR (Cp d o) F k := by
 show F (((d.wait ++ [o]).take k).foldl AG d.syn) ∧ ∀ n b, (d.wait ++ [o])[k]? = some (.app n b) → ∀ t, t < b.length → F (AG (((d.wait ++ [o]).take k).foldl AG d.syn) (.app n (b.take t)))
 rw [List.take_append_of_le_length (by omega), List.getElem?_append_left hlt]
 exact h
theorem UC {d : DiskD} {F : FS → Prop} {o : OpD} (h1 : F d.now) (h2 : ∀ n b, o = .app n b → ∀ t, t < b.length → F (AG d.now (.app n (b.take t)))) : SR (Cp d o) F d.wait.length := by
 show F (((d.wait ++ [o]).take d.wait.length).foldl AG d.syn) ∧ ∀ n b, (d.wait ++ [o])[d.wait.length]? = some (.app n b) → ∀ t, t < b.length → F (AG (((d.wait ++ [o]).take d.wait.length).foldl AG d.syn) (.app n (b.take t)))
 rw [List.take_append_of_le_length (Nat.le_refl _), List.take_length]
 refine ⟨h1, fun n b e t ht => ?_⟩
 rw [List.getElem?_append_right (Nat.le_refl _), Nat.sub_self] at e
 obtain rfl := Option.some.inj e
 exact h2 n b rfl t ht
theorem PR.push {d : DiskD} {F : FS → Prop} {o : OpD} (h : PR d F) (h1 : F (AG d.now o)) (h2 : ∀ n b, o = .app n b → ∀ t, t < b.length → F (AG d.now (.app n (b.take t)))) : PR (Cp d o) F := by
  intro k hk
  change k ≤ (d.wait ++ [o]).length at hk
  rw [List.length_append] at hk
  simp only [List.length_cons, List.length_nil] at hk
  rcases Nat.lt_or_ge k d.wait.length with hlt | hge
  · exact (h k (by omega)).old hlt
  · rcases Nat.lt_or_ge d.wait.length k with hlt | hle
    · obtain rfl : k = d.wait.length + 1 := by omega
      show F (((d.wait ++ [o]).take (d.wait.length + 1)).foldl AG d.syn) ∧ ∀ n b, (d.wait ++ [o])[d.wait.length + 1]? = some (.app n b) → ∀ t, t < b.length → F (AG (((d.wait ++ [o]).take (d.wait.length + 1)).foldl AG d.syn) (.app n (b.take t)))
      rw [List.take_of_length_le (by simp), List.foldl_append]
      refine ⟨h1, fun n b e => ?_⟩
      rw [List.getElem?_eq_none (by simp)] at e
      cases e
    · obtain rfl : k = d.wait.length := by omega
      refine UC ?_ h2
      have := (h d.wait.length (Nat.le_refl _)).1
      rwa [List.take_length] at this
theorem SR.crash {d : DiskD} {V : Option SnV → Prop} {keep : Int} (h : SR d (PFile V) (Cw d keep)) (torn : Int) : (Cg d keep torn).fitK 9 ∧ PFile V (CJ d keep torn) ∧ ∃ d' o, C5 (Cg d keep torn) = (d', o, 0) ∧ V o ∧ (∀ s, o = some s → SnOk s) := by
  have h1 := h.left torn
  refine ⟨⟨?_, ?_⟩, h1, Qp h1⟩
  · show AN (CJ d keep torn) + (([] : List OpD).map OpD.size).sum + 65536 * 9 ≤ _
    have := h1.used
    simp only [List.map_nil, List.sum_nil]
    omega
  · show ([] : List OpD).length + 9 ≤ _
    simp
structure PS (d : DiskD) (o : Option SnV) : Prop where
  up : d.down = false
  fz : d.fuse = none
  rm : d.room = 1048576
  nd : (AO d.syn).Nodup
  ks : ∀ k, k ∈ AO d.now → k = snapN
  at_ : AS d.now snapN = o.map GR
  ok : ∀ s, o = some s → SnOk s
theorem PS.nnd {d : DiskD} {o : Option SnV} (h : PS d o) : (AO d.now).Nodup := Ed d.wait h.nd
theorem PS.none_ {d : DiskD} {o : Option SnV} (h : PS d o) : AS d.now snewN = none := CM.2 fun hm => H8 (h.ks _ hm).symm
theorem PS.file {d : DiskD} {o : Option SnV} (h : PS d o) {V : Option SnV → Prop} (hV : V o) : PFile V d.now :=
 ⟨h.nnd, fun k hk => .inl (h.ks k hk), ⟨o, h.at_, h.ok, hV⟩, by rw [h.none_]; simp⟩
theorem PS.used {d : DiskD} {o : Option SnV} (h : PS d o) : AN d.now ≤ 80000 := (h.file (V := fun _ => True) trivial).used
theorem PS.few {d : DiskD} {o : Option SnV} (h : PS d o) : d.now.length ≤ 1 := by
  have h1 := h.nnd
  have h2 := h.ks
  cases e : d.now with
  | nil => simp
  | cons p r =>
    cases r with
    | nil => simp
    | cons q r =>
      rw [e] at h1 h2
      have a1 := h2 p.1 (by simp [AO])
      have a2 := h2 q.1 (by simp [AO])
      simp only [AO, List.map_cons, List.nodup_cons, List.mem_cons] at h1
      exact absurd (.inl (a1.trans a2.symm)) h1.1
theorem PS.rm_ {d : DiskD} {o : Option SnV} (h : PS d o) : Ce d = (d, 0) := by
 unfold Ce Bx
 rw [if_neg]
 rw [h.up, if_neg (by simp), h.none_]
 simp
theorem PS.open_ {d : DiskD} {o : Option SnV} (h : PS d o) : C5 d = (d, o, 0) := by
 have hr : Ev ((Bx d snapN).getD []) = o := by
  unfold Bx
  rw [h.up, if_neg (by simp), h.at_]
  exact OU h.ok
 unfold C5
 rw [h.rm_]
 simp only
 rw [if_neg (by simp), hr]
theorem Xp {room : Int} (hr : room = 1048576) : PS (Hc room) none := ⟨rfl, rfl, hr, List.nodup_nil, fun k hk => (by cases hk), rfl, fun h hm => (by cases hm)⟩
theorem Xq {room : Int} {V : Option SnV → Prop} (hV : V none) : PR (Hc room) (PFile V) := fun k hk => by
 obtain rfl : k = 0 := Nat.le_zero.1 hk
 exact ⟨⟨List.nodup_nil, fun k hk => (by cases hk), ⟨none, rfl, fun h hm => (by cases hm), hV⟩, Nat.zero_le _⟩, fun n b e => (by cases e)⟩
theorem Rr {d : DiskD} {o : Option SnV} (h : PS d o) {V : Option SnV → Prop} (hV : V o) : ∃ d', E5 d = (d', 0) ∧ PS d' o ∧ PR d' (PFile V) ∧ d'.wait = [] := by
  refine ⟨{ d with syn := d.now, wait := [] }, ?_, ⟨h.up, h.fz, h.rm, h.nnd, h.ks, h.at_, h.ok⟩, fun k hk => ?_, rfl⟩
  · unfold E5
    rw [Dx h.up h.fz]
    simp only
    rw [if_neg (by simp)]
  · obtain rfl : k = 0 := Nat.le_zero.1 hk
    exact ⟨h.file hV, fun n b e => (by cases e)⟩
theorem PS.fit0 {d : DiskD} {o : Option SnV} {k : Nat} (h : PS d o) (hw : d.wait = []) (hk : k ≤ 9000) : d.fitK k := by
  have h1 := h.used
  have h2 : d.now = d.syn := by unfold DiskD.now; rw [hw]; rfl
  rw [h2] at h1
  refine ⟨?_, ?_⟩
  · rw [hw]
    show AN d.syn + 0 + _ ≤ _
    omega
  · rw [hw]
    show 0 + k ≤ _
    omega
theorem UD {d : DiskD} {n b : List UInt8} (hr : d.room = 1048576) (hu : AN d.now ≤ 80000) (hl : d.now.length ≤ 2) (hb : b.length ≤ 40000) : Eo d n b = true := by
 unfold Eo
 rw [Bool.and_eq_true, decide_eq_true_eq]
 refine ⟨by rw [hr]; omega, ?_⟩
 rw [Bool.not_eq_true', Bool.and_eq_false_iff]
 right
 rw [decide_eq_false_iff_not]
 omega
theorem PS.save {d : DiskD} {o : Option SnV} {V : Option SnV → Prop} (hs : PS d o) (hc : PR d (PFile V)) (hL : V o) {x : SnV} (hx : SnOk x) (hV : V (some x)) : ∃ d', Ew d (GR x) = (d', 0) ∧ PS d' (some x) ∧ PR d' (PFile V) ∧ d'.wait.length = d.wait.length + 2 ∧ ∀ V0 : Option SnV → Prop, V0 o → SR d' (PFile V0) (d.wait.length + 1) := by
  have hf := F2 hx
  have hfew := hs.few
  have hused := hs.used
  unfold Ew
  rw [hs.rm_]
  simp only
  rw [if_neg (by simp), J6 hs.up hs.fz SQ (UD hs.rm hused (by omega) (by omega))]
  simp only
  rw [if_neg (by simp)]
  obtain ⟨d1, hd1⟩ : ∃ d1, Cp d (.app snewN (GR x)) = d1 := ⟨_, rfl⟩
  have happ : ∀ b, AG d.now (.app snewN b) = BF d.now snewN b := fun b => by
    show BF d.now snewN ((AS d.now snewN).getD [] ++ b) = _
    rw [hs.none_]; rfl
  have hn1 : d1.now = BF d.now snewN (GR x) := by rw [← hd1, Cq, happ]
  have hg1 : AS d1.now snewN = some (GR x) := by rw [hn1, Da hs.nnd, if_pos rfl]
  have hu1 : d1.down = false := by rw [← hd1]; exact hs.up
  have hz1 : d1.fuse = none := by rw [← hd1]; exact hs.fz
  have hnd1 : (AO d1.now).Nodup := by rw [hn1]; exact Cd hs.nnd
  have hren : Ie d1 snewN snapN = (Cp d1 (.ren snewN snapN), 0) := by
    unfold Ie
    rw [Dx hu1 hz1]
    simp only
    rw [if_neg (by simp), SP, if_neg (by simp), hg1]
  have hdone : AG d1.now (.ren snewN snapN) = BF (BY d1.now snewN) snapN (GR x) := by
    show (match AS d1.now snewN with | some y => BF (BY d1.now snewN) snapN y | none => d1.now) = _
    rw [hg1]
  have hfile : ∀ (V : Option SnV → Prop), V o → ∀ b, b.length ≤ 32808 → PFile V (AG d.now (.app snewN b)) := fun V hL b hb => by
    rw [happ]
    refine ⟨Cd hs.nnd, fun k hk => ?_, ⟨o, ?_, hs.ok, hL⟩, ?_⟩
    · rcases E9 hs.nnd hk with h | h
      · exact .inr h
      · exact .inl (hs.ks k h)
    · rw [Da hs.nnd, if_neg H8, hs.at_]
    · rw [Da hs.nnd, if_pos rfl]
      simp only [Option.getD_some]
      omega
  have hkeys : ∀ k, k ∈ AO (AG d1.now (.ren snewN snapN)) → k = snapN := fun k hk => by
    rw [hdone] at hk
    rcases E9 (B4 hnd1) hk with h | h
    · exact h
    · obtain ⟨h1, h2⟩ := OT hnd1 h
      rw [hn1] at h1
      rcases E9 hs.nnd h1 with h3 | h3
      · exact absurd h3 h2
      · exact hs.ks k h3
  have hget : AS (AG d1.now (.ren snewN snapN)) snapN = some (GR x) := by rw [hdone, Da (B4 hnd1), if_pos rfl]
  have hgn : AS (AG d1.now (.ren snewN snapN)) snewN = none := CM.2 fun hm => H8 (hkeys _ hm).symm
  have hndd : (AO (AG d1.now (.ren snewN snapN))).Nodup := by rw [hdone]; exact Cd (B4 hnd1)
  have hok : ∀ s, some x = some s → SnOk s := fun s hm => by obtain rfl := Option.some.inj hm; exact hx
  have hc1 : PR d1 (PFile V) := by
    rw [← hd1]
    refine hc.push (hfile V hL _ hf) ?_
    rintro n b e t ht
    cases e
    exact hfile V hL _ (by rw [List.length_take]; omega)
  have hw1 : d1.wait.length = d.wait.length + 1 := by
    rw [← hd1]
    show (d.wait ++ [_]).length = _
    simp
  rw [hd1, hren]
  refine ⟨_, rfl, ⟨hu1, hz1, by rw [← hd1]; exact hs.rm, by rw [← hd1]; exact hs.nd, ?_, ?_, hok⟩, hc1.push ?_ ?_, ?_, fun V0 h0 => ?_⟩
  · rw [Cq]; exact hkeys
  · rw [Cq, hget]; rfl
  · exact ⟨hndd, fun k hk => .inl (hkeys k hk), ⟨some x, by rw [hget]; rfl, hok, hV⟩, by rw [hgn]; simp⟩
  · rintro n b e
    cases e
  · show (d1.wait ++ [_]).length = _
    simp only [List.length_append, List.length_cons, List.length_nil]
    omega
  · rw [← hw1]
    refine UC ?_ ?_
    · rw [← hd1, Cq]; exact hfile V0 h0 _ hf
    · rintro n b e
      cases e
def Kq (A : List SnV) : List (Option SnV) := none :: A.map some
structure PI (i a : Nat) (A : List SnV) (d : DiskD) (o : Option SnV) : Prop where
  hs : PS d o
  cr : PR d (PFile fun x => ∃ j, a ≤ j ∧ (Kq A)[j]? = some x)
  len : A.length = i
  ai : a ≤ i
  last : (Kq A)[i]? = some o
  fit : d.fitK (300 - 3 * i)
theorem OV {room : Int} {k : Nat} (hk : k ≤ 9000) : (Hc room).fitK k := ⟨by
 show 0 + 0 + 65536 * k ≤ _
 omega, by
 show 0 + k ≤ _
 omega⟩
theorem PI.sync {i a : Nat} {A : List SnV} {d : DiskD} {o : Option SnV} (h : PI i a A d o) : ∃ d', E5 d = (d', 0) ∧ PI i i A d' o := by
 obtain ⟨d', h1, h2, h3, h4⟩ := Rr h.hs (V := fun x => ∃ j, i ≤ j ∧ (Kq A)[j]? = some x) ⟨i, Nat.le_refl _, h.last⟩
 exact ⟨d', h1, h2, h3, h.len, Nat.le_refl _, h.last, h2.fit0 h4 (by omega)⟩
theorem Mz (A : List SnV) (x : SnV) : Kq (A ++ [x]) = Kq A ++ [some x] := by simp [Kq]
theorem UE (A : List SnV) : (Kq A).length = A.length + 1 := by simp [Kq]
theorem PI.save {i a : Nat} {A : List SnV} {d : DiskD} {o : Option SnV} (h : PI i a A d o) (hi : i < 90) {x : SnV} (hx : SnOk x) : ∃ d', Ew d (GR x) = (d', 0) ∧ PI (i + 1) a (A ++ [x]) d' (some x) := by
 have hll := UE A
 have hlen := h.len
 have hold : ∀ y, (∃ j, a ≤ j ∧ (Kq A)[j]? = some y) → ∃ j, a ≤ j ∧ (Kq (A ++ [x]))[j]? = some y := fun y ⟨j, h1, h2⟩ => ⟨j, h1, by rw [Mz, List.getElem?_append_left (List.getElem?_eq_some_iff.1 h2).1]; exact h2⟩
 have hnew : (Kq (A ++ [x]))[i + 1]? = some (some x) := by rw [Mz, List.getElem?_append_right (by omega), hll, hlen]; simp
 obtain ⟨d', h1, h2, h3, _, _⟩ := h.hs.save (h.cr.imp fun f hf => hf.imp hold) (hold _ ⟨i, h.ai, h.last⟩) hx ⟨i + 1, by have := h.ai; omega, hnew⟩
 refine ⟨d', h1, h2, h3, by rw [List.length_append, hlen]; rfl, by have := h.ai; omega, hnew, ?_⟩
 have h5 := IM (k := 300 - 3 * (i + 1)) (d := d) (f := GR x) (CG h.fit (by omega)) (by have := F2 hx; omega)
 rwa [h1] at h5
theorem LK {room : Int} {f : FS} {V : Option SnV → Prop} (h : PFile V f) {b : List UInt8} (hb : (Bx (Ce ⟨room, f, [], none, false⟩).1 snapN).getD [] = b) : b.length ≤ 137438953472 := by
  have h1 : (Bx (Ce ⟨room, f, [], none, false⟩).1 snapN).getD [] = (AS f snapN).getD [] := by
    unfold Ce
    split
    · rename_i hs
      have hx : ∃ x, AS f snewN = some x := Option.isSome_iff_exists.1 hs
      obtain ⟨x, hx⟩ := hx
      have hdel : Fp ⟨room, f, [], none, false⟩ snewN = (Cp ⟨room, f, [], none, false⟩ (.del snewN), 0) := by
        unfold Fp
        rw [Dx rfl rfl]
        simp only
        rw [if_neg (by simp)]
        show (match AS f snewN with | none => _ | some _ => _) = _
        rw [hx]
      rw [hdel]
      show ((if false = true then none else AS (Cp ⟨room, f, [], none, false⟩ (.del snewN)).now snapN).getD []) = _
      rw [if_neg (by simp), Cq]
      show (AS (BY f snewN) snapN).getD [] = _
      rw [Ge h.nd, if_neg H8]
    · rfl
  obtain ⟨o, h4, h5, _⟩ := h.has
  have h6 := Qo h5
  rw [← h4] at h6
  rw [← hb, h1]; omega
theorem UF {d : DiskD} {o : Option SnV} (h : PS d o) {b : List UInt8} (hb : (Bx (Ce d).1 snapN).getD [] = b) : b.length ≤ 137438953472 := by
 rw [h.rm_] at hb
 have hr : (Bx d snapN).getD [] = (o.map GR).getD [] := by
  unfold Bx
  rw [h.up, if_neg (by simp), h.at_]
 have := Qo h.ok
 rw [← hb, hr]; omega
theorem PI.crash {i a : Nat} {A : List SnV} {d : DiskD} {o : Option SnV} (h : PI i a A d o) (keep torn : Int) : (Cg d keep torn).fitK 9 ∧ (∀ b, (Bx (Ce (Cg d keep torn)).1 snapN).getD [] = b → b.length ≤ 137438953472) ∧ ∃ d' x j, C5 (Cg d keep torn) = (d', x, 0) ∧ a ≤ j ∧ (Kq A)[j]? = some x := by
 obtain ⟨h1, hF, d', x, h2, ⟨j, h3, h4⟩, _⟩ := (h.cr (Cw d keep) (Hd d keep)).crash torn
 exact ⟨h1, fun b hb => LK hF hb, d', x, j, h2, h3, h4⟩
theorem Yo {a b : SnV} (ha : SnOk a) (hb : SnOk b) : ∃ d1 d2 d3 : DiskD, Ew (Hc 1048576) (GR a) = (d1, 0) ∧ d1.fit ∧ E5 d1 = (d2, 0) ∧ d2.fitK 9 ∧ Ew d2 (GR b) = (d3, 0) ∧ d3.fitK 6 ∧ C5 d3 = (d3, some b, 0) ∧ (∀ x, (Bx (Ce d3).1 snapN).getD [] = x → x.length ≤ 137438953472) ∧ (Cg d3 1 0).fitK 9 ∧ (∀ x, (Bx (Ce (Cg d3 1 0)).1 snapN).getD [] = x → x.length ≤ 137438953472) ∧ ∃ d4, C5 (Cg d3 1 0) = (d4, some a, 0) := by
 have hs0 : PS (Hc 1048576) none := Xp rfl
 obtain ⟨d1, h1, hs1, hc1, hw1, _⟩ := hs0.save (Xq (V := fun _ => True) trivial) trivial ha trivial
 have hf1 := IM (k := 6) (d := Hc 1048576) (f := GR a) (OV (by decide)) (by have := F2 ha; omega)
 rw [h1] at hf1
 obtain ⟨d2, h2, hs2, hc2, hw2⟩ := Rr hs1 (V := fun _ => True) trivial
 obtain ⟨d3, h3, hs3, hc3, hw3, hk3⟩ := hs2.save hc2 trivial hb trivial
 have hf3 := IM (k := 6) (d := d2) (f := GR b) (hs2.fit0 hw2 (by decide)) (by have := F2 hb; omega)
 rw [h3] at hf3
 have hk := hk3 (fun x => x = some a) rfl
 have he : Cw d3 1 = d2.wait.length + 1 := by unfold Cw; rw [hw3, hw2]; rfl
 rw [← he] at hk
 obtain ⟨hf4, hF, d4, x, h4, rfl, _⟩ := hk.crash 0
 exact ⟨d1, d2, d3, h1, hf1.fit, h2, hs2.fit0 hw2 (by decide), h3, hf3, hs3.open_, fun x hx => UF hs3 hx, hf4, fun x hx => LK hF hx, d4, h4⟩
end Go.Proofs.YtjcfimmcogkopaaGreat.Sep
namespace Go.Proofs.YtjcfimmcogkopaaGreat.Sep
open Go.RowKit
open Go.Proofs.YtjcfimmcogkopaaGreat.Mem (Bh Cs Chg AA)
def J7 (v : Value) (d : List UInt8) : Ass := fun rs => ∃ X : Ass, CO X v d ∧ X rs
theorem Jv {v : Value} {d : List UInt8} : CO (J7 v d) v d := fun rs w ⟨_, h1, h2⟩ h3 => h1 rs w h2 h3
theorem UG {X : Ass} {v : Value} {d : List UInt8} (h : CO X v d) : ∀ rs, Al [X] rs → J7 v d rs := fun _ h2 => ⟨X, h, h2.one'⟩
theorem V9 : J7 (.slice none 0 0) [] [] := ⟨DN, fun rs w h1 h2 => ⟨none, 0, rfl, by simp, by simp, fun h => absurd h (by simp)⟩, rfl⟩
theorem LL {w : World} {α : Type} {f : α → Value} {d : α → List UInt8} : ∀ {l : List α}, (∀ y ∈ l, D6 w (f y) (d y)) → ∃ gs : List Nat, (∀ g ∈ gs, Eu w g) ∧ ∀ w' : World, (∀ g ∈ gs, w'.heap[g]? = w.heap[g]?) → ∀ y ∈ l, D6 w' (f y) (d y)
  | [], _ => ⟨[], (fun _ h => nomatch h), fun _ _ _ h => nomatch h⟩
  | y :: l, h => by
    obtain ⟨g0, hc0, r0⟩ := SJ (h y (by simp))
    obtain ⟨g1, hc1, r1⟩ := LL (l := l) fun z hz => h z (by simp [hz])
    refine ⟨g0 ++ g1, fun g hg => (List.mem_append.1 hg).elim (hc0 g) (hc1 g), fun w' hw z hz => ?_⟩
    rcases List.mem_cons.1 hz with rfl | hz
    · exact r0 w' fun g hg => hw g (List.mem_append.2 (.inl hg))
    · exact r1 w' (fun g hg => hw g (List.mem_append.2 (.inr hg))) z hz
theorem calls_argS {P : Program} {F : FuncId} {args : Array Value} {val : Value} {w : World} {α : Type} {k : Nat} {enc : α → List Value} {v : Value} {l : List α} {f : α → Value} {d : α → List UInt8} (h0 : Dy w k v l.length (flat enc l)) (h1 : ∀ y ∈ l, D6 w (f y) (d y)) (h : ∀ X : Ass, Rd X k enc v l → (∀ y ∈ l, CO X (f y) (d y)) → AX P F args [X] (fun _ : Unit => val) (fun _ => [X])) : Calls P F args w fun e w' => e = .returned val ∧ Below w.heap.size w w' := by
 obtain ⟨g0, hc0, r0⟩ := SI h0
 obtain ⟨g1, hc1, r1⟩ := LL h1
 have hc : ∀ g ∈ g0 ++ g1, Eu w g := fun g hg => (List.mem_append.1 hg).elim (hc0 g) (hc1 g)
 exact Ql hc (h _ (V5 hc fun w' hw => r0 w' fun g hg => hw g (List.mem_append.2 (.inl hg))) fun y hy => Uv hc fun w' hw => r1 w' (fun g hg => hw g (List.mem_append.2 (.inr hg))) y hy)
def Fa (e : TypeId) (g c : Nat) (l : List UInt8) : Ass := fun rs => (l.length ≤ c ∧ c ≤ maxLen) ∧ ∃ cs f, (∀ (j : Nat) (b : UInt8), l[j]? = some b → cs[j]? = some (.int .u8 (b.toNat : Int))) ∧ rs = [(g, none, F5 cs e f)]
section
variable {P : Program} {B : Nat → Prop} {w0 w : World} {os : List Ass} {n : Nat} {env : List (Nat × Value)} {Q : Exit → Act → World → Prop} {o : Oper} {act : Act}
theorem Qq {src dst e : TypeId} {u : TypeDesc} {l : List UInt8} (hl : l.length ≤ maxLen) (hs : P.underlying src = some u) (hd : P.underlying dst = some (.slice e)) (he : P.underlying e = some (.int .u8)) {x : Operand} (ho : o.op = .convert src dst x) (hx : evs env x = some (.string (bs l))) :
    Bk P Q n env B w0 os o (fun x : Nat × Nat => .slice (some ⟨x.1, 0, none⟩) l.length x.2) (fun x => Fa e x.1 x.2 l :: os) := fun act w hH hF K hK => by
  have hrun : (execOp act.eval o).run P w = .ok (.value (.slice (some ⟨w.heap.size, 0, none⟩) l.length (grownCap w l.length 0 e))) (Lib.bytesWorld w e (bs l)) := by
    unfold execOp
    have := Lib.run_convert_string_bytes (P := P) w src dst e (bs l) hs hd he
    have hsz : (bs l).size = l.length := by simp [bs, ByteArray.size]
    simp only [ho, hF.evs hx, Sem.run_bind, this, Result.andThen_ok, Sem.run_pure, hsz]
  have hH2 : Hp B w0 (Lib.bytesWorld w e (bs l)) (Fa e w.heap.size (grownCap w l.length 0 e) l :: os) := by
    have hb : Below w.heap.size w (Lib.bytesWorld w e (bs l)) := ⟨rfl, rfl, rfl, by rw [Lib.bytesWorld_size]; omega, fun j hj => Lib.bytesWorld_at_old w e _ j hj⟩
    obtain ⟨rs, h1, h0⟩ := hH
    have h2 := h0.call hb
    have hnew := Lib.bytesWorld_at_new w e (bs l)
    refine ⟨(w.heap.size, none, F5 (Lib.bytesCells w e (bs l)) e ((Lib.bytesCells w e (bs l)).size, (Lib.bytesCells w e (bs l)).size + 1)) :: rs, ⟨[_], rs, rfl, ⟨⟨grownCap_ge .., grownCap_le_maxLen _ _ _ _ hl⟩, _, _, fun j b hj => ?_, rfl⟩, h1⟩, h2.up, ⟨NJ.2 hnew, h2.rows⟩, ⟨fun y hy e1 => ?_, h2.apart⟩, fun x hx hlt => ?_⟩
    · have hjl := (List.getElem?_eq_some_iff.1 hj).1
      have hsz : (bs l).size = l.length := by simp [bs, ByteArray.size]
      have hc := Lib.bytesWorld_cell w e (bs l) j (by rw [hsz]; exact hjl)
      unfold World.cell? at hc
      rw [hnew] at hc
      have h3 : (Lib.bytesCells w e (bs l))[j]? = some (.int .u8 (((bs l).data.toList.getD j 0).toNat : Int)) := hc
      rw [h3]
      have h4 : (bs l).data.toList.getD j 0 = b := by
        show l.toArray.toList.getD j 0 = b
        simp [hj]
      rw [h4]
    · have h5 := (h0.rows.mem y hy).lt
      have e2 : y.1 = w.heap.size := e1
      omega
    · rcases List.mem_cons.1 hx with rfl | hx
      · have := h0.up.size; exact absurd hlt (by show ¬ w.heap.size < w0.heap.size; omega)
      · exact h2.own x hx hlt
  exact FH (w0 := w) act hrun (hK (w.heap.size, _) _ hH2)
end
theorem LM {e : TypeId} {g c : Nat} {l : List UInt8} : CO (Fa e g c l) (.slice (some ⟨g, 0, none⟩) l.length c) l := fun rs w h1 h2 => by
 obtain ⟨⟨hl, hc⟩, cs, f, h3, rfl⟩ := h1
 refine ⟨_, _, rfl, hl, hc, fun _ => ⟨g, 0, rfl, trivial, fun j b hb => ?_⟩⟩
 have h4 := NJ.1 h2.1
 rw [Nat.zero_add]
 simp only [World.cell?, h4]
 exact h3 j b hb
theorem Rs (a b c d e f : Int) (z : Bool) (h : (a == d && (b == e && c == f)) = z) : Ti Tryz.prog 31 (.agg #[.int .u64 a, .int .u64 b, .int .i64 c]) (.agg #[.int .u64 d, .int .u64 e, .int .i64 f]) z := by
 have h1 := WU a b c d e f
 rwa [h] at h1
theorem Rt {a b : Int} (h : 0 ≤ a) : a.tmod b = a % b := Int.tmod_eq_emod_of_nonneg h
theorem Do {te : TypeId} {v : Value} {l : List PtT} {y : PtT} {j : Nat} (hj : l[j]? = some y) : CO (Bb te v l) y.1 y.2 := Vy (u := y.1) (d := y.2) hj
end Go.Proofs.YtjcfimmcogkopaaGreat.Sep
