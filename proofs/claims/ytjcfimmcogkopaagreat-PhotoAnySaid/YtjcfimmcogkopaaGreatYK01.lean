/-
  AgT · HdM · PhM · PhU
-/
import Derived.Test.YtjcfimmcogkopaaGreatYA08
import Derived.Test.YtjcfimmcogkopaaGreatYB03
import Derived.Test.YtjcfimmcogkopaaGreatYB04
import Derived.Test.YtjcfimmcogkopaaGreatYI01
import Derived.Lib.ConvBytes
import Derived.Laws.AppendOwn
set_option linter.unusedSimpArgs false
set_option linter.unusedVariables false
namespace Go.Proofs.YtjcfimmcogkopaaGreat.Sep
open Go.RowKit
open Go.Proofs.YtjcfimmcogkopaaGreat.Mem (AZ Ci Chg Au)
def IU : List Nat → List Nat
  | [] => []
  | a :: l => if a ∈ IU l then IU l else a :: IU l
theorem GS {a : Nat} : ∀ {l : List Nat}, a ∈ IU l ↔ a ∈ l
  | [] => Iff.rfl
  | b :: l => by
    have ih := GS (a := a) (l := l)
    unfold IU
    split
    · rename_i h
      rw [ih, List.mem_cons]
      refine ⟨.inr, fun h2 => ?_⟩
      rcases h2 with rfl | h2
      · exact GS.1 h
      · exact h2
    · rw [List.mem_cons, List.mem_cons, ih]
theorem F7 : ∀ l : List Nat, (IU l).Nodup
  | [] => List.nodup_nil
  | b :: l => by
    unfold IU
    split
    · exact F7 l
    · rename_i h
      exact List.nodup_cons.2 ⟨h, F7 l⟩
def JO (w : World) (g : Nat) : RowT := (g, none, match w.heap[g]? with | some (.cells C e f) => Ft C e f | _ => #[])
def U9 (w : World) (gs : List Nat) : Ass := fun rs => rs = (IU gs).map (JO w)
def Fp (w : World) (g : Nat) : Prop := ∃ C e f, w.heap[g]? = some (.cells C e f)
theorem TK {C C' : Array Value} {e e' : TypeId} {f f' : Nat × Nat} (h : Ft C e f = Ft C' e' f') : C = C' ∧ e = e' ∧ f = f' := by
  obtain ⟨f1, f2⟩ := f
  obtain ⟨g1, g2⟩ := f'
  unfold Ft at h
  simp at h
  obtain ⟨h1, h2, h3, h4⟩ := h
  refine ⟨h1, ?_, ?_⟩
  · first | exact h2 | exact Int.ofNat.inj h2 | omega
  · rw [show f1 = g1 by first | exact h3 | omega, show f2 = g2 by first | exact h4 | omega]
theorem Wn {w w' : World} {g : Nat} (hc : Fp w g) (h : CK w' (JO w g)) : w'.heap[g]? = w.heap[g]? := by
  obtain ⟨C, e, f, hw⟩ := hc
  unfold JO at h
  rw [hw] at h
  rcases h with ⟨es, c, _, h2⟩ | ⟨b, s, seen, c, _, h2⟩ | ⟨C', e', f', h1, h2⟩
  · unfold Ft EH at h2
    simp at h2
  · unfold Ft DH at h2
    simp at h2
  · obtain ⟨rfl, rfl, rfl⟩ := TK h2
    rw [hw]; exact h1
theorem Wo {w : World} {g : Nat} (hc : Fp w g) : CK w (JO w g) := by
 obtain ⟨C, e, f, hw⟩ := hc
 unfold JO
 rw [hw]
 exact .inr (.inr ⟨C, e, f, hw, rfl⟩)
theorem TL {w : World} {a : Addr} {x : Value} (h : w.cell? a = some x) : Fp w a.block := by
  unfold World.cell? at h
  split at h
  · rename_i c e f hc
    exact ⟨c, e, f, hc⟩
  · cases h
theorem Va {w w' : World} {a : Addr} (h : w'.heap[a.block]? = w.heap[a.block]?) : w'.cell? a = w.cell? a := by
 unfold World.cell?
 rw [h]
theorem LT {w : World} {v : Value} {l : List UInt8} (h : D6 w v l) : ∃ gs : List Nat, (∀ g ∈ gs, Fp w g) ∧ ∀ w' : World, (∀ g ∈ gs, w'.heap[g]? = w.heap[g]?) → D6 w' v l := by
  obtain ⟨A, c, e, h1, h2, h3⟩ := h
  cases l with
  | nil => exact ⟨[], (fun _ h => nomatch h), fun w' _ => ⟨A, c, e, h1, h2, fun h => absurd h (by simp)⟩⟩
  | cons y ys =>
    obtain ⟨g, o, hA, _, h4⟩ := h3 (by simp)
    have h5 := TL (h4 0 y rfl)
    refine ⟨[g], fun k hk => by rw [List.mem_singleton.1 hk]; exact h5, fun w' hw => ⟨A, c, e, h1, h2, fun _ => ⟨g, o, hA, trivial, fun j b hb => ?_⟩⟩⟩
    rw [Va (a := ⟨g, o + j, none⟩) (hw g (List.mem_singleton.2 rfl))]
    exact h4 j b hb
theorem LU {w w' : World} {gs : List Nat} (hc : ∀ g ∈ gs, Fp w g) {rs : List RowT} (h : U9 w gs rs) (hr : RowsOf w' rs) : ∀ g ∈ gs, w'.heap[g]? = w.heap[g]? := fun g hg => by
 obtain rfl : rs = _ := h
 exact Wn (hc g hg) (hr.mem _ (List.mem_map.2 ⟨g, GS.2 hg, rfl⟩))
theorem Oq {w : World} {gs : List Nat} (hc : ∀ g ∈ gs, Fp w g) {v : Value} {l : List UInt8} (h : ∀ w' : World, (∀ g ∈ gs, w'.heap[g]? = w.heap[g]?) → D6 w' v l) : Cu (U9 w gs) v l := fun _ w' h1 h2 => h w' (LU hc h1 h2)
theorem PW {P : Program} {F : FuncId} {args : Array Value} {val : Value} {w : World} {gs : List Nat} (hc : ∀ g ∈ gs, Fp w g) (h : AW P F args [U9 w gs] (fun _ : Unit => val) (fun _ => [U9 w gs])) : Calls P F args w fun e w' => e = .returned val ∧ Below w.heap.size w w' := by
  have hd : AZ ((IU gs).map (JO w)) := Bf.2 (by
    rw [List.map_map]
    have : ((fun x : RowT => x.1) ∘ JO w) = id := rfl
    first
      | (rw [this, List.map_id]; exact F7 gs)
      | (simpa [Function.comp_def, JO] using F7 gs))
  refine (h w _ (Ak.one rfl) (AN.2 fun x hx => ?_) hd).mono ?_
  · obtain ⟨g, hg, rfl⟩ := List.mem_map.1 hx
    exact Wo (hc g (GS.1 hg))
  · rintro e w' ⟨_, he, rs', hp, hch⟩
    have hrs := hp.one'
    refine ⟨he, hch.mod.os, hch.mod.tape, hch.mod.output, hch.mod.size, fun k hk => ?_⟩
    cases Classical.em (k ∈ gs) with
    | inl hk2 => exact LU hc hrs hch.rows k hk2
    | inr hk2 =>
      refine hch.mod.block k hk ?_
      rintro ⟨x, hx, rfl⟩
      obtain ⟨g, hg, rfl⟩ := List.mem_map.1 hx
      exact hk2 (GS.1 hg)
end Go.Proofs.YtjcfimmcogkopaaGreat.Sep
namespace Go.Proofs.YtjcfimmcogkopaaGreat.Sep
abbrev HV := Nat × Nat
def Gj (h : HV) : Prop := h.1 ≤ 72057594037927935 ∧ h.2 ≤ 7
instance (h : HV) : Decidable (Gj h) := by unfold Gj; infer_instance
def layH (h : HV) : List UInt8 := Dx h.1 ++ [UInt8.ofNat h.2]
def LV (x : List UInt8) : Option HV :=
  if Dy (Ba 7 (BL 72057594037927935 x 0).2.1 (BL 72057594037927935 x 0).2.2).2.1 (Ba 7 (BL 72057594037927935 x 0).2.1 (BL 72057594037927935 x 0).2.2).2.2 = 0 then some ((BL 72057594037927935 x 0).1, (Ba 7 (BL 72057594037927935 x 0).2.1 (BL 72057594037927935 x 0).2.2).1) else none
theorem TM {x l1 l2 : List UInt8} {t f1 v f2 : Nat} (h1 : BL 72057594037927935 x 0 = (t, l1, f1)) (h2 : Ba 7 l1 f1 = (v, l2, f2)) : LV x = if Dy l2 f2 = 0 then some (t, v) else none := by
 unfold LV
 rw [h1]
 simp only
 rw [h2]
theorem K2 {h : HV} (hk : Gj h) : (layH h).length ≤ 9 := by
 have := Cq 7 h.1 (by have := hk.1; omega)
 unfold layH
 rw [List.length_append]
 simp only [List.length_cons, List.length_nil]
 omega
theorem R8 {h : HV} (hk : Gj h) : LV (layH h) = some h := by
 have h1 := NB 72057594037927935 h.1 [UInt8.ofNat h.2] hk.1 (by have := hk.1; omega)
 have h2 := (EZ 7).lay h.2 [] ⟨hk.2, by have := hk.2; omega⟩
 rw [List.append_nil] at h2
 rw [layH, TM h1 h2]
 rfl
def Wp : List (List UInt8) → List HV
  | [] => []
  | p :: ps => match LV p with | some h => h :: Wp ps | none => []
theorem TN {p : List UInt8} {h : HV} (e : LV p = some h) (ps : List (List UInt8)) : Wp (p :: ps) = h :: Wp ps := by
  show (match LV p with | some h => h :: Wp ps | none => []) = _
  rw [e]
theorem QX : ∀ {L : List HV}, (∀ h, h ∈ L → Gj h) → Wp (L.map layH) = L
  | [], _ => rfl
  | h :: L, hk => by
    rw [List.map_cons, TN (R8 (hk h (by simp))), QX (fun x hx => hk x (by simp [hx]))]
def FK (L : List HV) : HV := L.getLast?.getD (0, 0)
theorem K3 (L : List HV) (h : HV) : FK (L ++ [h]) = h := by simp [FK]
def MV (b : List UInt8) : HV × Nat := (FK (Wp (B1 b).1), CG ((B1 b).1.take (Wp (B1 b).1).length))
theorem JP : ∀ (ps : List (List UInt8)), (∀ x, x ∈ ps → x.length ≤ 65536) → (Dd ps).length = CG ps
  | [], _ => rfl
  | p :: ps, h => by
    rw [JL, List.length_append, DW (h p (by simp)), LR, JP ps (fun x hx => h x (by simp [hx]))]
def Lr (L : List HV) : List UInt8 := Dd (L.map layH)
theorem LW {L : List HV} (h : ∀ x, x ∈ L → Gj x) : ∀ x, x ∈ L.map layH → x.length ≤ 65536 := fun x hx => by
 obtain ⟨y, hy, rfl⟩ := List.mem_map.1 hx
 have := K2 (h y hy)
 omega
theorem K4 (L : List HV) (h : HV) : Lr (L ++ [h]) = Lr L ++ BD (layH h) := by
 unfold Lr; rw [List.map_append]; exact Og _ _
theorem Vb {L : List HV} (hk : ∀ h, h ∈ L → Gj h) {junk : List UInt8} (hj : B2 junk = none) : MV (Lr L ++ junk) = (FK L, (Lr L).length) := by
 have h1 := GQ (L.map layH) (LW hk) junk
 rw [CF hj] at h1
 have h2 : (B1 (Lr L ++ junk)).1 = L.map layH := by unfold Lr; rw [h1]; simp
 unfold MV
 rw [h2, QX hk, show (L.map layH).take L.length = L.map layH by rw [List.take_of_length_le (by simp)]]
 unfold Lr
 rw [JP _ (LW hk)]
theorem FL : B2 [] = none := by unfold B2; rw [if_neg (by simp)]
theorem PX {h : HV} (hk : Gj h) : (BD (layH h)).length ≤ 17 := by
 have := K2 hk
 rw [DW (by omega)]; omega
theorem TO {h : HV} (hk : Gj h) {t : Nat} (ht : t < (BD (layH h)).length) : B2 ((BD (layH h)).take t) = none := by
 have := K2 hk
 rw [DW (by omega)] at ht
 exact Tv (by omega) ht
def hardN : List UInt8 := [104, 97, 114, 100]
def newN : List UInt8 := [104, 97, 114, 100, 46, 110, 101, 119]
def B7 (d : DiskD) : DiskD × Nat := if (Bo d newN).isSome = true then Fw d newN else (d, 0)
def K5 (d : DiskD) : DiskD × HV × Nat :=
  if (B7 d).2 ≠ 0 then ((B7 d).1, (0, 0), (B7 d).2)
  else if (MV ((Bo (B7 d).1 hardN).getD [])).2 < ((Bo (B7 d).1 hardN).getD []).length then
    if (NN (B7 d).1 hardN ((MV ((Bo (B7 d).1 hardN).getD [])).2 : Int)).2 ≠ 0 then ((NN (B7 d).1 hardN ((MV ((Bo (B7 d).1 hardN).getD [])).2 : Int)).1, (0, 0), (NN (B7 d).1 hardN ((MV ((Bo (B7 d).1 hardN).getD [])).2 : Int)).2)
    else ((NN (B7 d).1 hardN ((MV ((Bo (B7 d).1 hardN).getD [])).2 : Int)).1, (MV ((Bo (B7 d).1 hardN).getD [])).1, 0)
  else ((B7 d).1, (MV ((Bo (B7 d).1 hardN).getD [])).1, 0)
def J8 (d : DiskD) (f : List UInt8) : DiskD × Nat :=
  if (B7 d).2 ≠ 0 then B7 d
  else if (Cc (B7 d).1 newN f).2 ≠ 0 then Cc (B7 d).1 newN f
  else Jf (Cc (B7 d).1 newN f).1 newN hardN
def H8 (d : DiskD) (h : HV) : DiskD × Nat :=
  if ((Bo d hardN).getD []).length < 256 then Cc d hardN (BD (layH h)) else J8 d (BD (layH h))
def DiskD.fitK (k : Nat) (d : DiskD) : Prop := AF d.syn + (d.wait.map OpD.size).sum + 65536 * k ≤ 1099511627776 ∧ d.wait.length + k ≤ 10000
theorem DiskD.fitK.fit {k : Nat} {d : DiskD} (h : d.fitK k) : d.fit := ⟨by have := h.1; omega, by have := h.2; omega⟩
theorem DiskD.fitK.less {k : Nat} {d : DiskD} (h : d.fitK (k + 1)) : d.fitK k := ⟨by have := h.1; omega, by have := h.2; omega⟩
theorem Jv {k : Nat} {d : DiskD} {o : OpD} (h : d.fitK (k + 1)) (ho : o.size ≤ 65536) : (Cj d o).fitK k := by
  obtain ⟨h1, h2⟩ := h
  refine ⟨?_, ?_⟩
  · show AF d.syn + ((d.wait ++ [o]).map OpD.size).sum + _ ≤ _
    rw [List.map_append, List.sum_append]
    simp only [List.map_cons, List.map_nil, List.sum_cons, List.sum_nil]
    omega
  · show (d.wait ++ [o]).length + k ≤ _
    rw [List.length_append]; simp only [List.length_cons, List.length_nil]; omega
theorem H9 {k : Nat} {d : DiskD} (h : d.fitK k) : (Bj d).1.fitK k := by
  unfold Bj
  split
  · exact h
  · exact h
theorem Fq {k : Nat} {d : DiskD} {n b : List UInt8} (h : d.fitK (k + 1)) (hb : b.length ≤ 65536) : (Cc d n b).1.fitK k := by
  have h1 := H9 h
  unfold Cc
  cases e : Bj d with
  | mk d1 e1 =>
    rw [e] at h1
    simp only
    split
    · exact h1.less
    · split
      · exact h1.less
      · split
        · exact h1.less
        · exact Jv h1 hb
theorem Or {k : Nat} {d : DiskD} {n : List UInt8} (h : d.fitK (k + 1)) : (Fw d n).1.fitK k := by
  have h1 := H9 h
  unfold Fw
  cases e : Bj d with
  | mk d1 e1 =>
    rw [e] at h1
    simp only
    split
    · exact h1.less
    · split
      · exact h1.less
      · exact Jv h1 (Nat.zero_le _)
theorem Ot {k : Nat} {d : DiskD} {a b : List UInt8} (h : d.fitK (k + 1)) : (Jf d a b).1.fitK k := by
  have h1 := H9 h
  unfold Jf
  cases e : Bj d with
  | mk d1 e1 =>
    rw [e] at h1
    simp only
    split
    · exact h1.less
    · split
      · exact h1.less
      · split
        · exact h1.less
        · exact Jv h1 (Nat.zero_le _)
theorem Vc {k : Nat} {d : DiskD} (h : d.fitK (k + 1)) : (B7 d).1.fitK k := by
  unfold B7
  split
  · exact Or h
  · exact h.less
structure HFile (f : FS) (V : HV → Prop) : Prop where
  nd : (AH f).Nodup
  ks : ∀ k, k ∈ AH f → k = hardN ∨ k = newN
  has : ∃ L junk, (∀ h, h ∈ L → Gj h) ∧ (AL f hardN).getD [] = Lr L ++ junk ∧ B2 junk = none ∧ V (FK L)
  lh : ((AL f hardN).getD []).length ≤ 400
  ln : ((AL f newN).getD []).length ≤ 100
theorem HFile.imp {f : FS} {V V' : HV → Prop} (h : HFile f V) (hv : ∀ x, V x → V' x) : HFile f V' := by
 obtain ⟨L, j, h1, h2, h3, h4⟩ := h.has
 exact ⟨h.nd, h.ks, ⟨L, j, h1, h2, h3, hv _ h4⟩, h.lh, h.ln⟩
theorem Ou {f : FS} {a b : List UInt8} (hn : (AH f).Nodup) (hk : ∀ k, k ∈ AH f → k = a ∨ k = b) : AF f ≤ ((AL f a).getD []).length + ((AL f b).getD []).length := by
  have step : ∀ (g : FS) (k : List UInt8), (AH g).Nodup → AF g = AF (BR g k) + ((AL g k).getD []).length := fun g k hg => by
    cases e : AL g k with
    | none => rw [KC e]; rfl
    | some x => exact (FF hg e).symm
  have h1 := step f a hn
  have h2 := step (BR f a) b (BW hn)
  have h3 : BR (BR f a) b = [] := by
    cases e : BR (BR f a) b with
    | nil => rfl
    | cons p r =>
      have hp : p ∈ BR (BR f a) b := by rw [e]; simp
      obtain ⟨h4, h5⟩ := (Dn (BW hn) p).1 hp
      obtain ⟨h6, h7⟩ := (Dn hn p).1 h4
      rcases hk p.1 (List.mem_map.2 ⟨p, h6, rfl⟩) with h | h
      · exact absurd h h7
      · exact absurd h h5
  have h4 : ((AL (BR f a) b).getD []).length ≤ ((AL f b).getD []).length := by
    rw [FD hn]
    split
    · simp
    · exact Nat.le_refl _
  rw [h3] at h2
  have h5 : AF ([] : FS) = 0 := rfl
  omega
theorem HFile.used {f : FS} {V : HV → Prop} (h : HFile f V) : AF f ≤ 500 := by
 have h1 := Ou h.nd h.ks
 have h2 := h.lh
 have h3 := h.ln
 omega
theorem F8 : hardN ≠ newN := by decide
theorem Dg {d : DiskD} (h1 : d.down = false) (h2 : d.fuse = none) : Bj d = (d, 0) := by
 unfold Bj
 rw [if_neg (by simp [h1, h2]), h2]
 obtain ⟨a, b, c, e, f⟩ := d
 subst h2
 rfl
theorem R9 {room : Int} {f : FS} {V : HV → Prop} (h : HFile f V) : ∃ d' x, K5 ⟨room, f, [], none, false⟩ = (d', x, 0) ∧ V x := by
  obtain ⟨L, junk, hL, hc, hj, hV⟩ := h.has
  obtain ⟨d, hd⟩ : ∃ d : DiskD, d = ⟨room, f, [], none, false⟩ := ⟨_, rfl⟩
  have hnow : d.now = f := by rw [hd]; rfl
  have hup : d.down = false := by rw [hd]
  have hfz : d.fuse = none := by rw [hd]
  have key : ∃ d1, B7 d = (d1, 0) ∧ d1.down = false ∧ d1.fuse = none ∧ AL d1.now hardN = AL f hardN := by
    unfold B7
    split
    · rename_i hs
      unfold Bo at hs
      rw [hup, if_neg (by simp), hnow] at hs
      obtain ⟨x, hx⟩ := Option.isSome_iff_exists.1 hs
      refine ⟨Cj d (.del newN), ?_, hup, hfz, ?_⟩
      · unfold Fw
        rw [Dg hup hfz]
        simp only
        rw [if_neg (by simp), hnow, hx]
      · rw [Cg, hnow]
        show AL (BR f newN) hardN = _
        rw [FD h.nd, if_neg F8]
    · exact ⟨d, rfl, hup, hfz, by rw [hnow]⟩
  obtain ⟨d1, e1, u1, z1, g1⟩ := key
  have hr : (Bo d1 hardN).getD [] = Lr L ++ junk := by
    unfold Bo
    rw [u1, if_neg (by simp), g1, hc]
  rw [← hd]
  unfold K5
  rw [e1]
  simp only
  rw [if_neg (by simp), hr, Vb hL hj]
  simp only
  split
  · rename_i hlt
    have hgs : AL d1.now hardN = some (Lr L ++ junk) := by
      rw [g1]
      cases e : AL f hardN with
      | none =>
        rw [e] at hc
        simp only [Option.getD_none] at hc
        rw [← hc] at hlt
        simp at hlt
      | some x => rw [e] at hc; simp only [Option.getD_some] at hc; rw [hc]
    have hcut : NN d1 hardN (((Lr L).length : Nat) : Int) = (Cj d1 (.cut hardN (Lr L).length), 0) := by
      unfold NN
      rw [Dg u1 z1]
      simp only
      rw [if_neg (by simp), hgs]
      simp only
      rw [if_neg (by omega)]
      simp
    rw [hcut]
    simp only
    rw [if_neg (by simp)]
    exact ⟨_, _, rfl, hV⟩
  · exact ⟨_, _, rfl, hV⟩
structure HS (d : DiskD) (L : List HV) : Prop where
  up : d.down = false
  fz : d.fuse = none
  rm : d.room = 1048576
  nd : (AH d.syn).Nodup
  ks : ∀ k, k ∈ AH d.now → k = hardN
  at_ : (AL d.now hardN).getD [] = Lr L
  ok : ∀ h, h ∈ L → Gj h
  le : (Lr L).length ≤ 300
theorem HS.nnd {d : DiskD} {L : List HV} (h : HS d L) : (AH d.now).Nodup := E0 d.wait h.nd
theorem HS.none_ {d : DiskD} {L : List HV} (h : HS d L) : AL d.now newN = none := Cw.2 fun hm => F8 (h.ks _ hm).symm
theorem HS.file {d : DiskD} {L : List HV} (h : HS d L) {V : HV → Prop} (hV : V (FK L)) : HFile d.now V :=
 ⟨h.nnd, fun k hk => .inl (h.ks k hk), ⟨L, [], h.ok, by rw [h.at_]; simp, FL, hV⟩, by have := h.le; rw [h.at_]; omega, by rw [h.none_]; simp⟩
theorem HS.used {d : DiskD} {L : List HV} (h : HS d L) : AF d.now ≤ 500 := (h.file (V := fun _ => True) trivial).used
theorem HS.few {d : DiskD} {L : List HV} (h : HS d L) : d.now.length ≤ 1 := by
  have h1 := h.nnd
  have h2 := h.ks
  cases e : d.now with
  | nil => simp
  | cons p r =>
    cases r with
    | nil => simp
    | cons q r =>
      rw [e] at h1 h2
      have a1 := h2 p.1 (by simp [AH])
      have a2 := h2 q.1 (by simp [AH])
      simp only [AH, List.map_cons, List.nodup_cons, List.mem_cons] at h1
      exact absurd (.inl (a1.trans a2.symm)) h1.1
theorem ED {f : FS} {n x : List UInt8} (hf : (AH f).Nodup) {k : List UInt8} (h : k ∈ AH (Bx f n x)) : k = n ∨ k ∈ AH f := by
  obtain ⟨p, hp, rfl⟩ := List.mem_map.1 h
  rcases (ET hf p).1 hp with rfl | ⟨h1, _⟩
  · exact .inl rfl
  · exact .inr (List.mem_map.2 ⟨p, h1, rfl⟩)
theorem Ov {f : FS} {n : List UInt8} (hf : (AH f).Nodup) {k : List UInt8} (h : k ∈ AH (BR f n)) : k ∈ AH f ∧ k ≠ n := by
 obtain ⟨p, hp, rfl⟩ := List.mem_map.1 h
 obtain ⟨h1, h2⟩ := (Dn hf p).1 hp
 exact ⟨List.mem_map.2 ⟨p, h1, rfl⟩, h2⟩
def TP (d : DiskD) (V : HV → Prop) (k : Nat) : Prop := HFile ((d.wait.take k).foldl AP d.syn) V ∧ ∀ n b, d.wait[k]? = some (.app n b) → ∀ t, t < b.length → HFile (AP ((d.wait.take k).foldl AP d.syn) (.app n (b.take t))) V
def CR (d : DiskD) (V : HV → Prop) : Prop := ∀ k, k ≤ d.wait.length → TP d V k
theorem CR.imp {d : DiskD} {V V' : HV → Prop} (h : CR d V) (hv : ∀ x, V x → V' x) : CR d V' := fun k hk => ⟨(h k hk).1.imp hv, fun n b e t ht => ((h k hk).2 n b e t ht).imp hv⟩
theorem TP.left {d : DiskD} {V : HV → Prop} {keep : Int} (h : TP d V (Df d keep)) (torn : Int) : HFile (C3 d keep torn) V := by
  obtain ⟨h1, h2⟩ := h
  unfold C3
  split
  · rename_i n b e
    split
    · exact h1
    · rename_i hn
      refine h2 n b e _ ?_
      have hb : b ≠ [] := fun e => hn (.inr e)
      have hpos : 0 < (b.length : Int) := by
        have : b.length ≠ 0 := fun e => hb (List.eq_nil_of_length_eq_zero e)
        omega
      have := Int.emod_lt_of_pos torn hpos
      have := Int.emod_nonneg torn (show (b.length : Int) ≠ 0 by omega)
      omega
  · exact h1
theorem TP.crash {d : DiskD} {V : HV → Prop} {keep : Int} (h : TP d V (Df d keep)) (torn : Int) : (C4 d keep torn).fitK 9 ∧ ∃ d' x, K5 (C4 d keep torn) = (d', x, 0) ∧ V x := by
  have h1 := h.left torn
  refine ⟨⟨?_, ?_⟩, R9 h1⟩
  · show AF (C3 d keep torn) + (([] : List OpD).map OpD.size).sum + 65536 * 9 ≤ _
    have := h1.used
    simp only [List.map_nil, List.sum_nil]
    omega
  · show ([] : List OpD).length + 9 ≤ _
    simp
theorem CR.crash {d : DiskD} {V : HV → Prop} (h : CR d V) (keep torn : Int) : (C4 d keep torn).fitK 9 ∧ ∃ d' x, K5 (C4 d keep torn) = (d', x, 0) ∧ V x := (h (Df d keep) (IF d keep)).crash torn
theorem TP.old {d : DiskD} {V : HV → Prop} {o : OpD} {k : Nat} (h : TP d V k) (hlt : k < d.wait.length) : TP (Cj d o) V k := by
 show HFile (((d.wait ++ [o]).take k).foldl AP d.syn) V ∧ ∀ n b, (d.wait ++ [o])[k]? = some (.app n b) → ∀ t, t < b.length → HFile (AP (((d.wait ++ [o]).take k).foldl AP d.syn) (.app n (b.take t))) V
 rw [List.take_append_of_le_length (by omega), List.getElem?_append_left hlt]
 exact h
theorem PY {d : DiskD} {V : HV → Prop} {o : OpD} (h1 : HFile d.now V) (h2 : ∀ n b, o = .app n b → ∀ t, t < b.length → HFile (AP d.now (.app n (b.take t))) V) : TP (Cj d o) V d.wait.length := by
 show HFile (((d.wait ++ [o]).take d.wait.length).foldl AP d.syn) V ∧ ∀ n b, (d.wait ++ [o])[d.wait.length]? = some (.app n b) → ∀ t, t < b.length → HFile (AP (((d.wait ++ [o]).take d.wait.length).foldl AP d.syn) (.app n (b.take t))) V
 rw [List.take_append_of_le_length (Nat.le_refl _), List.take_length]
 refine ⟨h1, fun n b e t ht => ?_⟩
 rw [List.getElem?_append_right (Nat.le_refl _), Nat.sub_self] at e
 obtain rfl := Option.some.inj e
 exact h2 n b rfl t ht
theorem CR.push {d : DiskD} {V : HV → Prop} {o : OpD} (h : CR d V) (h1 : HFile (AP d.now o) V) (h2 : ∀ n b, o = .app n b → ∀ t, t < b.length → HFile (AP d.now (.app n (b.take t))) V) : CR (Cj d o) V := by
  intro k hk
  change k ≤ (d.wait ++ [o]).length at hk
  rw [List.length_append] at hk
  simp only [List.length_cons, List.length_nil] at hk
  rcases Nat.lt_or_ge k d.wait.length with hlt | hge
  · exact (h k (by omega)).old hlt
  · rcases Nat.lt_or_ge d.wait.length k with hlt | hle
    · obtain rfl : k = d.wait.length + 1 := by omega
      show HFile (((d.wait ++ [o]).take (d.wait.length + 1)).foldl AP d.syn) V ∧ ∀ n b, (d.wait ++ [o])[d.wait.length + 1]? = some (.app n b) → ∀ t, t < b.length → HFile (AP (((d.wait ++ [o]).take (d.wait.length + 1)).foldl AP d.syn) (.app n (b.take t))) V
      rw [List.take_of_length_le (by simp), List.foldl_append]
      refine ⟨h1, fun n b e => ?_⟩
      rw [List.getElem?_eq_none (by simp)] at e
      cases e
    · obtain rfl : k = d.wait.length := by omega
      refine PY ?_ h2
      have := (h d.wait.length (Nat.le_refl _)).1
      rwa [List.take_length] at this
theorem Vd {d : DiskD} {L : List HV} (h : HS d L) {V : HV → Prop} (hV : V (FK L)) : ∃ d', Fa d = (d', 0) ∧ HS d' L ∧ CR d' V ∧ d'.wait = [] := by
  refine ⟨{ d with syn := d.now, wait := [] }, ?_, ⟨h.up, h.fz, h.rm, h.nnd, h.ks, h.at_, h.ok, h.le⟩, fun k hk => ?_, rfl⟩
  · unfold Fa
    rw [Dg h.up h.fz]
    simp only
    rw [if_neg (by simp)]
  · obtain rfl : k = 0 := Nat.le_zero.1 hk
    exact ⟨h.file hV, fun n b e => (by cases e)⟩
theorem LX : Cv hardN = true := by decide
theorem TQ : Cv newN = true := by decide
theorem QY {d : DiskD} {n b : List UInt8} (hr : d.room = 1048576) (hu : AF d.now ≤ 600) (hl : d.now.length ≤ 2) (hb : b.length ≤ 17) : D8 d n b = true := by
 unfold D8
 rw [Bool.and_eq_true, decide_eq_true_eq]
 refine ⟨by rw [hr]; omega, ?_⟩
 rw [Bool.not_eq_true', Bool.and_eq_false_iff]
 right
 rw [decide_eq_false_iff_not]
 omega
theorem Jw {d : DiskD} {n b : List UInt8} (h1 : d.down = false) (h2 : d.fuse = none) (hn : Cv n = true) (hf : D8 d n b = true) : Cc d n b = (Cj d (.app n b), 0) := by
 unfold Cc
 rw [Dg h1 h2]
 simp only
 rw [if_neg (by simp), hn, if_neg (by simp), hf, if_neg (by simp)]
theorem HS.save {d : DiskD} {L : List HV} {V : HV → Prop} (hs : HS d L) (hc : CR d V) (hL : V (FK L)) {x : HV} (hx : Gj x) (hV : V x) : ∃ d' L', H8 d x = (d', 0) ∧ HS d' L' ∧ CR d' V ∧ FK L' = x ∧ d'.wait.length ≤ d.wait.length + 2 ∧ ∀ V0 : HV → Prop, V0 (FK L) → TP d' V0 d.wait.length := by
  have hf := PX hx
  have hr : (Bo d hardN).getD [] = Lr L := by
    unfold Bo
    rw [hs.up, if_neg (by simp), hs.at_]
  have hfew := hs.few
  have hused := hs.used
  unfold H8
  rw [hr]
  split
  · rename_i hlt
    rw [Jw hs.up hs.fz LX (QY hs.rm (by omega) (by omega) hf)]
    have happ : ∀ b, AP d.now (.app hardN b) = Bx d.now hardN (Lr L ++ b) := fun b => by
      show Bx d.now hardN ((AL d.now hardN).getD [] ++ b) = _
      rw [hs.at_]
    have hput : ∀ (V : HV → Prop) b, b.length ≤ 17 → ∀ L1 j, (∀ h, h ∈ L1 → Gj h) → Lr L ++ b = Lr L1 ++ j → B2 j = none → V (FK L1) → HFile (AP d.now (.app hardN b)) V := fun V b hb L1 j h1 h2 h3 h4 => by
      rw [happ]
      refine ⟨B6 hs.nnd, fun k hk => ?_, ⟨L1, j, h1, ?_, h3, h4⟩, ?_, ?_⟩
      · rcases ED hs.nnd hk with h | h
        · exact .inl h
        · exact .inl (hs.ks k h)
      · rw [CO hs.nnd, if_pos rfl]; exact h2
      · rw [CO hs.nnd, if_pos rfl]
        simp only [Option.getD_some, List.length_append]
        omega
      · rw [CO hs.nnd, if_neg (fun e => F8 e.symm), hs.none_]
        simp
    have hok : ∀ h, h ∈ L ++ [x] → Gj h := fun h hm => by
      rcases List.mem_append.1 hm with h1 | h1
      · exact hs.ok h h1
      · rw [List.mem_singleton.1 h1]; exact hx
    refine ⟨_, L ++ [x], rfl, ⟨hs.up, hs.fz, hs.rm, hs.nd, fun k hk => ?_, ?_, hok, ?_⟩, hc.push ?_ ?_, K3 _ _, ?_, fun V0 h0 => PY (hs.file h0) ?_⟩
    · rw [Cg, happ] at hk
      rcases ED hs.nnd hk with h | h
      · exact h
      · exact hs.ks k h
    · rw [Cg, happ, CO hs.nnd, if_pos rfl, K4]; rfl
    · rw [K4, List.length_append]; omega
    · exact hput V _ hf (L ++ [x]) [] hok (by rw [K4]; simp) FL (by rw [K3]; exact hV)
    · rintro n b e t ht
      cases e
      exact hput V _ (by rw [List.length_take]; omega) L _ hs.ok rfl (TO hx ht) hL
    · show (d.wait ++ [_]).length ≤ _
      simp
    · rintro n b e t ht
      cases e
      exact hput V0 _ (by rw [List.length_take]; omega) L _ hs.ok rfl (TO hx ht) h0
  · rename_i hge
    have hrm : B7 d = (d, 0) := by
      unfold B7 Bo
      rw [if_neg]
      rw [hs.up, if_neg (by simp), hs.none_]
      simp
    unfold J8
    rw [hrm]
    simp only
    rw [if_neg (by simp), Jw hs.up hs.fz TQ (QY hs.rm (by omega) (by omega) hf)]
    simp only
    rw [if_neg (by simp)]
    obtain ⟨d1, hd1⟩ : ∃ d1, Cj d (.app newN (BD (layH x))) = d1 := ⟨_, rfl⟩
    have happ : ∀ b, AP d.now (.app newN b) = Bx d.now newN b := fun b => by
      show Bx d.now newN ((AL d.now newN).getD [] ++ b) = _
      rw [hs.none_]; rfl
    have hn1 : d1.now = Bx d.now newN (BD (layH x)) := by rw [← hd1, Cg, happ]
    have hg1 : AL d1.now newN = some (BD (layH x)) := by rw [hn1, CO hs.nnd, if_pos rfl]
    have hu1 : d1.down = false := by rw [← hd1]; exact hs.up
    have hz1 : d1.fuse = none := by rw [← hd1]; exact hs.fz
    have hnd1 : (AH d1.now).Nodup := by rw [hn1]; exact B6 hs.nnd
    have hren : Jf d1 newN hardN = (Cj d1 (.ren newN hardN), 0) := by
      unfold Jf
      rw [Dg hu1 hz1]
      simp only
      rw [if_neg (by simp), LX, if_neg (by simp), hg1]
    have hdone : AP d1.now (.ren newN hardN) = Bx (BR d1.now newN) hardN (BD (layH x)) := by
      show (match AL d1.now newN with | some y => Bx (BR d1.now newN) hardN y | none => d1.now) = _
      rw [hg1]
    have hfile : ∀ (V : HV → Prop), V (FK L) → ∀ b, b.length ≤ 17 → HFile (AP d.now (.app newN b)) V := fun V hL b hb => by
      rw [happ]
      refine ⟨B6 hs.nnd, fun k hk => ?_, ⟨L, [], hs.ok, ?_, FL, hL⟩, ?_, ?_⟩
      · rcases ED hs.nnd hk with h | h
        · exact .inr h
        · exact .inl (hs.ks k h)
      · rw [CO hs.nnd, if_neg F8, hs.at_]; simp
      · rw [CO hs.nnd, if_neg F8, hs.at_]; have := hs.le; omega
      · rw [CO hs.nnd, if_pos rfl]
        simp only [Option.getD_some]
        omega
    have hfr : Lr [x] = BD (layH x) := by simp [Lr, Dd]
    have hkeys : ∀ k, k ∈ AH (AP d1.now (.ren newN hardN)) → k = hardN := fun k hk => by
      rw [hdone] at hk
      rcases ED (BW hnd1) hk with h | h
      · exact h
      · obtain ⟨h1, h2⟩ := Ov hnd1 h
        rw [hn1] at h1
        rcases ED hs.nnd h1 with h3 | h3
        · exact absurd h3 h2
        · exact hs.ks k h3
    have hget : AL (AP d1.now (.ren newN hardN)) hardN = some (BD (layH x)) := by rw [hdone, CO (BW hnd1), if_pos rfl]
    have hgn : AL (AP d1.now (.ren newN hardN)) newN = none := Cw.2 fun hm => F8 (hkeys _ hm).symm
    have hndd : (AH (AP d1.now (.ren newN hardN))).Nodup := by rw [hdone]; exact B6 (BW hnd1)
    have hok : ∀ h, h ∈ [x] → Gj h := fun h hm => by rw [List.mem_singleton.1 hm]; exact hx
    have hc1 : CR d1 V := by
      rw [← hd1]
      refine hc.push (hfile V hL _ hf) ?_
      rintro n b e t ht
      cases e
      exact hfile V hL _ (by rw [List.length_take]; omega)
    rw [hd1, hren]
    refine ⟨_, [x], rfl, ⟨hu1, hz1, by rw [← hd1]; exact hs.rm, by rw [← hd1]; exact hs.nd, ?_, ?_, hok, ?_⟩, hc1.push ?_ ?_, rfl, ?_, fun V0 h0 => ?_⟩
    · rw [Cg]; exact hkeys
    · rw [Cg, hget, hfr]; rfl
    · rw [hfr]; omega
    · exact ⟨hndd, fun k hk => .inl (hkeys k hk), ⟨[x], [], hok, by rw [hget, hfr]; simp, FL, hV⟩, by rw [hget]; simp only [Option.getD_some]; omega, by rw [hgn]; simp⟩
    · rintro n b e
      cases e
    · rw [← hd1]
      show ((d.wait ++ [_]) ++ [_]).length ≤ _
      simp
    · have h9 : TP d1 V0 d.wait.length := by
        rw [← hd1]
        refine PY (hs.file h0) ?_
        rintro n b e t ht
        cases e
        exact hfile V0 h0 _ (by rw [List.length_take]; omega)
      refine h9.old ?_
      rw [← hd1]
      show _ < (d.wait ++ [_]).length
      simp
end Go.Proofs.YtjcfimmcogkopaaGreat.Sep
namespace Go.Proofs.YtjcfimmcogkopaaGreat.Sep
structure SnV where
  i : Int
  t : Int
  c : Int
  d : List UInt8
instance : Inhabited SnV := ⟨⟨0, 0, 0, []⟩⟩
def EL (s : SnV) : Bool := Ef s.i && Ef s.t && Ge s.c && (s.c != 0) && decide (s.d.length ≤ 32768)
structure SnOk (s : SnV) : Prop where
  i : 1 ≤ s.i ∧ s.i ≤ 72057594037927935
  t : 1 ≤ s.t ∧ s.t ≤ 72057594037927935
  c : 1 ≤ s.c ∧ s.c ≤ 254
  e : s.c % 2 = 0
  d : s.d.length ≤ 32768
theorem F9 {s : SnV} : EL s = true ↔ SnOk s := by
  unfold EL Ef Ge
  simp only [Bool.and_eq_true, decide_eq_true_eq, bne_iff_ne, ne_eq]
  constructor
  · rintro ⟨⟨⟨⟨h1, h2⟩, h3⟩, h4⟩, h5⟩
    exact ⟨by omega, by omega, by omega, by omega, h5⟩
  · rintro ⟨h1, h2, h3, h4, h5⟩
    exact ⟨⟨⟨⟨by omega, by omega⟩, by omega⟩, by omega⟩, h5⟩
def FM (s : SnV) : List UInt8 := KL (s.i, s.t, s.c) ++ O8 s.d
def IV (x : List UInt8) : Option SnV :=
  match KM x 0 with
  | ((i, t, c), l3, f3) => match BZ 32768 l3 f3 with
    | (d, l4, f4) => if Dy l4 f4 = 0 then (if EL ⟨i, t, c, d⟩ = true then some ⟨i, t, c, d⟩ else none) else none
theorem GT {x l3 d l4 : List UInt8} {i t c : Int} {f3 f4 : Nat} (h1 : KM x 0 = ((i, t, c), l3, f3)) (h2 : BZ 32768 l3 f3 = (d, l4, f4)) : IV x = if Dy l4 f4 = 0 then (if EL ⟨i, t, c, d⟩ = true then some ⟨i, t, c, d⟩ else none) else none := by
 simp only [IV, h1, h2]
theorem IW {s : SnV} (h : SnOk s) : (FM s).length ≤ 32800 := by
 obtain ⟨h1, h2, h3, _, h5⟩ := h
 have e1 := Cq 7 s.i.toNat (by omega)
 have e2 := Cq 7 s.t.toNat (by omega)
 have e3 := Cq 2 s.d.length (by omega)
 unfold FM KL O8 Fu
 simp only [List.length_append, List.length_cons, List.length_nil]
 omega
theorem Sa {s : SnV} (h : SnOk s) : IV (FM s) = some s := by
 obtain ⟨h1, h2, h3, h4, h5⟩ := h
 have e1 := RH.lay (s.i, s.t, s.c) (O8 s.d) ⟨by simp only; omega, by simp only; omega, by simp only; omega⟩
 have e2 := (LB 32768).lay s.d [] ⟨by omega, by omega⟩
 rw [List.append_nil] at e2
 rw [FM, GT e1 e2, if_pos (show Dy [] 0 = 0 from rfl), if_pos (F9.2 ⟨h1, h2, h3, h4, h5⟩)]
def Id (s : SnV) : List UInt8 := BD (FM s)
theorem Hd {s : SnV} (h : SnOk s) : (Id s).length ≤ 32808 := by
 have := IW h
 unfold Id
 rw [DW (by omega)]; omega
def Ec (b : List UInt8) : Option SnV :=
  match B1 b with
  | ([p], k) => if k = b.length then IV p else none
  | _ => none
theorem Sb {b p : List UInt8} {k : Nat} (h : B1 b = ([p], k)) : Ec b = if k = b.length then IV p else none := by
 unfold Ec; rw [h]
theorem Sc : Ec [] = none := by
 unfold Ec; rw [CF FL]
theorem TR {s : SnV} (h : SnOk s) : Ec (Id s) = some s := by
 have hl := IW h
 have h1 := GQ [FM s] (fun x hx => by rw [List.mem_singleton.1 hx]; omega) []
 rw [CF FL] at h1
 have h2 : B1 (Id s) = ([FM s], (Id s).length) := by
  have e : Dd [FM s] = Id s := by simp [Dd, Id]
  rw [e, List.append_nil] at h1
  rw [h1]; rfl
 rw [Sb h2, if_pos rfl, Sa h]
def snapN : List UInt8 := [115, 110, 97, 112]
def snewN : List UInt8 := [115, 110, 97, 112, 46, 110, 101, 119]
def Ck (d : DiskD) : DiskD × Nat := if (Bo d snewN).isSome = true then Fw d snewN else (d, 0)
def CL (d : DiskD) : DiskD × Option SnV × Nat :=
  if (Ck d).2 ≠ 0 then ((Ck d).1, none, (Ck d).2) else ((Ck d).1, Ec ((Bo (Ck d).1 snapN).getD []), 0)
def Ga (d : DiskD) (f : List UInt8) : DiskD × Nat :=
  if (Ck d).2 ≠ 0 then Ck d
  else if (Cc (Ck d).1 snewN f).2 ≠ 0 then Cc (Ck d).1 snewN f
  else Jf (Cc (Ck d).1 snewN f).1 snewN snapN
theorem He : snapN ≠ snewN := by decide
theorem Sd : Cv snapN = true := by decide
theorem Se : Cv snewN = true := by decide
theorem FN {k : Nat} {d : DiskD} (h : d.fitK (k + 1)) : (Ck d).1.fitK k := by
  unfold Ck
  split
  · exact Or h
  · exact h.less
theorem CH {k j : Nat} {d : DiskD} (h : d.fitK k) (hj : j ≤ k) : d.fitK j := by
 obtain ⟨h1, h2⟩ := h
 exact ⟨by omega, by omega⟩
theorem Ia {k : Nat} {d : DiskD} {f : List UInt8} (h : d.fitK (k + 3)) (hl : f.length ≤ 65536) : (Ga d f).1.fitK k := by
  unfold Ga
  have h1 := FN (k := k + 2) h
  split
  · exact CH h1 (by omega)
  · have h2 := Fq (n := snewN) (b := f) (k := k + 1) h1 hl
    split
    · exact CH h2 (by omega)
    · exact Ot h2
structure PFile (V : Option SnV → Prop) (f : FS) : Prop where
  nd : (AH f).Nodup
  ks : ∀ k, k ∈ AH f → k = snapN ∨ k = snewN
  has : ∃ o, AL f snapN = o.map Id ∧ (∀ s, o = some s → SnOk s) ∧ V o
  ln : ((AL f snewN).getD []).length ≤ 40000
theorem PFile.imp {f : FS} {V V' : Option SnV → Prop} (h : PFile V f) (hv : ∀ x, V x → V' x) : PFile V' f := by
 obtain ⟨o, h1, h2, h3⟩ := h.has
 exact ⟨h.nd, h.ks, ⟨o, h1, h2, hv _ h3⟩, h.ln⟩
theorem PZ {o : Option SnV} (h : ∀ s, o = some s → SnOk s) : ((o.map Id).getD []).length ≤ 32808 := by
  cases o with
  | none => simp
  | some s => exact Hd (h s rfl)
theorem Ow {o : Option SnV} (h : ∀ s, o = some s → SnOk s) : Ec ((o.map Id).getD []) = o := by
  cases o with
  | none => exact Sc
  | some s => exact TR (h s rfl)
theorem PFile.used {f : FS} {V : Option SnV → Prop} (h : PFile V f) : AF f ≤ 80000 := by
 have h1 := Ou h.nd h.ks
 have h3 := h.ln
 obtain ⟨o, h4, h5, _⟩ := h.has
 have h6 := PZ h5
 rw [← h4] at h6
 omega
theorem P0 {room : Int} {f : FS} {V : Option SnV → Prop} (h : PFile V f) : ∃ d' o, CL ⟨room, f, [], none, false⟩ = (d', o, 0) ∧ V o ∧ (∀ s, o = some s → SnOk s) := by
  obtain ⟨o, hc, hO, hV⟩ := h.has
  obtain ⟨d, hd⟩ : ∃ d : DiskD, d = ⟨room, f, [], none, false⟩ := ⟨_, rfl⟩
  have hnow : d.now = f := by rw [hd]; rfl
  have hup : d.down = false := by rw [hd]
  have hfz : d.fuse = none := by rw [hd]
  have key : ∃ d1, Ck d = (d1, 0) ∧ d1.down = false ∧ AL d1.now snapN = AL f snapN := by
    unfold Ck
    split
    · rename_i hs
      unfold Bo at hs
      rw [hup, if_neg (by simp), hnow] at hs
      obtain ⟨x, hx⟩ := Option.isSome_iff_exists.1 hs
      refine ⟨Cj d (.del snewN), ?_, hup, ?_⟩
      · unfold Fw
        rw [Dg hup hfz]
        simp only
        rw [if_neg (by simp), hnow, hx]
      · rw [Cg, hnow]
        show AL (BR f snewN) snapN = _
        rw [FD h.nd, if_neg He]
    · exact ⟨d, rfl, hup, by rw [hnow]⟩
  obtain ⟨d1, e1, u1, g1⟩ := key
  have hr : Ec ((Bo d1 snapN).getD []) = o := by
    unfold Bo
    rw [u1, if_neg (by simp), g1, hc]
    exact Ow hO
  rw [← hd]
  unfold CL
  rw [e1]
  simp only
  rw [if_neg (by simp), hr]
  exact ⟨_, _, rfl, hV, hO⟩
def Sf (d : DiskD) (F : FS → Prop) (k : Nat) : Prop := F ((d.wait.take k).foldl AP d.syn) ∧ ∀ n b, d.wait[k]? = some (.app n b) → ∀ t, t < b.length → F (AP ((d.wait.take k).foldl AP d.syn) (.app n (b.take t)))
def PR (d : DiskD) (F : FS → Prop) : Prop := ∀ k, k ≤ d.wait.length → Sf d F k
theorem Sf.imp {d : DiskD} {F F' : FS → Prop} {k : Nat} (h : Sf d F k) (hv : ∀ x, F x → F' x) : Sf d F' k := ⟨hv _ h.1, fun n b e t ht => hv _ (h.2 n b e t ht)⟩
theorem PR.imp {d : DiskD} {F F' : FS → Prop} (h : PR d F) (hv : ∀ x, F x → F' x) : PR d F' := fun k hk => (h k hk).imp hv
theorem Sf.left {d : DiskD} {F : FS → Prop} {keep : Int} (h : Sf d F (Df d keep)) (torn : Int) : F (C3 d keep torn) := by
  obtain ⟨h1, h2⟩ := h
  unfold C3
  split
  · rename_i n b e
    split
    · exact h1
    · rename_i hn
      refine h2 n b e _ ?_
      have hb : b ≠ [] := fun e => hn (.inr e)
      have hpos : 0 < (b.length : Int) := by
        have : b.length ≠ 0 := fun e => hb (List.eq_nil_of_length_eq_zero e)
        omega
      have := Int.emod_lt_of_pos torn hpos
      have := Int.emod_nonneg torn (show (b.length : Int) ≠ 0 by omega)
      omega
  · exact h1
theorem Sf.old {d : DiskD} {F : FS → Prop} {o : OpD} {k : Nat} (h : Sf d F k) (hlt : k < d.wait.length) : Sf (Cj d o) F k := by
 show F (((d.wait ++ [o]).take k).foldl AP d.syn) ∧ ∀ n b, (d.wait ++ [o])[k]? = some (.app n b) → ∀ t, t < b.length → F (AP (((d.wait ++ [o]).take k).foldl AP d.syn) (.app n (b.take t)))
 rw [List.take_append_of_le_length (by omega), List.getElem?_append_left hlt]
 exact h
theorem TS {d : DiskD} {F : FS → Prop} {o : OpD} (h1 : F d.now) (h2 : ∀ n b, o = .app n b → ∀ t, t < b.length → F (AP d.now (.app n (b.take t)))) : Sf (Cj d o) F d.wait.length := by
 show F (((d.wait ++ [o]).take d.wait.length).foldl AP d.syn) ∧ ∀ n b, (d.wait ++ [o])[d.wait.length]? = some (.app n b) → ∀ t, t < b.length → F (AP (((d.wait ++ [o]).take d.wait.length).foldl AP d.syn) (.app n (b.take t)))
 rw [List.take_append_of_le_length (Nat.le_refl _), List.take_length]
 refine ⟨h1, fun n b e t ht => ?_⟩
 rw [List.getElem?_append_right (Nat.le_refl _), Nat.sub_self] at e
 obtain rfl := Option.some.inj e
 exact h2 n b rfl t ht
theorem PR.push {d : DiskD} {F : FS → Prop} {o : OpD} (h : PR d F) (h1 : F (AP d.now o)) (h2 : ∀ n b, o = .app n b → ∀ t, t < b.length → F (AP d.now (.app n (b.take t)))) : PR (Cj d o) F := by
  intro k hk
  change k ≤ (d.wait ++ [o]).length at hk
  rw [List.length_append] at hk
  simp only [List.length_cons, List.length_nil] at hk
  rcases Nat.lt_or_ge k d.wait.length with hlt | hge
  · exact (h k (by omega)).old hlt
  · rcases Nat.lt_or_ge d.wait.length k with hlt | hle
    · obtain rfl : k = d.wait.length + 1 := by omega
      show F (((d.wait ++ [o]).take (d.wait.length + 1)).foldl AP d.syn) ∧ ∀ n b, (d.wait ++ [o])[d.wait.length + 1]? = some (.app n b) → ∀ t, t < b.length → F (AP (((d.wait ++ [o]).take (d.wait.length + 1)).foldl AP d.syn) (.app n (b.take t)))
      rw [List.take_of_length_le (by simp), List.foldl_append]
      refine ⟨h1, fun n b e => ?_⟩
      rw [List.getElem?_eq_none (by simp)] at e
      cases e
    · obtain rfl : k = d.wait.length := by omega
      refine TS ?_ h2
      have := (h d.wait.length (Nat.le_refl _)).1
      rwa [List.take_length] at this
theorem Sf.crash {d : DiskD} {V : Option SnV → Prop} {keep : Int} (h : Sf d (PFile V) (Df d keep)) (torn : Int) : (C4 d keep torn).fitK 9 ∧ PFile V (C3 d keep torn) ∧ ∃ d' o, CL (C4 d keep torn) = (d', o, 0) ∧ V o ∧ (∀ s, o = some s → SnOk s) := by
  have h1 := h.left torn
  refine ⟨⟨?_, ?_⟩, h1, P0 h1⟩
  · show AF (C3 d keep torn) + (([] : List OpD).map OpD.size).sum + 65536 * 9 ≤ _
    have := h1.used
    simp only [List.map_nil, List.sum_nil]
    omega
  · show ([] : List OpD).length + 9 ≤ _
    simp
structure PS (d : DiskD) (o : Option SnV) : Prop where
  up : d.down = false
  fz : d.fuse = none
  rm : d.room = 1048576
  nd : (AH d.syn).Nodup
  ks : ∀ k, k ∈ AH d.now → k = snapN
  at_ : AL d.now snapN = o.map Id
  ok : ∀ s, o = some s → SnOk s
theorem PS.nnd {d : DiskD} {o : Option SnV} (h : PS d o) : (AH d.now).Nodup := E0 d.wait h.nd
theorem PS.none_ {d : DiskD} {o : Option SnV} (h : PS d o) : AL d.now snewN = none := Cw.2 fun hm => He (h.ks _ hm).symm
theorem PS.file {d : DiskD} {o : Option SnV} (h : PS d o) {V : Option SnV → Prop} (hV : V o) : PFile V d.now :=
 ⟨h.nnd, fun k hk => .inl (h.ks k hk), ⟨o, h.at_, h.ok, hV⟩, by rw [h.none_]; simp⟩
theorem PS.used {d : DiskD} {o : Option SnV} (h : PS d o) : AF d.now ≤ 80000 := (h.file (V := fun _ => True) trivial).used
theorem PS.few {d : DiskD} {o : Option SnV} (h : PS d o) : d.now.length ≤ 1 := by
  have h1 := h.nnd
  have h2 := h.ks
  cases e : d.now with
  | nil => simp
  | cons p r =>
    cases r with
    | nil => simp
    | cons q r =>
      rw [e] at h1 h2
      have a1 := h2 p.1 (by simp [AH])
      have a2 := h2 q.1 (by simp [AH])
      simp only [AH, List.map_cons, List.nodup_cons, List.mem_cons] at h1
      exact absurd (.inl (a1.trans a2.symm)) h1.1
theorem PS.rm_ {d : DiskD} {o : Option SnV} (h : PS d o) : Ck d = (d, 0) := by
 unfold Ck Bo
 rw [if_neg]
 rw [h.up, if_neg (by simp), h.none_]
 simp
theorem PS.open_ {d : DiskD} {o : Option SnV} (h : PS d o) : CL d = (d, o, 0) := by
 have hr : Ec ((Bo d snapN).getD []) = o := by
  unfold Bo
  rw [h.up, if_neg (by simp), h.at_]
  exact Ow h.ok
 unfold CL
 rw [h.rm_]
 simp only
 rw [if_neg (by simp), hr]
theorem Wq {room : Int} (hr : room = 1048576) : PS (HK room) none := ⟨rfl, rfl, hr, List.nodup_nil, fun k hk => (by cases hk), rfl, fun h hm => (by cases hm)⟩
theorem Wr {room : Int} {V : Option SnV → Prop} (hV : V none) : PR (HK room) (PFile V) := fun k hk => by
 obtain rfl : k = 0 := Nat.le_zero.1 hk
 exact ⟨⟨List.nodup_nil, fun k hk => (by cases hk), ⟨none, rfl, fun h hm => (by cases hm), hV⟩, Nat.zero_le _⟩, fun n b e => (by cases e)⟩
theorem QZ {d : DiskD} {o : Option SnV} (h : PS d o) {V : Option SnV → Prop} (hV : V o) : ∃ d', Fa d = (d', 0) ∧ PS d' o ∧ PR d' (PFile V) ∧ d'.wait = [] := by
  refine ⟨{ d with syn := d.now, wait := [] }, ?_, ⟨h.up, h.fz, h.rm, h.nnd, h.ks, h.at_, h.ok⟩, fun k hk => ?_, rfl⟩
  · unfold Fa
    rw [Dg h.up h.fz]
    simp only
    rw [if_neg (by simp)]
  · obtain rfl : k = 0 := Nat.le_zero.1 hk
    exact ⟨h.file hV, fun n b e => (by cases e)⟩
theorem PS.fit0 {d : DiskD} {o : Option SnV} {k : Nat} (h : PS d o) (hw : d.wait = []) (hk : k ≤ 9000) : d.fitK k := by
  have h1 := h.used
  have h2 : d.now = d.syn := by unfold DiskD.now; rw [hw]; rfl
  rw [h2] at h1
  refine ⟨?_, ?_⟩
  · rw [hw]
    show AF d.syn + 0 + _ ≤ _
    omega
  · rw [hw]
    show 0 + k ≤ _
    omega
theorem TT {d : DiskD} {n b : List UInt8} (hr : d.room = 1048576) (hu : AF d.now ≤ 80000) (hl : d.now.length ≤ 2) (hb : b.length ≤ 40000) : D8 d n b = true := by
 unfold D8
 rw [Bool.and_eq_true, decide_eq_true_eq]
 refine ⟨by rw [hr]; omega, ?_⟩
 rw [Bool.not_eq_true', Bool.and_eq_false_iff]
 right
 rw [decide_eq_false_iff_not]
 omega
theorem PS.save {d : DiskD} {o : Option SnV} {V : Option SnV → Prop} (hs : PS d o) (hc : PR d (PFile V)) (hL : V o) {x : SnV} (hx : SnOk x) (hV : V (some x)) : ∃ d', Ga d (Id x) = (d', 0) ∧ PS d' (some x) ∧ PR d' (PFile V) ∧ d'.wait.length = d.wait.length + 2 ∧ ∀ V0 : Option SnV → Prop, V0 o → Sf d' (PFile V0) (d.wait.length + 1) := by
  have hf := Hd hx
  have hfew := hs.few
  have hused := hs.used
  unfold Ga
  rw [hs.rm_]
  simp only
  rw [if_neg (by simp), Jw hs.up hs.fz Se (TT hs.rm hused (by omega) (by omega))]
  simp only
  rw [if_neg (by simp)]
  obtain ⟨d1, hd1⟩ : ∃ d1, Cj d (.app snewN (Id x)) = d1 := ⟨_, rfl⟩
  have happ : ∀ b, AP d.now (.app snewN b) = Bx d.now snewN b := fun b => by
    show Bx d.now snewN ((AL d.now snewN).getD [] ++ b) = _
    rw [hs.none_]; rfl
  have hn1 : d1.now = Bx d.now snewN (Id x) := by rw [← hd1, Cg, happ]
  have hg1 : AL d1.now snewN = some (Id x) := by rw [hn1, CO hs.nnd, if_pos rfl]
  have hu1 : d1.down = false := by rw [← hd1]; exact hs.up
  have hz1 : d1.fuse = none := by rw [← hd1]; exact hs.fz
  have hnd1 : (AH d1.now).Nodup := by rw [hn1]; exact B6 hs.nnd
  have hren : Jf d1 snewN snapN = (Cj d1 (.ren snewN snapN), 0) := by
    unfold Jf
    rw [Dg hu1 hz1]
    simp only
    rw [if_neg (by simp), Sd, if_neg (by simp), hg1]
  have hdone : AP d1.now (.ren snewN snapN) = Bx (BR d1.now snewN) snapN (Id x) := by
    show (match AL d1.now snewN with | some y => Bx (BR d1.now snewN) snapN y | none => d1.now) = _
    rw [hg1]
  have hfile : ∀ (V : Option SnV → Prop), V o → ∀ b, b.length ≤ 32808 → PFile V (AP d.now (.app snewN b)) := fun V hL b hb => by
    rw [happ]
    refine ⟨B6 hs.nnd, fun k hk => ?_, ⟨o, ?_, hs.ok, hL⟩, ?_⟩
    · rcases ED hs.nnd hk with h | h
      · exact .inr h
      · exact .inl (hs.ks k h)
    · rw [CO hs.nnd, if_neg He, hs.at_]
    · rw [CO hs.nnd, if_pos rfl]
      simp only [Option.getD_some]
      omega
  have hkeys : ∀ k, k ∈ AH (AP d1.now (.ren snewN snapN)) → k = snapN := fun k hk => by
    rw [hdone] at hk
    rcases ED (BW hnd1) hk with h | h
    · exact h
    · obtain ⟨h1, h2⟩ := Ov hnd1 h
      rw [hn1] at h1
      rcases ED hs.nnd h1 with h3 | h3
      · exact absurd h3 h2
      · exact hs.ks k h3
  have hget : AL (AP d1.now (.ren snewN snapN)) snapN = some (Id x) := by rw [hdone, CO (BW hnd1), if_pos rfl]
  have hgn : AL (AP d1.now (.ren snewN snapN)) snewN = none := Cw.2 fun hm => He (hkeys _ hm).symm
  have hndd : (AH (AP d1.now (.ren snewN snapN))).Nodup := by rw [hdone]; exact B6 (BW hnd1)
  have hok : ∀ s, some x = some s → SnOk s := fun s hm => by obtain rfl := Option.some.inj hm; exact hx
  have hc1 : PR d1 (PFile V) := by
    rw [← hd1]
    refine hc.push (hfile V hL _ hf) ?_
    rintro n b e t ht
    cases e
    exact hfile V hL _ (by rw [List.length_take]; omega)
  have hw1 : d1.wait.length = d.wait.length + 1 := by
    rw [← hd1]
    show (d.wait ++ [_]).length = _
    simp
  rw [hd1, hren]
  refine ⟨_, rfl, ⟨hu1, hz1, by rw [← hd1]; exact hs.rm, by rw [← hd1]; exact hs.nd, ?_, ?_, hok⟩, hc1.push ?_ ?_, ?_, fun V0 h0 => ?_⟩
  · rw [Cg]; exact hkeys
  · rw [Cg, hget]; rfl
  · exact ⟨hndd, fun k hk => .inl (hkeys k hk), ⟨some x, by rw [hget]; rfl, hok, hV⟩, by rw [hgn]; simp⟩
  · rintro n b e
    cases e
  · show (d1.wait ++ [_]).length = _
    simp only [List.length_append, List.length_cons, List.length_nil]
    omega
  · rw [← hw1]
    refine TS ?_ ?_
    · rw [← hd1, Cg]; exact hfile V0 h0 _ hf
    · rintro n b e
      cases e
def JT (A : List SnV) : List (Option SnV) := none :: A.map some
structure PI (i a : Nat) (A : List SnV) (d : DiskD) (o : Option SnV) : Prop where
  hs : PS d o
  cr : PR d (PFile fun x => ∃ j, a ≤ j ∧ (JT A)[j]? = some x)
  len : A.length = i
  ai : a ≤ i
  last : (JT A)[i]? = some o
  fit : d.fitK (300 - 3 * i)
theorem Ox {room : Int} {k : Nat} (hk : k ≤ 9000) : (HK room).fitK k := ⟨by
 show 0 + 0 + 65536 * k ≤ _
 omega, by
 show 0 + k ≤ _
 omega⟩
theorem PI.sync {i a : Nat} {A : List SnV} {d : DiskD} {o : Option SnV} (h : PI i a A d o) : ∃ d', Fa d = (d', 0) ∧ PI i i A d' o := by
 obtain ⟨d', h1, h2, h3, h4⟩ := QZ h.hs (V := fun x => ∃ j, i ≤ j ∧ (JT A)[j]? = some x) ⟨i, Nat.le_refl _, h.last⟩
 exact ⟨d', h1, h2, h3, h.len, Nat.le_refl _, h.last, h2.fit0 h4 (by omega)⟩
theorem LY (A : List SnV) (x : SnV) : JT (A ++ [x]) = JT A ++ [some x] := by simp [JT]
theorem TU (A : List SnV) : (JT A).length = A.length + 1 := by simp [JT]
theorem PI.save {i a : Nat} {A : List SnV} {d : DiskD} {o : Option SnV} (h : PI i a A d o) (hi : i < 90) {x : SnV} (hx : SnOk x) : ∃ d', Ga d (Id x) = (d', 0) ∧ PI (i + 1) a (A ++ [x]) d' (some x) := by
 have hll := TU A
 have hlen := h.len
 have hold : ∀ y, (∃ j, a ≤ j ∧ (JT A)[j]? = some y) → ∃ j, a ≤ j ∧ (JT (A ++ [x]))[j]? = some y := fun y ⟨j, h1, h2⟩ => ⟨j, h1, by rw [LY, List.getElem?_append_left (List.getElem?_eq_some_iff.1 h2).1]; exact h2⟩
 have hnew : (JT (A ++ [x]))[i + 1]? = some (some x) := by rw [LY, List.getElem?_append_right (by omega), hll, hlen]; simp
 obtain ⟨d', h1, h2, h3, _, _⟩ := h.hs.save (h.cr.imp fun f hf => hf.imp hold) (hold _ ⟨i, h.ai, h.last⟩) hx ⟨i + 1, by have := h.ai; omega, hnew⟩
 refine ⟨d', h1, h2, h3, by rw [List.length_append, hlen]; rfl, by have := h.ai; omega, hnew, ?_⟩
 have h5 := Ia (k := 300 - 3 * (i + 1)) (d := d) (f := Id x) (CH h.fit (by omega)) (by have := Hd hx; omega)
 rwa [h1] at h5
theorem K6 {room : Int} {f : FS} {V : Option SnV → Prop} (h : PFile V f) {b : List UInt8} (hb : (Bo (Ck ⟨room, f, [], none, false⟩).1 snapN).getD [] = b) : b.length ≤ 137438953472 := by
  have h1 : (Bo (Ck ⟨room, f, [], none, false⟩).1 snapN).getD [] = (AL f snapN).getD [] := by
    unfold Ck
    split
    · rename_i hs
      have hx : ∃ x, AL f snewN = some x := Option.isSome_iff_exists.1 hs
      obtain ⟨x, hx⟩ := hx
      have hdel : Fw ⟨room, f, [], none, false⟩ snewN = (Cj ⟨room, f, [], none, false⟩ (.del snewN), 0) := by
        unfold Fw
        rw [Dg rfl rfl]
        simp only
        rw [if_neg (by simp)]
        show (match AL f snewN with | none => _ | some _ => _) = _
        rw [hx]
      rw [hdel]
      show ((if false = true then none else AL (Cj ⟨room, f, [], none, false⟩ (.del snewN)).now snapN).getD []) = _
      rw [if_neg (by simp), Cg]
      show (AL (BR f snewN) snapN).getD [] = _
      rw [FD h.nd, if_neg He]
    · rfl
  obtain ⟨o, h4, h5, _⟩ := h.has
  have h6 := PZ h5
  rw [← h4] at h6
  rw [← hb, h1]; omega
theorem TV {d : DiskD} {o : Option SnV} (h : PS d o) {b : List UInt8} (hb : (Bo (Ck d).1 snapN).getD [] = b) : b.length ≤ 137438953472 := by
 rw [h.rm_] at hb
 have hr : (Bo d snapN).getD [] = (o.map Id).getD [] := by
  unfold Bo
  rw [h.up, if_neg (by simp), h.at_]
 have := PZ h.ok
 rw [← hb, hr]; omega
theorem PI.crash {i a : Nat} {A : List SnV} {d : DiskD} {o : Option SnV} (h : PI i a A d o) (keep torn : Int) : (C4 d keep torn).fitK 9 ∧ (∀ b, (Bo (Ck (C4 d keep torn)).1 snapN).getD [] = b → b.length ≤ 137438953472) ∧ ∃ d' x j, CL (C4 d keep torn) = (d', x, 0) ∧ a ≤ j ∧ (JT A)[j]? = some x := by
 obtain ⟨h1, hF, d', x, h2, ⟨j, h3, h4⟩, _⟩ := (h.cr (Df d keep) (IF d keep)).crash torn
 exact ⟨h1, fun b hb => K6 hF hb, d', x, j, h2, h3, h4⟩
theorem Xs {a b : SnV} (ha : SnOk a) (hb : SnOk b) : ∃ d1 d2 d3 : DiskD, Ga (HK 1048576) (Id a) = (d1, 0) ∧ d1.fit ∧ Fa d1 = (d2, 0) ∧ d2.fitK 9 ∧ Ga d2 (Id b) = (d3, 0) ∧ d3.fitK 6 ∧ CL d3 = (d3, some b, 0) ∧ (∀ x, (Bo (Ck d3).1 snapN).getD [] = x → x.length ≤ 137438953472) ∧ (C4 d3 1 0).fitK 9 ∧ (∀ x, (Bo (Ck (C4 d3 1 0)).1 snapN).getD [] = x → x.length ≤ 137438953472) ∧ ∃ d4, CL (C4 d3 1 0) = (d4, some a, 0) := by
 have hs0 : PS (HK 1048576) none := Wq rfl
 obtain ⟨d1, h1, hs1, hc1, hw1, _⟩ := hs0.save (Wr (V := fun _ => True) trivial) trivial ha trivial
 have hf1 := Ia (k := 6) (d := HK 1048576) (f := Id a) (Ox (by decide)) (by have := Hd ha; omega)
 rw [h1] at hf1
 obtain ⟨d2, h2, hs2, hc2, hw2⟩ := QZ hs1 (V := fun _ => True) trivial
 obtain ⟨d3, h3, hs3, hc3, hw3, hk3⟩ := hs2.save hc2 trivial hb trivial
 have hf3 := Ia (k := 6) (d := d2) (f := Id b) (hs2.fit0 hw2 (by decide)) (by have := Hd hb; omega)
 rw [h3] at hf3
 have hk := hk3 (fun x => x = some a) rfl
 have he : Df d3 1 = d2.wait.length + 1 := by unfold Df; rw [hw3, hw2]; rfl
 rw [← he] at hk
 obtain ⟨hf4, hF, d4, x, h4, rfl, _⟩ := hk.crash 0
 exact ⟨d1, d2, d3, h1, hf1.fit, h2, hs2.fit0 hw2 (by decide), h3, hf3, hs3.open_, fun x hx => TV hs3 hx, hf4, fun x hx => K6 hF hx, d4, h4⟩
end Go.Proofs.YtjcfimmcogkopaaGreat.Sep
namespace Go.Proofs.YtjcfimmcogkopaaGreat.Sep
open Go.RowKit
open Go.Proofs.YtjcfimmcogkopaaGreat.Mem (AZ Ci Chg Au)
def Jx (v : Value) (d : List UInt8) : Ass := fun rs => ∃ X : Ass, Cu X v d ∧ X rs
theorem IX {v : Value} {d : List UInt8} : Cu (Jx v d) v d := fun rs w ⟨_, h1, h2⟩ h3 => h1 rs w h2 h3
theorem TW {X : Ass} {v : Value} {d : List UInt8} (h : Cu X v d) : ∀ rs, Ak [X] rs → Jx v d rs := fun _ h2 => ⟨X, h, h2.one'⟩
theorem Ve : Jx (.slice none 0 0) [] [] := ⟨EF, fun rs w h1 h2 => ⟨none, 0, rfl, by simp, by simp, fun h => absurd h (by simp)⟩, rfl⟩
theorem TX {X : Ass} {A : Option Addr} {c : Nat} {l : List UInt8} (n : Nat) (h : Cu X (.slice A l.length c) l) : Cu X (.slice A (l.take n).length c) (l.take n) := fun rs w h1 h2 => by
  obtain ⟨A', c', e, hb1, hb2, hb3⟩ := h rs w h1 h2
  simp only [Value.slice.injEq] at e
  obtain ⟨rfl, _, rfl⟩ := e
  refine ⟨_, _, rfl, ?_, hb2, fun hp => ?_⟩
  · rw [List.length_take]; omega
  · obtain ⟨g, o, e1, e2, h3⟩ := hb3 (by rw [List.length_take] at hp; omega)
    refine ⟨g, o, e1, e2, fun j b hb => h3 j b ?_⟩
    rw [List.getElem?_take] at hb
    split at hb
    · exact hb
    · cases hb
def EE (e : TypeId) (g c : Nat) (l : List UInt8) : Ass := fun rs => (l.length ≤ c ∧ c ≤ maxLen) ∧ ∃ cs f, (∀ (j : Nat) (b : UInt8), l[j]? = some b → cs[j]? = some (.int .u8 (b.toNat : Int))) ∧ rs = [(g, none, Ft cs e f)]
section
variable {P : Program} {B : Nat → Prop} {w0 w : World} {os : List Ass} {n : Nat} {env : List (Nat × Value)} {Q : Exit → Act → World → Prop} {o : Oper} {act : Act}
theorem P1 {src dst e : TypeId} {u : TypeDesc} {l : List UInt8} (hl : l.length ≤ maxLen) (hs : P.underlying src = some u) (hd : P.underlying dst = some (.slice e)) (he : P.underlying e = some (.int .u8)) {x : Operand} (ho : o.op = .convert src dst x) (hx : evs env x = some (.string (bs l))) :
    Bq P Q n env B w0 os o (fun x : Nat × Nat => .slice (some ⟨x.1, 0, none⟩) l.length x.2) (fun x => EE e x.1 x.2 l :: os) := fun act w hH hF K hK => by
  have hrun : (execOp act.eval o).run P w = .ok (.value (.slice (some ⟨w.heap.size, 0, none⟩) l.length (grownCap w l.length 0 e))) (Lib.bytesWorld w e (bs l)) := by
    unfold execOp
    have := Lib.run_convert_string_bytes (P := P) w src dst e (bs l) hs hd he
    have hsz : (bs l).size = l.length := by simp [bs, ByteArray.size]
    simp only [ho, hF.evs hx, Sem.run_bind, this, Result.andThen_ok, Sem.run_pure, hsz]
  have hH2 : Hp B w0 (Lib.bytesWorld w e (bs l)) (EE e w.heap.size (grownCap w l.length 0 e) l :: os) := by
    have hb : Below w.heap.size w (Lib.bytesWorld w e (bs l)) := ⟨rfl, rfl, rfl, by rw [Lib.bytesWorld_size]; omega, fun j hj => Lib.bytesWorld_at_old w e _ j hj⟩
    obtain ⟨rs, h1, h0⟩ := hH
    have h2 := h0.call hb
    have hnew := Lib.bytesWorld_at_new w e (bs l)
    refine ⟨(w.heap.size, none, Ft (Lib.bytesCells w e (bs l)) e ((Lib.bytesCells w e (bs l)).size, (Lib.bytesCells w e (bs l)).size + 1)) :: rs, ⟨[_], rs, rfl, ⟨⟨grownCap_ge .., grownCap_le_maxLen _ _ _ _ hl⟩, _, _, fun j b hj => ?_, rfl⟩, h1⟩, h2.up, ⟨Nn.2 hnew, h2.rows⟩, ⟨fun y hy e1 => ?_, h2.apart⟩, fun x hx hlt => ?_⟩
    · have hjl := (List.getElem?_eq_some_iff.1 hj).1
      have hsz : (bs l).size = l.length := by simp [bs, ByteArray.size]
      have hc := Lib.bytesWorld_cell w e (bs l) j (by rw [hsz]; exact hjl)
      unfold World.cell? at hc
      rw [hnew] at hc
      have h3 : (Lib.bytesCells w e (bs l))[j]? = some (.int .u8 (((bs l).data.toList.getD j 0).toNat : Int)) := hc
      rw [h3]
      have h4 : (bs l).data.toList.getD j 0 = b := by
        show l.toArray.toList.getD j 0 = b
        simp [hj]
      rw [h4]
    · have h5 := (h0.rows.mem y hy).lt
      have e2 : y.1 = w.heap.size := e1
      omega
    · rcases List.mem_cons.1 hx with rfl | hx
      · have := h0.up.size; exact absurd hlt (by show ¬ w.heap.size < w0.heap.size; omega)
      · exact h2.own x hx hlt
  exact E8 (w0 := w) act hrun (hK (w.heap.size, _) _ hH2)
end
theorem K7 {e : TypeId} {g c : Nat} {l : List UInt8} : Cu (EE e g c l) (.slice (some ⟨g, 0, none⟩) l.length c) l := fun rs w h1 h2 => by
 obtain ⟨⟨hl, hc⟩, cs, f, h3, rfl⟩ := h1
 refine ⟨_, _, rfl, hl, hc, fun _ => ⟨g, 0, rfl, trivial, fun j b hb => ?_⟩⟩
 have h4 := Nn.1 h2.1
 rw [Nat.zero_add]
 simp only [World.cell?, h4]
 exact h3 j b hb
theorem Q0 (a b c d e f : Int) (z : Bool) (h : (a == d && (b == e && c == f)) = z) : SF Tryz.prog 31 (.agg #[.int .u64 a, .int .u64 b, .int .i64 c]) (.agg #[.int .u64 d, .int .u64 e, .int .i64 f]) z := by
 have h1 := VV a b c d e f
 rwa [h] at h1
theorem Vz {a b : Int} (h : 0 ≤ a) : a.tmod b = a % b := Int.tmod_eq_emod_of_nonneg h
theorem C6 {te : TypeId} {v : Value} {l : List PtT} {y : PtT} {j : Nat} (hj : l[j]? = some y) : Cu (AV te v l) y.1 y.2 := UG (u := y.1) (d := y.2) hj
end Go.Proofs.YtjcfimmcogkopaaGreat.Sep
