/-
  HdA · SgB · TyS · SgC · HdB · HdC · HdK · HdL · PhR
-/
import Derived.Test.YtjcfimmcogkopaaGreatYB02
import Derived.Test.YtjcfimmcogkopaaGreatYB03
import Derived.Test.YtjcfimmcogkopaaGreatYB04
import Derived.Test.YtjcfimmcogkopaaGreatYE01
import Derived.Test.YtjcfimmcogkopaaGreatYE02
import Derived.Test.YtjcfimmcogkopaaGreatYF01
import Derived.Test.YtjcfimmcogkopaaGreatYG01
import Derived.Test.YtjcfimmcogkopaaGreatYI01
import Derived.Test.YtjcfimmcogkopaaGreatYK01
import Derived.Test.YtjcfimmcogkopaaGreatYK03
import Derived.Test.YtjcfimmcogkopaaGreatYM01
import Derived.Test.YtjcfimmcogkopaaGreatYR02
import Derived.Test.YtjcfimmcogkopaaGreatYS01
set_option linter.unusedSimpArgs false
set_option linter.unusedVariables false
namespace Go.Proofs.YtjcfimmcogkopaaGreat.Sep
open Go.RowKit
open Go.Proofs.YtjcfimmcogkopaaGreat.Mem (AZ Ci Chg Au)
end Go.Proofs.YtjcfimmcogkopaaGreat.Sep
namespace Go.Proofs.YtjcfimmcogkopaaGreat.Sep
open Go.RowKit
open Go.Proofs.YtjcfimmcogkopaaGreat.Mem (AZ Ci Chg Au)
def Xc (gy : Nat) (f : Value) (X : Ass) : Ass := fun rs => Ak [cell gy 135 #[f], X] rs
theorem Xc.open_ {gy : Nat} {f : Value} {X : Ass} : ∀ rs, Xc gy f X rs → ∃ _ : Unit, Ak [cell gy 135 #[f], X] rs := fun _ h => ⟨(), h⟩
end Go.Proofs.YtjcfimmcogkopaaGreat.Sep
namespace Go.Proofs.YtjcfimmcogkopaaGreat.Sep
open Go.RowKit
open Go.Proofs.YtjcfimmcogkopaaGreat.Mem (AZ Ci Chg Au)
end Go.Proofs.YtjcfimmcogkopaaGreat.Sep
namespace Go.Proofs.YtjcfimmcogkopaaGreat.Sep
open Go.RowKit
open Go.Proofs.YtjcfimmcogkopaaGreat.Mem (AZ Ci Chg Au)
section
variable {P : Program} {n : Nat} {B : Nat → Prop} {w0 w : World} {os : List Ass} {env : List (Nat × Value)} {o : Oper} {act : Act}
end
end Go.Proofs.YtjcfimmcogkopaaGreat.Sep
namespace Go.Proofs.YtjcfimmcogkopaaGreat.Sep
open Go.RowKit
open Go.Proofs.YtjcfimmcogkopaaGreat.Mem (AZ Ci Chg Au)
end Go.Proofs.YtjcfimmcogkopaaGreat.Sep
namespace Go.Proofs.YtjcfimmcogkopaaGreat.Sep
open Go.RowKit
open Go.Proofs.YtjcfimmcogkopaaGreat.Mem (AZ Ci Chg Au)
end Go.Proofs.YtjcfimmcogkopaaGreat.Sep
namespace Go.Proofs.YtjcfimmcogkopaaGreat.Sep
open Go.RowKit
open Go.Proofs.YtjcfimmcogkopaaGreat.Mem (AZ Ci Chg Au)
def hz (x : HV) : Int × Int := (((x.1 : Nat) : Int), ((x.2 : Nat) : Int))
def Xl (x : Int × Int) : Prop := (0 ≤ x.1 ∧ x.1 ≤ 18446744073709551615) ∧ (-9223372036854775808 ≤ x.2 ∧ x.2 ≤ 9223372036854775807)
theorem Hh {k j : Nat} {d : DiskD} (h : d.fitK k) (hj : j ≤ k) : d.fitK j := by
 obtain ⟨h1, h2⟩ := h
 exact ⟨by omega, by omega⟩
theorem Sx {k : Nat} {d : DiskD} {x : HV} (h : d.fitK (k + 3)) (hx : Gj x) : (H8 d x).1.fitK k := by
  have hl := PX hx
  unfold H8
  split
  · exact Hh (Fq (k := k + 2) h (by omega)) (by omega)
  · unfold J8
    have h1 := Vc (k := k + 2) h
    split
    · exact Hh h1 (by omega)
    · have h2 := Fq (n := newN) (b := BD (layH x)) (k := k + 1) h1 (by omega)
      split
      · exact Hh h2 (by omega)
      · exact Ot h2
theorem HS.fit0 {d : DiskD} {L : List HV} {k : Nat} (h : HS d L) (hw : d.wait = []) (hk : k ≤ 9000) : d.fitK k := by
  have h1 := h.used
  have h2 : d.now = d.syn := by unfold DiskD.now; rw [hw]; rfl
  rw [h2] at h1
  refine ⟨?_, ?_⟩
  · rw [hw]
    show AF d.syn + 0 + _ ≤ _
    omega
  · rw [hw]
    show 0 + k ≤ _
    omega
theorem Sy {room : Int} {f : FS} {V : HV → Prop} (h : HFile f V) {b : List UInt8} (hb : (Bo (B7 ⟨room, f, [], none, false⟩).1 hardN).getD [] = b) : b.length ≤ 137438953472 := by
  have h1 : (Bo (B7 ⟨room, f, [], none, false⟩).1 hardN).getD [] = (AL f hardN).getD [] := by
    unfold B7
    split
    · rename_i hs
      have hx : ∃ x, AL f newN = some x := Option.isSome_iff_exists.1 hs
      obtain ⟨x, hx⟩ := hx
      have hdel : Fw ⟨room, f, [], none, false⟩ newN = (Cj ⟨room, f, [], none, false⟩ (.del newN), 0) := by
        unfold Fw
        rw [Dg rfl rfl]
        simp only
        rw [if_neg (by simp)]
        show (match AL f newN with | none => _ | some _ => _) = _
        rw [hx]
      rw [hdel]
      show ((if false = true then none else AL (Cj ⟨room, f, [], none, false⟩ (.del newN)).now hardN).getD []) = _
      rw [if_neg (by simp), Cg]
      show (AL (BR f newN) hardN).getD [] = _
      rw [FD h.nd, if_neg F8]
    · rfl
  have := h.lh
  rw [← hb, h1]; omega
structure KI (i a : Nat) (A : List HV) (d : DiskD) (L : List HV) : Prop where
  hs : HS d L
  cr : CR d fun x => ∃ j, a ≤ j ∧ A[j]? = some x
  len : A.length = i + 1
  ai : a ≤ i
  last : A[i]? = some (FK L)
  fit : d.fitK (300 - 3 * i)
theorem KI.sync {i a : Nat} {A : List HV} {d : DiskD} {L : List HV} (h : KI i a A d L) : ∃ d', Fa d = (d', 0) ∧ KI i i A d' L := by
 obtain ⟨d', h1, h2, h3, h4⟩ := Vd h.hs (V := fun x => ∃ j, i ≤ j ∧ A[j]? = some x) ⟨i, Nat.le_refl _, h.last⟩
 exact ⟨d', h1, h2, h3, h.len, Nat.le_refl _, h.last, h2.fit0 h4 (by omega)⟩
theorem KI.save {i a : Nat} {A : List HV} {d : DiskD} {L : List HV} (h : KI i a A d L) (hi : i < 90) {x : HV} (hx : Gj x) : ∃ d' L', H8 d x = (d', 0) ∧ KI (i + 1) a (A ++ [x]) d' L' := by
 have hold : ∀ y, (∃ j, a ≤ j ∧ A[j]? = some y) → ∃ j, a ≤ j ∧ (A ++ [x])[j]? = some y := fun y ⟨j, h1, h2⟩ => ⟨j, h1, by rw [List.getElem?_append_left (List.getElem?_eq_some_iff.1 h2).1]; exact h2⟩
 have hnew : (A ++ [x])[i + 1]? = some x := by rw [List.getElem?_append_right (by rw [h.len]; omega), h.len]; simp
 obtain ⟨d', L', h1, h2, h3, h4, _, _⟩ := h.hs.save (h.cr.imp hold) (hold _ ⟨i, h.ai, h.last⟩) hx ⟨i + 1, by have := h.ai; omega, hnew⟩
 refine ⟨d', L', h1, h2, h3, by rw [List.length_append, h.len]; rfl, by have := h.ai; omega, by rw [h4]; exact hnew, ?_⟩
 have h5 := Sx (k := 300 - 3 * (i + 1)) (d := d) (x := x) (Hh h.fit (by omega)) hx
 rwa [h1] at h5
theorem KI.crash {i a : Nat} {A : List HV} {d : DiskD} {L : List HV} (h : KI i a A d L) (keep torn : Int) : (C4 d keep torn).fitK 9 ∧ (∀ b, (Bo (B7 (C4 d keep torn)).1 hardN).getD [] = b → b.length ≤ 137438953472) ∧ ∃ d' x j, K5 (C4 d keep torn) = (d', x, 0) ∧ a ≤ j ∧ A[j]? = some x := by
 obtain ⟨h1, d', x, h2, j, h3, h4⟩ := h.cr.crash keep torn
 exact ⟨h1, fun b hb => Sy (h.cr (Df d keep) (IF d keep) |>.left torn) hb, d', x, j, h2, h3, h4⟩
end Go.Proofs.YtjcfimmcogkopaaGreat.Sep
namespace Go.Proofs.YtjcfimmcogkopaaGreat.Sep
open Go.RowKit
open Go.Proofs.YtjcfimmcogkopaaGreat.Mem (AZ Ci Chg Au)
section
variable {P : Program} {n k : Nat} {α : Type} {enc : α → List Value} {env : List (Nat × Value)} {o : Oper} {act : Act} {w : World} {u : Value} {m : List α}
end
def DiskD.tot (d : DiskD) : Nat := AF d.syn + (d.wait.map OpD.size).sum
structure PlayOk (T W : Nat) (d : DiskD) : Prop where
  rm : 0 ≤ d.room ∧ d.room ≤ 1048576
  tt : d.tot ≤ T
  wl : d.wait.length ≤ W
theorem PlayOk.fitK {T W k : Nat} {d : DiskD} (h : PlayOk T W d) (hT : T ≤ 10000000) (hW : W + k ≤ 10000) : d.fitK k := by
 have h1 := h.tt
 have h2 := h.wl
 unfold DiskD.tot at h1
 exact ⟨by omega, by omega⟩
theorem PlayOk.mono {T W T' W' : Nat} {d : DiskD} (h : PlayOk T W d) (h1 : T ≤ T') (h2 : W ≤ W') : PlayOk T' W' d := ⟨h.rm, Nat.le_trans h.tt h1, Nat.le_trans h.wl h2⟩
theorem PlayOk.does {T W : Nat} {d : DiskD} (h : PlayOk T W d) (o : OpD) {s : Nat} (hs : o.size ≤ s) : PlayOk (T + s) (W + 1) (Cj d o) := by
  refine ⟨h.rm, ?_, ?_⟩
  · show AF d.syn + ((d.wait ++ [o]).map OpD.size).sum ≤ _
    have := h.tt
    unfold DiskD.tot at this
    rw [List.map_append, List.sum_append]
    simp only [List.map_cons, List.map_nil, List.sum_cons, List.sum_nil]
    omega
  · show (d.wait ++ [o]).length ≤ _
    have := h.wl
    rw [List.length_append]; simp only [List.length_cons, List.length_nil]; omega
theorem PlayOk.begin_ {T W : Nat} {d : DiskD} (h : PlayOk T W d) : PlayOk T W (Bj d).1 := by
  unfold Bj
  split
  · exact ⟨h.rm, h.tt, h.wl⟩
  · exact ⟨h.rm, h.tt, h.wl⟩
theorem PlayOk.append {T W : Nat} {d : DiskD} (h : PlayOk T W d) (n b : List UInt8) {s : Nat} (hs : b.length ≤ s) : PlayOk (T + s) (W + 1) (Cc d n b).1 := by
  have h1 := h.begin_
  have h2 := h1.mono (Nat.le_add_right T s) (Nat.le_succ W)
  unfold Cc
  cases e : Bj d with
  | mk d1 e1 =>
    rw [e] at h1 h2
    simp only
    split
    · exact h2
    · split
      · exact h2
      · split
        · exact h2
        · exact h1.does _ hs
theorem PlayOk.cut {T W : Nat} {d : DiskD} (h : PlayOk T W d) (n : List UInt8) (s : Int) : PlayOk T (W + 1) (NN d n s).1 := by
  have h1 := h.begin_
  have h2 := h1.mono (Nat.le_refl T) (Nat.le_succ W)
  unfold NN
  cases e : Bj d with
  | mk d1 e1 =>
    rw [e] at h1 h2
    simp only
    split
    · exact h2
    · split
      · exact h2
      · split
        · exact h2
        · exact h1.does (s := 0) _ (Nat.zero_le _)
theorem PlayOk.del {T W : Nat} {d : DiskD} (h : PlayOk T W d) (n : List UInt8) : PlayOk T (W + 1) (Fw d n).1 := by
  have h1 := h.begin_
  have h2 := h1.mono (Nat.le_refl T) (Nat.le_succ W)
  unfold Fw
  cases e : Bj d with
  | mk d1 e1 =>
    rw [e] at h1 h2
    simp only
    split
    · exact h2
    · split
      · exact h2
      · exact h1.does (s := 0) _ (Nat.zero_le _)
theorem PlayOk.ren {T W : Nat} {d : DiskD} (h : PlayOk T W d) (a b : List UInt8) : PlayOk T (W + 1) (Jf d a b).1 := by
  have h1 := h.begin_
  have h2 := h1.mono (Nat.le_refl T) (Nat.le_succ W)
  unfold Jf
  cases e : Bj d with
  | mk d1 e1 =>
    rw [e] at h1 h2
    simp only
    split
    · exact h2
    · split
      · exact h2
      · split
        · exact h2
        · exact h1.does (s := 0) _ (Nat.zero_le _)
theorem PlayOk.rmNew {T W : Nat} {d : DiskD} (h : PlayOk T W d) : PlayOk T (W + 1) (B7 d).1 := by
  unfold B7
  split
  · exact h.del _
  · exact h.mono (Nat.le_refl _) (Nat.le_succ _)
theorem PlayOk.save {T W : Nat} {d : DiskD} (h : PlayOk T W d) {x : HV} (hx : Gj x) : PlayOk (T + 40) (W + 3) (H8 d x).1 := by
  have hl := PX hx
  unfold H8
  split
  · exact (h.append hardN (BD (layH x)) (s := 40) (by omega)).mono (Nat.le_refl _) (by omega)
  · unfold J8
    have h1 := h.rmNew
    split
    · exact h1.mono (by omega) (by omega)
    · have h2 := h1.append newN (BD (layH x)) (s := 40) (by omega)
      split
      · exact h2.mono (Nat.le_refl _) (by omega)
      · exact h2.ren _ _
theorem Q9 {d : DiskD} (hn : (AH d.syn).Nodup) (ho : Fe d.syn d.wait) : AF d.now ≤ d.tot := EB d.wait hn ho
theorem PlayOk.sync {T W : Nat} {d : DiskD} (h : PlayOk T W d) (hn : (AH d.syn).Nodup) (ho : Fe d.syn d.wait) : PlayOk T W (Fa d).1 := by
  have h0 := Q9 hn ho
  unfold Fa
  rcases Fi d with ⟨_, hb⟩ | ⟨_, _, hb⟩ | ⟨_, k, _, hb⟩ | ⟨_, _, hb⟩ <;> rw [hb] <;> simp only
  · rw [if_pos (by simp)]; exact h
  · rw [if_pos (by simp)]; exact ⟨h.rm, h.tt, h.wl⟩
  · rw [if_neg (by simp)]
    exact ⟨h.rm, by have := h.tt; show AF d.now + 0 ≤ T; omega, Nat.zero_le _⟩
  · rw [if_neg (by simp)]
    exact ⟨h.rm, by have := h.tt; show AF d.now + 0 ≤ T; omega, Nat.zero_le _⟩
structure StH where
  what : Int
  y : Int × Int
  near : Bool
  h : HarmD
instance : Inhabited StH := ⟨⟨0, (0, 0), false, ⟨0, 0, 0⟩⟩⟩
structure StH.ok (x : StH) : Prop where
  w : -9223372036854775808 ≤ x.what ∧ x.what ≤ 9223372036854775807
  y : Xl x.y
  h : x.h.ok
end Go.Proofs.YtjcfimmcogkopaaGreat.Sep
namespace Go.Proofs.YtjcfimmcogkopaaGreat.Sep
open Go.RowKit
open Go.Proofs.YtjcfimmcogkopaaGreat.Mem (AZ Ci Chg Au)
section
variable {X : Ass} {v B : Value} {b l l' : List UInt8} {g f f' : Nat}
theorem Ma (hX : Cu X B b) (hl : b.length ≤ 140737488355328) (most : Int) (hm1 : -9223372036854775808 ≤ most) (hm : most ≤ 9223372036854775807) (R : List UInt8 × List UInt8 × Nat) (h : BZ most l f = R) : AW Tryz.prog 42 #[.pointer (some ⟨g, 0, none⟩), .int .i64 most] [Gw B b g l f, X] (fun v : Value => v) (fun v => [Gw B b g R.2.1 R.2.2, X, Ap 5 1 encB v R.1]) := fun w rs h1 h2 h3 => by
 subst h
 obtain ⟨r1, r2, rfl, ⟨j, hj, hlj, rfl⟩, hx⟩ := h1
 have hx2 : X r2 := hx.one'
 have hd := Bf.1 h3
 simp only [List.cons_append, List.nil_append, List.map_cons, List.nodup_cons] at hd
 have hr2 : RowsOf w r2 := AN.2 fun x hx => AN.1 h2 x (List.mem_append_right _ hx)
 have hn : ∀ x ∈ r2, x.1 ≠ g := fun x hx e => hd.1 (e ▸ List.mem_map_of_mem hx)
 have hrow := AN.1 h2 _ (List.mem_append_left _ (List.mem_singleton.2 rfl))
 have hrow2 : CY w g 83 #[B, .int .i64 (j : Int), .int .i64 (f : Int)] := hrow
 have hg : g < w.heap.size := (Array.getElem?_eq_some_iff.1 hrow2).1
 obtain ⟨A, c, rfl, hb⟩ := L9 hX hx2 hr2 hn hg
 refine (MI w g c f most A b l ⟨j, hj, hlj, hrow2, hb, hl, fun k hk e => hk e⟩ hm1 hm).mono ?_
 rintro e w' ⟨v', he, ho, ⟨j', hj', hl', hr', _⟩, hm⟩
 obtain ⟨rs', hv', hr1, hd', hx'⟩ := G6 ho
 refine ⟨v', he, _, ?_, VW (rv := r2) (rs' := rs') h2 h3 hr' hm hr1 hd' (fun x hx => (hx' x hx).2)⟩
 exact ⟨[_], r2 ++ rs', rfl, ⟨j', hj', hl', rfl⟩, r2, rs', rfl, hx2, Ak.one hv'⟩
end
def AM (o : Option SnV) : SnV := o.getD ⟨0, 0, 0, []⟩
theorem Mb {F : FuncId} {args : Array Value} {K : DiskD → Ass} {d d' : DiskD} {o : Option SnV} {e : Nat}
    (h1 : ∀ s, o = some s → AW Tryz.prog F args [K d] (fun x : Option Addr × Nat => .tuple #[.agg #[.int .u64 s.i, .int .u64 s.t, .int .i64 s.c, .slice x.1 s.d.length x.2], .bool true, .int .i64 (e : Int)]) (fun x => [K d', Ap 5 1 encB (.slice x.1 s.d.length x.2) s.d]))
    (h2 : o = none → AW Tryz.prog F args [K d] (fun _ : Unit => .tuple #[.agg #[.int .u64 0, .int .u64 0, .int .i64 0, .slice none 0 0], .bool false, .int .i64 (e : Int)]) (fun _ => [K d'])) :
    AW Tryz.prog F args [K d] (fun x : Option Addr × Nat => .tuple #[.agg #[.int .u64 (AM o).i, .int .u64 (AM o).t, .int .i64 (AM o).c, .slice x.1 (AM o).d.length x.2], .bool o.isSome, .int .i64 (e : Int)]) (fun x => [K d', Jx (.slice x.1 (AM o).d.length x.2) (AM o).d]) := fun w rs q1 q2 q3 => by
  cases o with
  | some s =>
    refine (h1 s rfl w rs q1 q2 q3).mono ?_
    rintro e w' ⟨x, he, rs', ⟨a, b, rfl, hp1, hp2⟩, hch⟩
    exact ⟨x, he, a ++ b, ⟨a, b, rfl, hp1, Ak.one (TW Db _ hp2)⟩, hch⟩
  | none =>
    refine (h2 rfl w rs q1 q2 q3).mono ?_
    rintro e w' ⟨_, he, rs', hp, hch⟩
    exact ⟨(none, 0), he, rs', ⟨rs', [], by simp, hp.one', Ak.one Ve⟩, hch⟩
theorem Mc {p : Nat} {d d' : DiskD} {o : Option SnV} {e : Nat} (hf : d.fitK 2) (hbl : ∀ b, (Bo (Ck d).1 snapN).getD [] = b → b.length ≤ 137438953472) (h : CL d = (d', o, e)) : AW Tryz.prog 11 #[.pointer (some ⟨p, 0, none⟩)] [Ao p d] (fun x : Option Addr × Nat => .tuple #[.agg #[.int .u64 (AM o).i, .int .u64 (AM o).t, .int .i64 (AM o).c, .slice x.1 (AM o).d.length x.2], .bool o.isSome, .int .i64 (e : Int)]) (fun x => [Ao p d', Jx (.slice x.1 (AM o).d.length x.2) (AM o).d]) :=
 Mb (K := Ao p) (fun s hs => Ib hf hbl (by rw [h, hs])) (fun hn => P6 hf hbl (by rw [h, hn]))
theorem Vn {c : Int} (h : 0 ≤ c ∧ c ≤ 255) : IntKind.u8.wrap c = (((UInt8.ofNat c.toNat).toNat : Nat) : Int) := by
 have h1 : IntKind.u8.wrap c = c % 256 := by simp [IntKind.wrap, IntKind.signed, IntKind.bits]
 rw [h1, UInt8.toNat_ofNat']
 omega
theorem PlayOk.rmS {T W : Nat} {d : DiskD} (h : PlayOk T W d) : PlayOk T (W + 1) (Ck d).1 := by
  unfold Ck
  split
  · exact h.del _
  · exact h.mono (Nat.le_refl _) (Nat.le_succ _)
theorem PlayOk.openP {T W : Nat} {d : DiskD} (h : PlayOk T W d) : PlayOk T (W + 2) (CL d).1 := by
  have h2 := h.rmS.mono (Nat.le_refl T) (Nat.le_succ (W + 1))
  unfold CL
  split
  · exact h2
  · exact h2
theorem OH {T W : Nat} {d : DiskD} (h : PlayOk T W d) (hT : T ≤ 10000000) (hn : (AH d.syn).Nodup) (ho : Fe d.syn d.wait) {b : List UInt8} (hb : (Bo (Ck d).1 snapN).getD [] = b) : b.length ≤ 137438953472 := by
  have hnn := LN hn
  have h0 := Q9 hn ho
  have h1 := h.tt
  have key : ∀ d1 : DiskD, (d1.now = d.now ∨ d1.now = BR d.now snewN) → ((Bo d1 snapN).getD []).length ≤ AF d.now := fun d1 h2 => by
    unfold Bo
    split
    · simp
    · rcases h2 with h2 | h2
      · rw [h2]; exact LH hnn
      · rw [h2, FD hnn, if_neg He]; exact LH hnn
  have h3 : (Ck d).1.now = d.now ∨ (Ck d).1.now = BR d.now snewN := by
    unfold Ck
    split
    · unfold Fw
      rcases Fi d with ⟨_, hb⟩ | ⟨_, _, hb⟩ | ⟨_, k, _, hb⟩ | ⟨_, _, hb⟩ <;> rw [hb] <;> simp only
      · left; rw [if_pos (by simp)]
      · left; rw [if_pos (by simp)]; rfl
      · rw [if_neg (by simp)]
        split
        · left; rfl
        · right; rw [Cg]; rfl
      · rw [if_neg (by simp)]
        split
        · left; rfl
        · right; rw [Cg]; rfl
    · left; rfl
  have := key _ h3
  rw [hb] at this
  omega
end Go.Proofs.YtjcfimmcogkopaaGreat.Sep
