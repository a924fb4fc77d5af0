/-
  HdA · SgB · TyS · SgC · HdB · HdC · HdK · HdL · PhR
-/
import Derived.Test.YtjcfimmcogkopaaGreatPB02
import Derived.Test.YtjcfimmcogkopaaGreatPB03
import Derived.Test.YtjcfimmcogkopaaGreatPB04
import Derived.Test.YtjcfimmcogkopaaGreatPE01
import Derived.Test.YtjcfimmcogkopaaGreatPE02
import Derived.Test.YtjcfimmcogkopaaGreatPF01
import Derived.Test.YtjcfimmcogkopaaGreatPG01
import Derived.Test.YtjcfimmcogkopaaGreatPI01
import Derived.Test.YtjcfimmcogkopaaGreatPK01
import Derived.Test.YtjcfimmcogkopaaGreatPK03
import Derived.Test.YtjcfimmcogkopaaGreatPM01
import Derived.Test.YtjcfimmcogkopaaGreatPR02
import Derived.Test.YtjcfimmcogkopaaGreatPS01
set_option linter.unusedSimpArgs false
set_option linter.unusedVariables false
namespace Go.Proofs.YtjcfimmcogkopaaGreat.Sep
open Go.RowKit
open Go.Proofs.YtjcfimmcogkopaaGreat.Mem (Bh Cs Chg AA)
end Go.Proofs.YtjcfimmcogkopaaGreat.Sep
namespace Go.Proofs.YtjcfimmcogkopaaGreat.Sep
open Go.RowKit
open Go.Proofs.YtjcfimmcogkopaaGreat.Mem (Bh Cs Chg AA)
def Ya (gy : Nat) (f : Value) (X : Ass) : Ass := fun rs => Al [cell gy 135 #[f], X] rs
theorem Ya.open_ {gy : Nat} {f : Value} {X : Ass} : ∀ rs, Ya gy f X rs → ∃ _ : Unit, Al [cell gy 135 #[f], X] rs := fun _ h => ⟨(), h⟩
end Go.Proofs.YtjcfimmcogkopaaGreat.Sep
namespace Go.Proofs.YtjcfimmcogkopaaGreat.Sep
open Go.RowKit
open Go.Proofs.YtjcfimmcogkopaaGreat.Mem (Bh Cs Chg AA)
end Go.Proofs.YtjcfimmcogkopaaGreat.Sep
namespace Go.Proofs.YtjcfimmcogkopaaGreat.Sep
open Go.RowKit
open Go.Proofs.YtjcfimmcogkopaaGreat.Mem (Bh Cs Chg AA)
section
variable {P : Program} {n : Nat} {B : Nat → Prop} {w0 w : World} {os : List Ass} {env : List (Nat × Value)} {o : Oper} {act : Act}
end
end Go.Proofs.YtjcfimmcogkopaaGreat.Sep
namespace Go.Proofs.YtjcfimmcogkopaaGreat.Sep
open Go.RowKit
open Go.Proofs.YtjcfimmcogkopaaGreat.Mem (Bh Cs Chg AA)
end Go.Proofs.YtjcfimmcogkopaaGreat.Sep
namespace Go.Proofs.YtjcfimmcogkopaaGreat.Sep
open Go.RowKit
open Go.Proofs.YtjcfimmcogkopaaGreat.Mem (Bh Cs Chg AA)
end Go.Proofs.YtjcfimmcogkopaaGreat.Sep
namespace Go.Proofs.YtjcfimmcogkopaaGreat.Sep
open Go.RowKit
open Go.Proofs.YtjcfimmcogkopaaGreat.Mem (Bh Cs Chg AA)
def hz (x : HV) : Int × Int := (((x.1 : Nat) : Int), ((x.2 : Nat) : Int))
def Yh (x : Int × Int) : Prop := (0 ≤ x.1 ∧ x.1 ≤ 18446744073709551615) ∧ (-9223372036854775808 ≤ x.2 ∧ x.2 ≤ 9223372036854775807)
theorem Ib {k j : Nat} {d : DiskD} (h : d.fitK k) (hj : j ≤ k) : d.fitK j := by
 obtain ⟨h1, h2⟩ := h
 exact ⟨by omega, by omega⟩
theorem S9 {k : Nat} {d : DiskD} {x : HV} (h : d.fitK (k + 3)) (hx : GX x) : (IK d x).1.fitK k := by
  have hl := Qm hx
  unfold IK
  split
  · exact Ib (E8 (k := k + 2) h (by omega)) (by omega)
  · unfold KD
    have h1 := V7 (k := k + 2) h
    split
    · exact Ib h1 (by omega)
    · have h2 := E8 (n := newN) (b := BZ (layH x)) (k := k + 1) h1 (by omega)
      split
      · exact Ib h2 (by omega)
      · exact OR h2
theorem HS.fit0 {d : DiskD} {L : List HV} {k : Nat} (h : HS d L) (hw : d.wait = []) (hk : k ≤ 9000) : d.fitK k := by
  have h1 := h.used
  have h2 : d.now = d.syn := by unfold DiskD.now; rw [hw]; rfl
  rw [h2] at h1
  refine ⟨?_, ?_⟩
  · rw [hw]
    show AN d.syn + 0 + _ ≤ _
    omega
  · rw [hw]
    show 0 + k ≤ _
    omega
theorem Ta {room : Int} {f : FS} {V : HV → Prop} (h : HFile f V) {b : List UInt8} (hb : (Bx (Ch ⟨room, f, [], none, false⟩).1 hardN).getD [] = b) : b.length ≤ 137438953472 := by
  have h1 : (Bx (Ch ⟨room, f, [], none, false⟩).1 hardN).getD [] = (AS f hardN).getD [] := by
    unfold Ch
    split
    · rename_i hs
      have hx : ∃ x, AS f newN = some x := Option.isSome_iff_exists.1 hs
      obtain ⟨x, hx⟩ := hx
      have hdel : Fp ⟨room, f, [], none, false⟩ newN = (Cp ⟨room, f, [], none, false⟩ (.del newN), 0) := by
        unfold Fp
        rw [Dx rfl rfl]
        simp only
        rw [if_neg (by simp)]
        show (match AS f newN with | none => _ | some _ => _) = _
        rw [hx]
      rw [hdel]
      show ((if false = true then none else AS (Cp ⟨room, f, [], none, false⟩ (.del newN)).now hardN).getD []) = _
      rw [if_neg (by simp), Cq]
      show (AS (BY f newN) hardN).getD [] = _
      rw [Ge h.nd, if_neg GN]
    · rfl
  have := h.lh
  rw [← hb, h1]; omega
structure KI (i a : Nat) (A : List HV) (d : DiskD) (L : List HV) : Prop where
  hs : HS d L
  cr : CR d fun x => ∃ j, a ≤ j ∧ A[j]? = some x
  len : A.length = i + 1
  ai : a ≤ i
  last : A[i]? = some (Gn L)
  fit : d.fitK (300 - 3 * i)
theorem KI.sync {i a : Nat} {A : List HV} {d : DiskD} {L : List HV} (h : KI i a A d L) : ∃ d', E5 d = (d', 0) ∧ KI i i A d' L := by
 obtain ⟨d', h1, h2, h3, h4⟩ := V8 h.hs (V := fun x => ∃ j, i ≤ j ∧ A[j]? = some x) ⟨i, Nat.le_refl _, h.last⟩
 exact ⟨d', h1, h2, h3, h.len, Nat.le_refl _, h.last, h2.fit0 h4 (by omega)⟩
theorem KI.save {i a : Nat} {A : List HV} {d : DiskD} {L : List HV} (h : KI i a A d L) (hi : i < 90) {x : HV} (hx : GX x) : ∃ d' L', IK d x = (d', 0) ∧ KI (i + 1) a (A ++ [x]) d' L' := by
 have hold : ∀ y, (∃ j, a ≤ j ∧ A[j]? = some y) → ∃ j, a ≤ j ∧ (A ++ [x])[j]? = some y := fun y ⟨j, h1, h2⟩ => ⟨j, h1, by rw [List.getElem?_append_left (List.getElem?_eq_some_iff.1 h2).1]; exact h2⟩
 have hnew : (A ++ [x])[i + 1]? = some x := by rw [List.getElem?_append_right (by rw [h.len]; omega), h.len]; simp
 obtain ⟨d', L', h1, h2, h3, h4, _, _⟩ := h.hs.save (h.cr.imp hold) (hold _ ⟨i, h.ai, h.last⟩) hx ⟨i + 1, by have := h.ai; omega, hnew⟩
 refine ⟨d', L', h1, h2, h3, by rw [List.length_append, h.len]; rfl, by have := h.ai; omega, by rw [h4]; exact hnew, ?_⟩
 have h5 := S9 (k := 300 - 3 * (i + 1)) (d := d) (x := x) (Ib h.fit (by omega)) hx
 rwa [h1] at h5
theorem KI.crash {i a : Nat} {A : List HV} {d : DiskD} {L : List HV} (h : KI i a A d L) (keep torn : Int) : (Cg d keep torn).fitK 9 ∧ (∀ b, (Bx (Ch (Cg d keep torn)).1 hardN).getD [] = b → b.length ≤ 137438953472) ∧ ∃ d' x j, LJ (Cg d keep torn) = (d', x, 0) ∧ a ≤ j ∧ A[j]? = some x := by
 obtain ⟨h1, d', x, h2, j, h3, h4⟩ := h.cr.crash keep torn
 exact ⟨h1, fun b hb => Ta (h.cr (Cw d keep) (Hd d keep) |>.left torn) hb, d', x, j, h2, h3, h4⟩
end Go.Proofs.YtjcfimmcogkopaaGreat.Sep
namespace Go.Proofs.YtjcfimmcogkopaaGreat.Sep
open Go.RowKit
open Go.Proofs.YtjcfimmcogkopaaGreat.Mem (Bh Cs Chg AA)
section
variable {P : Program} {n k : Nat} {α : Type} {enc : α → List Value} {env : List (Nat × Value)} {o : Oper} {act : Act} {w : World} {u : Value} {m : List α}
theorem XC (he : EncOf k enc) (hk : 0 < k) (hu : Dy w k u m.length (flat enc m)) {j : Nat} {a : α} (hj : m[j]? = some a) {T : TypeId} {s : Nat} (hA : GQ P T s) {off : Nat} {cs : List Value} (hc : ((enc a).drop off).take s = cs) (hl : cs.length = s) {x : Operand} (ho : o.op = .load T x) (hx : evs env x = some (BN u (j * k + off))) (hF : Fr n act env) : (execOp act.eval o).run P w = .ok (.value (.agg cs.toArray)) w := by
  obtain ⟨g, b, cap, rfl, hcell⟩ := hu.at_ he hk hj
  have hx' : evs env x = some (.pointer (some ⟨g, b + j * k + off, none⟩)) := by rw [hx]; simp [BN, Nat.add_assoc]
  have h := run_loadCells_list (P := P) w ⟨g, b + j * k + off, none⟩ cs (fun q v hv => by
    rw [Addr.add_lit]
    have h1 : (enc a)[off + q]? = some v := by
      rw [← hc, List.getElem?_take] at hv
      split at hv
      · rwa [List.getElem?_drop] at hv
      · cases hv
    have h2 := hcell (off + q) v h1
    rwa [← Nat.add_assoc] at h2)
  rw [hl] at h
  have hv : (loadVar T ⟨g, b + j * k + off, none⟩).run P w = .ok (.agg cs.toArray) w := by
    simp [loadVar, Sem.run_bind, hA.1, hA.2, h]
  unfold execOp
  simp only [ho, hF.evs hx', Instr.loadAt, Instr.sureAddr, Sem.run_bind, Sem.run_pure, Result.andThen_ok, hv]
end
def DiskD.tot (d : DiskD) : Nat := AN d.syn + (d.wait.map OpD.size).sum
structure PlayOk (T W : Nat) (d : DiskD) : Prop where
  rm : 0 ≤ d.room ∧ d.room ≤ 1048576
  tt : d.tot ≤ T
  wl : d.wait.length ≤ W
theorem PlayOk.fitK {T W k : Nat} {d : DiskD} (h : PlayOk T W d) (hT : T ≤ 10000000) (hW : W + k ≤ 10000) : d.fitK k := by
 have h1 := h.tt
 have h2 := h.wl
 unfold DiskD.tot at h1
 exact ⟨by omega, by omega⟩
theorem PlayOk.mono {T W T' W' : Nat} {d : DiskD} (h : PlayOk T W d) (h1 : T ≤ T') (h2 : W ≤ W') : PlayOk T' W' d := ⟨h.rm, Nat.le_trans h.tt h1, Nat.le_trans h.wl h2⟩
theorem PlayOk.does {T W : Nat} {d : DiskD} (h : PlayOk T W d) (o : OpD) {s : Nat} (hs : o.size ≤ s) : PlayOk (T + s) (W + 1) (Cp d o) := by
  refine ⟨h.rm, ?_, ?_⟩
  · show AN d.syn + ((d.wait ++ [o]).map OpD.size).sum ≤ _
    have := h.tt
    unfold DiskD.tot at this
    rw [List.map_append, List.sum_append]
    simp only [List.map_cons, List.map_nil, List.sum_cons, List.sum_nil]
    omega
  · show (d.wait ++ [o]).length ≤ _
    have := h.wl
    rw [List.length_append]; simp only [List.length_cons, List.length_nil]; omega
theorem PlayOk.begin_ {T W : Nat} {d : DiskD} (h : PlayOk T W d) : PlayOk T W (Bv d).1 := by
  unfold Bv
  split
  · exact ⟨h.rm, h.tt, h.wl⟩
  · exact ⟨h.rm, h.tt, h.wl⟩
theorem PlayOk.append {T W : Nat} {d : DiskD} (h : PlayOk T W d) (n b : List UInt8) {s : Nat} (hs : b.length ≤ s) : PlayOk (T + s) (W + 1) (Ci d n b).1 := by
  have h1 := h.begin_
  have h2 := h1.mono (Nat.le_add_right T s) (Nat.le_succ W)
  unfold Ci
  cases e : Bv d with
  | mk d1 e1 =>
    rw [e] at h1 h2
    simp only
    split
    · exact h2
    · split
      · exact h2
      · split
        · exact h2
        · exact h1.does _ hs
theorem PlayOk.cut {T W : Nat} {d : DiskD} (h : PlayOk T W d) (n : List UInt8) (s : Int) : PlayOk T (W + 1) (Oc d n s).1 := by
  have h1 := h.begin_
  have h2 := h1.mono (Nat.le_refl T) (Nat.le_succ W)
  unfold Oc
  cases e : Bv d with
  | mk d1 e1 =>
    rw [e] at h1 h2
    simp only
    split
    · exact h2
    · split
      · exact h2
      · split
        · exact h2
        · exact h1.does (s := 0) _ (Nat.zero_le _)
theorem PlayOk.del {T W : Nat} {d : DiskD} (h : PlayOk T W d) (n : List UInt8) : PlayOk T (W + 1) (Fp d n).1 := by
  have h1 := h.begin_
  have h2 := h1.mono (Nat.le_refl T) (Nat.le_succ W)
  unfold Fp
  cases e : Bv d with
  | mk d1 e1 =>
    rw [e] at h1 h2
    simp only
    split
    · exact h2
    · split
      · exact h2
      · exact h1.does (s := 0) _ (Nat.zero_le _)
theorem PlayOk.ren {T W : Nat} {d : DiskD} (h : PlayOk T W d) (a b : List UInt8) : PlayOk T (W + 1) (Ie d a b).1 := by
  have h1 := h.begin_
  have h2 := h1.mono (Nat.le_refl T) (Nat.le_succ W)
  unfold Ie
  cases e : Bv d with
  | mk d1 e1 =>
    rw [e] at h1 h2
    simp only
    split
    · exact h2
    · split
      · exact h2
      · split
        · exact h2
        · exact h1.does (s := 0) _ (Nat.zero_le _)
theorem PlayOk.rmNew {T W : Nat} {d : DiskD} (h : PlayOk T W d) : PlayOk T (W + 1) (Ch d).1 := by
  unfold Ch
  split
  · exact h.del _
  · exact h.mono (Nat.le_refl _) (Nat.le_succ _)
theorem PlayOk.save {T W : Nat} {d : DiskD} (h : PlayOk T W d) {x : HV} (hx : GX x) : PlayOk (T + 40) (W + 3) (IK d x).1 := by
  have hl := Qm hx
  unfold IK
  split
  · exact (h.append hardN (BZ (layH x)) (s := 40) (by omega)).mono (Nat.le_refl _) (by omega)
  · unfold KD
    have h1 := h.rmNew
    split
    · exact h1.mono (by omega) (by omega)
    · have h2 := h1.append newN (BZ (layH x)) (s := 40) (by omega)
      split
      · exact h2.mono (Nat.le_refl _) (by omega)
      · exact h2.ren _ _
theorem RH {d : DiskD} (hn : (AO d.syn).Nodup) (ho : Fe d.syn d.wait) : AN d.now ≤ d.tot := Ef d.wait hn ho
theorem PlayOk.sync {T W : Nat} {d : DiskD} (h : PlayOk T W d) (hn : (AO d.syn).Nodup) (ho : Fe d.syn d.wait) : PlayOk T W (E5 d).1 := by
  have h0 := RH hn ho
  unfold E5
  rcases EX d with ⟨_, hb⟩ | ⟨_, _, hb⟩ | ⟨_, k, _, hb⟩ | ⟨_, _, hb⟩ <;> rw [hb] <;> simp only
  · rw [if_pos (by simp)]; exact h
  · rw [if_pos (by simp)]; exact ⟨h.rm, h.tt, h.wl⟩
  · rw [if_neg (by simp)]
    exact ⟨h.rm, by have := h.tt; show AN d.now + 0 ≤ T; omega, Nat.zero_le _⟩
  · rw [if_neg (by simp)]
    exact ⟨h.rm, by have := h.tt; show AN d.now + 0 ≤ T; omega, Nat.zero_le _⟩
theorem U7 {d : DiskD} {keep torn : Int} (hn : (AO d.syn).Nodup) (ho : Fe d.syn d.wait) : AN (CJ d keep torn) ≤ d.tot := by
  rw [GK]
  cases hw : d.wait[Cw d keep]? with
  | none =>
    simp only
    have h1 := Ef (d.wait.take (Cw d keep)) hn (Fx (Cw d keep) ho)
    have h2 := H5 d.wait (Cw d keep)
    unfold DiskD.tot
    omega
  | some o =>
    simp only
    have h1 := Es (N := d.tot) hn ho hw (Nat.le_refl _)
    have hnd : (AO ((d.wait.take (Cw d keep)).foldl AG d.syn)).Nodup := Ed _ hn
    cases o with
    | app n b =>
      unfold Gk
      simp only
      split
      · omega
      · rw [FX hnd]
        have h2 : (OpD.app n b).size = b.length := rfl
        rw [List.length_take]
        omega
    | cut n s => show AN ((d.wait.take (Cw d keep)).foldl AG d.syn) ≤ _; omega
    | ren a b => show AN ((d.wait.take (Cw d keep)).foldl AG d.syn) ≤ _; omega
    | del n => show AN ((d.wait.take (Cw d keep)).foldl AG d.syn) ≤ _; omega
theorem PlayOk.harm {T W : Nat} {d : DiskD} (h : PlayOk T W d) (hm : HarmD) (hn : (AO d.syn).Nodup) (ho : Fe d.syn d.wait) : PlayOk T W (Gu d hm) := by
  unfold Gu
  split
  · exact ⟨h.rm, h.tt, h.wl⟩
  · split
    · refine ⟨h.rm, ?_, Nat.zero_le _⟩
      have := U7 (keep := hm.a) (torn := hm.b) hn ho
      have h2 := h.tt
      show AN (CJ d hm.a hm.b) + 0 ≤ T
      omega
    · split
      · refine ⟨?_, h.tt, h.wl⟩
        have h1 := Int.emod_nonneg hm.a (show (2000 : Int) ≠ 0 by decide)
        have h2 := Int.emod_lt_of_pos hm.a (show (0 : Int) < 2000 by decide)
        show 0 ≤ hm.a % 2000 ∧ hm.a % 2000 ≤ 1048576
        omega
      · exact h
theorem U9 {p : Nat} {d : DiskD} : ∀ rs, An p d rs → (AO d.syn).Nodup ∧ Fe d.syn d.wait := fun rs ⟨x, _⟩ => ⟨x.snd, x.hok⟩
theorem Va : Ft DN (.slice none 0 0) [] := fun rs w h1 h2 => by
 obtain rfl : rs = [] := h1
 exact C1 [] w Gs h2
structure StH where
  what : Int
  y : Int × Int
  near : Bool
  h : HarmD
instance : Inhabited StH := ⟨⟨0, (0, 0), false, ⟨0, 0, 0⟩⟩⟩
structure StH.ok (x : StH) : Prop where
  w : -9223372036854775808 ≤ x.what ∧ x.what ≤ 9223372036854775807
  y : Yh x.y
  h : x.h.ok
end Go.Proofs.YtjcfimmcogkopaaGreat.Sep
namespace Go.Proofs.YtjcfimmcogkopaaGreat.Sep
open Go.RowKit
open Go.Proofs.YtjcfimmcogkopaaGreat.Mem (Bh Cs Chg AA)
section
variable {X : Ass} {v B : Value} {b l l' : List UInt8} {g f f' : Nat}
theorem MI (hX : CO X B b) (hl : b.length ≤ 140737488355328) (most : Int) (hm1 : -9223372036854775808 ≤ most) (hm : most ≤ 9223372036854775807) (R : List UInt8 × List UInt8 × Nat) (h : B8 most l f = R) : AX Tryz.prog 42 #[.pointer (some ⟨g, 0, none⟩), .int .i64 most] [G8 B b g l f, X] (fun v : Value => v) (fun v => [G8 B b g R.2.1 R.2.2, X, Ar 5 1 encB v R.1]) := fun w rs h1 h2 h3 => by
 subst h
 obtain ⟨r1, r2, rfl, ⟨j, hj, hlj, rfl⟩, hx⟩ := h1
 have hx2 : X r2 := hx.one'
 have hd := Bq.1 h3
 simp only [List.cons_append, List.nil_append, List.map_cons, List.nodup_cons] at hd
 have hr2 : RowsOf w r2 := AT.2 fun x hx => AT.1 h2 x (List.mem_append_right _ hx)
 have hn : ∀ x ∈ r2, x.1 ≠ g := fun x hx e => hd.1 (e ▸ List.mem_map_of_mem hx)
 have hrow := AT.1 h2 _ (List.mem_append_left _ (List.mem_singleton.2 rfl))
 have hrow2 : Di w g 83 #[B, .int .i64 (j : Int), .int .i64 (f : Int)] := hrow
 have hg : g < w.heap.size := (Array.getElem?_eq_some_iff.1 hrow2).1
 obtain ⟨A, c, rfl, hb⟩ := MH hX hx2 hr2 hn hg
 refine (Ng w g c f most A b l ⟨j, hj, hlj, hrow2, hb, hl, fun k hk e => hk e⟩ hm1 hm).mono ?_
 rintro e w' ⟨v', he, ho, ⟨j', hj', hl', hr', _⟩, hm⟩
 obtain ⟨rs', hv', hr1, hd', hx'⟩ := FV ho
 refine ⟨v', he, _, ?_, WV (rv := r2) (rs' := rs') h2 h3 hr' hm hr1 hd' (fun x hx => (hx' x hx).2)⟩
 exact ⟨[_], r2 ++ rs', rfl, ⟨j', hj', hl', rfl⟩, r2, rs', rfl, hx2, Al.one hv'⟩
end
def AK (o : Option SnV) : SnV := o.getD ⟨0, 0, 0, []⟩
theorem MJ {F : FuncId} {args : Array Value} {K : DiskD → Ass} {d d' : DiskD} {o : Option SnV} {e : Nat}
    (h1 : ∀ s, o = some s → AX Tryz.prog F args [K d] (fun x : Option Addr × Nat => .tuple #[.agg #[.int .u64 s.i, .int .u64 s.t, .int .i64 s.c, .slice x.1 s.d.length x.2], .bool true, .int .i64 (e : Int)]) (fun x => [K d', Ar 5 1 encB (.slice x.1 s.d.length x.2) s.d]))
    (h2 : o = none → AX Tryz.prog F args [K d] (fun _ : Unit => .tuple #[.agg #[.int .u64 0, .int .u64 0, .int .i64 0, .slice none 0 0], .bool false, .int .i64 (e : Int)]) (fun _ => [K d'])) :
    AX Tryz.prog F args [K d] (fun x : Option Addr × Nat => .tuple #[.agg #[.int .u64 (AK o).i, .int .u64 (AK o).t, .int .i64 (AK o).c, .slice x.1 (AK o).d.length x.2], .bool o.isSome, .int .i64 (e : Int)]) (fun x => [K d', J7 (.slice x.1 (AK o).d.length x.2) (AK o).d]) := fun w rs q1 q2 q3 => by
  cases o with
  | some s =>
    refine (h1 s rfl w rs q1 q2 q3).mono ?_
    rintro e w' ⟨x, he, rs', ⟨a, b, rfl, hp1, hp2⟩, hch⟩
    exact ⟨x, he, a ++ b, ⟨a, b, rfl, hp1, Al.one (UG C9 _ hp2)⟩, hch⟩
  | none =>
    refine (h2 rfl w rs q1 q2 q3).mono ?_
    rintro e w' ⟨_, he, rs', hp, hch⟩
    exact ⟨(none, 0), he, rs', ⟨rs', [], by simp, hp.one', Al.one V9⟩, hch⟩
theorem ML {p : Nat} {d d' : DiskD} {o : Option SnV} {e : Nat} (hf : d.fitK 2) (hbl : ∀ b, (Bx (Ce d).1 snapN).getD [] = b → b.length ≤ 137438953472) (h : C5 d = (d', o, e)) : AX Tryz.prog 11 #[.pointer (some ⟨p, 0, none⟩)] [Ao p d] (fun x : Option Addr × Nat => .tuple #[.agg #[.int .u64 (AK o).i, .int .u64 (AK o).t, .int .i64 (AK o).c, .slice x.1 (AK o).d.length x.2], .bool o.isSome, .int .i64 (e : Int)]) (fun x => [Ao p d', J7 (.slice x.1 (AK o).d.length x.2) (AK o).d]) :=
 MJ (K := Ao p) (fun s hs => IN hf hbl (by rw [h, hs])) (fun hn => Qv hf hbl (by rw [h, hn]))
def Ym (near : Bool) (s : SnV) : SnV := if near = true then X6 s else s
theorem F3 {X : Ass} {s z : SnV} {A : Option Addr} {cp : Nat} {near : Bool} {wh hw ha hb9 : Int} (hs : SnR s) (hX : CO X (.slice A s.d.length cp) s.d) (hl : s.d.length ≤ 140737488351232) (hz : Ym near s = z) : AX Tryz.prog 14 #[.agg #[.int .i64 wh, .int .u64 s.i, .int .u64 s.t, .int .i64 s.c, .slice A s.d.length cp, .bool near, .int .i64 hw, .int .i64 ha, .int .i64 hb9]] [X] (fun x : Option Addr × Nat => .agg #[.int .u64 z.i, .int .u64 z.t, .int .i64 z.c, .slice x.1 z.d.length x.2]) (fun x => [X, Ar 5 1 encB (.slice x.1 z.d.length x.2) z.d]) := by
  subst hz
  cases near with
  | true => exact Ns hs hX hl
  | false => exact OZ hs hX hl
theorem Wh {c : Int} (h : 0 ≤ c ∧ c ≤ 255) : IntKind.u8.wrap c = (((UInt8.ofNat c.toNat).toNat : Nat) : Int) := by
 have h1 : IntKind.u8.wrap c = c % 256 := by simp [IntKind.wrap, IntKind.signed, IntKind.bits]
 rw [h1, UInt8.toNat_ofNat']
 omega
theorem PlayOk.rmS {T W : Nat} {d : DiskD} (h : PlayOk T W d) : PlayOk T (W + 1) (Ce d).1 := by
  unfold Ce
  split
  · exact h.del _
  · exact h.mono (Nat.le_refl _) (Nat.le_succ _)
theorem PlayOk.saveP {T W : Nat} {d : DiskD} (h : PlayOk T W d) {f : List UInt8} (hf : f.length ≤ 40000) : PlayOk (T + 40000) (W + 3) (Ew d f).1 := by
  unfold Ew
  have h1 := h.rmS
  split
  · exact h1.mono (by omega) (by omega)
  · have h2 := h1.append snewN f (s := 40000) hf
    split
    · exact h2.mono (Nat.le_refl _) (by omega)
    · exact h2.ren _ _
theorem PlayOk.openP {T W : Nat} {d : DiskD} (h : PlayOk T W d) : PlayOk T (W + 2) (C5 d).1 := by
  have h2 := h.rmS.mono (Nat.le_refl T) (Nat.le_succ (W + 1))
  unfold C5
  split
  · exact h2
  · exact h2
theorem O8 {T W : Nat} {d : DiskD} (h : PlayOk T W d) (hT : T ≤ 10000000) (hn : (AO d.syn).Nodup) (ho : Fe d.syn d.wait) {b : List UInt8} (hb : (Bx (Ce d).1 snapN).getD [] = b) : b.length ≤ 137438953472 := by
  have hnn := Mq hn
  have h0 := RH hn ho
  have h1 := h.tt
  have key : ∀ d1 : DiskD, (d1.now = d.now ∨ d1.now = BY d.now snewN) → ((Bx d1 snapN).getD []).length ≤ AN d.now := fun d1 h2 => by
    unfold Bx
    split
    · simp
    · rcases h2 with h2 | h2
      · rw [h2]; exact Ml hnn
      · rw [h2, Ge hnn, if_neg H8]; exact Ml hnn
  have h3 : (Ce d).1.now = d.now ∨ (Ce d).1.now = BY d.now snewN := by
    unfold Ce
    split
    · unfold Fp
      rcases EX d with ⟨_, hb⟩ | ⟨_, _, hb⟩ | ⟨_, k, _, hb⟩ | ⟨_, _, hb⟩ <;> rw [hb] <;> simp only
      · left; rw [if_pos (by simp)]
      · left; rw [if_pos (by simp)]; rfl
      · rw [if_neg (by simp)]
        split
        · left; rfl
        · right; rw [Cq]; rfl
      · rw [if_neg (by simp)]
        split
        · left; rfl
        · right; rw [Cq]; rfl
    · left; rfl
  have := key _ h3
  rw [hb] at this
  omega
theorem Vb (d : DiskD) : (Ce d).1.room = d.room := by
  unfold Ce
  split
  · unfold Fp
    rcases EX d with ⟨_, hb⟩ | ⟨_, _, hb⟩ | ⟨_, k, _, hb⟩ | ⟨_, _, hb⟩ <;> rw [hb] <;> simp only
    · rw [if_pos (by simp)]
    · rw [if_pos (by simp)]
    · rw [if_neg (by simp)]
      split <;> rfl
    · rw [if_neg (by simp)]
      split <;> rfl
  · rfl
end Go.Proofs.YtjcfimmcogkopaaGreat.Sep
