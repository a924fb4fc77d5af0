/-
  Law · Opz · Prt · DskM · TyC · Fil · CmdA · CmdB
-/
import Derived.Test.YtjcfimmcogkopaaGreatYA01
import Derived.Test.YtjcfimmcogkopaaGreatYA06
import Derived.Test.YtjcfimmcogkopaaGreatYA08
import Derived.Test.YtjcfimmcogkopaaGreatYB01
import Derived.Test.YtjcfimmcogkopaaGreatRows
import Derived.ProofKit
import Derived.OpenShut
import Derived.JoinedCond
import Derived.SizedLaws
import Derived.Test.YtjcfimmcogkopaaGreatChecked
set_option linter.unusedSimpArgs false
set_option linter.unusedVariables false
set_option maxRecDepth 100000
namespace Go.Proofs.YtjcfimmcogkopaaGreat
open Go.ChangeShapes Go.WideShapes Go.ChangeAt Go.RowKit
theorem own : ownKnob Tryz.prog.godebug = none := by kernel_rfl
theorem Uq : laidOutB Tryz.prog = true := by kernel_rfl
section
variable {H : Type} {enc : TypeId × Value → H} {P : Program}
theorem Hw (hl : laidOutB P = true) {W W' : World} (hb : Below W.heap.size W W') :
    ∀ {ts : List TypeId} {vs : List Value} {ds : List (DataW H)} {ps : List MemPlace}, (∀ t ∈ ts, P.readableRec t = true ∧ t < P.types.size) → (∀ x ∈ ps, x.block < W.heap.size) →
      DataW.TrodAll enc P W 0 (fun _ => true) true ts vs ds ps → DataW.TrodAll enc P W' 0 (fun b => decide (b < W.heap.size)) true ts vs ds ps
  | [], vs, ds, ps, _, _, h => by
    obtain ⟨rfl, rfl, rfl⟩ := trodAll_nil h
    rfl
  | t :: ts, vs, ds, ps, ht, hp, h => by
    obtain ⟨v, vs1, d, ds1, a, b, rfl, rfl, rfl, h1, h2⟩ := trodAll_cons h
    obtain ⟨hr, hrow⟩ := ht t List.mem_cons_self
    exact ⟨a, b, Below.trod hl hr hrow h1 hb (fun x hx => hp x (List.mem_append_left _ hx)), Hw hl hb (fun t h => ht t (List.mem_cons_of_mem _ h)) (fun x hx => hp x (List.mem_append_right _ hx)) h2, rfl⟩
theorem SC {f : Func} {s : ChangeSpec} {tb : TypeId} {W W' : World} {args : Array Value} {ds gs : List (DataW H)} {before : List MemPlace}
    (hl : laidOutB P = true) (hr : f.resultTypes = #[tb]) (htb : P.underlying tb = some .bool) (hread : ∀ t ∈ f.params.toList, P.readableRec t = true ∧ t < P.types.size)
    (hvars : s.vars = []) (hs : s.fn H ds = { results := [.lit (.bool true)], args := ds })
    (hW : DataW.Whole enc P f.params.toList s.vars false W args.toList ds gs before) (hb : Below W.heap.size W W') :
    s.post enc P f false true false false W args (.bool true) W' := by
  have hW' := hW
  obtain ⟨p, q, hA, hV, rfl, hfz, hnd⟩ := hW
  rw [hvars] at hV
  obtain ⟨rfl, rfl⟩ := trodVars_none hV
  have hlt : ∀ x ∈ p, x.block < W.heap.size := fun x hx => hW'.lt x (by simpa using hx)
  refine ⟨ds, [], p ++ [], [], p, [], hW', ?_, ?_, ?_, ?_, fun h => by cases h⟩
  · rw [List.append_nil, hs, hr]
    exact trodAll_cons_mk (shut_bool htb true) trodAll_mk0
  · rw [List.append_nil, hs]
    exact Hw hl hb hread hlt hA
  · rw [List.append_nil, hs, hvars]
    rfl
  · exact World.keptBut_mono (fun x hx => ⟨hx, .inr (.inl (by simpa using hx))⟩) (hb.frame (· ∈ p ++ []))
end
section
variable {H : Type} {enc : TypeId × Value → H} {P : Program}
theorem Rz {w : World} {a : Addr} {v : Value} (h : w.cell? a = some v) : a = ⟨a.block, a.off, none⟩ := by
 obtain ⟨b, o, s⟩ := a
 have : s = none := by simpa using World.cell?_spot h
 subst this
 rfl
theorem SZ {W : World} {base : Nat} {spare : Nat → Bool} {held : Bool} {t e : TypeId} {fuel : Nat} {cs : List Value} {x : DataW H × List MemPlace} (hu : U8 P t e) (hc : P.cellsOf e = 1)
    (hf : DataW.trod enc P W base spare held fuel t cs = some x) : ∃ A c l, cs = [.slice A l.length c] ∧ Bs (fun k => k < W.heap.size) W A c l ∧ ((x.1 = .nil ∧ l = []) ∨ ∃ es sp, x.1 = .slice es sp ∧ es.length = l.length) := by
  rcases open_ints hu.ht hu.he hc hf with ⟨hcs, hx⟩ | ⟨a, len, cap, zs, hcs, _, hl, hm, hz, hx, hcell, hwz⟩
  · subst hcs
    exact ⟨none, 0, [], rfl, Bs.nil _ _ _ (by simp [maxLen]), .inl ⟨by rw [hx], rfl⟩⟩
  · subst hcs
    have hlz : len ≤ zs.length := by rw [hz]; split <;> omega
    have e0 : ((zs.take len).map (fun z => UInt8.ofNat z.toNat)).length = len := by simp; omega
    refine ⟨some a, cap, (zs.take len).map (fun z => UInt8.ofNat z.toNat), by rw [e0], ⟨by omega, hm, fun hn => ?_⟩, .inr ⟨_, _, by rw [hx], by simp [lits]⟩⟩
    have h0 := hcell 0 (by omega)
    have hs : a = ⟨a.block, a.off, none⟩ := by
      have := h0
      rw [show a.add 0 = a by simp [Addr.add]] at this
      exact Rz this
    have hb := World.block_lt_of_cell? _ _ h0
    rw [hs, Addr.add_lit] at hb
    refine ⟨a.block, a.off, by rw [← hs], hb, fun j b hj => ?_⟩
    have hjl := (List.getElem?_eq_some_iff.1 hj).1
    rw [e0] at hjl
    have hcj := hcell j (by omega)
    rw [hs, Addr.add_lit] at hcj
    rw [hcj]
    have hbj : b = UInt8.ofNat (zs.getD j 0).toNat := by
      rw [List.getElem?_map, List.getElem?_take, if_pos (by omega), List.getElem?_eq_getElem (by omega)] at hj
      simp only [Option.map_some, Option.some.injEq] at hj
      rw [← hj, List.getD, List.getElem?_eq_getElem (by omega)]
      rfl
    have hw : 0 ≤ zs.getD j 0 ∧ zs.getD j 0 ≤ 255 := by
      have hmem : zs.getD j 0 ∈ zs := by
        rw [List.getD, List.getElem?_eq_getElem (show j < zs.length by omega)]
        exact List.getElem_mem _
      simpa [Lit.wf, IntKind.min, IntKind.max, IntKind.signed, IntKind.bits] using hwz _ hmem
    rw [hbj]
    unfold OI
    simp only [UInt8.toNat_ofNat']
    congr 2
    omega
theorem Na {W : World} {base : Nat} {spare : Nat → Bool} {held : Bool} {r : Reach} {b0 : Nat} {t e : TypeId} {v : Value} {d : DataW H} {p : List MemPlace} (hu : U8 P t e) (hc : P.cellsOf e = 1)
  (hval : Value.okWide P W r b0 t v) (h : DataW.Trod enc P W base spare held t v d p) : ∃ A c l, v = .slice A l.length c ∧ Bs (fun k => k < W.heap.size) W A c l ∧ ((d = .nil ∧ l = []) ∨ ∃ es sp, d = .slice es sp ∧ es.length = l.length) := by
 obtain ⟨a, len, cap, rfl⟩ := okWide_slice hu.ht hval
 obtain ⟨fuel, hf⟩ := h
 obtain ⟨A, c, l, hcs, hb, hd⟩ := SZ hu hc hf
 simp [Value.cells] at hcs
 obtain ⟨rfl, rfl, rfl⟩ := hcs
 exact ⟨a, cap, l, rfl, hb, hd⟩
end
theorem VC {x : Int} (h : (Lit.int .i64 x).wf = true) : -9223372036854775808 ≤ x ∧ x ≤ 9223372036854775807 := by
 simpa [Lit.wf, IntKind.min, IntKind.max, IntKind.signed, IntKind.bits] using h
theorem Nc {P : Program} {l : List TypeId} (h : l.all (fun t => P.readableRec t && decide (t < P.types.size)) = true) : ∀ t ∈ l, P.readableRec t = true ∧ t < P.types.size := by
 intro t ht
 have := List.all_eq_true.1 h t ht
 simpa using this
theorem Nb : Tryz.prog.cellsOf 5 = 1 := by kernel_rfl
theorem SB : Tryz.prog.bytesOf 5 = 1 := by kernel_rfl
theorem Xo {H : Type} {l : List (DataW H)} (hk : Rows.uptoSmall H l = true) : Rows.uptoBulkAll l ≤ 1048576 := of_decide_eq_true hk
end Go.Proofs.YtjcfimmcogkopaaGreat
namespace Go.Proofs.YtjcfimmcogkopaaGreat.Sep
open Go.ChangeShapes Go.WideShapes Go.ChangeAt Go.RowKit
section
variable {H : Type} {enc : TypeId × Value → H} {P : Program}
def Kz (P : Program) (t : TypeId) (d : DataW H) : Prop := ∀ n ∈ d.weights P t, n ≤ reachBytes
theorem Kz.len {t e : TypeId} {es sp : List (DataW H)} (h : Kz P t (.slice es sp)) (hu : P.underlying t = some (.slice e)) : es.length * P.bytesOf e ≤ reachBytes := by
 have := h ((es.length + sp.length) * P.bytesOf e) (by simp [DataW.weights, hu])
 exact Nat.le_trans (Nat.mul_le_mul_right _ (Nat.le_add_right _ _)) this
theorem JI {e : TypeId} : ∀ {es : List (DataW H)} {j : Nat} {d : DataW H}, es[j]? = some d → ∀ n ∈ d.weights P e, n ∈ DataW.weightsAll P e es
  | [], _, _, h, _, _ => by simp at h
  | d0 :: r, 0, d, h, n, hn => by
    simp only [List.getElem?_cons_zero, Option.some.injEq] at h
    subst h
    simp only [DataW.weightsAll, List.mem_append]
    exact .inl hn
  | d0 :: r, j + 1, d, h, n, hn => by
    simp only [List.getElem?_cons_succ] at h
    simp only [DataW.weightsAll, List.mem_append]
    exact .inr (JI h n hn)
theorem Kz.elem {t e : TypeId} {es sp : List (DataW H)} (h : Kz P t (.slice es sp)) (hu : P.underlying t = some (.slice e)) {j : Nat} {d : DataW H} (hd : es[j]? = some d) : Kz P e d := fun n hn => by
 refine h n ?_
 have := JI (P := P) hd n hn
 simp [DataW.weights, hu, this]
end
end Go.Proofs.YtjcfimmcogkopaaGreat.Sep
namespace Go.Proofs.YtjcfimmcogkopaaGreat.Sep
open Go.RowKit
open Go.Proofs.YtjcfimmcogkopaaGreat.Mem (AZ Ci Chg Au)
def encW (v : Value) : List Value := [if v.oneCell' = true then v else .nilIface]
theorem Vs : EncOf 1 encW := ⟨fun _ => rfl, fun v x h => by
  unfold encW at h
  rw [List.mem_singleton] at h
  subst h
  split
  · assumption
  · rfl⟩
theorem NJ {v : Value} (h : v.oneCell' = true) : encW v = [v] := by unfold encW; rw [if_pos h]
abbrev PtT := Value × List UInt8
def AV (te : TypeId) (v : Value) (l : List PtT) : Ass := Do [Ap te 1 encW v (l.map (·.1)), De (fun x : PtT => Ap 5 1 encB x.1 x.2) l]
section
variable {P : Program} {te t : TypeId} {v u : Value} {l : List PtT} {d : List UInt8} {w w0 : World} {rs : List RowT} {B : Nat → Prop} {os : List Ass} {Q : Exit → Act → World → Prop} {n : Nat} {env : List (Nat × Value)} {o : Oper} {act : Act}
theorem LC : ∀ rs, AV te v l rs → ∃ _ : Unit, Ak [Ap te 1 encW v (l.map (·.1)), De (fun x : PtT => Ap 5 1 encB x.1 x.2) l] rs := fun _ h => ⟨(), h⟩
theorem LD : ∀ rs, Ak [Ap te 1 encW v (l.map (·.1) ++ [u]), De (fun x : PtT => Ap 5 1 encB x.1 x.2) l, Ap 5 1 encB u d] rs → AV te v (l ++ [(u, d)]) rs := fun rs h => by
  obtain ⟨a, b, e, h1, h2⟩ := h
  refine ⟨a, b, e, ?_, Ak.one (HJ (x := ((u, d) : PtT)) _ h2)⟩
  rw [List.map_append]; exact h1
theorem NK : AV te (.slice none 0 0) [] [] := ⟨[], [], rfl, OL _ _ _, [], [], rfl, Ey, rfl⟩
theorem AV.at_ (h : AV te v l rs) (hr : RowsOf w rs) {j : Nat} (hj : l[j]? = some (u, d)) : ∃ ys, Ap 5 1 encB u d ys ∧ RowsOf w ys := by
 obtain ⟨a, b, e, h1, h2⟩ := h
 subst e
 exact (Ak.one' h2).at_ (f := fun x : PtT => Ap 5 1 encB x.1 x.2) (x := ((u, d) : PtT)) (AN.2 fun z hz => AN.1 hr z (by simp [hz])) hj
theorem UG {j : Nat} (hj : l[j]? = some (u, d)) : Cu (AV te v l) u d := fun rs w h1 h2 => by
 obtain ⟨ys, h3, h4⟩ := h1.at_ h2 hj
 exact G7 h3 h4
theorem Hp.prtVec (h : Hp B w0 w os) (i : Nat) (hi : os[i]? = some (AV te v l)) : ∃ rs, Ap te 1 encW v (l.map (·.1)) rs ∧ RowsOf w rs := by
  obtain ⟨rs, ⟨a, b, e, h1, _⟩, h2⟩ := h.thing i hi
  exact ⟨a, h1, AN.2 fun z hz => AN.1 h2 z (by rw [e]; simp [hz])⟩
theorem Gz (i : Nat) (hu : P.underlying t = some (.slice te)) (hi : os[i]? = some (AV te v l)) {x : Operand} (ho : o.op = .call { callee := .builtin .len, args := #[x], argTypes := #[t] }) (hx : evs env x = some v) (hH : Hp B w0 w os) (hF : Fr n act env) : (execOp act.eval o).run P w = .ok (.value (.int .i64 (l.length : Int))) w := by
 obtain ⟨rs, hv, _⟩ := hH.prtVec i hi
 obtain ⟨A, c, rfl⟩ := hv.is
 rw [List.length_map] at hx
 exact ER ho (vs := [.slice A l.length c]) (by simp [evl, hx]) (fun cs => Eu hu A _ c _ w cs) hF
theorem RA {a : List Value} (hO : DQ P te) (hv : Ap te 1 encW v a rs) (hr : RowsOf w rs) {j : Nat} (hj : a[j]? = some u) (h1 : u.oneCell' = true) {x : Operand} (ho : o.op = .load te x) (hx : evs env x = some (Cs v (j * 1))) (hF : Fr n act env) : (execOp act.eval o).run P w = .ok (.value u) w := by
  rcases hv with ⟨_, h2, _⟩ | ⟨g, cap, cs, h2, _, _, _, h5, h6⟩
  · subst h2; simp at hj
  · subst h2; subst h6
    have hcell : cs[j]? = some u := by
      refine Ap.take_ Vs h5 ?_
      have := Ip Vs hj (j := 0) (by decide)
      rw [Nat.mul_one, Nat.add_zero] at this
      rw [this, NJ h1]; rfl
    refine Bb ho (off := j) (t := te) (g := g) (cs := cs) ?_ (Bn hO hcell) hr.1 hF
    rw [hx]; simp [Cs]
theorem MD (i : Nat) (hT : SliceT P t te 1) (hi : os[i]? = some (AV te v l)) (j : Nat) (hj : j < l.length) {x y : Operand} {kk : IntKind} (ho : o.op = .indexAddr t x y) (hx : evs env x = some v) (hy : evs env y = some (.int kk (j : Int))) (hH : Hp B w0 w os) (hF : Fr n act env) : (execOp act.eval o).run P w = .ok (.value (Cs v (j * 1))) w := by
  obtain ⟨rs, h1, h2⟩ := hH
  obtain ⟨a, y', b, e, h3, h4⟩ := Ak.at_ h1 hi
  obtain ⟨c, z, e2, h5, h6⟩ := h3
  have hH2 : Hp B w0 w [Ap te 1 encW v (l.map (·.1)), fun r => ∃ p q, r = p ++ q ∧ p = a ∧ (Ak [De (fun x : PtT => Ap 5 1 encB x.1 x.2) l] z ∧ q = z ++ b)] := by
    refine ⟨c ++ (a ++ (z ++ b)), ⟨c, a ++ (z ++ b), rfl, h5, a ++ (z ++ b), [], by simp, ⟨a, z ++ b, rfl, rfl, h6, rfl⟩, rfl⟩, CN h2 ?_⟩
    rw [e, e2]
    have : (a ++ (c ++ z ++ b)).Perm (c ++ (a ++ (z ++ b))) := by
      rw [List.append_assoc, ← List.append_assoc, ← List.append_assoc c a]
      exact List.perm_append_comm.append_right _
    simpa using this
  exact Kl 0 hT Vs rfl j (by rw [List.length_map]; exact hj) ho hx hy hH2 hF
theorem JY (i : Nat) (hO : DQ P te) (hi : os[i]? = some (AV te v l)) (j : Nat) (hj : l[j]? = some (u, d)) {x : Operand} (ho : o.op = .load te x) (hx : evs env x = some (Cs v (j * 1))) (hH : Hp B w0 w os) (hF : Fr n act env) : (execOp act.eval o).run P w = .ok (.value u) w := by
 obtain ⟨rs, h1, h2⟩ := hH.thing i hi
 obtain ⟨ys, h3, _⟩ := h1.at_ h2 hj
 obtain ⟨rs2, h4, h5⟩ := hH.prtVec i hi
 exact RA hO h4 h5 (j := j) (by rw [List.getElem?_map, hj]; rfl) h3.c1.2 ho hx hF
theorem NL (q : Nat) {e' : TypeId} {k' : Nat} {α : Type} {enc' : α → List Value} {l' : List α} (hT : SliceT P t te 1) (hq : os[q]? = some (Ap e' k' enc' u l')) {x : Operand} (ho : o.op = .buildSlice t 1 #[(0, x)]) (hx : evs env x = some u) : Bq P Q n env B w0 os o (fun v : Value => v) (fun v => Ap te 1 encW v [u] :: os) := fun b w hH hF K hK => by
 obtain ⟨rs, h1, _⟩ := hH.thing q hq
 exact Nv hT Vs u (NJ h1.c1.2) ho hx b w hH hF K hK
end
structure PtV where
  A : Option Addr
  c : Nat
  d : List UInt8
def PtV.v (x : PtV) : Value := .slice x.A x.d.length x.c
def WX (x : PtV) : List Value := [x.v]
instance : Inhabited PtV := ⟨⟨none, 0, []⟩⟩
def S0 (w : World) (v : Value) (l : List PtV) : Prop := DX w 1 v l.length (flat WX l) ∧ ∀ x, x ∈ l → D6 w x.v x.d
section
variable {u w w0 : World} {v : Value} {l : List PtV} {B : Nat → Prop} {os : List Ass}
theorem S0.below (h : S0 u v l) (hb : Below u.heap.size u w) : S0 w v l := ⟨h.1.below hb, fun x hx => (h.2 x hx).below hb⟩
end
theorem JZ {A : Option Addr} {n c j : Nat} : Cp 1 (.slice A n c) 0 j = .slice A j c := by
  have e : A.map (·.add 0) = A := by
    cases A with
    | none => rfl
    | some a =>
      have : a.add 0 = a := by obtain ⟨b, o, q⟩ := a; cases q <;> simp [Addr.add]
      simp [this]
  simp [Cp, e]
structure PsV where
  v : Value
  l : List PtT
end Go.Proofs.YtjcfimmcogkopaaGreat.Sep
namespace Go.Proofs.YtjcfimmcogkopaaGreat.Sep
abbrev FS := List (List UInt8 × List UInt8)
inductive OpD where
  | app (n b : List UInt8)
  | cut (n : List UInt8) (size : Nat)
  | ren (a b : List UInt8)
  | del (n : List UInt8)
def AP (f : FS) : OpD → FS
  | .app n b => Bx f n ((AL f n).getD [] ++ b)
  | .cut n s => match AL f n with | some x => Bx f n (x.take s) | none => f
  | .ren a b => match AL f a with | some x => Bx (BR f a) b x | none => f
  | .del n => BR f n
def AF (f : FS) : Nat := (f.map fun p => p.2.length).sum
theorem F0 {f : FS} (h : (AH f).Nodup) (o : OpD) : (AH (AP f o)).Nodup := by
  cases o with
  | app n b => exact B6 h
  | cut n s =>
    show (AH (match AL f n with | some x => Bx f n (x.take s) | none => f)).Nodup
    split
    · exact B6 h
    · exact h
  | ren a b =>
    show (AH (match AL f a with | some x => Bx (BR f a) b x | none => f)).Nodup
    split
    · exact B6 (BW h)
    · exact h
  | del n => exact BW h
theorem E0 : ∀ (l : List OpD) {f : FS}, (AH f).Nodup → (AH (l.foldl AP f)).Nodup
  | [], _, h => h
  | o :: r, _, h => E0 r (F0 h o)
theorem Hx {f : FS} (h : (AH f).Nodup) : f.Nodup := (List.Pairwise.of_map (fun p : List UInt8 × List UInt8 => p.1) (fun a b (hab : a.1 ≠ b.1) e => hab (by rw [e])) h)
theorem DU {f g : FS} (hf : (AH f).Nodup) (hg : (AH g).Nodup) (h : ∀ p, p ∈ f ↔ p ∈ g) : f.Perm g :=
 (List.perm_ext_iff_of_nodup (Hx hf) (Hx hg)).2 h
theorem CD {f g : FS} (h : f.Perm g) : (AH f).Perm (AH g) := h.map _
theorem D7 {f g : FS} (h : f.Perm g) (hf : (AH f).Nodup) (k : List UInt8) : AL f k = AL g k := by
  have hg : (AH g).Nodup := (CD h).nodup_iff.1 hf
  cases e : AL g k with
  | none => rw [Cw] at e ⊢; exact fun hm => e ((CD h).mem_iff.1 hm)
  | some x => exact (Cn hf).2 (h.mem_iff.2 ((Cn hg).1 e))
theorem KA {f g : FS} (h : f.Perm g) (hf : (AH f).Nodup) (k x : List UInt8) : (Bx f k x).Perm (Bx g k x) := by
 have hg : (AH g).Nodup := (CD h).nodup_iff.1 hf
 refine DU (B6 hf) (B6 hg) fun p => ?_
 rw [ET hf, ET hg, h.mem_iff]
theorem NM {f g : FS} (h : f.Perm g) (hf : (AH f).Nodup) (k : List UInt8) : (BR f k).Perm (BR g k) := by
 have hg : (AH g).Nodup := (CD h).nodup_iff.1 hf
 refine DU (BW hf) (BW hg) fun p => ?_
 rw [Dn hf, Dn hg, h.mem_iff]
theorem RB {f g : FS} (h : f.Perm g) (hf : (AH f).Nodup) (o : OpD) : (AP f o).Perm (AP g o) := by
  cases o with
  | app n b =>
    show (Bx f n _).Perm (Bx g n _)
    rw [D7 h hf]; exact KA h hf _ _
  | cut n s =>
    show List.Perm (match AL f n with | some x => Bx f n (x.take s) | none => f) (match AL g n with | some x => Bx g n (x.take s) | none => g)
    rw [D7 h hf]
    split
    · exact KA h hf _ _
    · exact h
  | ren a b =>
    show List.Perm (match AL f a with | some x => Bx (BR f a) b x | none => f) (match AL g a with | some x => Bx (BR g a) b x | none => g)
    rw [D7 h hf]
    split
    · exact KA (NM h hf _) (BW hf) _ _
    · exact h
  | del n => exact NM h hf _
theorem Dj {f g : FS} (h : f.Perm g) : AF f = AF g := (h.map _).sum_nat
theorem LE (p : List UInt8 × List UInt8) (f : FS) : AF (p :: f) = p.2.length + AF f := by simp [AF]
theorem KB (f g : FS) : AF (f ++ g) = AF f + AF g := by simp [AF]
theorem Pd {f : FS} {k x : List UInt8} (hf : (AH f).Nodup) (h : AL f k = some x) : f.Perm ((k, x) :: BR f k) := by
  have hm := (Cn hf).1 h
  have hd := BW (k := k) hf
  have hn : (AH ((k, x) :: BR f k)).Nodup := List.nodup_cons.2 ⟨fun hm => by
    obtain ⟨p, hp, e⟩ := List.mem_map.1 hm
    exact ((Dn hf p).1 hp).2 e, hd⟩
  refine DU hf hn fun p => ?_
  rw [List.mem_cons, Dn hf]
  constructor
  · intro hp
    by_cases e : p.1 = k
    · left
      have := (Cn (x := p.2) hf).2 (show (k, p.2) ∈ f by rw [← e]; exact hp)
      rw [h] at this
      exact Prod.ext e (Option.some.inj this).symm
    · exact .inr ⟨hp, e⟩
  · rintro (rfl | ⟨hp, _⟩)
    · exact hm
    · exact hp
theorem FF {f : FS} {k x : List UInt8} (hf : (AH f).Nodup) (h : AL f k = some x) : AF (BR f k) + x.length = AF f := by
 rw [Dj (Pd hf h), LE]; simp only; omega
theorem KC {f : FS} {k : List UInt8} (h : AL f k = none) : BR f k = f := by
 unfold BR
 unfold AL at h
 rw [Option.map_eq_none_iff.1 h]
theorem IE {f : FS} {k x : List UInt8} (h : AL f k = none) : AF (Bx f k x) = AF f + x.length := by
 rw [ES h, KB]; simp [AF]
theorem F1 {f : FS} {k x y : List UInt8} (hf : (AH f).Nodup) (h : AL f k = some y) : AF (Bx f k x) + y.length = AF f + x.length := by
  have hp := B6 (k := k) (x := x) hf
  have h1 : AL (Bx f k x) k = some x := by rw [CO hf, if_pos rfl]
  have h2 := FF hp h1
  have h3 := FF hf h
  have h4 : (BR (Bx f k x) k).Perm (BR f k) := DU (BW hp) (BW hf) fun p => by
    rw [Dn hp, ET hf, Dn hf]
    constructor
    · rintro ⟨rfl | h, h'⟩
      · exact absurd rfl h'
      · exact h
    · rintro ⟨h, h'⟩
      exact ⟨.inr ⟨h, h'⟩, h'⟩
  rw [Dj h4] at h2
  omega
theorem GA {f : FS} (hf : (AH f).Nodup) (n b : List UInt8) : AF (AP f (.app n b)) = AF f + b.length := by
  show AF (Bx f n _) = _
  cases h : AL f n with
  | none => rw [IE h]; simp
  | some y =>
    have := F1 (x := y ++ b) hf h
    rw [List.length_append] at this
    simp only [Option.getD_some]
    omega
structure DiskD where
  room : Int
  syn : FS
  wait : List OpD
  fuse : Option Nat
  down : Bool
def DiskD.now (d : DiskD) : FS := d.wait.foldl AP d.syn
def Bj (d : DiskD) : DiskD × Nat :=
  if d.down = true ∨ d.fuse = some 0 then ({ d with down := true }, 3) else ({ d with fuse := d.fuse.map (· - 1) }, 0)
def Cv (n : List UInt8) : Bool := decide (1 ≤ n.length) && decide (n.length ≤ 16)
def Cj (d : DiskD) (o : OpD) : DiskD := { d with wait := d.wait ++ [o] }
theorem Cg (d : DiskD) (o : OpD) : (Cj d o).now = AP d.now o := by
 show (d.wait ++ [o]).foldl AP d.syn = _
 rw [List.foldl_append]; rfl
def D8 (d : DiskD) (n b : List UInt8) : Bool := decide ((AF d.now : Int) + (b.length : Int) ≤ d.room) && !((AL d.now n).isNone && decide (64 ≤ d.now.length))
def Cc (d : DiskD) (n b : List UInt8) : DiskD × Nat :=
  match Bj d with
  | (d1, e) => if e ≠ 0 then (d1, e) else if Cv n = false then (d1, 1) else if D8 d1 n b = false then (d1, 2) else (Cj d1 (.app n b), 0)
def NN (d : DiskD) (n : List UInt8) (s : Int) : DiskD × Nat :=
  match Bj d with
  | (d1, e) => if e ≠ 0 then (d1, e) else match AL d1.now n with
    | none => (d1, 4)
    | some x => if s < 0 ∨ (x.length : Int) < s then (d1, 1) else (Cj d1 (.cut n s.toNat), 0)
def Jf (d : DiskD) (a b : List UInt8) : DiskD × Nat :=
  match Bj d with
  | (d1, e) => if e ≠ 0 then (d1, e) else if Cv b = false then (d1, 1) else match AL d1.now a with
    | none => (d1, 4)
    | some _ => (Cj d1 (.ren a b), 0)
def Fw (d : DiskD) (n : List UInt8) : DiskD × Nat :=
  match Bj d with
  | (d1, e) => if e ≠ 0 then (d1, e) else match AL d1.now n with
    | none => (d1, 4)
    | some _ => (Cj d1 (.del n), 0)
def Fa (d : DiskD) : DiskD × Nat :=
  match Bj d with
  | (d1, e) => if e ≠ 0 then (d1, e) else ({ d1 with syn := d1.now, wait := [] }, 0)
def Bo (d : DiskD) (n : List UInt8) : Option (List UInt8) := if d.down = true then none else AL d.now n
def QC (d : DiskD) : Nat := if d.down = true then 0 else AF d.now
def Df (d : DiskD) (keep : Int) : Nat := (keep % ((d.wait.length : Int) + 1)).toNat
def C3 (d : DiskD) (keep torn : Int) : FS :=
  match d.wait[Df d keep]? with
  | some (.app n b) => if (torn % (b.length : Int)).toNat = 0 ∨ b = [] then (d.wait.take (Df d keep)).foldl AP d.syn else AP ((d.wait.take (Df d keep)).foldl AP d.syn) (.app n (b.take (torn % (b.length : Int)).toNat))
  | _ => (d.wait.take (Df d keep)).foldl AP d.syn
def C4 (d : DiskD) (keep torn : Int) : DiskD := ⟨d.room, C3 d keep torn, [], none, false⟩
def HK (room : Int) : DiskD := ⟨room, [], [], none, false⟩
theorem IF (d : DiskD) (keep : Int) : Df d keep ≤ d.wait.length := by
 unfold Df
 have h1 := Int.emod_nonneg keep (show ((d.wait.length : Int) + 1) ≠ 0 by omega)
 have h2 := Int.emod_lt_of_pos keep (show 0 < (d.wait.length : Int) + 1 by omega)
 omega
end Go.Proofs.YtjcfimmcogkopaaGreat.Sep
namespace Go.Proofs.YtjcfimmcogkopaaGreat.Sep
open Go.RowKit
open Go.Proofs.YtjcfimmcogkopaaGreat.Mem (AZ Ci Chg Au)
theorem EU : DQ Tryz.prog 78 := Fx Tryz.underlying78 rfl (by kernel_rfl)
theorem ME : Nh Tryz.prog 78 #[.slice none 0 0] := JU (z := .slice none 0 0) (by kernel_rfl) rfl
theorem AD : DQ Tryz.prog 55 := Fx Tryz.underlying55 rfl (by kernel_rfl)
theorem CE : DQ Tryz.prog 59 := Fx Tryz.underlying59 rfl (by kernel_rfl)
theorem BU : DQ Tryz.prog 66 := Fx Tryz.underlying66 rfl (by kernel_rfl)
theorem Cy : DQ Tryz.prog 32 := Fx Tryz.underlying32 rfl (by kernel_rfl)
theorem Du : If Tryz.prog 31 3 := Nf Tryz.underlying31 rfl (by kernel_rfl)
theorem BJ : DQ Tryz.prog 40 := Fx Tryz.underlying40 rfl (by kernel_rfl)
theorem BP : DQ Tryz.prog 4 := Fx Tryz.underlying4 rfl (by kernel_rfl)
theorem DO : If Tryz.prog 54 2 := Nf Tryz.underlying54 rfl (by kernel_rfl)
theorem FG : If Tryz.prog 107 5 := Nf Tryz.underlying107 rfl (by kernel_rfl)
theorem AT : DQ Tryz.prog 68 := Fx Tryz.underlying68 rfl (by kernel_rfl)
theorem EV : DQ Tryz.prog 101 := Fx Tryz.underlying101 rfl (by kernel_rfl)
theorem Cm : If Tryz.prog 103 5 := Nf Tryz.underlying103 rfl (by kernel_rfl)
theorem IG : Nh Tryz.prog 103 #[.int .i64 0, .string { data := #[] }, .slice none 0 0, .int .i64 0, .string { data := #[] }] := JU (z := .agg #[.int .i64 0, .string { data := #[] }, .slice none 0 0, .int .i64 0, .string { data := #[] }]) (by kernel_rfl) rfl
theorem Bt : DQ Tryz.prog 3 := Fx Tryz.underlying3 rfl (by kernel_rfl)
theorem VU : Nh Tryz.prog 3 #[.int .i64 0] := JU (z := .int .i64 0) (by kernel_rfl) rfl
theorem AX : DQ Tryz.prog 9 := Fx Tryz.underlying9 rfl (by kernel_rfl)
theorem Bz : DQ Tryz.prog 29 := Fx Tryz.underlying29 rfl (by kernel_rfl)
theorem B0 : DQ Tryz.prog 5 := Fx Tryz.underlying5 rfl (by kernel_rfl)
theorem Ll : Bl Tryz.prog 31 0 0 := fun g off w => by kernel_rfl
theorem Lm : Bl Tryz.prog 31 1 1 := fun g off w => by kernel_rfl
theorem Ln : Bl Tryz.prog 31 2 2 := fun g off w => by kernel_rfl
theorem GB : Bl Tryz.prog 36 0 0 := fun g off w => by kernel_rfl
theorem GC : Bl Tryz.prog 36 1 1 := fun g off w => by kernel_rfl
theorem GD : Bl Tryz.prog 36 2 2 := fun g off w => by kernel_rfl
theorem F2 : Bl Tryz.prog 83 0 0 := fun g off w => by kernel_rfl
theorem F3 : Bl Tryz.prog 83 2 2 := fun g off w => by kernel_rfl
theorem GE : Bl Tryz.prog 61 0 0 := fun g off w => by kernel_rfl
theorem GG : Bl Tryz.prog 61 1 1 := fun g off w => by kernel_rfl
theorem GH : Bl Tryz.prog 61 2 2 := fun g off w => by kernel_rfl
theorem GI : Bl Tryz.prog 61 3 3 := fun g off w => by kernel_rfl
theorem GJ : Bl Tryz.prog 61 4 4 := fun g off w => by kernel_rfl
theorem GK : Bl Tryz.prog 61 5 5 := fun g off w => by kernel_rfl
theorem GL : Bl Tryz.prog 61 6 6 := fun g off w => by kernel_rfl
theorem Bu : Bl Tryz.prog 54 0 0 := fun g off w => by kernel_rfl
theorem BF : Bl Tryz.prog 54 1 1 := fun g off w => by kernel_rfl
theorem HO : Bl Tryz.prog 107 0 0 := fun g off w => by kernel_rfl
theorem HP : Bl Tryz.prog 107 1 1 := fun g off w => by kernel_rfl
theorem HU : Bl Tryz.prog 107 2 2 := fun g off w => by kernel_rfl
theorem HW : Bl Tryz.prog 107 3 3 := fun g off w => by kernel_rfl
theorem H0 : Bl Tryz.prog 107 4 4 := fun g off w => by kernel_rfl
theorem KD : Bl Tryz.prog 70 0 0 := fun g off w => by kernel_rfl
theorem KE : Bl Tryz.prog 70 1 1 := fun g off w => by kernel_rfl
theorem KF : Bl Tryz.prog 70 2 2 := fun g off w => by kernel_rfl
theorem KG : Bl Tryz.prog 70 3 3 := fun g off w => by kernel_rfl
theorem KH : Bl Tryz.prog 70 4 4 := fun g off w => by kernel_rfl
theorem KJ : Bl Tryz.prog 70 5 5 := fun g off w => by kernel_rfl
theorem Hj : Bl Tryz.prog 103 0 0 := fun g off w => by kernel_rfl
theorem Hk : Bl Tryz.prog 103 1 1 := fun g off w => by kernel_rfl
theorem Hl : Bl Tryz.prog 103 2 2 := fun g off w => by kernel_rfl
theorem Hm : Bl Tryz.prog 103 3 3 := fun g off w => by kernel_rfl
theorem Hn : Bl Tryz.prog 103 4 4 := fun g off w => by kernel_rfl
theorem Jg : Bl Tryz.prog 138 0 0 := fun g off w => by kernel_rfl
theorem Jh : Bl Tryz.prog 138 1 1 := fun g off w => by kernel_rfl
theorem Dv : SliceT Tryz.prog 78 32 1 := EY (z := .slice none 0 0) Tryz.underlying78 (by kernel_rfl) rfl rfl (by decide)
theorem Ar : SliceT Tryz.prog 55 54 2 := EY (z := .agg #[.string { data := #[] }, .slice none 0 0]) Tryz.underlying55 (by kernel_rfl) rfl rfl (by decide)
theorem DA : SliceT Tryz.prog 59 107 5 := EY (z := .agg #[.int .i64 0, .string { data := #[] }, .string { data := #[] }, .slice none 0 0, .int .i64 0]) Tryz.underlying59 (by kernel_rfl) rfl rfl (by decide)
theorem Cx : SliceT Tryz.prog 66 103 5 := EY (z := .agg #[.int .i64 0, .string { data := #[] }, .slice none 0 0, .int .i64 0, .string { data := #[] }]) Tryz.underlying66 (by kernel_rfl) rfl rfl (by decide)
theorem E1 : SliceT Tryz.prog 93 9 1 := EY (z := .string { data := #[] }) Tryz.underlying93 (by kernel_rfl) rfl rfl (by decide)
theorem AE : SliceT Tryz.prog 32 5 1 := EY (z := .int .u8 0) Tryz.underlying32 (by kernel_rfl) rfl rfl (by decide)
def flS : List ((Nat × Nat) × Nat) := [((31, 0), 0), ((31, 1), 1), ((31, 2), 2), ((36, 0), 0), ((36, 1), 1), ((36, 2), 2), ((83, 0), 0), ((83, 2), 2), ((61, 0), 0), ((61, 1), 1), ((61, 2), 2), ((61, 3), 3), ((61, 4), 4), ((61, 5), 5), ((61, 6), 6), ((54, 0), 0), ((54, 1), 1), ((107, 0), 0), ((107, 1), 1), ((107, 2), 2), ((107, 3), 3), ((107, 4), 4), ((70, 0), 0), ((70, 1), 1), ((70, 2), 2), ((70, 3), 3), ((70, 4), 4), ((70, 5), 5), ((103, 0), 0), ((103, 1), 1), ((103, 2), 2), ((103, 3), 3), ((103, 4), 4), ((138, 0), 0), ((138, 1), 1)]
theorem An : Ke Tryz.prog flS := Mo ⟨Ll, Lm, Ln, GB, GC, GD, F2, F3, GE, GG, GH, GI, GJ, GK, GL, Bu, BF, HO, HP, HU, HW, H0, KD, KE, KF, KG, KH, KJ, Hj, Hk, Hl, Hm, Hn, Jg, Jh, trivial⟩
theorem Xr (b c : Bool) : SF Tryz.prog 4 (.bool b) (.bool c) (b == c) := fun x y w => by
 cases b <;> cases c <;> go_simp
theorem Xp (b c : Bool) : WK Tryz.prog 4 (.bool b) (.bool c) (b != c) := fun x y w => by
 cases b <;> cases c <;> go_simp
theorem NO (b : Bool) : SF Tryz.prog 4 (.bool b) (.bool b) true := by
 have h := Xr b b
 rwa [show (b == b) = true by simp] at h
theorem VV (a b c d e f : Int) : SF Tryz.prog 31 (.agg #[.int .u64 a, .int .u64 b, .int .i64 c]) (.agg #[.int .u64 d, .int .u64 e, .int .i64 f]) (a == d && (b == e && c == f)) := fun x y w => by
 go_simp
 by_cases h1 : a = d <;> by_cases h2 : b = e <;> by_cases h3 : c = f <;> simp [h1, h2, h3]
end Go.Proofs.YtjcfimmcogkopaaGreat.Sep
namespace Go.Proofs.YtjcfimmcogkopaaGreat.Sep
open Go.RowKit
open Go.Proofs.YtjcfimmcogkopaaGreat.Mem (AZ Ci Chg Au)
def encKey (s : List UInt8) : Value := .string (bs s)
def AJ (x : PtT) : Value := x.1
abbrev FilL := List (List UInt8 × PtT)
theorem Dk : MapTy Tryz.prog 68 9 32 .string encKey (.slice none 0 0) := Rr Tryz.underlying68 Tryz.underlying9 (fun w => by kernel_rfl)
def Bp (L : FilL) : Ass := De (fun p : List UInt8 × PtT => Ap 5 1 encB p.2.1 p.2.2) L
def Cd (L : FilL) : FS := L.map fun p => (p.1, p.2.2)
theorem Ez (L : FilL) : AH (Cd L) = AH L := by simp [AH, Cd]
theorem J0 {L : FilL} {p : List UInt8 × PtT} (h : p ∈ L) : Cu (Bp L) p.2.1 p.2.2 := fun rs w h1 h2 => by
 obtain ⟨j, hj⟩ := List.getElem?_of_mem h
 obtain ⟨ys, h3, h4⟩ := De.at_ h1 h2 hj
 exact G7 h3 h4
theorem J1 {α β γ : Type} [DecidableEq α] (g : β → γ) (k : α) : ∀ (L : List (α × β)) (i : Nat), EG k (L.map fun p => (p.1, g p.2)) i = (EG k L i).map fun q => (q.1, g q.2)
  | [], i => rfl
  | p :: L, i => by
    simp only [List.map_cons, EG]
    split
    · rfl
    · exact J1 g k L (i + 1)
theorem S1 {α β γ : Type} [DecidableEq α] (g : β → γ) (k : α) (L : List (α × β)) : AL (L.map fun p => (p.1, g p.2)) k = (AL L k).map g := by
 unfold AL
 rw [J1, Option.map_map, Option.map_map]; rfl
theorem S2 {α β γ : Type} [DecidableEq α] (g : β → γ) (k : α) (x : β) (L : List (α × β)) : Bx (L.map fun p => (p.1, g p.2)) k (g x) = (Bx L k x).map fun p => (p.1, g p.2) := by
  unfold Bx
  rw [J1]
  cases EG k L 0 with
  | none => simp
  | some q => simp [List.map_set]
theorem S3 {α β γ : Type} [DecidableEq α] (g : β → γ) (k : α) (L : List (α × β)) : BR (L.map fun p => (p.1, g p.2)) k = (BR L k).map fun p => (p.1, g p.2) := by
  unfold BR
  rw [J1]
  cases EG k L 0 with
  | none => rfl
  | some q => simp [List.eraseIdx_eq_take_drop_succ, List.map_take, List.map_drop]
theorem D9 (L : FilL) (k : List UInt8) : AL (Cd L) k = (AL L k).map (·.2) := S1 (fun x : PtT => x.2) k L
theorem IH (L : FilL) (k : List UInt8) (x : PtT) : Bx (Cd L) k x.2 = Cd (Bx L k x) := S2 (fun x : PtT => x.2) k x L
theorem NP (L : FilL) (k : List UInt8) : BR (Cd L) k = Cd (BR L k) := S3 (fun x : PtT => x.2) k L
def Ax (v : Value) (f : FS) : Ass := fun rs => ∃ L : FilL, f = Cd L ∧ Ak [BB encKey AJ v L, Bp L] rs
theorem Fb {v : Value} {f : FS} : ∀ rs, Ax v f rs → ∃ x : { L : FilL // f = Cd L }, Ak [BB encKey AJ v x.1, Bp x.1] rs := fun _ ⟨L, h, h'⟩ => ⟨⟨L, h⟩, h'⟩
theorem QD {L : FilL} {k : List UInt8} {q : Nat × PtT} (h : EG k L 0 = some q) : L[q.1]? = some (k, q.2) := (Dt h).2
theorem GM {L : FilL} {k : List UInt8} {q : Nat × PtT} (h : EG k L 0 = some q) : ∀ rs, Bp L rs → ∃ _ : Unit, Ak [Bp (L.take q.1), Ap 5 1 encB q.2.1 q.2.2, Bp (L.drop (q.1 + 1))] rs := Rx (QD h)
theorem UH {L : FilL} {k : List UInt8} {q : Nat × PtT} (h : EG k L 0 = some q) (y : PtT) : ∀ rs, Ak [Bp (L.take q.1), Ap 5 1 encB y.1 y.2, Bp (L.drop (q.1 + 1))] rs → Bp (Bx L k y) rs := fun rs hr => by
 have h1 := Ry (f := fun p : List UInt8 × PtT => Ap 5 1 encB p.2.1 p.2.2) (y := (k, y)) rs hr
 rw [SY (y := (k, y)) (List.getElem?_eq_some_iff.1 (QD h)).1] at h1
 unfold Bp Bx
 rw [h]
 exact h1
theorem QE {L : FilL} {k : List UInt8} (h : EG k L 0 = none) (y : PtT) : ∀ rs, Ak [Bp L, Ap 5 1 encB y.1 y.2] rs → Bp (Bx L k y) rs := fun rs hr => by
 have h1 := HJ (f := fun p : List UInt8 × PtT => Ap 5 1 encB p.2.1 p.2.2) (x := (k, y)) rs hr
 unfold Bp Bx
 rw [h]
 exact h1
theorem H1 {α : Type} {l : List α} {j : Nat} {x : α} (h : l[j]? = some x) : (l.eraseIdx j).length < l.length := by
 have := (List.getElem?_eq_some_iff.1 h).1
 rw [List.length_eraseIdx, if_pos this]; omega
theorem KK {l : FilL} {j : Nat} {p : List UInt8 × PtT} (h : l[j]? = some p) : AF (Cd (l.eraseIdx j)) + p.2.2.length = AF (Cd l) := by
 have hlt := (List.getElem?_eq_some_iff.1 h).1
 have hx := (List.getElem?_eq_some_iff.1 h).2
 have h1 : l = l.take j ++ p :: l.drop (j + 1) := by rw [← hx]; simp
 have h2 : l.eraseIdx j = l.take j ++ l.drop (j + 1) := List.eraseIdx_eq_take_drop_succ ..
 have e1 : Cd l = Cd (l.take j) ++ (p.1, p.2.2) :: Cd (l.drop (j + 1)) := by
  have := congrArg Cd h1
  rw [this]; simp [Cd]
 have e2 : Cd (l.eraseIdx j) = Cd (l.take j) ++ Cd (l.drop (j + 1)) := by rw [h2]; simp [Cd]
 rw [e1, e2, KB, KB, LE]
 show _ + p.2.2.length = _ + (p.2.2.length + _)
 omega
end Go.Proofs.YtjcfimmcogkopaaGreat.Sep
namespace Go.Proofs.YtjcfimmcogkopaaGreat.Sep
open Go.RowKit
open Go.Proofs.YtjcfimmcogkopaaGreat.Mem (AZ Ci Chg Au)
theorem RC (w : World) (n : Int) (r : Bool) (hr : (n == 0) = r) : Calls Tryz.prog 78 #[.bool false, .int .u64 n] w fun e w' => e = .returned (.bool r) ∧ Below w.heap.size w w' := by
 refine Fz (args := [.bool false, .int .u64 n]) 15 Tryz.func78 rfl rfl rfl (Ad (Af An rfl (Ab (Aq (Ad (Af An rfl (Ab (AI rfl ?_))))))))
 by_cases h0 : n = 0
 obtain rfl : r = true := by rw [← hr]; simp [h0]
 refine Ad (Af An rfl (Ac rfl (.bool true) (fun b w hb hH => Bc rfl rfl rfl (JV h0) hb) (Af An rfl (Ab (Av (C0 ?_))))))
 exact As (.tmp rfl) (fun w h => ⟨rfl, Au h.up⟩) rfl
 obtain rfl : r = false := by rw [← hr]; simp [h0]
 refine Ad (Af An rfl (Ac rfl (.bool false) (fun b w hb hH => Bc rfl rfl rfl (JR h0) hb) (Af An rfl (Ab (Av (C0 ?_))))))
 exact As (.tmp rfl) (fun w h => ⟨rfl, Au h.up⟩) rfl
theorem RD (w : World) (n : Int) (r : Bool) (hr : Ef n = r) : Calls Tryz.prog 78 #[.bool true, .int .u64 n] w fun e w' => e = .returned (.bool r) ∧ Below w.heap.size w w' := by
 refine Fz (args := [.bool true, .int .u64 n]) 15 Tryz.func78 rfl rfl rfl (Ad (Af An rfl (Ab (Aq (Ad (Af An rfl (Ab (Aw rfl (AC (AO ?_))))))))))
 have hc : n < 1 ∨ (1 ≤ n ∧ n ≤ 72057594037927935) ∨ 72057594037927935 < n := by omega
 rcases hc with h1 | ⟨h1, h2⟩ | h1
 obtain rfl : r = false := by rw [← hr]; simp [Ef]; omega
 refine Ad (Af An rfl (Ac rfl (.bool false) (fun b w hb hH => Bc rfl rfl rfl (Di (by omega)) hb) (Af An rfl (Ab (Av ?_)))))
 exact As (.tmp rfl) (fun w h => ⟨rfl, Au h.up⟩) rfl
 obtain rfl : r = true := by rw [← hr]; simp [Ef]; omega
 refine Ad (Af An rfl (Ac rfl (.bool true) (fun b w hb hH => Bc rfl rfl rfl (B5 (by omega)) hb) (Af An rfl (Ac rfl (.bool true) (fun b w hb hH => Bc rfl rfl rfl (C2 (by omega)) hb) (Af An rfl (Ab (Av ?_)))))))
 exact As (.tmp rfl) (fun w h => ⟨rfl, Au h.up⟩) rfl
 obtain rfl : r = false := by rw [← hr]; simp [Ef]; omega
 refine Ad (Af An rfl (Ac rfl (.bool true) (fun b w hb hH => Bc rfl rfl rfl (B5 (by omega)) hb) (Af An rfl (Ac rfl (.bool false) (fun b w hb hH => Bc rfl rfl rfl (DS (by omega)) hb) (Af An rfl (Ab (Av ?_)))))))
 exact As (.tmp rfl) (fun w h => ⟨rfl, Au h.up⟩) rfl
theorem CP (w : World) (there : Bool) (n : Int) (r : Bool) (hr : Gu there (Ef n) (n == 0) = r) : Calls Tryz.prog 78 #[.bool there, .int .u64 n] w fun e w' => e = .returned (.bool r) ∧ Below w.heap.size w w' := by
  cases there
  · exact RC w n r hr
  · exact RD w n r hr
end Go.Proofs.YtjcfimmcogkopaaGreat.Sep
namespace Go.Proofs.YtjcfimmcogkopaaGreat.Sep
open Go.RowKit
open Go.Proofs.YtjcfimmcogkopaaGreat.Mem (AZ Ci Chg Au)
end Go.Proofs.YtjcfimmcogkopaaGreat.Sep
