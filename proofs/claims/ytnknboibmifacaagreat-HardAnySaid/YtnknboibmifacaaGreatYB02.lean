/-
  Law · Opz · Prt · DskM · TyC · Fil · CmdA · CmdB · CmdR · CmdL · CmdO · CmdP · CmdQ · CmdE · CmdF · CmdG · CmdN · CmdI
-/
import Derived.Test.YtnknboibmifacaaGreatYA01
import Derived.Test.YtnknboibmifacaaGreatYA06
import Derived.Test.YtnknboibmifacaaGreatYA08
import Derived.Test.YtnknboibmifacaaGreatYB01
import Derived.Test.YtnknboibmifacaaGreatRows
import Derived.ProofKit
import Derived.OpenShut
import Derived.JoinedCond
import Derived.SizedLaws
import Derived.Test.YtnknboibmifacaaGreatChecked
import Derived.Lib.SmallJoins
import Derived.ChangeMaps5
set_option linter.unusedSimpArgs false
set_option linter.unusedVariables false
set_option maxRecDepth 100000
namespace Go.Proofs.YtnknboibmifacaaGreat
open Go.ChangeShapes Go.WideShapes Go.ChangeAt Go.RowKit
theorem own : ownKnob Tryz.prog.godebug = none := by kernel_rfl
theorem TL : laidOutB Tryz.prog = true := by kernel_rfl
section
variable {H : Type} {enc : TypeId × Value → H} {P : Program}
theorem Hz (hl : laidOutB P = true) {W W' : World} (hb : Below W.heap.size W W') :
    ∀ {ts : List TypeId} {vs : List Value} {ds : List (DataW H)} {ps : List MemPlace}, (∀ t ∈ ts, P.readableRec t = true ∧ t < P.types.size) → (∀ x ∈ ps, x.block < W.heap.size) →
      DataW.TrodAll enc P W 0 (fun _ => true) true ts vs ds ps → DataW.TrodAll enc P W' 0 (fun b => decide (b < W.heap.size)) true ts vs ds ps
  | [], vs, ds, ps, _, _, h => by
    obtain ⟨rfl, rfl, rfl⟩ := trodAll_nil h
    rfl
  | t :: ts, vs, ds, ps, ht, hp, h => by
    obtain ⟨v, vs1, d, ds1, a, b, rfl, rfl, rfl, h1, h2⟩ := trodAll_cons h
    obtain ⟨hr, hrow⟩ := ht t List.mem_cons_self
    exact ⟨a, b, Below.trod hl hr hrow h1 hb (fun x hx => hp x (List.mem_append_left _ hx)), Hz hl hb (fun t h => ht t (List.mem_cons_of_mem _ h)) (fun x hx => hp x (List.mem_append_right _ hx)) h2, rfl⟩
theorem RU {f : Func} {s : ChangeSpec} {tb : TypeId} {W W' : World} {args : Array Value} {ds gs : List (DataW H)} {before : List MemPlace}
    (hl : laidOutB P = true) (hr : f.resultTypes = #[tb]) (htb : P.underlying tb = some .bool) (hread : ∀ t ∈ f.params.toList, P.readableRec t = true ∧ t < P.types.size)
    (hvars : s.vars = []) (hs : s.fn H ds = { results := [.lit (.bool true)], args := ds })
    (hW : DataW.Whole enc P f.params.toList s.vars false W args.toList ds gs before) (hb : Below W.heap.size W W') :
    s.post enc P f false true false false W args (.bool true) W' := by
  have hW' := hW
  obtain ⟨p, q, hA, hV, rfl, hfz, hnd⟩ := hW
  rw [hvars] at hV
  obtain ⟨rfl, rfl⟩ := trodVars_none hV
  have hlt : ∀ x ∈ p, x.block < W.heap.size := fun x hx => hW'.lt x (by simpa using hx)
  refine ⟨ds, [], p ++ [], [], p, [], hW', ?_, ?_, ?_, ?_, fun h => by cases h⟩
  · rw [List.append_nil, hs, hr]
    exact trodAll_cons_mk (shut_bool htb true) trodAll_mk0
  · rw [List.append_nil, hs]
    exact Hz hl hb hread hlt hA
  · rw [List.append_nil, hs, hvars]
    rfl
  · exact World.keptBut_mono (fun x hx => ⟨hx, .inr (.inl (by simpa using hx))⟩) (hb.frame (· ∈ p ++ []))
end
section
variable {H : Type} {enc : TypeId × Value → H} {P : Program}
theorem QY {w : World} {a : Addr} {v : Value} (h : w.cell? a = some v) : a = ⟨a.block, a.off, none⟩ := by
 obtain ⟨b, o, s⟩ := a
 have : s = none := by simpa using World.cell?_spot h
 subst this
 rfl
theorem Sj {W : World} {base : Nat} {spare : Nat → Bool} {held : Bool} {t e : TypeId} {fuel : Nat} {cs : List Value} {x : DataW H × List MemPlace} (hu : U8 P t e) (hc : P.cellsOf e = 1)
    (hf : DataW.trod enc P W base spare held fuel t cs = some x) : ∃ A c l, cs = [.slice A l.length c] ∧ Bs (fun k => k < W.heap.size) W A c l ∧ ((x.1 = .nil ∧ l = []) ∨ ∃ es sp, x.1 = .slice es sp ∧ es.length = l.length) := by
  rcases open_ints hu.ht hu.he hc hf with ⟨hcs, hx⟩ | ⟨a, len, cap, zs, hcs, _, hl, hm, hz, hx, hcell, hwz⟩
  · subst hcs
    exact ⟨none, 0, [], rfl, Bs.nil _ _ _ (by simp [maxLen]), .inl ⟨by rw [hx], rfl⟩⟩
  · subst hcs
    have hlz : len ≤ zs.length := by rw [hz]; split <;> omega
    have e0 : ((zs.take len).map (fun z => UInt8.ofNat z.toNat)).length = len := by simp; omega
    refine ⟨some a, cap, (zs.take len).map (fun z => UInt8.ofNat z.toNat), by rw [e0], ⟨by omega, hm, fun hn => ?_⟩, .inr ⟨_, _, by rw [hx], by simp [lits]⟩⟩
    have h0 := hcell 0 (by omega)
    have hs : a = ⟨a.block, a.off, none⟩ := by
      have := h0
      rw [show a.add 0 = a by simp [Addr.add]] at this
      exact QY this
    have hb := World.block_lt_of_cell? _ _ h0
    rw [hs, Addr.add_lit] at hb
    refine ⟨a.block, a.off, by rw [← hs], hb, fun j b hj => ?_⟩
    have hjl := (List.getElem?_eq_some_iff.1 hj).1
    rw [e0] at hjl
    have hcj := hcell j (by omega)
    rw [hs, Addr.add_lit] at hcj
    rw [hcj]
    have hbj : b = UInt8.ofNat (zs.getD j 0).toNat := by
      rw [List.getElem?_map, List.getElem?_take, if_pos (by omega), List.getElem?_eq_getElem (by omega)] at hj
      simp only [Option.map_some, Option.some.injEq] at hj
      rw [← hj, List.getD, List.getElem?_eq_getElem (by omega)]
      rfl
    have hw : 0 ≤ zs.getD j 0 ∧ zs.getD j 0 ≤ 255 := by
      have hmem : zs.getD j 0 ∈ zs := by
        rw [List.getD, List.getElem?_eq_getElem (show j < zs.length by omega)]
        exact List.getElem_mem _
      simpa [Lit.wf, IntKind.min, IntKind.max, IntKind.signed, IntKind.bits] using hwz _ hmem
    rw [hbj]
    unfold N7
    simp only [UInt8.toNat_ofNat']
    congr 2
    omega
theorem RP {W : World} {base : Nat} {spare : Nat → Bool} {held : Bool} {r : Reach} {b0 : Nat} {t e : TypeId} {v : Value} {d : DataW H} {p : List MemPlace} (hu : U8 P t e) (hc : P.cellsOf e = 1)
  (hval : Value.okWide P W r b0 t v) (h : DataW.Trod enc P W base spare held t v d p) : ∃ A c l, v = .slice A l.length c ∧ Bs (fun k => k < W.heap.size) W A c l ∧ ((d = .nil ∧ l = []) ∨ ∃ es sp, d = .slice es sp ∧ es.length = l.length) := by
 obtain ⟨a, len, cap, rfl⟩ := okWide_slice hu.ht hval
 obtain ⟨fuel, hf⟩ := h
 obtain ⟨A, c, l, hcs, hb, hd⟩ := Sj hu hc hf
 simp [Value.cells] at hcs
 obtain ⟨rfl, rfl, rfl⟩ := hcs
 exact ⟨a, cap, l, rfl, hb, hd⟩
end
theorem RS {x : Int} (h : (Lit.int .i64 x).wf = true) : -9223372036854775808 ≤ x ∧ x ≤ 9223372036854775807 := by
 simpa [Lit.wf, IntKind.min, IntKind.max, IntKind.signed, IntKind.bits] using h
theorem Va {x : Int} (h : (Lit.int .u64 x).wf = true) : 0 ≤ x ∧ x ≤ 18446744073709551615 := by
 simpa [Lit.wf, IntKind.min, IntKind.max, IntKind.signed, IntKind.bits] using h
theorem MO {P : Program} {l : List TypeId} (h : l.all (fun t => P.readableRec t && decide (t < P.types.size)) = true) : ∀ t ∈ l, P.readableRec t = true ∧ t < P.types.size := by
 intro t ht
 have := List.all_eq_true.1 h t ht
 simpa using this
theorem RR : Tryz.prog.cellsOf 5 = 1 := by kernel_rfl
theorem RT : Tryz.prog.bytesOf 5 = 1 := by kernel_rfl
theorem Wa {H : Type} {l : List (DataW H)} (hk : Rows.uptoSmall H l = true) : Rows.uptoBulkAll l ≤ 1048576 := of_decide_eq_true hk
end Go.Proofs.YtnknboibmifacaaGreat
namespace Go.Proofs.YtnknboibmifacaaGreat.Sep
open Go.ChangeShapes Go.WideShapes Go.ChangeAt Go.RowKit
section
variable {H : Type} {enc : TypeId × Value → H} {P : Program}
def Kz (P : Program) (t : TypeId) (d : DataW H) : Prop := ∀ n ∈ d.weights P t, n ≤ reachBytes
theorem Kz.len {t e : TypeId} {es sp : List (DataW H)} (h : Kz P t (.slice es sp)) (hu : P.underlying t = some (.slice e)) : es.length * P.bytesOf e ≤ reachBytes := by
 have := h ((es.length + sp.length) * P.bytesOf e) (by simp [DataW.weights, hu])
 exact Nat.le_trans (Nat.mul_le_mul_right _ (Nat.le_add_right _ _)) this
theorem JI {e : TypeId} : ∀ {es : List (DataW H)} {j : Nat} {d : DataW H}, es[j]? = some d → ∀ n ∈ d.weights P e, n ∈ DataW.weightsAll P e es
  | [], _, _, h, _, _ => by simp at h
  | d0 :: r, 0, d, h, n, hn => by
    simp only [List.getElem?_cons_zero, Option.some.injEq] at h
    subst h
    simp only [DataW.weightsAll, List.mem_append]
    exact .inl hn
  | d0 :: r, j + 1, d, h, n, hn => by
    simp only [List.getElem?_cons_succ] at h
    simp only [DataW.weightsAll, List.mem_append]
    exact .inr (JI h n hn)
theorem Kz.elem {t e : TypeId} {es sp : List (DataW H)} (h : Kz P t (.slice es sp)) (hu : P.underlying t = some (.slice e)) {j : Nat} {d : DataW H} (hd : es[j]? = some d) : Kz P e d := fun n hn => by
 refine h n ?_
 have := JI (P := P) hd n hn
 simp [DataW.weights, hu, this]
end
end Go.Proofs.YtnknboibmifacaaGreat.Sep
namespace Go.Proofs.YtnknboibmifacaaGreat.Sep
open Go.RowKit
open Go.Proofs.YtnknboibmifacaaGreat.Mem (Bd Cj Chg AF)
def encW (v : Value) : List Value := [if v.oneCell' = true then v else .nilIface]
theorem VE : EncOf 1 encW := ⟨fun _ => rfl, fun v x h => by
  unfold encW at h
  rw [List.mem_singleton] at h
  subst h
  split
  · assumption
  · rfl⟩
theorem Nl {v : Value} (h : v.oneCell' = true) : encW v = [v] := by unfold encW; rw [if_pos h]
abbrev PtT := Value × List UInt8
def BE (te : TypeId) (v : Value) (l : List PtT) : Ass := Cv [Ao te 1 encW v (l.map (·.1)), DE (fun x : PtT => Ao 5 1 encB x.1 x.2) l]
section
variable {P : Program} {te t : TypeId} {v u : Value} {l : List PtT} {d : List UInt8} {w w0 : World} {rs : List RowT} {B : Nat → Prop} {os : List Ass} {Q : Exit → Act → World → Prop} {n : Nat} {env : List (Nat × Value)} {o : Oper} {act : Act}
theorem QZ : ∀ rs, BE te v l rs → ∃ _ : Unit, Al [Ao te 1 encW v (l.map (·.1)), DE (fun x : PtT => Ao 5 1 encB x.1 x.2) l] rs := fun _ h => ⟨(), h⟩
theorem Q0 : ∀ rs, Al [Ao te 1 encW v (l.map (·.1) ++ [u]), DE (fun x : PtT => Ao 5 1 encB x.1 x.2) l, Ao 5 1 encB u d] rs → BE te v (l ++ [(u, d)]) rs := fun rs h => by
  obtain ⟨a, b, e, h1, h2⟩ := h
  refine ⟨a, b, e, ?_, Al.one (HP (x := ((u, d) : PtT)) _ h2)⟩
  rw [List.map_append]; exact h1
theorem Sk : BE te (.slice none 0 0) [] [] := ⟨[], [], rfl, Oc _ _ _, [], [], rfl, EB, rfl⟩
theorem BE.at_ (h : BE te v l rs) (hr : RowsOf w rs) {j : Nat} (hj : l[j]? = some (u, d)) : ∃ ys, Ao 5 1 encB u d ys ∧ RowsOf w ys := by
 obtain ⟨a, b, e, h1, h2⟩ := h
 subst e
 exact (Al.one' h2).at_ (f := fun x : PtT => Ao 5 1 encB x.1 x.2) (x := ((u, d) : PtT)) (AN.2 fun z hz => AN.1 hr z (by simp [hz])) hj
theorem T4 {j : Nat} (hj : l[j]? = some (u, d)) : Cw (BE te v l) u d := fun rs w h1 h2 => by
 obtain ⟨ys, h3, h4⟩ := h1.at_ h2 hj
 exact G7 h3 h4
theorem Hp.prtVec (h : Hp B w0 w os) (i : Nat) (hi : os[i]? = some (BE te v l)) : ∃ rs, Ao te 1 encW v (l.map (·.1)) rs ∧ RowsOf w rs := by
  obtain ⟨rs, ⟨a, b, e, h1, _⟩, h2⟩ := h.thing i hi
  exact ⟨a, h1, AN.2 fun z hz => AN.1 h2 z (by rw [e]; simp [hz])⟩
theorem OI (i : Nat) (hu : P.underlying t = some (.slice te)) (hi : os[i]? = some (BE te v l)) {x : Operand} (ho : o.op = .call { callee := .builtin .len, args := #[x], argTypes := #[t] }) (hx : evs env x = some v) (hH : Hp B w0 w os) (hF : Fr n act env) : (execOp act.eval o).run P w = .ok (.value (.int .i64 (l.length : Int))) w := by
 obtain ⟨rs, hv, _⟩ := hH.prtVec i hi
 obtain ⟨A, c, rfl⟩ := hv.is
 rw [List.length_map] at hx
 exact EU ho (vs := [.slice A l.length c]) (by simp [evl, hx]) (fun cs => Eu hu A _ c _ w cs) hF
theorem Q1 {a : List Value} (hO : DI P te) (hv : Ao te 1 encW v a rs) (hr : RowsOf w rs) {j : Nat} (hj : a[j]? = some u) (h1 : u.oneCell' = true) {x : Operand} (ho : o.op = .load te x) (hx : evs env x = some (Cc v (j * 1))) (hF : Fr n act env) : (execOp act.eval o).run P w = .ok (.value u) w := by
  rcases hv with ⟨_, h2, _⟩ | ⟨g, cap, cs, h2, _, _, _, h5, h6⟩
  · subst h2; simp at hj
  · subst h2; subst h6
    have hcell : cs[j]? = some u := by
      refine Ao.take_ VE h5 ?_
      have := Gp VE hj (j := 0) (by decide)
      rw [Nat.mul_one, Nat.add_zero] at this
      rw [this, Nl h1]; rfl
    refine Bg ho (off := j) (t := te) (g := g) (cs := cs) ?_ (Bt hO hcell) hr.1 hF
    rw [hx]; simp [Cc]
theorem OJ (i : Nat) (hT : SliceT P t te 1) (hi : os[i]? = some (BE te v l)) (j : Nat) (hj : j < l.length) {x y : Operand} {kk : IntKind} (ho : o.op = .indexAddr t x y) (hx : evs env x = some v) (hy : evs env y = some (.int kk (j : Int))) (hH : Hp B w0 w os) (hF : Fr n act env) : (execOp act.eval o).run P w = .ok (.value (Cc v (j * 1))) w := by
  obtain ⟨rs, h1, h2⟩ := hH
  obtain ⟨a, y', b, e, h3, h4⟩ := Al.at_ h1 hi
  obtain ⟨c, z, e2, h5, h6⟩ := h3
  have hH2 : Hp B w0 w [Ao te 1 encW v (l.map (·.1)), fun r => ∃ p q, r = p ++ q ∧ p = a ∧ (Al [DE (fun x : PtT => Ao 5 1 encB x.1 x.2) l] z ∧ q = z ++ b)] := by
    refine ⟨c ++ (a ++ (z ++ b)), ⟨c, a ++ (z ++ b), rfl, h5, a ++ (z ++ b), [], by simp, ⟨a, z ++ b, rfl, rfl, h6, rfl⟩, rfl⟩, CI h2 ?_⟩
    rw [e, e2]
    have : (a ++ (c ++ z ++ b)).Perm (c ++ (a ++ (z ++ b))) := by
      rw [List.append_assoc, ← List.append_assoc, ← List.append_assoc c a]
      exact List.perm_append_comm.append_right _
    simpa using this
  exact Kn 0 hT VE rfl j (by rw [List.length_map]; exact hj) ho hx hy hH2 hF
theorem Ms (i : Nat) (hO : DI P te) (hi : os[i]? = some (BE te v l)) (j : Nat) (hj : l[j]? = some (u, d)) {x : Operand} (ho : o.op = .load te x) (hx : evs env x = some (Cc v (j * 1))) (hH : Hp B w0 w os) (hF : Fr n act env) : (execOp act.eval o).run P w = .ok (.value u) w := by
 obtain ⟨rs, h1, h2⟩ := hH.thing i hi
 obtain ⟨ys, h3, _⟩ := h1.at_ h2 hj
 obtain ⟨rs2, h4, h5⟩ := hH.prtVec i hi
 exact Q1 hO h4 h5 (j := j) (by rw [List.getElem?_map, hj]; rfl) h3.c1.2 ho hx hF
theorem Sl (q : Nat) {e' : TypeId} {k' : Nat} {α : Type} {enc' : α → List Value} {l' : List α} (hT : SliceT P t te 1) (hq : os[q]? = some (Ao e' k' enc' u l')) {x : Operand} (ho : o.op = .buildSlice t 1 #[(0, x)]) (hx : evs env x = some u) : Br P Q n env B w0 os o (fun v : Value => v) (fun v => Ao te 1 encW v [u] :: os) := fun b w hH hF K hK => by
 obtain ⟨rs, h1, _⟩ := hH.thing q hq
 exact M4 hT VE u (Nl h1.c1.2) ho hx b w hH hF K hK
end
structure PtV where
  A : Option Addr
  c : Nat
  d : List UInt8
def PtV.v (x : PtV) : Value := .slice x.A x.d.length x.c
def VU (x : PtV) : List Value := [x.v]
instance : Inhabited PtV := ⟨⟨none, 0, []⟩⟩
def Sm (w : World) (v : Value) (l : List PtV) : Prop := Di w 1 v l.length (flat VU l) ∧ ∀ x, x ∈ l → EQ w x.v x.d
section
variable {u w w0 : World} {v : Value} {l : List PtV} {B : Nat → Prop} {os : List Ass}
theorem Sm.below (h : Sm u v l) (hb : Below u.heap.size u w) : Sm w v l := ⟨h.1.below hb, fun x hx => (h.2 x hx).below hb⟩
end
theorem JY {A : Option Addr} {n c j : Nat} : Ci 1 (.slice A n c) 0 j = .slice A j c := by
  have e : A.map (·.add 0) = A := by
    cases A with
    | none => rfl
    | some a =>
      have : a.add 0 = a := by obtain ⟨b, o, q⟩ := a; cases q <;> simp [Addr.add]
      simp [this]
  simp [Ci, e]
structure PsV where
  v : Value
  l : List PtT
end Go.Proofs.YtnknboibmifacaaGreat.Sep
namespace Go.Proofs.YtnknboibmifacaaGreat.Sep
abbrev FS := List (List UInt8 × List UInt8)
inductive OpD where
  | app (n b : List UInt8)
  | cut (n : List UInt8) (size : Nat)
  | ren (a b : List UInt8)
  | del (n : List UInt8)
def AW (f : FS) : OpD → FS
  | .app n b => Bz f n ((AL f n).getD [] ++ b)
  | .cut n s => match AL f n with | some x => Bz f n (x.take s) | none => f
  | .ren a b => match AL f a with | some x => Bz (BS f a) b x | none => f
  | .del n => BS f n
def AE (f : FS) : Nat := (f.map fun p => p.2.length).sum
theorem FW {f : FS} (h : (AI f).Nodup) (o : OpD) : (AI (AW f o)).Nodup := by
  cases o with
  | app n b => exact Cf h
  | cut n s =>
    show (AI (match AL f n with | some x => Bz f n (x.take s) | none => f)).Nodup
    split
    · exact Cf h
    · exact h
  | ren a b =>
    show (AI (match AL f a with | some x => Bz (BS f a) b x | none => f)).Nodup
    split
    · exact Cf (B9 h)
    · exact h
  | del n => exact B9 h
theorem FE : ∀ (l : List OpD) {f : FS}, (AI f).Nodup → (AI (l.foldl AW f)).Nodup
  | [], _, h => h
  | o :: r, _, h => FE r (FW h o)
theorem HC {f : FS} (h : (AI f).Nodup) : f.Nodup := (List.Pairwise.of_map (fun p : List UInt8 × List UInt8 => p.1) (fun a b (hab : a.1 ≠ b.1) e => hab (by rw [e])) h)
theorem DZ {f g : FS} (hf : (AI f).Nodup) (hg : (AI g).Nodup) (h : ∀ p, p ∈ f ↔ p ∈ g) : f.Perm g :=
 (List.perm_ext_iff_of_nodup (HC hf) (HC hg)).2 h
theorem CD {f g : FS} (h : f.Perm g) : (AI f).Perm (AI g) := h.map _
theorem D9 {f g : FS} (h : f.Perm g) (hf : (AI f).Nodup) (k : List UInt8) : AL f k = AL g k := by
  have hg : (AI g).Nodup := (CD h).nodup_iff.1 hf
  cases e : AL g k with
  | none => rw [CF] at e ⊢; exact fun hm => e ((CD h).mem_iff.1 hm)
  | some x => exact (B3 hf).2 (h.mem_iff.2 ((B3 hg).1 e))
theorem KA {f g : FS} (h : f.Perm g) (hf : (AI f).Nodup) (k x : List UInt8) : (Bz f k x).Perm (Bz g k x) := by
 have hg : (AI g).Nodup := (CD h).nodup_iff.1 hf
 refine DZ (Cf hf) (Cf hg) fun p => ?_
 rw [EW hf, EW hg, h.mem_iff]
theorem Nm {f g : FS} (h : f.Perm g) (hf : (AI f).Nodup) (k : List UInt8) : (BS f k).Perm (BS g k) := by
 have hg : (AI g).Nodup := (CD h).nodup_iff.1 hf
 refine DZ (B9 hf) (B9 hg) fun p => ?_
 rw [Dh hf, Dh hg, h.mem_iff]
theorem Q2 {f g : FS} (h : f.Perm g) (hf : (AI f).Nodup) (o : OpD) : (AW f o).Perm (AW g o) := by
  cases o with
  | app n b =>
    show (Bz f n _).Perm (Bz g n _)
    rw [D9 h hf]; exact KA h hf _ _
  | cut n s =>
    show List.Perm (match AL f n with | some x => Bz f n (x.take s) | none => f) (match AL g n with | some x => Bz g n (x.take s) | none => g)
    rw [D9 h hf]
    split
    · exact KA h hf _ _
    · exact h
  | ren a b =>
    show List.Perm (match AL f a with | some x => Bz (BS f a) b x | none => f) (match AL g a with | some x => Bz (BS g a) b x | none => g)
    rw [D9 h hf]
    split
    · exact KA (Nm h hf _) (B9 hf) _ _
    · exact h
  | del n => exact Nm h hf _
theorem C9 {f g : FS} (h : f.Perm g) : AE f = AE g := (h.map _).sum_nat
theorem Lw (p : List UInt8 × List UInt8) (f : FS) : AE (p :: f) = p.2.length + AE f := by simp [AE]
theorem KB (f g : FS) : AE (f ++ g) = AE f + AE g := by simp [AE]
theorem OK {f : FS} {k x : List UInt8} (hf : (AI f).Nodup) (h : AL f k = some x) : f.Perm ((k, x) :: BS f k) := by
  have hm := (B3 hf).1 h
  have hd := B9 (k := k) hf
  have hn : (AI ((k, x) :: BS f k)).Nodup := List.nodup_cons.2 ⟨fun hm => by
    obtain ⟨p, hp, e⟩ := List.mem_map.1 hm
    exact ((Dh hf p).1 hp).2 e, hd⟩
  refine DZ hf hn fun p => ?_
  rw [List.mem_cons, Dh hf]
  constructor
  · intro hp
    by_cases e : p.1 = k
    · left
      have := (B3 (x := p.2) hf).2 (show (k, p.2) ∈ f by rw [← e]; exact hp)
      rw [h] at this
      exact Prod.ext e (Option.some.inj this).symm
    · exact .inr ⟨hp, e⟩
  · rintro (rfl | ⟨hp, _⟩)
    · exact hm
    · exact hp
theorem FF {f : FS} {k x : List UInt8} (hf : (AI f).Nodup) (h : AL f k = some x) : AE (BS f k) + x.length = AE f := by
 rw [C9 (OK hf h), Lw]; simp only; omega
theorem KC {f : FS} {k : List UInt8} (h : AL f k = none) : BS f k = f := by
 unfold BS
 unfold AL at h
 rw [Option.map_eq_none_iff.1 h]
theorem IF {f : FS} {k x : List UInt8} (h : AL f k = none) : AE (Bz f k x) = AE f + x.length := by
 rw [EV h, KB]; simp [AE]
theorem FX {f : FS} {k x y : List UInt8} (hf : (AI f).Nodup) (h : AL f k = some y) : AE (Bz f k x) + y.length = AE f + x.length := by
  have hp := Cf (k := k) (x := x) hf
  have h1 : AL (Bz f k x) k = some x := by rw [DM hf, if_pos rfl]
  have h2 := FF hp h1
  have h3 := FF hf h
  have h4 : (BS (Bz f k x) k).Perm (BS f k) := DZ (B9 hp) (B9 hf) fun p => by
    rw [Dh hp, EW hf, Dh hf]
    constructor
    · rintro ⟨rfl | h, h'⟩
      · exact absurd rfl h'
      · exact h
    · rintro ⟨h, h'⟩
      exact ⟨.inr ⟨h, h'⟩, h'⟩
  rw [C9 h4] at h2
  omega
theorem Gz {f : FS} (hf : (AI f).Nodup) (n b : List UInt8) : AE (AW f (.app n b)) = AE f + b.length := by
  show AE (Bz f n _) = _
  cases h : AL f n with
  | none => rw [IF h]; simp
  | some y =>
    have := FX (x := y ++ b) hf h
    rw [List.length_append] at this
    simp only [Option.getD_some]
    omega
structure DiskD where
  room : Int
  syn : FS
  wait : List OpD
  fuse : Option Nat
  down : Bool
def DiskD.now (d : DiskD) : FS := d.wait.foldl AW d.syn
def Ba (d : DiskD) : DiskD × Nat :=
  if d.down = true ∨ d.fuse = some 0 then ({ d with down := true }, 3) else ({ d with fuse := d.fuse.map (· - 1) }, 0)
def CA (n : List UInt8) : Bool := decide (1 ≤ n.length) && decide (n.length ≤ 16)
def Cn (d : DiskD) (o : OpD) : DiskD := { d with wait := d.wait ++ [o] }
theorem CJ (d : DiskD) (o : OpD) : (Cn d o).now = AW d.now o := by
 show (d.wait ++ [o]).foldl AW d.syn = _
 rw [List.foldl_append]; rfl
def EC (d : DiskD) (n b : List UInt8) : Bool := decide ((AE d.now : Int) + (b.length : Int) ≤ d.room) && !((AL d.now n).isNone && decide (64 ≤ d.now.length))
def Cl (d : DiskD) (n b : List UInt8) : DiskD × Nat :=
  match Ba d with
  | (d1, e) => if e ≠ 0 then (d1, e) else if CA n = false then (d1, 1) else if EC d1 n b = false then (d1, 2) else (Cn d1 (.app n b), 0)
def IG (d : DiskD) (n : List UInt8) (s : Int) : DiskD × Nat :=
  match Ba d with
  | (d1, e) => if e ≠ 0 then (d1, e) else match AL d1.now n with
    | none => (d1, 4)
    | some x => if s < 0 ∨ (x.length : Int) < s then (d1, 1) else (Cn d1 (.cut n s.toNat), 0)
def Ll (d : DiskD) (a b : List UInt8) : DiskD × Nat :=
  match Ba d with
  | (d1, e) => if e ≠ 0 then (d1, e) else if CA b = false then (d1, 1) else match AL d1.now a with
    | none => (d1, 4)
    | some _ => (Cn d1 (.ren a b), 0)
def Hq (d : DiskD) (n : List UInt8) : DiskD × Nat :=
  match Ba d with
  | (d1, e) => if e ≠ 0 then (d1, e) else match AL d1.now n with
    | none => (d1, 4)
    | some _ => (Cn d1 (.del n), 0)
def Ge (d : DiskD) : DiskD × Nat :=
  match Ba d with
  | (d1, e) => if e ≠ 0 then (d1, e) else ({ d1 with syn := d1.now, wait := [] }, 0)
def BB (d : DiskD) (n : List UInt8) : Option (List UInt8) := if d.down = true then none else AL d.now n
def PU (d : DiskD) : Nat := if d.down = true then 0 else AE d.now
def DD (d : DiskD) (keep : Int) : Nat := (keep % ((d.wait.length : Int) + 1)).toNat
def Do (d : DiskD) (keep torn : Int) : FS :=
  match d.wait[DD d keep]? with
  | some (.app n b) => if (torn % (b.length : Int)).toNat = 0 ∨ b = [] then (d.wait.take (DD d keep)).foldl AW d.syn else AW ((d.wait.take (DD d keep)).foldl AW d.syn) (.app n (b.take (torn % (b.length : Int)).toNat))
  | _ => (d.wait.take (DD d keep)).foldl AW d.syn
def DU (d : DiskD) (keep torn : Int) : DiskD := ⟨d.room, Do d keep torn, [], none, false⟩
def HU (room : Int) : DiskD := ⟨room, [], [], none, false⟩
theorem KD (d : DiskD) (keep : Int) : DD d keep ≤ d.wait.length := by
 unfold DD
 have h1 := Int.emod_nonneg keep (show ((d.wait.length : Int) + 1) ≠ 0 by omega)
 have h2 := Int.emod_lt_of_pos keep (show 0 < (d.wait.length : Int) + 1 by omega)
 omega
end Go.Proofs.YtnknboibmifacaaGreat.Sep
namespace Go.Proofs.YtnknboibmifacaaGreat.Sep
open Go.RowKit
open Go.Proofs.YtnknboibmifacaaGreat.Mem (Bd Cj Chg AF)
theorem BP : DI Tryz.prog 63 := Fl Tryz.underlying63 rfl (by kernel_rfl)
theorem C3 : DI Tryz.prog 48 := Fl Tryz.underlying48 rfl (by kernel_rfl)
theorem OL : L9 Tryz.prog 48 #[.slice none 0 0] := Ig (z := .slice none 0 0) (by kernel_rfl) rfl
theorem B5 : DI Tryz.prog 37 := Fl Tryz.underlying37 rfl (by kernel_rfl)
theorem BN : DI Tryz.prog 4 := Fl Tryz.underlying4 rfl (by kernel_rfl)
theorem DV : If Tryz.prog 52 2 := MQ Tryz.underlying52 rfl (by kernel_rfl)
theorem AJ : DI Tryz.prog 65 := Fl Tryz.underlying65 rfl (by kernel_rfl)
theorem EX : DI Tryz.prog 97 := Fl Tryz.underlying97 rfl (by kernel_rfl)
theorem Cd : If Tryz.prog 99 5 := MQ Tryz.underlying99 rfl (by kernel_rfl)
theorem IH : L9 Tryz.prog 99 #[.int .i64 0, .string { data := #[] }, .slice none 0 0, .int .i64 0, .string { data := #[] }] := Ig (z := .agg #[.int .i64 0, .string { data := #[] }, .slice none 0 0, .int .i64 0, .string { data := #[] }]) (by kernel_rfl) rfl
theorem Co : DI Tryz.prog 126 := Fl Tryz.underlying126 rfl (by kernel_rfl)
theorem Bj : DI Tryz.prog 3 := Fl Tryz.underlying3 rfl (by kernel_rfl)
theorem Mt : L9 Tryz.prog 3 #[.int .i64 0] := Ig (z := .int .i64 0) (by kernel_rfl) rfl
theorem AR : DI Tryz.prog 9 := Fl Tryz.underlying9 rfl (by kernel_rfl)
theorem E1 : DI Tryz.prog 29 := Fl Tryz.underlying29 rfl (by kernel_rfl)
theorem BU : DI Tryz.prog 5 := Fl Tryz.underlying5 rfl (by kernel_rfl)
theorem FY : AZ Tryz.prog 81 0 0 := fun g off w => by kernel_rfl
theorem FZ : AZ Tryz.prog 81 2 2 := fun g off w => by kernel_rfl
theorem Bv : AZ Tryz.prog 52 0 0 := fun g off w => by kernel_rfl
theorem Bw : AZ Tryz.prog 52 1 1 := fun g off w => by kernel_rfl
theorem HW : AZ Tryz.prog 103 0 0 := fun g off w => by kernel_rfl
theorem H0 : AZ Tryz.prog 103 1 1 := fun g off w => by kernel_rfl
theorem H1 : AZ Tryz.prog 103 2 2 := fun g off w => by kernel_rfl
theorem H2 : AZ Tryz.prog 103 3 3 := fun g off w => by kernel_rfl
theorem H3 : AZ Tryz.prog 103 4 4 := fun g off w => by kernel_rfl
theorem KE : AZ Tryz.prog 67 0 0 := fun g off w => by kernel_rfl
theorem KF : AZ Tryz.prog 67 1 1 := fun g off w => by kernel_rfl
theorem KG : AZ Tryz.prog 67 2 2 := fun g off w => by kernel_rfl
theorem KH : AZ Tryz.prog 67 3 3 := fun g off w => by kernel_rfl
theorem KJ : AZ Tryz.prog 67 4 4 := fun g off w => by kernel_rfl
theorem KK : AZ Tryz.prog 67 5 5 := fun g off w => by kernel_rfl
theorem Hr : AZ Tryz.prog 99 0 0 := fun g off w => by kernel_rfl
theorem Hs : AZ Tryz.prog 99 1 1 := fun g off w => by kernel_rfl
theorem Ht : AZ Tryz.prog 99 2 2 := fun g off w => by kernel_rfl
theorem Hu : AZ Tryz.prog 99 3 3 := fun g off w => by kernel_rfl
theorem Hv : AZ Tryz.prog 99 4 4 := fun g off w => by kernel_rfl
theorem Ji : AZ Tryz.prog 134 0 0 := fun g off w => by kernel_rfl
theorem Jj : AZ Tryz.prog 134 1 1 := fun g off w => by kernel_rfl
theorem Fc : SliceT Tryz.prog 76 48 1 := DY (z := .slice none 0 0) Tryz.underlying76 (by kernel_rfl) rfl rfl (by decide)
theorem Ar : SliceT Tryz.prog 53 52 2 := DY (z := .agg #[.string { data := #[] }, .slice none 0 0]) Tryz.underlying53 (by kernel_rfl) rfl rfl (by decide)
theorem Ct : SliceT Tryz.prog 63 99 5 := DY (z := .agg #[.int .i64 0, .string { data := #[] }, .slice none 0 0, .int .i64 0, .string { data := #[] }]) Tryz.underlying63 (by kernel_rfl) rfl rfl (by decide)
theorem E2 : SliceT Tryz.prog 88 9 1 := DY (z := .string { data := #[] }) Tryz.underlying88 (by kernel_rfl) rfl rfl (by decide)
theorem AC : SliceT Tryz.prog 48 5 1 := DY (z := .int .u8 0) Tryz.underlying48 (by kernel_rfl) rfl rfl (by decide)
def flS : List ((Nat × Nat) × Nat) := [((81, 0), 0), ((81, 2), 2), ((52, 0), 0), ((52, 1), 1), ((103, 0), 0), ((103, 1), 1), ((103, 2), 2), ((103, 3), 3), ((103, 4), 4), ((67, 0), 0), ((67, 1), 1), ((67, 2), 2), ((67, 3), 3), ((67, 4), 4), ((67, 5), 5), ((99, 0), 0), ((99, 1), 1), ((99, 2), 2), ((99, 3), 3), ((99, 4), 4), ((134, 0), 0), ((134, 1), 1)]
theorem As : I2 Tryz.prog flS := Md ⟨FY, FZ, Bv, Bw, HW, H0, H1, H2, H3, KE, KF, KG, KH, KJ, KK, Hr, Hs, Ht, Hu, Hv, Ji, Jj, trivial⟩
theorem Wb (b c : Bool) : VI Tryz.prog 4 (.bool b) (.bool c) (b != c) := fun x y w => by
 cases b <;> cases c <;> go_simp
end Go.Proofs.YtnknboibmifacaaGreat.Sep
namespace Go.Proofs.YtnknboibmifacaaGreat.Sep
open Go.RowKit
open Go.Proofs.YtnknboibmifacaaGreat.Mem (Bd Cj Chg AF)
def encKey (s : List UInt8) : Value := .string (bs s)
def AH (x : PtT) : Value := x.1
abbrev FilL := List (List UInt8 × PtT)
theorem CU : MapTy Tryz.prog 65 9 48 .string encKey (.slice none 0 0) := QP Tryz.underlying65 Tryz.underlying9 (fun w => by kernel_rfl)
def Bn (L : FilL) : Ass := DE (fun p : List UInt8 × PtT => Ao 5 1 encB p.2.1 p.2.2) L
def B6 (L : FilL) : FS := L.map fun p => (p.1, p.2.2)
theorem DN (L : FilL) : AI (B6 L) = AI L := by simp [AI, B6]
theorem G9 {L : FilL} {p : List UInt8 × PtT} (h : p ∈ L) : Cw (Bn L) p.2.1 p.2.2 := fun rs w h1 h2 => by
 obtain ⟨j, hj⟩ := List.getElem?_of_mem h
 obtain ⟨ys, h3, h4⟩ := DE.at_ h1 h2 hj
 exact G7 h3 h4
theorem JZ {α β γ : Type} [DecidableEq α] (g : β → γ) (k : α) : ∀ (L : List (α × β)) (i : Nat), EJ k (L.map fun p => (p.1, g p.2)) i = (EJ k L i).map fun q => (q.1, g q.2)
  | [], i => rfl
  | p :: L, i => by
    simp only [List.map_cons, EJ]
    split
    · rfl
    · exact JZ g k L (i + 1)
theorem Sn {α β γ : Type} [DecidableEq α] (g : β → γ) (k : α) (L : List (α × β)) : AL (L.map fun p => (p.1, g p.2)) k = (AL L k).map g := by
 unfold AL
 rw [JZ, Option.map_map, Option.map_map]; rfl
theorem So {α β γ : Type} [DecidableEq α] (g : β → γ) (k : α) (x : β) (L : List (α × β)) : Bz (L.map fun p => (p.1, g p.2)) k (g x) = (Bz L k x).map fun p => (p.1, g p.2) := by
  unfold Bz
  rw [JZ]
  cases EJ k L 0 with
  | none => simp
  | some q => simp [List.map_set]
theorem Sp {α β γ : Type} [DecidableEq α] (g : β → γ) (k : α) (L : List (α × β)) : BS (L.map fun p => (p.1, g p.2)) k = (BS L k).map fun p => (p.1, g p.2) := by
  unfold BS
  rw [JZ]
  cases EJ k L 0 with
  | none => rfl
  | some q => simp [List.eraseIdx_eq_take_drop_succ, List.map_take, List.map_drop]
theorem Ea (L : FilL) (k : List UInt8) : AL (B6 L) k = (AL L k).map (·.2) := Sn (fun x : PtT => x.2) k L
theorem II (L : FilL) (k : List UInt8) (x : PtT) : Bz (B6 L) k x.2 = B6 (Bz L k x) := So (fun x : PtT => x.2) k x L
theorem Nn (L : FilL) (k : List UInt8) : BS (B6 L) k = B6 (BS L k) := Sp (fun x : PtT => x.2) k L
def Av (v : Value) (f : FS) : Ass := fun rs => ∃ L : FilL, f = B6 L ∧ Al [By encKey AH v L, Bn L] rs
theorem Fd {v : Value} {f : FS} : ∀ rs, Av v f rs → ∃ x : { L : FilL // f = B6 L }, Al [By encKey AH v x.1, Bn x.1] rs := fun _ ⟨L, h, h'⟩ => ⟨⟨L, h⟩, h'⟩
theorem PV {L : FilL} {k : List UInt8} {q : Nat × PtT} (h : EJ k L 0 = some q) : L[q.1]? = some (k, q.2) := (Dn h).2
theorem GA {L : FilL} {k : List UInt8} {q : Nat × PtT} (h : EJ k L 0 = some q) : ∀ rs, Bn L rs → ∃ _ : Unit, Al [Bn (L.take q.1), Ao 5 1 encB q.2.1 q.2.2, Bn (L.drop (q.1 + 1))] rs := QW (PV h)
theorem T5 {L : FilL} {k : List UInt8} {q : Nat × PtT} (h : EJ k L 0 = some q) (y : PtT) : ∀ rs, Al [Bn (L.take q.1), Ao 5 1 encB y.1 y.2, Bn (L.drop (q.1 + 1))] rs → Bn (Bz L k y) rs := fun rs hr => by
 have h1 := QX (f := fun p : List UInt8 × PtT => Ao 5 1 encB p.2.1 p.2.2) (y := (k, y)) rs hr
 rw [Sh (y := (k, y)) (List.getElem?_eq_some_iff.1 (PV h)).1] at h1
 unfold Bn Bz
 rw [h]
 exact h1
theorem PW {L : FilL} {k : List UInt8} (h : EJ k L 0 = none) (y : PtT) : ∀ rs, Al [Bn L, Ao 5 1 encB y.1 y.2] rs → Bn (Bz L k y) rs := fun rs hr => by
 have h1 := HP (f := fun p : List UInt8 × PtT => Ao 5 1 encB p.2.1 p.2.2) (x := (k, y)) rs hr
 unfold Bn Bz
 rw [h]
 exact h1
theorem H4 {α : Type} {l : List α} {j : Nat} {x : α} (h : l[j]? = some x) : (l.eraseIdx j).length < l.length := by
 have := (List.getElem?_eq_some_iff.1 h).1
 rw [List.length_eraseIdx, if_pos this]; omega
theorem KL {l : FilL} {j : Nat} {p : List UInt8 × PtT} (h : l[j]? = some p) : AE (B6 (l.eraseIdx j)) + p.2.2.length = AE (B6 l) := by
 have hlt := (List.getElem?_eq_some_iff.1 h).1
 have hx := (List.getElem?_eq_some_iff.1 h).2
 have h1 : l = l.take j ++ p :: l.drop (j + 1) := by rw [← hx]; simp
 have h2 : l.eraseIdx j = l.take j ++ l.drop (j + 1) := List.eraseIdx_eq_take_drop_succ ..
 have e1 : B6 l = B6 (l.take j) ++ (p.1, p.2.2) :: B6 (l.drop (j + 1)) := by
  have := congrArg B6 h1
  rw [this]; simp [B6]
 have e2 : B6 (l.eraseIdx j) = B6 (l.take j) ++ B6 (l.drop (j + 1)) := by rw [h2]; simp [B6]
 rw [e1, e2, KB, KB, Lw]
 show _ + p.2.2.length = _ + (p.2.2.length + _)
 omega
end Go.Proofs.YtnknboibmifacaaGreat.Sep
namespace Go.Proofs.YtnknboibmifacaaGreat.Sep
open Go.RowKit
open Go.Proofs.YtnknboibmifacaaGreat.Mem (Bd Cj Chg AF)
end Go.Proofs.YtnknboibmifacaaGreat.Sep
namespace Go.Proofs.YtnknboibmifacaaGreat.Sep
open Go.RowKit
open Go.Proofs.YtnknboibmifacaaGreat.Mem (Bd Cj Chg AF)
end Go.Proofs.YtnknboibmifacaaGreat.Sep
namespace Go.Proofs.YtnknboibmifacaaGreat.Sep
open Go.RowKit
open Go.Proofs.YtnknboibmifacaaGreat.Mem (Bd Cj Chg AF)
theorem OM {most f : Nat} {l : List UInt8} (h : f ≠ 0) : A7 most l f = (0, l, f) := Nc h
theorem Q3 {most f : Nat} {l : List UInt8} (hf : f = 0) (h : l.length = 0) : A7 most l f = (0, l, 10) := by
 subst hf
 rw [List.eq_nil_of_length_eq_zero h]; rfl
theorem Q4 {most f : Nat} {l : List UInt8} {x : UInt8} (hf : f = 0) (hx : l[0]? = some x) (h : most < x.toNat) : A7 most l f = (0, l, 12) := by
  subst hf
  cases l with
  | nil => simp at hx
  | cons b r =>
    simp only [List.getElem?_cons_zero, Option.some.injEq] at hx
    subst hx
    simp only [A7]
    rw [if_neg (by simp), if_pos h]
theorem ON {most f : Nat} {l : List UInt8} {x : UInt8} (hf : f = 0) (hx : l[0]? = some x) (h : ¬ most < x.toNat) : A7 most l f = (x.toNat, l.drop 1, f) := by
  subst hf
  cases l with
  | nil => simp at hx
  | cons b r =>
    simp only [List.getElem?_cons_zero, Option.some.injEq] at hx
    subst hx
    simp only [A7]
    rw [if_neg (by simp), if_neg h]; rfl
theorem T6 (most : Nat) (l : List UInt8) : (BR most l 0 0).2.1 ≤ l.length := by
  rcases Jb most l 0 0 (by omega) (by decide) with h | h <;> omega
theorem PX (most : Nat) (l : List UInt8) (f : Nat) : ∃ (x : UInt8) (l1 : List UInt8) (f1 : Nat), A7 most l f = (x.toNat, l1, f1) := by
 have h := Iy most l f
 obtain ⟨⟨n, l1, f1⟩, e⟩ : ∃ R, A7 most l f = R := ⟨_, rfl⟩
 rw [e] at h
 exact ⟨UInt8.ofNat n, l1, f1, by rw [e, Iz n h]⟩
section
variable {P : Program} {n : Nat} {B : Nat → Prop} {w0 w : World} {os : List Ass} {env : List (Nat × Value)} {o : Oper} {a : Act}
end
theorem Sq (u : World) (v : Value) (l : List UInt8) (hv : EQ u v l) (hl : l.length ≤ 140737488355328) : FC u Tryz.prog 86 #[v] [] (fun (g : Nat) => .pointer (some ⟨g, 0, none⟩)) (fun (g : Nat) => [Gj g l 0]) := by
 refine R6 (args := [v]) 7 Tryz.func86 rfl rfl rfl ?_; intro w rs hU hS
 refine Ad ?_
 refine Af As rfl ?_
 refine Ab (Ad ?_)
 refine Af As rfl ?_
 refine Ai (post := fun v2 => [Ao 5 1 encB v2 l]) rfl (Mk hU hS (os' := fun v2 => [Ao 5 1 encB v2 l]) [] 0 (Ah Tryz.func59 (by kernel_rfl) rfl) (TZ u hv hl) rfl rfl rfl (fun _ => rfl) rfl rfl rfl) ?_; rintro v2
 refine Ch.fact 0 rfl (fun _ h => Ao.is h) ?_; rintro ⟨A, c, rfl⟩
 refine Ac rfl (.agg #[.slice A l.length c, .int .i64 0]) (fun b w hb hH => AV rfl rfl (by kernel_rfl) hb) ?_
 refine Ai (post := fun g1 => [cell g1 134 #[.slice A l.length c, .int .i64 0], Ao 5 1 encB (.slice A l.length c) l]) rfl (CZ (cs := #[.slice A l.length c, .int .i64 0]) rfl rfl rfl) ?_; rintro g1
 refine Af As rfl ?_
 refine Ab (Az ?_)
 exact Ay (.tmp rfl) (fun w h => AB g1 rfl [0, 1] rfl h (fun z hz => ⟨z, .refl _, Al.one (Gj.mk_ rfl CQ hl z hz)⟩)) rfl
theorem PY (g : Nat) (l : List UInt8) (f most : Nat) (hm : most < 256) (R : Nat × List UInt8 × Nat) (h : A7 most l f = R) : AS Tryz.prog 88 #[.pointer (some ⟨g, 0, none⟩), .int .u8 (most : Int)] [Gj g l f] (fun (_ : Unit) => .int .u8 (R.1 : Int)) (fun (_ : Unit) => [Gj g R.2.1 R.2.2]) := by
  refine A6 (args := [.pointer (some ⟨g, 0, none⟩), .int .u8 (most : Int)]) 41 Tryz.func88 rfl rfl rfl ?_; intro w rs
  refine AY 0 rfl Gj.open_ (fun _ => rfl) ?_; rintro ⟨⟨X, A, c⟩, hR, hL⟩
  refine Bo.keep (env' := [(0, .pointer (some ⟨g, 0, none⟩)), (1, .int .u8 (most : Int))]) ⟨rfl, rfl, trivial⟩ ?_
  refine Bo.mid [cell g 134 #[.slice A l.length c, .int .i64 (f : Int)], X] (.refl _) ?_
  refine Ad ?_
  refine Af As rfl ?_
  refine Ab (Aq ?_)
  by_cases hf : f = 0
  · skip
    refine Ad ?_
    refine Af As rfl ?_
    refine Ac rfl (.pointer (some ⟨g, 0, none⟩)) (fun b w hb hH => by exact BO rfl rfl hb) ?_
    refine Af As rfl ?_
    refine Ac rfl (.int .i64 (f : Int)) (fun b w hb hH => Bg rfl rfl (Bt B5 rfl) (hH.row 0 rfl) hb) ?_
    refine Ac rfl (.bool false) (fun b w hb hH => Bh rfl rfl rfl (AU (by omega)) hb) ?_
    refine Ab (Au rfl (Ax (AG (Aq ?_))))
    rcases Nat.eq_zero_or_pos l.length with h0 | h0
    · skip
      obtain rfl : R = (0, l, 10) := h.symm.trans (Q3 hf h0)
      refine Ad ?_
      refine Af As rfl ?_
      refine Ac rfl (.pointer (some ⟨g, 0, none⟩)) (fun b w hb hH => by exact BO rfl rfl hb) ?_
      refine Af As rfl ?_
      refine Ac rfl (.slice A l.length c) (fun b w hb hH => Bg rfl rfl (Bt C3 rfl) (hH.row 0 rfl) hb) ?_
      refine Ac rfl (.int .i64 (l.length : Int)) (fun b w hb hH => Gs AC rfl rfl hH hb) ?_
      refine Ac rfl (.bool true) (fun b w hb hH => Bh rfl rfl rfl (Ks (by omega)) hb) ?_
      refine Ab (AD rfl (Ad ?_))
      refine Af As rfl ?_
      refine Ac rfl (.pointer (some ⟨g, 0, none⟩)) (fun b w hb hH => by exact BO rfl rfl hb) ?_
      refine Af As rfl ?_
      refine AT (post := fun _ => [cell g 134 #[.slice A l.length c, .int .i64 10], X]) rfl rfl (AM 0 (v := .int .i64 10) #[.slice A l.length c, .int .i64 10] B5.2 rfl rfl rfl rfl rfl rfl rfl rfl rfl) ?_; rintro ⟨⟩
      refine Ab (Ad ?_)
      refine Af As rfl ?_
      refine Ab (Az (CO ?_))
      exact Ay (.tmp rfl) (fun w h => AB () rfl [0, 1] rfl h (fun z hz => ⟨z, .refl _, Al.one (Gj.mk_ rfl hR hL z hz)⟩)) rfl
    · skip
      obtain ⟨x, hx⟩ : ∃ x, l[0]? = some x := ⟨_, List.getElem?_eq_getElem h0⟩
      refine Ad ?_
      refine Af As rfl ?_
      refine Ac rfl (.pointer (some ⟨g, 0, none⟩)) (fun b w hb hH => by exact BO rfl rfl hb) ?_
      refine Af As rfl ?_
      refine Ac rfl (.slice A l.length c) (fun b w hb hH => Bg rfl rfl (Bt C3 rfl) (hH.row 0 rfl) hb) ?_
      refine Ac rfl (.int .i64 (l.length : Int)) (fun b w hb hH => Gs AC rfl rfl hH hb) ?_
      refine Ac rfl (.bool false) (fun b w hb hH => Bh rfl rfl rfl (Le (by omega)) hb) ?_
      refine Ab (Au rfl (Ax (AG (Ad ?_))))
      refine Af As rfl ?_
      refine Ac rfl (.pointer (some ⟨g, 0, none⟩)) (fun b w hb hH => by exact BO rfl rfl hb) ?_
      refine Af As rfl ?_
      refine Ac rfl (.slice A l.length c) (fun b w hb hH => Bg rfl rfl (Bt C3 rfl) (hH.row 0 rfl) hb) ?_
      refine Ac rfl (R4 (.slice A l.length c) (0 * 1)) (fun b w hb hH => UZ 1 hR.rd AC rfl 0 h0 rfl rfl rfl hH hb) ?_
      refine Ac rfl (.int .u8 ((x).toNat : Int)) (fun b w hb hH => R5 1 hR.rd BU EI rfl 0 (a := x) hx rfl rfl rfl hH hb) ?_
      refine Af As rfl ?_
      refine Ab (Aq ?_)
      by_cases hb : most < x.toNat
      · skip
        obtain rfl : R = (0, l, 12) := h.symm.trans (Q4 hf hx hb)
        refine Ad ?_
        refine Af As rfl ?_
        refine Ac rfl (.bool true) (fun b w hb hH => Bh rfl rfl rfl (B2 (by omega)) hb) ?_
        refine Ab (AD rfl (Ad ?_))
        refine Af As rfl ?_
        refine Ac rfl (.pointer (some ⟨g, 0, none⟩)) (fun b w hb hH => by exact BO rfl rfl hb) ?_
        refine Af As rfl ?_
        refine AT (post := fun _ => [cell g 134 #[.slice A l.length c, .int .i64 12], X]) rfl rfl (AM 0 (v := .int .i64 12) #[.slice A l.length c, .int .i64 12] B5.2 rfl rfl rfl rfl rfl rfl rfl rfl rfl) ?_; rintro ⟨⟩
        refine Ab (Ad ?_)
        refine Af As rfl ?_
        refine Ab (Az (CO ?_))
        exact Ay (.tmp rfl) (fun w h => AB () rfl [0, 1] rfl h (fun z hz => ⟨z, .refl _, Al.one (Gj.mk_ rfl hR hL z hz)⟩)) rfl
      · skip
        obtain ⟨A2, hA2⟩ : ∃ A2, (if c = 1 then A else A.map (·.add 1)) = A2 := ⟨_, rfl⟩
        obtain ⟨l2, hl2⟩ : ∃ l2, l.drop 1 = l2 := ⟨_, rfl⟩
        have hR2 : Cw X (.slice A2 l2.length (c - 1)) l2 := by rw [← hA2, ← hl2]; exact hR.drop (by omega)
        have hn2 : l2.length = l.length - 1 := by rw [← hl2, List.length_drop]
        have hL2 : l2.length ≤ 140737488355328 := by omega
        have hsub : Ci 1 (.slice A l.length c) 1 l.length = .slice A2 l2.length (c - 1) := by rw [← hA2]; exact Ng (by omega) (by omega)
        obtain rfl : R = (x.toNat, l2, f) := by rw [← h, ← hl2]; exact ON hf hx hb
        refine Ad ?_
        refine Af As rfl ?_
        refine Ac rfl (.bool false) (fun b w hb hH => Bh rfl rfl rfl (BC (by omega)) hb) ?_
        refine Ab (Au rfl (Ax (AG (Ad ?_))))
        refine Af As rfl ?_
        refine Ac rfl (.pointer (some ⟨g, 0, none⟩)) (fun b w hb hH => by exact BO rfl rfl hb) ?_
        refine Af As rfl ?_
        refine Ac rfl (.slice A l.length c) (fun b w hb hH => Bg rfl rfl (Bt C3 rfl) (hH.row 0 rfl) hb) ?_
        refine Ac rfl (.slice A2 l2.length (c - 1)) (fun b w hb hH => FB (i := 1) AC hsub h0 rfl rfl rfl hH hb) ?_
        refine Ac rfl (.pointer (some ⟨g, 0, none⟩)) (fun b w hb hH => by exact BO rfl rfl hb) ?_
        refine Af As rfl ?_
        refine AT (post := fun _ => [cell g 134 #[.slice A2 l2.length (c - 1), .int .i64 (f : Int)], X]) rfl rfl (AM 0 (v := .slice A2 l2.length (c - 1)) #[.slice A2 l2.length (c - 1), .int .i64 (f : Int)] C3.2 rfl rfl rfl rfl rfl rfl rfl rfl rfl) ?_; rintro ⟨⟩
        refine Ab (Ad ?_)
        refine Af As rfl ?_
        refine Ab (Az ?_)
        exact Ay (.tmp rfl) (fun w h => AB () rfl [0, 1] rfl h (fun z hz => ⟨z, .refl _, Al.one (Gj.mk_ rfl hR2 hL2 z hz)⟩)) rfl
  · skip
    obtain rfl : R = (0, l, f) := h.symm.trans (OM hf)
    refine Ad ?_
    refine Af As rfl ?_
    refine Ac rfl (.pointer (some ⟨g, 0, none⟩)) (fun b w hb hH => by exact BO rfl rfl hb) ?_
    refine Af As rfl ?_
    refine Ac rfl (.int .i64 (f : Int)) (fun b w hb hH => Bg rfl rfl (Bt B5 rfl) (hH.row 0 rfl) hb) ?_
    refine Ac rfl (.bool true) (fun b w hb hH => Bh rfl rfl rfl (BY (by omega)) hb) ?_
    refine Ab (AD rfl (Ad ?_))
    refine Af As rfl ?_
    refine Ab (Az (CO ?_))
    exact Ay (.tmp rfl) (fun w h => AB () rfl [0, 1] rfl h (fun z hz => ⟨z, .refl _, Al.one (Gj.mk_ rfl hR hL z hz)⟩)) rfl
theorem Sr (g : Nat) (l : List UInt8) (f most : Nat) (hm : most < 18446744073709551616) (R : Nat × List UInt8 × Nat) (h : B0 most l f = R) : AS Tryz.prog 87 #[.pointer (some ⟨g, 0, none⟩), .int .u64 (most : Int)] [Gj g l f] (fun (_ : Unit) => .int .u64 (R.1 : Int)) (fun (_ : Unit) => [Gj g R.2.1 R.2.2]) := by
  refine A6 (args := [.pointer (some ⟨g, 0, none⟩), .int .u64 (most : Int)]) 37 Tryz.func87 rfl rfl rfl ?_; intro w rs
  refine AY 0 rfl Gj.open_ (fun _ => rfl) ?_; rintro ⟨⟨X, A, c⟩, hR, hL⟩
  refine Bo.keep (env' := [(0, .pointer (some ⟨g, 0, none⟩)), (1, .int .u64 (most : Int))]) ⟨rfl, rfl, trivial⟩ ?_
  refine Bo.mid [cell g 134 #[.slice A l.length c, .int .i64 (f : Int)], X] (.refl _) ?_
  refine Ad ?_
  refine Af As rfl ?_
  refine Ab (Aq ?_)
  by_cases hf : f = 0
  · skip
    have hz := T6 most l
    obtain ⟨⟨n, sz, e2⟩, hv⟩ : ∃ R, BR most l 0 0 = R := ⟨_, rfl⟩
    rw [hv] at hz
    simp only at hz
    obtain ⟨A2, hA2⟩ : ∃ A2, (if c = sz then A else A.map (·.add sz)) = A2 := ⟨_, rfl⟩
    obtain ⟨l2, hl2⟩ : ∃ l2, l.drop sz = l2 := ⟨_, rfl⟩
    have hR2 : Cw X (.slice A2 l2.length (c - sz)) l2 := by rw [← hA2, ← hl2]; exact hR.drop (by omega)
    have hn2 : l2.length = l.length - sz := by rw [← hl2, List.length_drop]
    have hL2 : l2.length ≤ 140737488355328 := by omega
    have hsub : Ci 1 (.slice A l.length c) sz l.length = .slice A2 l2.length (c - sz) := by rw [← hA2]; exact Ng (by omega) (by omega)
    obtain rfl : R = (n, l2, e2) := by rw [← h, ← hl2]; unfold B0; rw [if_neg (by simp [hf]), hv]
    refine Ad ?_
    refine Af As rfl ?_
    refine Ac rfl (.pointer (some ⟨g, 0, none⟩)) (fun b w hb hH => by exact BO rfl rfl hb) ?_
    refine Af As rfl ?_
    refine Ac rfl (.int .i64 (f : Int)) (fun b w hb hH => Bg rfl rfl (Bt B5 rfl) (hH.row 0 rfl) hb) ?_
    refine Ac rfl (.bool false) (fun b w hb hH => Bh rfl rfl rfl (AU (by omega)) hb) ?_
    refine Ab (Au rfl (Ax (AG (Ad ?_))))
    refine Af As rfl ?_
    refine Ac rfl (.pointer (some ⟨g, 0, none⟩)) (fun b w hb hH => by exact BO rfl rfl hb) ?_
    refine Af As rfl ?_
    refine Ac rfl (.slice A l.length c) (fun b w hb hH => Bg rfl rfl (Bt C3 rfl) (hH.row 0 rfl) hb) ?_
    refine Af As rfl ?_
    refine Ai (post := fun _ => [cell g 134 #[.slice A l.length c, .int .i64 (f : Int)], X]) rfl (BQ (Ah Tryz.func95 (by kernel_rfl) rfl) (fun w hH => T3 (hH.rd8 1 rfl hR) hL most hm (n, sz, e2) hv) rfl rfl rfl) ?_; rintro ⟨⟩
    refine Af As rfl ?_
    refine Ab (Ad ?_)
    refine Af As rfl ?_
    refine Ac rfl (.pointer (some ⟨g, 0, none⟩)) (fun b w hb hH => by exact BO rfl rfl hb) ?_
    refine Af As rfl ?_
    refine AT (post := fun _ => [cell g 134 #[.slice A l.length c, .int .i64 (e2 : Int)], X]) rfl rfl (AM 0 (v := .int .i64 (e2 : Int)) #[.slice A l.length c, .int .i64 (e2 : Int)] B5.2 rfl rfl rfl rfl rfl rfl rfl rfl rfl) ?_; rintro ⟨⟩
    refine Ab (Ad ?_)
    refine Af As rfl ?_
    refine Ac rfl (.pointer (some ⟨g, 0, none⟩)) (fun b w hb hH => by exact BO rfl rfl hb) ?_
    refine Af As rfl ?_
    refine Ac rfl (.slice A l.length c) (fun b w hb hH => Bg rfl rfl (Bt C3 rfl) (hH.row 0 rfl) hb) ?_
    refine Af As rfl ?_
    refine Ac rfl (.slice A2 l2.length (c - sz)) (fun b w hb hH => FB (i := sz) AC hsub hz rfl rfl rfl hH hb) ?_
    refine Ac rfl (.pointer (some ⟨g, 0, none⟩)) (fun b w hb hH => by exact BO rfl rfl hb) ?_
    refine Af As rfl ?_
    refine AT (post := fun _ => [cell g 134 #[.slice A2 l2.length (c - sz), .int .i64 (e2 : Int)], X]) rfl rfl (AM 0 (v := .slice A2 l2.length (c - sz)) #[.slice A2 l2.length (c - sz), .int .i64 (e2 : Int)] C3.2 rfl rfl rfl rfl rfl rfl rfl rfl rfl) ?_; rintro ⟨⟩
    refine Ab (Ad ?_)
    refine Af As rfl ?_
    refine Ab (Az ?_)
    exact Ay (.tmp rfl) (fun w h => AB () rfl [0, 1] rfl h (fun z hz => ⟨z, .refl _, Al.one (Gj.mk_ rfl hR2 hL2 z hz)⟩)) rfl
  · skip
    obtain rfl : R = (0, l, f) := h.symm.trans (Ox hf)
    refine Ad ?_
    refine Af As rfl ?_
    refine Ac rfl (.pointer (some ⟨g, 0, none⟩)) (fun b w hb hH => by exact BO rfl rfl hb) ?_
    refine Af As rfl ?_
    refine Ac rfl (.int .i64 (f : Int)) (fun b w hb hH => Bg rfl rfl (Bt B5 rfl) (hH.row 0 rfl) hb) ?_
    refine Ac rfl (.bool true) (fun b w hb hH => Bh rfl rfl rfl (BY (by omega)) hb) ?_
    refine Ab (AD rfl (Ad ?_))
    refine Af As rfl ?_
    refine Ab (Az (CO ?_))
    exact Ay (.tmp rfl) (fun w h => AB () rfl [0, 1] rfl h (fun z hz => ⟨z, .refl _, Al.one (Gj.mk_ rfl hR hL z hz)⟩)) rfl
theorem Ss (g : Nat) (l : List UInt8) (f r : Nat) (h : DT l f = r) : AS Tryz.prog 89 #[.pointer (some ⟨g, 0, none⟩)] [Gj g l f] (fun (_ : Unit) => .int .i64 (r : Int)) (fun (_ : Unit) => [Gj g l f]) := by
  refine A6 (args := [.pointer (some ⟨g, 0, none⟩)]) 20 Tryz.func89 rfl rfl rfl ?_; intro w rs
  refine AY 0 rfl Gj.open_ (fun _ => rfl) ?_; rintro ⟨⟨X, A, c⟩, hR, hL⟩
  refine Bo.keep (env' := [(0, .pointer (some ⟨g, 0, none⟩))]) ⟨rfl, trivial⟩ ?_
  refine Bo.mid [cell g 134 #[.slice A l.length c, .int .i64 (f : Int)], X] (.refl _) ?_
  refine Ad ?_
  refine Af As rfl ?_
  refine Ab (Aq ?_)
  have hc : (f = 0 ∧ 0 < l.length) ∨ (f = 0 ∧ ¬ 0 < l.length) ∨ f ≠ 0 := by omega
  rcases hc with ⟨hf, h0⟩ | ⟨hf, h0⟩ | hf
  · skip
    obtain rfl : r = 11 := by rw [← h]; unfold DT; rw [if_pos ⟨hf, h0⟩]
    refine Ad ?_
    refine Af As rfl ?_
    refine Ac rfl (.pointer (some ⟨g, 0, none⟩)) (fun b w hb hH => by exact BO rfl rfl hb) ?_
    refine Af As rfl ?_
    refine Ac rfl (.int .i64 (f : Int)) (fun b w hb hH => Bg rfl rfl (Bt B5 rfl) (hH.row 0 rfl) hb) ?_
    refine Ac rfl (.bool true) (fun b w hb hH => Bh rfl rfl rfl (Ks (by omega)) hb) ?_
    refine Af As rfl ?_
    refine Ac rfl (.pointer (some ⟨g, 0, none⟩)) (fun b w hb hH => by exact BO rfl rfl hb) ?_
    refine Af As rfl ?_
    refine Ac rfl (.slice A l.length c) (fun b w hb hH => Bg rfl rfl (Bt C3 rfl) (hH.row 0 rfl) hb) ?_
    refine Ac rfl (.int .i64 (l.length : Int)) (fun b w hb hH => Gs AC rfl rfl hH hb) ?_
    refine Ac rfl (.bool true) (fun b w hb hH => Bh rfl rfl rfl (B2 (by omega)) hb) ?_
    refine Af As rfl ?_
    refine Ab (AD rfl (Ad ?_))
    refine Af As rfl ?_
    refine Ab (Az (CO ?_))
    exact Ay (.tmp rfl) (fun w h => AB () rfl [0, 1] rfl h (fun z hz => ⟨z, .refl _, Al.one (Gj.mk_ rfl hR hL z hz)⟩)) rfl
  · skip
    have hr : r = f := by rw [← h]; unfold DT; rw [if_neg (fun hh => h0 hh.2)]
    refine Ad ?_
    refine Af As rfl ?_
    refine Ac rfl (.pointer (some ⟨g, 0, none⟩)) (fun b w hb hH => by exact BO rfl rfl hb) ?_
    refine Af As rfl ?_
    refine Ac rfl (.int .i64 (f : Int)) (fun b w hb hH => Bg rfl rfl (Bt B5 rfl) (hH.row 0 rfl) hb) ?_
    refine Ac rfl (.bool true) (fun b w hb hH => Bh rfl rfl rfl (Ks (by omega)) hb) ?_
    refine Af As rfl ?_
    refine Ac rfl (.pointer (some ⟨g, 0, none⟩)) (fun b w hb hH => by exact BO rfl rfl hb) ?_
    refine Af As rfl ?_
    refine Ac rfl (.slice A l.length c) (fun b w hb hH => Bg rfl rfl (Bt C3 rfl) (hH.row 0 rfl) hb) ?_
    refine Ac rfl (.int .i64 (l.length : Int)) (fun b w hb hH => Gs AC rfl rfl hH hb) ?_
    refine Ac rfl (.bool false) (fun b w hb hH => Bh rfl rfl rfl (BC (by omega)) hb) ?_
    refine Af As rfl ?_
    refine Ab (Au rfl (Ax (AG (Ad ?_))))
    refine Af As rfl ?_
    refine Ac rfl (.pointer (some ⟨g, 0, none⟩)) (fun b w hb hH => by exact BO rfl rfl hb) ?_
    refine Af As rfl ?_
    refine Ac rfl (.int .i64 (f : Int)) (fun b w hb hH => Bg rfl rfl (Bt B5 rfl) (hH.row 0 rfl) hb) ?_
    refine Af As rfl ?_
    refine Ab (Az ?_)
    exact Ay (.tmp rfl) (fun w h => AB () (by rw [hr]) [0, 1] rfl h (fun z hz => ⟨z, .refl _, Al.one (Gj.mk_ rfl hR hL z hz)⟩)) rfl
  · skip
    have hr : r = f := by rw [← h]; unfold DT; rw [if_neg (fun hh => hf hh.1)]
    refine Ad ?_
    refine Af As rfl ?_
    refine Ac rfl (.pointer (some ⟨g, 0, none⟩)) (fun b w hb hH => by exact BO rfl rfl hb) ?_
    refine Af As rfl ?_
    refine Ac rfl (.int .i64 (f : Int)) (fun b w hb hH => Bg rfl rfl (Bt B5 rfl) (hH.row 0 rfl) hb) ?_
    refine Ac rfl (.bool false) (fun b w hb hH => Bh rfl rfl rfl (Le (by omega)) hb) ?_
    refine Af As rfl ?_
    refine Ab (Au rfl (Ax (AG (Ad ?_))))
    refine Af As rfl ?_
    refine Ac rfl (.pointer (some ⟨g, 0, none⟩)) (fun b w hb hH => by exact BO rfl rfl hb) ?_
    refine Af As rfl ?_
    refine Ac rfl (.int .i64 (f : Int)) (fun b w hb hH => Bg rfl rfl (Bt B5 rfl) (hH.row 0 rfl) hb) ?_
    refine Af As rfl ?_
    refine Ab (Az ?_)
    exact Ay (.tmp rfl) (fun w h => AB () (by rw [hr]) [0, 1] rfl h (fun z hz => ⟨z, .refl _, Al.one (Gj.mk_ rfl hR hL z hz)⟩)) rfl
end Go.Proofs.YtnknboibmifacaaGreat.Sep
namespace Go.Proofs.YtnknboibmifacaaGreat.Sep
open Go.RowKit
open Go.Proofs.YtnknboibmifacaaGreat.Mem (Bd Cj Chg AF)
end Go.Proofs.YtnknboibmifacaaGreat.Sep
namespace Go.Proofs.YtnknboibmifacaaGreat.Sep
open Go.ChangeShapes Go.WideShapes Go.ChangeAt Go.RowKit
section
variable {H : Type} {enc : TypeId × Value → H} {W : World} {base b0 : Nat} {r : Reach} {spare : Nat → Bool} {held : Bool} {v : Value} {d : DataW H} {p : List MemPlace}
end
end Go.Proofs.YtnknboibmifacaaGreat.Sep
namespace Go.Proofs.YtnknboibmifacaaGreat.Sep
open Go.RowKit
open Go.Proofs.YtnknboibmifacaaGreat.Mem (Bd Cj Chg AF)
end Go.Proofs.YtnknboibmifacaaGreat.Sep
namespace Go.Proofs.YtnknboibmifacaaGreat.Sep
open Go.RowKit
open Go.Proofs.YtnknboibmifacaaGreat.Mem (Bd Cj Chg AF)
end Go.Proofs.YtnknboibmifacaaGreat.Sep
namespace Go.Proofs.YtnknboibmifacaaGreat.Sep
open Go.RowKit
open Go.Proofs.YtnknboibmifacaaGreat.Mem (Bd Cj Chg AF)
end Go.Proofs.YtnknboibmifacaaGreat.Sep
namespace Go.Proofs.YtnknboibmifacaaGreat.Sep
open Go.RowKit
open Go.Proofs.YtnknboibmifacaaGreat.Mem (Bd Cj Chg AF)
end Go.Proofs.YtnknboibmifacaaGreat.Sep
namespace Go.Proofs.YtnknboibmifacaaGreat.Sep
open Go.RowKit
open Go.Proofs.YtnknboibmifacaaGreat.Mem (Bd Cj Chg AF)
structure RepD where
  code : Int
  val : Int
  hi : Int
  lo : Int
  sc : Int
deriving DecidableEq
structure RepD.ok (r : RepD) : Prop where
  code : PO r.code
  val : N8 r.val
  hi : PO r.hi
  lo : N8 r.lo
  sc : PO r.sc
def RepD.right (r : RepD) : Bool := (decide (0 ≤ r.code) && decide (r.code ≤ 99)) && V9 r.sc
end Go.Proofs.YtnknboibmifacaaGreat.Sep
namespace Go.Proofs.YtnknboibmifacaaGreat.Sep
open Go.RowKit
open Go.Proofs.YtnknboibmifacaaGreat.Mem (Bd Cj Chg AF)
end Go.Proofs.YtnknboibmifacaaGreat.Sep
namespace Go.Proofs.YtnknboibmifacaaGreat.Sep
open Go.RowKit
open Go.Proofs.YtnknboibmifacaaGreat.Mem (Bd Cj Chg AF)
theorem pick (w : World) (a m : Int) (ha : -9223372036854775808 ≤ a ∧ a ≤ 9223372036854775807) (hm : 1 ≤ m ∧ m ≤ 9223372036854775807) {r : Int} (hr : a % m = r) : Calls Tryz.prog 8 #[.int .i64 a, .int .i64 m] w fun e w' => e = .returned (.int .i64 r) ∧ Below w.heap.size w w' := by
  have hlt := Int.emod_lt_of_pos a (show 0 < m by omega)
  have hge := Int.emod_nonneg a (show m ≠ 0 by omega)
  have ht : (0 ≤ a.tmod m ∧ a.tmod m = r) ∨ (a.tmod m < 0 ∧ a.tmod m + m = r) := by
    rw [Int.tmod_eq_emod, ← hr]
    split
    · left; omega
    · rename_i h
      right
      have hne : a % m ≠ 0 := fun e => h (.inr (Int.dvd_of_emod_eq_zero e))
      omega
  rw [hr] at hlt hge
  obtain ⟨t, htm⟩ : ∃ t, a.tmod m = t := ⟨_, rfl⟩
  rw [htm] at ht
  refine In (args := [.int .i64 a, .int .i64 m]) 14 Tryz.func8 rfl rfl rfl ?_
  refine Ad ?_
  refine Af As rfl ?_
  refine Ab (Ad ?_)
  refine Af As rfl ?_
  refine Ac rfl (.int .i64 t) (fun b w hb hH => Jh rfl rfl rfl (by omega) htm hb) ?_
  refine Af As rfl ?_
  refine Ab (Aq ?_)
  rcases ht with ⟨h1, h2⟩ | ⟨h1, h2⟩
  · skip
    subst h2
    refine Ad ?_
    refine Af As rfl ?_
    refine Ac rfl (.bool false) (fun b w hb hH => Bh rfl rfl rfl (Bu (by omega)) hb) ?_
    refine Ab (Au rfl (Ax (AG (Ad ?_))))
    refine Af As rfl ?_
    refine Ab (Az ?_)
    exact Ay (.tmp rfl) (fun w h => ⟨rfl, AF h.up⟩) rfl
  · skip
    refine Ad ?_
    refine Af As rfl ?_
    refine Ac rfl (.bool true) (fun b w hb hH => Bh rfl rfl rfl (Bl (by omega)) hb) ?_
    refine Ab (AD rfl (BI ?_))
    refine Af As rfl ?_
    refine Ac rfl (.int .i64 r) (fun b w hb hH => AK rfl rfl rfl rfl (by rw [IntWalk.i64_in _ (by omega)]; omega) hb) ?_
    refine Af As rfl ?_
    refine AP (AG (Ad ?_))
    refine Af As rfl ?_
    refine Ab (Az ?_)
    exact Ay (.tmp rfl) (fun w h => ⟨rfl, AF h.up⟩) rfl
end Go.Proofs.YtnknboibmifacaaGreat.Sep
