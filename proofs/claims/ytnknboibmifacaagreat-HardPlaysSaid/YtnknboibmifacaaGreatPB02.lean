/-
  Opz · Prt · DskM · TyC · Fil · CmdA · CmdB · CmdR · CmdL · CmdO · CmdP · CmdQ · CmdE · CmdF · CmdG · CmdN · CmdI · Crc · Sum · Seal
-/
import Derived.Test.YtnknboibmifacaaGreatPA06
import Derived.Test.YtnknboibmifacaaGreatPA07
import Derived.Test.YtnknboibmifacaaGreatPA08
import Derived.Test.YtnknboibmifacaaGreatPB01
import Derived.SizedLaws
import Derived.Test.YtnknboibmifacaaGreatChecked
import Derived.Lib.SmallJoins
import Derived.ChangeMaps5
import Derived.Deep.QuietTactic
import Derived.BigQuiet
set_option linter.unusedSimpArgs false
set_option linter.unusedVariables false
set_option maxRecDepth 100000
namespace Go.Proofs.YtnknboibmifacaaGreat.Sep
open Go.ChangeShapes Go.WideShapes Go.ChangeAt Go.RowKit
section
variable {H : Type} {enc : TypeId × Value → H} {P : Program}
def KS (P : Program) (t : TypeId) (d : DataW H) : Prop := ∀ n ∈ d.weights P t, n ≤ reachBytes
theorem KS.len {t e : TypeId} {es sp : List (DataW H)} (h : KS P t (.slice es sp)) (hu : P.underlying t = some (.slice e)) : es.length * P.bytesOf e ≤ reachBytes := by
 have := h ((es.length + sp.length) * P.bytesOf e) (by simp [DataW.weights, hu])
 exact Nat.le_trans (Nat.mul_le_mul_right _ (Nat.le_add_right _ _)) this
theorem J4 {e : TypeId} : ∀ {es : List (DataW H)} {j : Nat} {d : DataW H}, es[j]? = some d → ∀ n ∈ d.weights P e, n ∈ DataW.weightsAll P e es
  | [], _, _, h, _, _ => by simp at h
  | d0 :: r, 0, d, h, n, hn => by
    simp only [List.getElem?_cons_zero, Option.some.injEq] at h
    subst h
    simp only [DataW.weightsAll, List.mem_append]
    exact .inl hn
  | d0 :: r, j + 1, d, h, n, hn => by
    simp only [List.getElem?_cons_succ] at h
    simp only [DataW.weightsAll, List.mem_append]
    exact .inr (J4 h n hn)
theorem KS.elem {t e : TypeId} {es sp : List (DataW H)} (h : KS P t (.slice es sp)) (hu : P.underlying t = some (.slice e)) {j : Nat} {d : DataW H} (hd : es[j]? = some d) : KS P e d := fun n hn => by
 refine h n ?_
 have := J4 (P := P) hd n hn
 simp [DataW.weights, hu, this]
end
end Go.Proofs.YtnknboibmifacaaGreat.Sep
namespace Go.Proofs.YtnknboibmifacaaGreat.Sep
open Go.RowKit
open Go.Proofs.YtnknboibmifacaaGreat.Mem (Bl Co Chg AG)
def encW (v : Value) : List Value := [if v.oneCell' = true then v else .nilIface]
theorem V1 : EncOf 1 encW := ⟨fun _ => rfl, fun v x h => by
  unfold encW at h
  rw [List.mem_singleton] at h
  subst h
  split
  · assumption
  · rfl⟩
theorem NC {v : Value} (h : v.oneCell' = true) : encW v = [v] := by unfold encW; rw [if_pos h]
abbrev PtT := Value × List UInt8
def BM (te : TypeId) (v : Value) (l : List PtT) : Ass := Fz [As te 1 encW v (l.map (·.1)), DS (fun x : PtT => As 5 1 encB x.1 x.2) l]
section
variable {P : Program} {te t : TypeId} {v u : Value} {l : List PtT} {d : List UInt8} {w w0 : World} {rs : List RowT} {B : Nat → Prop} {os : List Ass} {Q : Exit → Act → World → Prop} {n : Nat} {env : List (Nat × Value)} {o : Oper} {act : Act}
theorem Rg : ∀ rs, BM te v l rs → ∃ _ : Unit, Ap [As te 1 encW v (l.map (·.1)), DS (fun x : PtT => As 5 1 encB x.1 x.2) l] rs := fun _ h => ⟨(), h⟩
theorem Rh : ∀ rs, Ap [As te 1 encW v (l.map (·.1) ++ [u]), DS (fun x : PtT => As 5 1 encB x.1 x.2) l, As 5 1 encB u d] rs → BM te v (l ++ [(u, d)]) rs := fun rs h => by
  obtain ⟨a, b, e, h1, h2⟩ := h
  refine ⟨a, b, e, ?_, Ap.one (Ij (x := ((u, d) : PtT)) _ h2)⟩
  rw [List.map_append]; exact h1
theorem Sz : BM te (.slice none 0 0) [] [] := ⟨[], [], rfl, Ov _ _ _, [], [], rfl, EV, rfl⟩
theorem BM.at_ (h : BM te v l rs) (hr : RowsOf w rs) {j : Nat} (hj : l[j]? = some (u, d)) : ∃ ys, As 5 1 encB u d ys ∧ RowsOf w ys := by
 obtain ⟨a, b, e, h1, h2⟩ := h
 subst e
 exact (Ap.one' h2).at_ (f := fun x : PtT => As 5 1 encB x.1 x.2) (x := ((u, d) : PtT)) (AW.2 fun z hz => AW.1 hr z (by simp [hz])) hj
theorem Uq {j : Nat} (hj : l[j]? = some (u, d)) : CX (BM te v l) u d := fun rs w h1 h2 => by
 obtain ⟨ys, h3, h4⟩ := h1.at_ h2 hj
 exact Hs h3 h4
theorem Hp.prtVec (h : Hp B w0 w os) (i : Nat) (hi : os[i]? = some (BM te v l)) : ∃ rs, As te 1 encW v (l.map (·.1)) rs ∧ RowsOf w rs := by
  obtain ⟨rs, ⟨a, b, e, h1, _⟩, h2⟩ := h.thing i hi
  exact ⟨a, h1, AW.2 fun z hz => AW.1 h2 z (by rw [e]; simp [hz])⟩
theorem OY (i : Nat) (hu : P.underlying t = some (.slice te)) (hi : os[i]? = some (BM te v l)) {x : Operand} (ho : o.op = .call { callee := .builtin .len, args := #[x], argTypes := #[t] }) (hx : evs env x = some v) (hH : Hp B w0 w os) (hF : Fr n act env) : (execOp act.eval o).run P w = .ok (.value (.int .i64 (l.length : Int))) w := by
 obtain ⟨rs, hv, _⟩ := hH.prtVec i hi
 obtain ⟨A, c, rfl⟩ := hv.is
 rw [List.length_map] at hx
 exact Fb ho (vs := [.slice A l.length c]) (by simp [evl, hx]) (fun cs => EO hu A _ c _ w cs) hF
theorem Ri {a : List Value} (hO : DW P te) (hv : As te 1 encW v a rs) (hr : RowsOf w rs) {j : Nat} (hj : a[j]? = some u) (h1 : u.oneCell' = true) {x : Operand} (ho : o.op = .load te x) (hx : evs env x = some (BP v (j * 1))) (hF : Fr n act env) : (execOp act.eval o).run P w = .ok (.value u) w := by
  rcases hv with ⟨_, h2, _⟩ | ⟨g, cap, cs, h2, _, _, _, h5, h6⟩
  · subst h2; simp at hj
  · subst h2; subst h6
    have hcell : cs[j]? = some u := by
      refine As.take_ V1 h5 ?_
      have := GO V1 hj (j := 0) (by decide)
      rw [Nat.mul_one, Nat.add_zero] at this
      rw [this, NC h1]; rfl
    refine A6 ho (off := j) (t := te) (g := g) (cs := cs) ?_ (Bk hO hcell) hr.1 hF
    rw [hx]; simp [BP]
theorem OZ (i : Nat) (hT : SliceT P t te 1) (hi : os[i]? = some (BM te v l)) (j : Nat) (hj : j < l.length) {x y : Operand} {kk : IntKind} (ho : o.op = .indexAddr t x y) (hx : evs env x = some v) (hy : evs env y = some (.int kk (j : Int))) (hH : Hp B w0 w os) (hF : Fr n act env) : (execOp act.eval o).run P w = .ok (.value (BP v (j * 1))) w := by
  obtain ⟨rs, h1, h2⟩ := hH
  obtain ⟨a, y', b, e, h3, h4⟩ := Ap.at_ h1 hi
  obtain ⟨c, z, e2, h5, h6⟩ := h3
  have hH2 : Hp B w0 w [As te 1 encW v (l.map (·.1)), fun r => ∃ p q, r = p ++ q ∧ p = a ∧ (Ap [DS (fun x : PtT => As 5 1 encB x.1 x.2) l] z ∧ q = z ++ b)] := by
    refine ⟨c ++ (a ++ (z ++ b)), ⟨c, a ++ (z ++ b), rfl, h5, a ++ (z ++ b), [], by simp, ⟨a, z ++ b, rfl, rfl, h6, rfl⟩, rfl⟩, C1 h2 ?_⟩
    rw [e, e2]
    have : (a ++ (c ++ z ++ b)).Perm (c ++ (a ++ (z ++ b))) := by
      rw [List.append_assoc, ← List.append_assoc, ← List.append_assoc c a]
      exact List.perm_append_comm.append_right _
    simpa using this
  exact Ej 0 hT V1 rfl j (by rw [List.length_map]; exact hj) ho hx hy hH2 hF
theorem MH (i : Nat) (hO : DW P te) (hi : os[i]? = some (BM te v l)) (j : Nat) (hj : l[j]? = some (u, d)) {x : Operand} (ho : o.op = .load te x) (hx : evs env x = some (BP v (j * 1))) (hH : Hp B w0 w os) (hF : Fr n act env) : (execOp act.eval o).run P w = .ok (.value u) w := by
 obtain ⟨rs, h1, h2⟩ := hH.thing i hi
 obtain ⟨ys, h3, _⟩ := h1.at_ h2 hj
 obtain ⟨rs2, h4, h5⟩ := hH.prtVec i hi
 exact Ri hO h4 h5 (j := j) (by rw [List.getElem?_map, hj]; rfl) h3.c1.2 ho hx hF
theorem SA (q : Nat) {e' : TypeId} {k' : Nat} {α : Type} {enc' : α → List Value} {l' : List α} (hT : SliceT P t te 1) (hq : os[q]? = some (As e' k' enc' u l')) {x : Operand} (ho : o.op = .buildSlice t 1 #[(0, x)]) (hx : evs env x = some u) : Bp P Q n env B w0 os o (fun v : Value => v) (fun v => As te 1 encW v [u] :: os) := fun b w hH hF K hK => by
 obtain ⟨rs, h1, _⟩ := hH.thing q hq
 exact KH hT V1 u (NC h1.c1.2) ho hx b w hH hF K hK
end
structure PtV where
  A : Option Addr
  c : Nat
  d : List UInt8
def PtV.v (x : PtV) : Value := .slice x.A x.d.length x.c
def Wh (x : PtV) : List Value := [x.v]
instance : Inhabited PtV := ⟨⟨none, 0, []⟩⟩
def SB (w : World) (v : Value) (l : List PtV) : Prop := Dx w 1 v l.length (flat Wh l) ∧ ∀ x, x ∈ l → Fw w x.v x.d
section
variable {u w w0 : World} {v : Value} {l : List PtV} {B : Nat → Prop} {os : List Ass}
theorem SB.below (h : SB u v l) (hb : Below u.heap.size u w) : SB w v l := ⟨h.1.below hb, fun x hx => (h.2 x hx).below hb⟩
end
theorem I1 {A : Option Addr} {n c j : Nat} : Cm 1 (.slice A n c) 0 j = .slice A j c := by
  have e : A.map (·.add 0) = A := by
    cases A with
    | none => rfl
    | some a =>
      have : a.add 0 = a := by obtain ⟨b, o, q⟩ := a; cases q <;> simp [Addr.add]
      simp [this]
  simp [Cm, e]
structure PsV where
  v : Value
  l : List PtT
end Go.Proofs.YtnknboibmifacaaGreat.Sep
namespace Go.Proofs.YtnknboibmifacaaGreat.Sep
abbrev FS := List (List UInt8 × List UInt8)
inductive OpD where
  | app (n b : List UInt8)
  | cut (n : List UInt8) (size : Nat)
  | ren (a b : List UInt8)
  | del (n : List UInt8)
def AI (f : FS) : OpD → FS
  | .app n b => BG f n ((AQ f n).getD [] ++ b)
  | .cut n s => match AQ f n with | some x => BG f n (x.take s) | none => f
  | .ren a b => match AQ f a with | some x => BG (BX f a) b x | none => f
  | .del n => BX f n
def AK (f : FS) : Nat := (f.map fun p => p.2.length).sum
theorem Gn {f : FS} (h : (AL f).Nodup) (o : OpD) : (AL (AI f o)).Nodup := by
  cases o with
  | app n b => exact Ck h
  | cut n s =>
    show (AL (match AQ f n with | some x => BG f n (x.take s) | none => f)).Nodup
    split
    · exact Ck h
    · exact h
  | ren a b =>
    show (AL (match AQ f a with | some x => BG (BX f a) b x | none => f)).Nodup
    split
    · exact Ck (Cf h)
    · exact h
  | del n => exact Cf h
theorem EJ : ∀ (l : List OpD) {f : FS}, (AL f).Nodup → (AL (l.foldl AI f)).Nodup
  | [], _, h => h
  | o :: r, _, h => EJ r (Gn h o)
theorem Ia {f : FS} (h : (AL f).Nodup) : f.Nodup := (List.Pairwise.of_map (fun p : List UInt8 × List UInt8 => p.1) (fun a b (hab : a.1 ≠ b.1) e => hab (by rw [e])) h)
theorem Ec {f g : FS} (hf : (AL f).Nodup) (hg : (AL g).Nodup) (h : ∀ p, p ∈ f ↔ p ∈ g) : f.Perm g :=
 (List.perm_ext_iff_of_nodup (Ia hf) (Ia hg)).2 h
theorem CQ {f g : FS} (h : f.Perm g) : (AL f).Perm (AL g) := h.map _
theorem El {f g : FS} (h : f.Perm g) (hf : (AL f).Nodup) (k : List UInt8) : AQ f k = AQ g k := by
  have hg : (AL g).Nodup := (CQ h).nodup_iff.1 hf
  cases e : AQ g k with
  | none => rw [CZ] at e ⊢; exact fun hm => e ((CQ h).mem_iff.1 hm)
  | some x => exact (B8 hf).2 (h.mem_iff.2 ((B8 hg).1 e))
theorem KT {f g : FS} (h : f.Perm g) (hf : (AL f).Nodup) (k x : List UInt8) : (BG f k x).Perm (BG g k x) := by
 have hg : (AL g).Nodup := (CQ h).nodup_iff.1 hf
 refine Ec (Ck hf) (Ck hg) fun p => ?_
 rw [Fd hf, Fd hg, h.mem_iff]
theorem ND {f g : FS} (h : f.Perm g) (hf : (AL f).Nodup) (k : List UInt8) : (BX f k).Perm (BX g k) := by
 have hg : (AL g).Nodup := (CQ h).nodup_iff.1 hf
 refine Ec (Cf hf) (Cf hg) fun p => ?_
 rw [Dv hf, Dv hg, h.mem_iff]
theorem Rj {f g : FS} (h : f.Perm g) (hf : (AL f).Nodup) (o : OpD) : (AI f o).Perm (AI g o) := by
  cases o with
  | app n b =>
    show (BG f n _).Perm (BG g n _)
    rw [El h hf]; exact KT h hf _ _
  | cut n s =>
    show List.Perm (match AQ f n with | some x => BG f n (x.take s) | none => f) (match AQ g n with | some x => BG g n (x.take s) | none => g)
    rw [El h hf]
    split
    · exact KT h hf _ _
    · exact h
  | ren a b =>
    show List.Perm (match AQ f a with | some x => BG (BX f a) b x | none => f) (match AQ g a with | some x => BG (BX g a) b x | none => g)
    rw [El h hf]
    split
    · exact KT (ND h hf _) (Cf hf) _ _
    · exact h
  | del n => exact ND h hf _
theorem Df {f g : FS} (h : f.Perm g) : AK f = AK g := (h.map _).sum_nat
theorem LS (p : List UInt8 × List UInt8) (f : FS) : AK (p :: f) = p.2.length + AK f := by simp [AK]
theorem KU (f g : FS) : AK (f ++ g) = AK f + AK g := by simp [AK]
theorem O0 {f : FS} {k x : List UInt8} (hf : (AL f).Nodup) (h : AQ f k = some x) : f.Perm ((k, x) :: BX f k) := by
  have hm := (B8 hf).1 h
  have hd := Cf (k := k) hf
  have hn : (AL ((k, x) :: BX f k)).Nodup := List.nodup_cons.2 ⟨fun hm => by
    obtain ⟨p, hp, e⟩ := List.mem_map.1 hm
    exact ((Dv hf p).1 hp).2 e, hd⟩
  refine Ec hf hn fun p => ?_
  rw [List.mem_cons, Dv hf]
  constructor
  · intro hp
    by_cases e : p.1 = k
    · left
      have := (B8 (x := p.2) hf).2 (show (k, p.2) ∈ f by rw [← e]; exact hp)
      rw [h] at this
      exact Prod.ext e (Option.some.inj this).symm
    · exact .inr ⟨hp, e⟩
  · rintro (rfl | ⟨hp, _⟩)
    · exact hm
    · exact hp
theorem F0 {f : FS} {k x : List UInt8} (hf : (AL f).Nodup) (h : AQ f k = some x) : AK (BX f k) + x.length = AK f := by
 rw [Df (O0 hf h), LS]; simp only; omega
theorem KV {f : FS} {k : List UInt8} (h : AQ f k = none) : BX f k = f := by
 unfold BX
 unfold AQ at h
 rw [Option.map_eq_none_iff.1 h]
theorem I2 {f : FS} {k x : List UInt8} (h : AQ f k = none) : AK (BG f k x) = AK f + x.length := by
 rw [Fc h, KU]; simp [AK]
theorem Gp {f : FS} {k x y : List UInt8} (hf : (AL f).Nodup) (h : AQ f k = some y) : AK (BG f k x) + y.length = AK f + x.length := by
  have hp := Ck (k := k) (x := x) hf
  have h1 : AQ (BG f k x) k = some x := by rw [DY hf, if_pos rfl]
  have h2 := F0 hp h1
  have h3 := F0 hf h
  have h4 : (BX (BG f k x) k).Perm (BX f k) := Ec (Cf hp) (Cf hf) fun p => by
    rw [Dv hp, Fd hf, Dv hf]
    constructor
    · rintro ⟨rfl | h, h'⟩
      · exact absurd rfl h'
      · exact h
    · rintro ⟨h, h'⟩
      exact ⟨.inr ⟨h, h'⟩, h'⟩
  rw [Df h4] at h2
  omega
theorem FF {f : FS} (hf : (AL f).Nodup) (n b : List UInt8) : AK (AI f (.app n b)) = AK f + b.length := by
  show AK (BG f n _) = _
  cases h : AQ f n with
  | none => rw [I2 h]; simp
  | some y =>
    have := Gp (x := y ++ b) hf h
    rw [List.length_append] at this
    simp only [Option.getD_some]
    omega
structure DiskD where
  room : Int
  syn : FS
  wait : List OpD
  fuse : Option Nat
  down : Bool
def DiskD.now (d : DiskD) : FS := d.wait.foldl AI d.syn
def Bi (d : DiskD) : DiskD × Nat :=
  if d.down = true ∨ d.fuse = some 0 then ({ d with down := true }, 3) else ({ d with fuse := d.fuse.map (· - 1) }, 0)
def CE (n : List UInt8) : Bool := decide (1 ≤ n.length) && decide (n.length ≤ 16)
def Cr (d : DiskD) (o : OpD) : DiskD := { d with wait := d.wait ++ [o] }
theorem C2 (d : DiskD) (o : OpD) : (Cr d o).now = AI d.now o := by
 show (d.wait ++ [o]).foldl AI d.syn = _
 rw [List.foldl_append]; rfl
def EW (d : DiskD) (n b : List UInt8) : Bool := decide ((AK d.now : Int) + (b.length : Int) ≤ d.room) && !((AQ d.now n).isNone && decide (64 ≤ d.now.length))
def Cp (d : DiskD) (n b : List UInt8) : DiskD × Nat :=
  match Bi d with
  | (d1, e) => if e ≠ 0 then (d1, e) else if CE n = false then (d1, 1) else if EW d1 n b = false then (d1, 2) else (Cr d1 (.app n b), 0)
def I3 (d : DiskD) (n : List UInt8) (s : Int) : DiskD × Nat :=
  match Bi d with
  | (d1, e) => if e ≠ 0 then (d1, e) else match AQ d1.now n with
    | none => (d1, 4)
    | some x => if s < 0 ∨ (x.length : Int) < s then (d1, 1) else (Cr d1 (.cut n s.toNat), 0)
def I4 (d : DiskD) (a b : List UInt8) : DiskD × Nat :=
  match Bi d with
  | (d1, e) => if e ≠ 0 then (d1, e) else if CE b = false then (d1, 1) else match AQ d1.now a with
    | none => (d1, 4)
    | some _ => (Cr d1 (.ren a b), 0)
def GH (d : DiskD) (n : List UInt8) : DiskD × Nat :=
  match Bi d with
  | (d1, e) => if e ≠ 0 then (d1, e) else match AQ d1.now n with
    | none => (d1, 4)
    | some _ => (Cr d1 (.del n), 0)
def F1 (d : DiskD) : DiskD × Nat :=
  match Bi d with
  | (d1, e) => if e ≠ 0 then (d1, e) else ({ d1 with syn := d1.now, wait := [] }, 0)
def BJ (d : DiskD) (n : List UInt8) : Option (List UInt8) := if d.down = true then none else AQ d.now n
def Qa (d : DiskD) : Nat := if d.down = true then 0 else AK d.now
def Fo (d : DiskD) (n : Int) : DiskD := { d with fuse := if 0 ≤ n then some n.toNat else none }
def Cs (d : DiskD) (keep : Int) : Nat := (keep % ((d.wait.length : Int) + 1)).toNat
def CS (d : DiskD) (keep torn : Int) : FS :=
  match d.wait[Cs d keep]? with
  | some (.app n b) => if (torn % (b.length : Int)).toNat = 0 ∨ b = [] then (d.wait.take (Cs d keep)).foldl AI d.syn else AI ((d.wait.take (Cs d keep)).foldl AI d.syn) (.app n (b.take (torn % (b.length : Int)).toNat))
  | _ => (d.wait.take (Cs d keep)).foldl AI d.syn
def Cn (d : DiskD) (keep torn : Int) : DiskD := ⟨d.room, CS d keep torn, [], none, false⟩
def GW (room : Int) : DiskD := ⟨room, [], [], none, false⟩
theorem I5 (d : DiskD) (keep : Int) : Cs d keep ≤ d.wait.length := by
 unfold Cs
 have h1 := Int.emod_nonneg keep (show ((d.wait.length : Int) + 1) ≠ 0 by omega)
 have h2 := Int.emod_lt_of_pos keep (show 0 < (d.wait.length : Int) + 1 by omega)
 omega
end Go.Proofs.YtnknboibmifacaaGreat.Sep
namespace Go.Proofs.YtnknboibmifacaaGreat.Sep
open Go.RowKit
open Go.Proofs.YtnknboibmifacaaGreat.Mem (Bl Co Chg AG)
theorem BV : DW Tryz.prog 63 := FC Tryz.underlying63 rfl (by kernel_rfl)
theorem C3 : DW Tryz.prog 48 := FC Tryz.underlying48 rfl (by kernel_rfl)
theorem O1 : LE Tryz.prog 48 #[.slice none 0 0] := Hj (z := .slice none 0 0) (by kernel_rfl) rfl
theorem Cd : DW Tryz.prog 37 := FC Tryz.underlying37 rfl (by kernel_rfl)
theorem Bo : DW Tryz.prog 4 := FC Tryz.underlying4 rfl (by kernel_rfl)
theorem D7 : FB Tryz.prog 52 2 := Iz Tryz.underlying52 rfl (by kernel_rfl)
theorem AO : DW Tryz.prog 65 := FC Tryz.underlying65 rfl (by kernel_rfl)
theorem Fe : DW Tryz.prog 97 := FC Tryz.underlying97 rfl (by kernel_rfl)
theorem Cj : FB Tryz.prog 99 5 := Iz Tryz.underlying99 rfl (by kernel_rfl)
theorem I6 : LE Tryz.prog 99 #[.int .i64 0, .string { data := #[] }, .slice none 0 0, .int .i64 0, .string { data := #[] }] := Hj (z := .agg #[.int .i64 0, .string { data := #[] }, .slice none 0 0, .int .i64 0, .string { data := #[] }]) (by kernel_rfl) rfl
theorem Cw : DW Tryz.prog 126 := FC Tryz.underlying126 rfl (by kernel_rfl)
theorem AR : DW Tryz.prog 3 := FC Tryz.underlying3 rfl (by kernel_rfl)
theorem MI : LE Tryz.prog 3 #[.int .i64 0] := Hj (z := .int .i64 0) (by kernel_rfl) rfl
theorem Ba : DW Tryz.prog 9 := FC Tryz.underlying9 rfl (by kernel_rfl)
theorem Dg : DW Tryz.prog 29 := FC Tryz.underlying29 rfl (by kernel_rfl)
theorem B0 : DW Tryz.prog 5 := FC Tryz.underlying5 rfl (by kernel_rfl)
theorem Gq : Bf Tryz.prog 81 0 0 := fun g off w => by kernel_rfl
theorem Gr : Bf Tryz.prog 81 2 2 := fun g off w => by kernel_rfl
theorem BB : Bf Tryz.prog 52 0 0 := fun g off w => by kernel_rfl
theorem BC : Bf Tryz.prog 52 1 1 := fun g off w => by kernel_rfl
theorem Cq : Bf Tryz.prog 103 0 0 := fun g off w => by kernel_rfl
theorem Ik : Bf Tryz.prog 103 1 1 := fun g off w => by kernel_rfl
theorem Il : Bf Tryz.prog 103 2 2 := fun g off w => by kernel_rfl
theorem D8 : Bf Tryz.prog 103 3 3 := fun g off w => by kernel_rfl
theorem Im : Bf Tryz.prog 103 4 4 := fun g off w => by kernel_rfl
theorem KW : Bf Tryz.prog 67 0 0 := fun g off w => by kernel_rfl
theorem KX : Bf Tryz.prog 67 1 1 := fun g off w => by kernel_rfl
theorem KY : Bf Tryz.prog 67 2 2 := fun g off w => by kernel_rfl
theorem KZ : Bf Tryz.prog 67 3 3 := fun g off w => by kernel_rfl
theorem K0 : Bf Tryz.prog 67 4 4 := fun g off w => by kernel_rfl
theorem K1 : Bf Tryz.prog 67 5 5 := fun g off w => by kernel_rfl
theorem HW : Bf Tryz.prog 99 0 0 := fun g off w => by kernel_rfl
theorem H0 : Bf Tryz.prog 99 1 1 := fun g off w => by kernel_rfl
theorem H1 : Bf Tryz.prog 99 2 2 := fun g off w => by kernel_rfl
theorem H2 : Bf Tryz.prog 99 3 3 := fun g off w => by kernel_rfl
theorem H3 : Bf Tryz.prog 99 4 4 := fun g off w => by kernel_rfl
theorem JC : Bf Tryz.prog 134 0 0 := fun g off w => by kernel_rfl
theorem JD : Bf Tryz.prog 134 1 1 := fun g off w => by kernel_rfl
theorem Fp : SliceT Tryz.prog 76 48 1 := Eb (z := .slice none 0 0) Tryz.underlying76 (by kernel_rfl) rfl rfl (by decide)
theorem Az : SliceT Tryz.prog 53 52 2 := Eb (z := .agg #[.string { data := #[] }, .slice none 0 0]) Tryz.underlying53 (by kernel_rfl) rfl rfl (by decide)
theorem CA : SliceT Tryz.prog 63 99 5 := Eb (z := .agg #[.int .i64 0, .string { data := #[] }, .slice none 0 0, .int .i64 0, .string { data := #[] }]) Tryz.underlying63 (by kernel_rfl) rfl rfl (by decide)
theorem Fh : SliceT Tryz.prog 88 9 1 := Eb (z := .string { data := #[] }) Tryz.underlying88 (by kernel_rfl) rfl rfl (by decide)
theorem AJ : SliceT Tryz.prog 48 5 1 := Eb (z := .int .u8 0) Tryz.underlying48 (by kernel_rfl) rfl rfl (by decide)
def flS : List ((Nat × Nat) × Nat) := [((81, 0), 0), ((81, 2), 2), ((52, 0), 0), ((52, 1), 1), ((103, 0), 0), ((103, 1), 1), ((103, 2), 2), ((103, 3), 3), ((103, 4), 4), ((67, 0), 0), ((67, 1), 1), ((67, 2), 2), ((67, 3), 3), ((67, 4), 4), ((67, 5), 5), ((99, 0), 0), ((99, 1), 1), ((99, 2), 2), ((99, 3), 3), ((99, 4), 4), ((134, 0), 0), ((134, 1), 1)]
theorem Aw : Jm Tryz.prog flS := Ms ⟨Gq, Gr, BB, BC, Cq, Ik, Il, D8, Im, KW, KX, KY, KZ, K0, K1, HW, H0, H1, H2, H3, JC, JD, trivial⟩
theorem Wz (b c : Bool) : Sb Tryz.prog 4 (.bool b) (.bool c) (b == c) := fun x y w => by
 cases b <;> cases c <;> go_simp
theorem WB (b c : Bool) : V5 Tryz.prog 4 (.bool b) (.bool c) (b != c) := fun x y w => by
 cases b <;> cases c <;> go_simp
end Go.Proofs.YtnknboibmifacaaGreat.Sep
namespace Go.Proofs.YtnknboibmifacaaGreat.Sep
open Go.RowKit
open Go.Proofs.YtnknboibmifacaaGreat.Mem (Bl Co Chg AG)
def encKey (s : List UInt8) : Value := .string (bs s)
def AM (x : PtT) : Value := x.1
abbrev FilL := List (List UInt8 × PtT)
theorem Dh : MapTy Tryz.prog 65 9 48 .string encKey (.slice none 0 0) := Q6 Tryz.underlying65 Tryz.underlying9 (fun w => by kernel_rfl)
def Bx (L : FilL) : Ass := DS (fun p : List UInt8 × PtT => As 5 1 encB p.2.1 p.2.2) L
def Ce (L : FilL) : FS := L.map fun p => (p.1, p.2.2)
theorem DZ (L : FilL) : AL (Ce L) = AL L := by simp [AL, Ce]
theorem Hu {L : FilL} {p : List UInt8 × PtT} (h : p ∈ L) : CX (Bx L) p.2.1 p.2.2 := fun rs w h1 h2 => by
 obtain ⟨j, hj⟩ := List.getElem?_of_mem h
 obtain ⟨ys, h3, h4⟩ := DS.at_ h1 h2 hj
 exact Hs h3 h4
theorem Ki {α β γ : Type} [DecidableEq α] (g : β → γ) (k : α) : ∀ (L : List (α × β)) (i : Nat), E1 k (L.map fun p => (p.1, g p.2)) i = (E1 k L i).map fun q => (q.1, g q.2)
  | [], i => rfl
  | p :: L, i => by
    simp only [List.map_cons, E1]
    split
    · rfl
    · exact Ki g k L (i + 1)
theorem SC {α β γ : Type} [DecidableEq α] (g : β → γ) (k : α) (L : List (α × β)) : AQ (L.map fun p => (p.1, g p.2)) k = (AQ L k).map g := by
 unfold AQ
 rw [Ki, Option.map_map, Option.map_map]; rfl
theorem SD {α β γ : Type} [DecidableEq α] (g : β → γ) (k : α) (x : β) (L : List (α × β)) : BG (L.map fun p => (p.1, g p.2)) k (g x) = (BG L k x).map fun p => (p.1, g p.2) := by
  unfold BG
  rw [Ki]
  cases E1 k L 0 with
  | none => simp
  | some q => simp [List.map_set]
theorem SE {α β γ : Type} [DecidableEq α] (g : β → γ) (k : α) (L : List (α × β)) : BX (L.map fun p => (p.1, g p.2)) k = (BX L k).map fun p => (p.1, g p.2) := by
  unfold BX
  rw [Ki]
  cases E1 k L 0 with
  | none => rfl
  | some q => simp [List.eraseIdx_eq_take_drop_succ, List.map_take, List.map_drop]
theorem Em (L : FilL) (k : List UInt8) : AQ (Ce L) k = (AQ L k).map (·.2) := SC (fun x : PtT => x.2) k L
theorem I7 (L : FilL) (k : List UInt8) (x : PtT) : BG (Ce L) k x.2 = Ce (BG L k x) := SD (fun x : PtT => x.2) k x L
theorem NE (L : FilL) (k : List UInt8) : BX (Ce L) k = Ce (BX L k) := SE (fun x : PtT => x.2) k L
def AA (v : Value) (f : FS) : Ass := fun rs => ∃ L : FilL, f = Ce L ∧ Ap [BH encKey AM v L, Bx L] rs
theorem Fq {v : Value} {f : FS} : ∀ rs, AA v f rs → ∃ x : { L : FilL // f = Ce L }, Ap [BH encKey AM v x.1, Bx x.1] rs := fun _ ⟨L, h, h'⟩ => ⟨⟨L, h⟩, h'⟩
theorem Qb {L : FilL} {k : List UInt8} {q : Nat × PtT} (h : E1 k L 0 = some q) : L[q.1]? = some (k, q.2) := (DD h).2
theorem GX {L : FilL} {k : List UInt8} {q : Nat × PtT} (h : E1 k L 0 = some q) : ∀ rs, Bx L rs → ∃ _ : Unit, Ap [Bx (L.take q.1), As 5 1 encB q.2.1 q.2.2, Bx (L.drop (q.1 + 1))] rs := Re (Qb h)
theorem Ur {L : FilL} {k : List UInt8} {q : Nat × PtT} (h : E1 k L 0 = some q) (y : PtT) : ∀ rs, Ap [Bx (L.take q.1), As 5 1 encB y.1 y.2, Bx (L.drop (q.1 + 1))] rs → Bx (BG L k y) rs := fun rs hr => by
 have h1 := Rf (f := fun p : List UInt8 × PtT => As 5 1 encB p.2.1 p.2.2) (y := (k, y)) rs hr
 rw [Sy (y := (k, y)) (List.getElem?_eq_some_iff.1 (Qb h)).1] at h1
 unfold Bx BG
 rw [h]
 exact h1
theorem Qc {L : FilL} {k : List UInt8} (h : E1 k L 0 = none) (y : PtT) : ∀ rs, Ap [Bx L, As 5 1 encB y.1 y.2] rs → Bx (BG L k y) rs := fun rs hr => by
 have h1 := Ij (f := fun p : List UInt8 × PtT => As 5 1 encB p.2.1 p.2.2) (x := (k, y)) rs hr
 unfold Bx BG
 rw [h]
 exact h1
theorem In {α : Type} {l : List α} {j : Nat} {x : α} (h : l[j]? = some x) : (l.eraseIdx j).length < l.length := by
 have := (List.getElem?_eq_some_iff.1 h).1
 rw [List.length_eraseIdx, if_pos this]; omega
theorem K2 {l : FilL} {j : Nat} {p : List UInt8 × PtT} (h : l[j]? = some p) : AK (Ce (l.eraseIdx j)) + p.2.2.length = AK (Ce l) := by
 have hlt := (List.getElem?_eq_some_iff.1 h).1
 have hx := (List.getElem?_eq_some_iff.1 h).2
 have h1 : l = l.take j ++ p :: l.drop (j + 1) := by rw [← hx]; simp
 have h2 : l.eraseIdx j = l.take j ++ l.drop (j + 1) := List.eraseIdx_eq_take_drop_succ ..
 have e1 : Ce l = Ce (l.take j) ++ (p.1, p.2.2) :: Ce (l.drop (j + 1)) := by
  have := congrArg Ce h1
  rw [this]; simp [Ce]
 have e2 : Ce (l.eraseIdx j) = Ce (l.take j) ++ Ce (l.drop (j + 1)) := by rw [h2]; simp [Ce]
 rw [e1, e2, KU, KU, LS]
 show _ + p.2.2.length = _ + (p.2.2.length + _)
 omega
end Go.Proofs.YtnknboibmifacaaGreat.Sep
namespace Go.Proofs.YtnknboibmifacaaGreat.Sep
open Go.RowKit
open Go.Proofs.YtnknboibmifacaaGreat.Mem (Bl Co Chg AG)
end Go.Proofs.YtnknboibmifacaaGreat.Sep
namespace Go.Proofs.YtnknboibmifacaaGreat.Sep
open Go.RowKit
open Go.Proofs.YtnknboibmifacaaGreat.Mem (Bl Co Chg AG)
end Go.Proofs.YtnknboibmifacaaGreat.Sep
namespace Go.Proofs.YtnknboibmifacaaGreat.Sep
open Go.RowKit
open Go.Proofs.YtnknboibmifacaaGreat.Mem (Bl Co Chg AG)
theorem O2 {most f : Nat} {l : List UInt8} (h : f ≠ 0) : Bj most l f = (0, l, f) := Nu h
theorem Rk {most f : Nat} {l : List UInt8} (hf : f = 0) (h : l.length = 0) : Bj most l f = (0, l, 10) := by
 subst hf
 rw [List.eq_nil_of_length_eq_zero h]; rfl
theorem Rl {most f : Nat} {l : List UInt8} {x : UInt8} (hf : f = 0) (hx : l[0]? = some x) (h : most < x.toNat) : Bj most l f = (0, l, 12) := by
  subst hf
  cases l with
  | nil => simp at hx
  | cons b r =>
    simp only [List.getElem?_cons_zero, Option.some.injEq] at hx
    subst hx
    simp only [Bj]
    rw [if_neg (by simp), if_pos h]
theorem O3 {most f : Nat} {l : List UInt8} {x : UInt8} (hf : f = 0) (hx : l[0]? = some x) (h : ¬ most < x.toNat) : Bj most l f = (x.toNat, l.drop 1, f) := by
  subst hf
  cases l with
  | nil => simp at hx
  | cons b r =>
    simp only [List.getElem?_cons_zero, Option.some.injEq] at hx
    subst hx
    simp only [Bj]
    rw [if_neg (by simp), if_neg h]; rfl
theorem Us (most : Nat) (l : List UInt8) : (BW most l 0 0).2.1 ≤ l.length := by
  rcases Jv most l 0 0 (by omega) (by decide) with h | h <;> omega
theorem Qd (most : Nat) (l : List UInt8) (f : Nat) : ∃ (x : UInt8) (l1 : List UInt8) (f1 : Nat), Bj most l f = (x.toNat, l1, f1) := by
 have h := IT most l f
 obtain ⟨⟨n, l1, f1⟩, e⟩ : ∃ R, Bj most l f = R := ⟨_, rfl⟩
 rw [e] at h
 exact ⟨UInt8.ofNat n, l1, f1, by rw [e, IU n h]⟩
section
variable {P : Program} {n : Nat} {B : Nat → Prop} {w0 w : World} {os : List Ass} {env : List (Nat × Value)} {o : Oper} {a : Act}
end
theorem SF (u : World) (v : Value) (l : List UInt8) (hv : Fw u v l) (hl : l.length ≤ 140737488355328) : FX u Tryz.prog 86 #[v] [] (fun (g : Nat) => .pointer (some ⟨g, 0, none⟩)) (fun (g : Nat) => [GJ g l 0]) := by
 refine Sm (args := [v]) 7 Tryz.func86 rfl rfl rfl ?_; intro w rs hU hS
 refine Ad ?_
 refine Ae Aw rfl ?_
 refine Aa (Ad ?_)
 refine Ae Aw rfl ?_
 refine Aj (post := fun v2 => [As 5 1 encB v2 l]) rfl (Mz hU hS (os' := fun v2 => [As 5 1 encB v2 l]) [] 0 (Ah Tryz.func59 (by kernel_rfl) rfl) (Uk u hv hl) rfl rfl rfl (fun _ => rfl) rfl rfl rfl) ?_; rintro v2
 refine Cg.fact 0 rfl (fun _ h => As.is h) ?_; rintro ⟨A, c, rfl⟩
 refine Ab rfl (.agg #[.slice A l.length c, .int .i64 0]) (fun b w hb hH => Bg rfl rfl (by kernel_rfl) hb) ?_
 refine Aj (post := fun g1 => [cell g1 134 #[.slice A l.length c, .int .i64 0], As 5 1 encB (.slice A l.length c) l]) rfl (CC (cs := #[.slice A l.length c, .int .i64 0]) rfl rfl rfl) ?_; rintro g1
 refine Ae Aw rfl ?_
 refine Aa (Ay ?_)
 exact Av (.tmp rfl) (fun w h => AB g1 rfl [0, 1] rfl h (fun z hz => ⟨z, .refl _, Ap.one (GJ.mk_ rfl CU hl z hz)⟩)) rfl
theorem Qe (g : Nat) (l : List UInt8) (f most : Nat) (hm : most < 256) (R : Nat × List UInt8 × Nat) (h : Bj most l f = R) : AU Tryz.prog 88 #[.pointer (some ⟨g, 0, none⟩), .int .u8 (most : Int)] [GJ g l f] (fun (_ : Unit) => .int .u8 (R.1 : Int)) (fun (_ : Unit) => [GJ g R.2.1 R.2.2]) := by
  refine Bd (args := [.pointer (some ⟨g, 0, none⟩), .int .u8 (most : Int)]) 41 Tryz.func88 rfl rfl rfl ?_; intro w rs
  refine AZ 0 rfl GJ.open_ (fun _ => rfl) ?_; rintro ⟨⟨X, A, c⟩, hR, hL⟩
  refine Bv.keep (env' := [(0, .pointer (some ⟨g, 0, none⟩)), (1, .int .u8 (most : Int))]) ⟨rfl, rfl, trivial⟩ ?_
  refine Bv.mid [cell g 134 #[.slice A l.length c, .int .i64 (f : Int)], X] (.refl _) ?_
  refine Ad ?_
  refine Ae Aw rfl ?_
  refine Aa (Aq ?_)
  by_cases hf : f = 0
  · skip
    refine Ad ?_
    refine Ae Aw rfl ?_
    refine Ab rfl (.pointer (some ⟨g, 0, none⟩)) (fun b w hb hH => by exact BA rfl rfl hb) ?_
    refine Ae Aw rfl ?_
    refine Ab rfl (.int .i64 (f : Int)) (fun b w hb hH => A6 rfl rfl (Bk Cd rfl) (hH.row 0 rfl) hb) ?_
    refine Ab rfl (.bool false) (fun b w hb hH => AV rfl rfl rfl (AS (by omega)) hb) ?_
    refine Aa (Ar rfl (Ax (AE (Aq ?_))))
    rcases Nat.eq_zero_or_pos l.length with h0 | h0
    · skip
      obtain rfl : R = (0, l, 10) := h.symm.trans (Rk hf h0)
      refine Ad ?_
      refine Ae Aw rfl ?_
      refine Ab rfl (.pointer (some ⟨g, 0, none⟩)) (fun b w hb hH => by exact BA rfl rfl hb) ?_
      refine Ae Aw rfl ?_
      refine Ab rfl (.slice A l.length c) (fun b w hb hH => A6 rfl rfl (Bk C3 rfl) (hH.row 0 rfl) hb) ?_
      refine Ab rfl (.int .i64 (l.length : Int)) (fun b w hb hH => H6 AJ rfl rfl hH hb) ?_
      refine Ab rfl (.bool true) (fun b w hb hH => AV rfl rfl rfl (H7 (by omega)) hb) ?_
      refine Aa (AC rfl (Ad ?_))
      refine Ae Aw rfl ?_
      refine Ab rfl (.pointer (some ⟨g, 0, none⟩)) (fun b w hb hH => by exact BA rfl rfl hb) ?_
      refine Ae Aw rfl ?_
      refine AH (post := fun _ => [cell g 134 #[.slice A l.length c, .int .i64 10], X]) rfl rfl (AD 0 (v := .int .i64 10) #[.slice A l.length c, .int .i64 10] Cd.2 rfl rfl rfl rfl rfl rfl rfl rfl rfl) ?_; rintro ⟨⟩
      refine Aa (Ad ?_)
      refine Ae Aw rfl ?_
      refine Aa (Ay (CM ?_))
      exact Av (.tmp rfl) (fun w h => AB () rfl [0, 1] rfl h (fun z hz => ⟨z, .refl _, Ap.one (GJ.mk_ rfl hR hL z hz)⟩)) rfl
    · skip
      obtain ⟨x, hx⟩ : ∃ x, l[0]? = some x := ⟨_, List.getElem?_eq_getElem h0⟩
      refine Ad ?_
      refine Ae Aw rfl ?_
      refine Ab rfl (.pointer (some ⟨g, 0, none⟩)) (fun b w hb hH => by exact BA rfl rfl hb) ?_
      refine Ae Aw rfl ?_
      refine Ab rfl (.slice A l.length c) (fun b w hb hH => A6 rfl rfl (Bk C3 rfl) (hH.row 0 rfl) hb) ?_
      refine Ab rfl (.int .i64 (l.length : Int)) (fun b w hb hH => H6 AJ rfl rfl hH hb) ?_
      refine Ab rfl (.bool false) (fun b w hb hH => AV rfl rfl rfl (Ge (by omega)) hb) ?_
      refine Aa (Ar rfl (Ax (AE (Ad ?_))))
      refine Ae Aw rfl ?_
      refine Ab rfl (.pointer (some ⟨g, 0, none⟩)) (fun b w hb hH => by exact BA rfl rfl hb) ?_
      refine Ae Aw rfl ?_
      refine Ab rfl (.slice A l.length c) (fun b w hb hH => A6 rfl rfl (Bk C3 rfl) (hH.row 0 rfl) hb) ?_
      refine Ab rfl (Sk (.slice A l.length c) (0 * 1)) (fun b w hb hH => Vl 1 hR.rd AJ rfl 0 h0 rfl rfl rfl hH hb) ?_
      refine Ab rfl (.int .u8 ((x).toNat : Int)) (fun b w hb hH => Sl 1 hR.rd B0 EQ rfl 0 (a := x) hx rfl rfl rfl hH hb) ?_
      refine Ae Aw rfl ?_
      refine Aa (Aq ?_)
      by_cases hb : most < x.toNat
      · skip
        obtain rfl : R = (0, l, 12) := h.symm.trans (Rl hf hx hb)
        refine Ad ?_
        refine Ae Aw rfl ?_
        refine Ab rfl (.bool true) (fun b w hb hH => AV rfl rfl rfl (BY (by omega)) hb) ?_
        refine Aa (AC rfl (Ad ?_))
        refine Ae Aw rfl ?_
        refine Ab rfl (.pointer (some ⟨g, 0, none⟩)) (fun b w hb hH => by exact BA rfl rfl hb) ?_
        refine Ae Aw rfl ?_
        refine AH (post := fun _ => [cell g 134 #[.slice A l.length c, .int .i64 12], X]) rfl rfl (AD 0 (v := .int .i64 12) #[.slice A l.length c, .int .i64 12] Cd.2 rfl rfl rfl rfl rfl rfl rfl rfl rfl) ?_; rintro ⟨⟩
        refine Aa (Ad ?_)
        refine Ae Aw rfl ?_
        refine Aa (Ay (CM ?_))
        exact Av (.tmp rfl) (fun w h => AB () rfl [0, 1] rfl h (fun z hz => ⟨z, .refl _, Ap.one (GJ.mk_ rfl hR hL z hz)⟩)) rfl
      · skip
        obtain ⟨A2, hA2⟩ : ∃ A2, (if c = 1 then A else A.map (·.add 1)) = A2 := ⟨_, rfl⟩
        obtain ⟨l2, hl2⟩ : ∃ l2, l.drop 1 = l2 := ⟨_, rfl⟩
        have hR2 : CX X (.slice A2 l2.length (c - 1)) l2 := by rw [← hA2, ← hl2]; exact hR.drop (by omega)
        have hn2 : l2.length = l.length - 1 := by rw [← hl2, List.length_drop]
        have hL2 : l2.length ≤ 140737488355328 := by omega
        have hsub : Cm 1 (.slice A l.length c) 1 l.length = .slice A2 l2.length (c - 1) := by rw [← hA2]; exact Nx (by omega) (by omega)
        obtain rfl : R = (x.toNat, l2, f) := by rw [← h, ← hl2]; exact O3 hf hx hb
        refine Ad ?_
        refine Ae Aw rfl ?_
        refine Ab rfl (.bool false) (fun b w hb hH => AV rfl rfl rfl (BE (by omega)) hb) ?_
        refine Aa (Ar rfl (Ax (AE (Ad ?_))))
        refine Ae Aw rfl ?_
        refine Ab rfl (.pointer (some ⟨g, 0, none⟩)) (fun b w hb hH => by exact BA rfl rfl hb) ?_
        refine Ae Aw rfl ?_
        refine Ab rfl (.slice A l.length c) (fun b w hb hH => A6 rfl rfl (Bk C3 rfl) (hH.row 0 rfl) hb) ?_
        refine Ab rfl (.slice A2 l2.length (c - 1)) (fun b w hb hH => FW (i := 1) AJ hsub h0 rfl rfl rfl hH hb) ?_
        refine Ab rfl (.pointer (some ⟨g, 0, none⟩)) (fun b w hb hH => by exact BA rfl rfl hb) ?_
        refine Ae Aw rfl ?_
        refine AH (post := fun _ => [cell g 134 #[.slice A2 l2.length (c - 1), .int .i64 (f : Int)], X]) rfl rfl (AD 0 (v := .slice A2 l2.length (c - 1)) #[.slice A2 l2.length (c - 1), .int .i64 (f : Int)] C3.2 rfl rfl rfl rfl rfl rfl rfl rfl rfl) ?_; rintro ⟨⟩
        refine Aa (Ad ?_)
        refine Ae Aw rfl ?_
        refine Aa (Ay ?_)
        exact Av (.tmp rfl) (fun w h => AB () rfl [0, 1] rfl h (fun z hz => ⟨z, .refl _, Ap.one (GJ.mk_ rfl hR2 hL2 z hz)⟩)) rfl
  · skip
    obtain rfl : R = (0, l, f) := h.symm.trans (O2 hf)
    refine Ad ?_
    refine Ae Aw rfl ?_
    refine Ab rfl (.pointer (some ⟨g, 0, none⟩)) (fun b w hb hH => by exact BA rfl rfl hb) ?_
    refine Ae Aw rfl ?_
    refine Ab rfl (.int .i64 (f : Int)) (fun b w hb hH => A6 rfl rfl (Bk Cd rfl) (hH.row 0 rfl) hb) ?_
    refine Ab rfl (.bool true) (fun b w hb hH => AV rfl rfl rfl (BQ (by omega)) hb) ?_
    refine Aa (AC rfl (Ad ?_))
    refine Ae Aw rfl ?_
    refine Aa (Ay (CM ?_))
    exact Av (.tmp rfl) (fun w h => AB () rfl [0, 1] rfl h (fun z hz => ⟨z, .refl _, Ap.one (GJ.mk_ rfl hR hL z hz)⟩)) rfl
theorem SG (g : Nat) (l : List UInt8) (f most : Nat) (hm : most < 18446744073709551616) (R : Nat × List UInt8 × Nat) (h : B5 most l f = R) : AU Tryz.prog 87 #[.pointer (some ⟨g, 0, none⟩), .int .u64 (most : Int)] [GJ g l f] (fun (_ : Unit) => .int .u64 (R.1 : Int)) (fun (_ : Unit) => [GJ g R.2.1 R.2.2]) := by
  refine Bd (args := [.pointer (some ⟨g, 0, none⟩), .int .u64 (most : Int)]) 37 Tryz.func87 rfl rfl rfl ?_; intro w rs
  refine AZ 0 rfl GJ.open_ (fun _ => rfl) ?_; rintro ⟨⟨X, A, c⟩, hR, hL⟩
  refine Bv.keep (env' := [(0, .pointer (some ⟨g, 0, none⟩)), (1, .int .u64 (most : Int))]) ⟨rfl, rfl, trivial⟩ ?_
  refine Bv.mid [cell g 134 #[.slice A l.length c, .int .i64 (f : Int)], X] (.refl _) ?_
  refine Ad ?_
  refine Ae Aw rfl ?_
  refine Aa (Aq ?_)
  by_cases hf : f = 0
  · skip
    have hz := Us most l
    obtain ⟨⟨n, sz, e2⟩, hv⟩ : ∃ R, BW most l 0 0 = R := ⟨_, rfl⟩
    rw [hv] at hz
    simp only at hz
    obtain ⟨A2, hA2⟩ : ∃ A2, (if c = sz then A else A.map (·.add sz)) = A2 := ⟨_, rfl⟩
    obtain ⟨l2, hl2⟩ : ∃ l2, l.drop sz = l2 := ⟨_, rfl⟩
    have hR2 : CX X (.slice A2 l2.length (c - sz)) l2 := by rw [← hA2, ← hl2]; exact hR.drop (by omega)
    have hn2 : l2.length = l.length - sz := by rw [← hl2, List.length_drop]
    have hL2 : l2.length ≤ 140737488355328 := by omega
    have hsub : Cm 1 (.slice A l.length c) sz l.length = .slice A2 l2.length (c - sz) := by rw [← hA2]; exact Nx (by omega) (by omega)
    obtain rfl : R = (n, l2, e2) := by rw [← h, ← hl2]; unfold B5; rw [if_neg (by simp [hf]), hv]
    refine Ad ?_
    refine Ae Aw rfl ?_
    refine Ab rfl (.pointer (some ⟨g, 0, none⟩)) (fun b w hb hH => by exact BA rfl rfl hb) ?_
    refine Ae Aw rfl ?_
    refine Ab rfl (.int .i64 (f : Int)) (fun b w hb hH => A6 rfl rfl (Bk Cd rfl) (hH.row 0 rfl) hb) ?_
    refine Ab rfl (.bool false) (fun b w hb hH => AV rfl rfl rfl (AS (by omega)) hb) ?_
    refine Aa (Ar rfl (Ax (AE (Ad ?_))))
    refine Ae Aw rfl ?_
    refine Ab rfl (.pointer (some ⟨g, 0, none⟩)) (fun b w hb hH => by exact BA rfl rfl hb) ?_
    refine Ae Aw rfl ?_
    refine Ab rfl (.slice A l.length c) (fun b w hb hH => A6 rfl rfl (Bk C3 rfl) (hH.row 0 rfl) hb) ?_
    refine Ae Aw rfl ?_
    refine Aj (post := fun _ => [cell g 134 #[.slice A l.length c, .int .i64 (f : Int)], X]) rfl (By (Ah Tryz.func95 (by kernel_rfl) rfl) (fun w hH => Uo (hH.rd8 1 rfl hR) hL most hm (n, sz, e2) hv) rfl rfl rfl) ?_; rintro ⟨⟩
    refine Ae Aw rfl ?_
    refine Aa (Ad ?_)
    refine Ae Aw rfl ?_
    refine Ab rfl (.pointer (some ⟨g, 0, none⟩)) (fun b w hb hH => by exact BA rfl rfl hb) ?_
    refine Ae Aw rfl ?_
    refine AH (post := fun _ => [cell g 134 #[.slice A l.length c, .int .i64 (e2 : Int)], X]) rfl rfl (AD 0 (v := .int .i64 (e2 : Int)) #[.slice A l.length c, .int .i64 (e2 : Int)] Cd.2 rfl rfl rfl rfl rfl rfl rfl rfl rfl) ?_; rintro ⟨⟩
    refine Aa (Ad ?_)
    refine Ae Aw rfl ?_
    refine Ab rfl (.pointer (some ⟨g, 0, none⟩)) (fun b w hb hH => by exact BA rfl rfl hb) ?_
    refine Ae Aw rfl ?_
    refine Ab rfl (.slice A l.length c) (fun b w hb hH => A6 rfl rfl (Bk C3 rfl) (hH.row 0 rfl) hb) ?_
    refine Ae Aw rfl ?_
    refine Ab rfl (.slice A2 l2.length (c - sz)) (fun b w hb hH => FW (i := sz) AJ hsub hz rfl rfl rfl hH hb) ?_
    refine Ab rfl (.pointer (some ⟨g, 0, none⟩)) (fun b w hb hH => by exact BA rfl rfl hb) ?_
    refine Ae Aw rfl ?_
    refine AH (post := fun _ => [cell g 134 #[.slice A2 l2.length (c - sz), .int .i64 (e2 : Int)], X]) rfl rfl (AD 0 (v := .slice A2 l2.length (c - sz)) #[.slice A2 l2.length (c - sz), .int .i64 (e2 : Int)] C3.2 rfl rfl rfl rfl rfl rfl rfl rfl rfl) ?_; rintro ⟨⟩
    refine Aa (Ad ?_)
    refine Ae Aw rfl ?_
    refine Aa (Ay ?_)
    exact Av (.tmp rfl) (fun w h => AB () rfl [0, 1] rfl h (fun z hz => ⟨z, .refl _, Ap.one (GJ.mk_ rfl hR2 hL2 z hz)⟩)) rfl
  · skip
    obtain rfl : R = (0, l, f) := h.symm.trans (OP hf)
    refine Ad ?_
    refine Ae Aw rfl ?_
    refine Ab rfl (.pointer (some ⟨g, 0, none⟩)) (fun b w hb hH => by exact BA rfl rfl hb) ?_
    refine Ae Aw rfl ?_
    refine Ab rfl (.int .i64 (f : Int)) (fun b w hb hH => A6 rfl rfl (Bk Cd rfl) (hH.row 0 rfl) hb) ?_
    refine Ab rfl (.bool true) (fun b w hb hH => AV rfl rfl rfl (BQ (by omega)) hb) ?_
    refine Aa (AC rfl (Ad ?_))
    refine Ae Aw rfl ?_
    refine Aa (Ay (CM ?_))
    exact Av (.tmp rfl) (fun w h => AB () rfl [0, 1] rfl h (fun z hz => ⟨z, .refl _, Ap.one (GJ.mk_ rfl hR hL z hz)⟩)) rfl
theorem SH (g : Nat) (l : List UInt8) (f r : Nat) (h : D6 l f = r) : AU Tryz.prog 89 #[.pointer (some ⟨g, 0, none⟩)] [GJ g l f] (fun (_ : Unit) => .int .i64 (r : Int)) (fun (_ : Unit) => [GJ g l f]) := by
  refine Bd (args := [.pointer (some ⟨g, 0, none⟩)]) 20 Tryz.func89 rfl rfl rfl ?_; intro w rs
  refine AZ 0 rfl GJ.open_ (fun _ => rfl) ?_; rintro ⟨⟨X, A, c⟩, hR, hL⟩
  refine Bv.keep (env' := [(0, .pointer (some ⟨g, 0, none⟩))]) ⟨rfl, trivial⟩ ?_
  refine Bv.mid [cell g 134 #[.slice A l.length c, .int .i64 (f : Int)], X] (.refl _) ?_
  refine Ad ?_
  refine Ae Aw rfl ?_
  refine Aa (Aq ?_)
  have hc : (f = 0 ∧ 0 < l.length) ∨ (f = 0 ∧ ¬ 0 < l.length) ∨ f ≠ 0 := by omega
  rcases hc with ⟨hf, h0⟩ | ⟨hf, h0⟩ | hf
  · skip
    obtain rfl : r = 11 := by rw [← h]; unfold D6; rw [if_pos ⟨hf, h0⟩]
    refine Ad ?_
    refine Ae Aw rfl ?_
    refine Ab rfl (.pointer (some ⟨g, 0, none⟩)) (fun b w hb hH => by exact BA rfl rfl hb) ?_
    refine Ae Aw rfl ?_
    refine Ab rfl (.int .i64 (f : Int)) (fun b w hb hH => A6 rfl rfl (Bk Cd rfl) (hH.row 0 rfl) hb) ?_
    refine Ab rfl (.bool true) (fun b w hb hH => AV rfl rfl rfl (H7 (by omega)) hb) ?_
    refine Ae Aw rfl ?_
    refine Ab rfl (.pointer (some ⟨g, 0, none⟩)) (fun b w hb hH => by exact BA rfl rfl hb) ?_
    refine Ae Aw rfl ?_
    refine Ab rfl (.slice A l.length c) (fun b w hb hH => A6 rfl rfl (Bk C3 rfl) (hH.row 0 rfl) hb) ?_
    refine Ab rfl (.int .i64 (l.length : Int)) (fun b w hb hH => H6 AJ rfl rfl hH hb) ?_
    refine Ab rfl (.bool true) (fun b w hb hH => AV rfl rfl rfl (BY (by omega)) hb) ?_
    refine Ae Aw rfl ?_
    refine Aa (AC rfl (Ad ?_))
    refine Ae Aw rfl ?_
    refine Aa (Ay (CM ?_))
    exact Av (.tmp rfl) (fun w h => AB () rfl [0, 1] rfl h (fun z hz => ⟨z, .refl _, Ap.one (GJ.mk_ rfl hR hL z hz)⟩)) rfl
  · skip
    have hr : r = f := by rw [← h]; unfold D6; rw [if_neg (fun hh => h0 hh.2)]
    refine Ad ?_
    refine Ae Aw rfl ?_
    refine Ab rfl (.pointer (some ⟨g, 0, none⟩)) (fun b w hb hH => by exact BA rfl rfl hb) ?_
    refine Ae Aw rfl ?_
    refine Ab rfl (.int .i64 (f : Int)) (fun b w hb hH => A6 rfl rfl (Bk Cd rfl) (hH.row 0 rfl) hb) ?_
    refine Ab rfl (.bool true) (fun b w hb hH => AV rfl rfl rfl (H7 (by omega)) hb) ?_
    refine Ae Aw rfl ?_
    refine Ab rfl (.pointer (some ⟨g, 0, none⟩)) (fun b w hb hH => by exact BA rfl rfl hb) ?_
    refine Ae Aw rfl ?_
    refine Ab rfl (.slice A l.length c) (fun b w hb hH => A6 rfl rfl (Bk C3 rfl) (hH.row 0 rfl) hb) ?_
    refine Ab rfl (.int .i64 (l.length : Int)) (fun b w hb hH => H6 AJ rfl rfl hH hb) ?_
    refine Ab rfl (.bool false) (fun b w hb hH => AV rfl rfl rfl (BE (by omega)) hb) ?_
    refine Ae Aw rfl ?_
    refine Aa (Ar rfl (Ax (AE (Ad ?_))))
    refine Ae Aw rfl ?_
    refine Ab rfl (.pointer (some ⟨g, 0, none⟩)) (fun b w hb hH => by exact BA rfl rfl hb) ?_
    refine Ae Aw rfl ?_
    refine Ab rfl (.int .i64 (f : Int)) (fun b w hb hH => A6 rfl rfl (Bk Cd rfl) (hH.row 0 rfl) hb) ?_
    refine Ae Aw rfl ?_
    refine Aa (Ay ?_)
    exact Av (.tmp rfl) (fun w h => AB () (by rw [hr]) [0, 1] rfl h (fun z hz => ⟨z, .refl _, Ap.one (GJ.mk_ rfl hR hL z hz)⟩)) rfl
  · skip
    have hr : r = f := by rw [← h]; unfold D6; rw [if_neg (fun hh => hf hh.1)]
    refine Ad ?_
    refine Ae Aw rfl ?_
    refine Ab rfl (.pointer (some ⟨g, 0, none⟩)) (fun b w hb hH => by exact BA rfl rfl hb) ?_
    refine Ae Aw rfl ?_
    refine Ab rfl (.int .i64 (f : Int)) (fun b w hb hH => A6 rfl rfl (Bk Cd rfl) (hH.row 0 rfl) hb) ?_
    refine Ab rfl (.bool false) (fun b w hb hH => AV rfl rfl rfl (Ge (by omega)) hb) ?_
    refine Ae Aw rfl ?_
    refine Aa (Ar rfl (Ax (AE (Ad ?_))))
    refine Ae Aw rfl ?_
    refine Ab rfl (.pointer (some ⟨g, 0, none⟩)) (fun b w hb hH => by exact BA rfl rfl hb) ?_
    refine Ae Aw rfl ?_
    refine Ab rfl (.int .i64 (f : Int)) (fun b w hb hH => A6 rfl rfl (Bk Cd rfl) (hH.row 0 rfl) hb) ?_
    refine Ae Aw rfl ?_
    refine Aa (Ay ?_)
    exact Av (.tmp rfl) (fun w h => AB () (by rw [hr]) [0, 1] rfl h (fun z hz => ⟨z, .refl _, Ap.one (GJ.mk_ rfl hR hL z hz)⟩)) rfl
end Go.Proofs.YtnknboibmifacaaGreat.Sep
namespace Go.Proofs.YtnknboibmifacaaGreat.Sep
open Go.RowKit
open Go.Proofs.YtnknboibmifacaaGreat.Mem (Bl Co Chg AG)
end Go.Proofs.YtnknboibmifacaaGreat.Sep
namespace Go.Proofs.YtnknboibmifacaaGreat.Sep
open Go.ChangeShapes Go.WideShapes Go.ChangeAt Go.RowKit
section
variable {H : Type} {enc : TypeId × Value → H} {W : World} {base b0 : Nat} {r : Reach} {spare : Nat → Bool} {held : Bool} {v : Value} {d : DataW H} {p : List MemPlace}
end
end Go.Proofs.YtnknboibmifacaaGreat.Sep
namespace Go.Proofs.YtnknboibmifacaaGreat.Sep
open Go.RowKit
open Go.Proofs.YtnknboibmifacaaGreat.Mem (Bl Co Chg AG)
end Go.Proofs.YtnknboibmifacaaGreat.Sep
namespace Go.Proofs.YtnknboibmifacaaGreat.Sep
open Go.RowKit
open Go.Proofs.YtnknboibmifacaaGreat.Mem (Bl Co Chg AG)
end Go.Proofs.YtnknboibmifacaaGreat.Sep
namespace Go.Proofs.YtnknboibmifacaaGreat.Sep
open Go.RowKit
open Go.Proofs.YtnknboibmifacaaGreat.Mem (Bl Co Chg AG)
end Go.Proofs.YtnknboibmifacaaGreat.Sep
namespace Go.Proofs.YtnknboibmifacaaGreat.Sep
open Go.RowKit
open Go.Proofs.YtnknboibmifacaaGreat.Mem (Bl Co Chg AG)
end Go.Proofs.YtnknboibmifacaaGreat.Sep
namespace Go.Proofs.YtnknboibmifacaaGreat.Sep
open Go.RowKit
open Go.Proofs.YtnknboibmifacaaGreat.Mem (Bl Co Chg AG)
structure RepD where
  code : Int
  val : Int
  hi : Int
  lo : Int
  sc : Int
deriving DecidableEq
structure RepD.ok (r : RepD) : Prop where
  code : P4 r.code
  val : M5 r.val
  hi : P4 r.hi
  lo : M5 r.lo
  sc : P4 r.sc
def RepD.right (r : RepD) : Bool := (decide (0 ≤ r.code) && decide (r.code ≤ 99)) && Wx r.sc
end Go.Proofs.YtnknboibmifacaaGreat.Sep
namespace Go.Proofs.YtnknboibmifacaaGreat.Sep
open Go.RowKit
open Go.Proofs.YtnknboibmifacaaGreat.Mem (Bl Co Chg AG)
end Go.Proofs.YtnknboibmifacaaGreat.Sep
namespace Go.Proofs.YtnknboibmifacaaGreat.Sep
open Go.RowKit
open Go.Proofs.YtnknboibmifacaaGreat.Mem (Bl Co Chg AG)
theorem pick (w : World) (a m : Int) (ha : -9223372036854775808 ≤ a ∧ a ≤ 9223372036854775807) (hm : 1 ≤ m ∧ m ≤ 9223372036854775807) {r : Int} (hr : a % m = r) : Calls Tryz.prog 8 #[.int .i64 a, .int .i64 m] w fun e w' => e = .returned (.int .i64 r) ∧ Below w.heap.size w w' := by
  have hlt := Int.emod_lt_of_pos a (show 0 < m by omega)
  have hge := Int.emod_nonneg a (show m ≠ 0 by omega)
  have ht : (0 ≤ a.tmod m ∧ a.tmod m = r) ∨ (a.tmod m < 0 ∧ a.tmod m + m = r) := by
    rw [Int.tmod_eq_emod, ← hr]
    split
    · left; omega
    · rename_i h
      right
      have hne : a % m ≠ 0 := fun e => h (.inr (Int.dvd_of_emod_eq_zero e))
      omega
  rw [hr] at hlt hge
  obtain ⟨t, htm⟩ : ∃ t, a.tmod m = t := ⟨_, rfl⟩
  rw [htm] at ht
  refine Fy (args := [.int .i64 a, .int .i64 m]) 14 Tryz.func8 rfl rfl rfl ?_
  refine Ad ?_
  refine Ae Aw rfl ?_
  refine Aa (Ad ?_)
  refine Ae Aw rfl ?_
  refine Ab rfl (.int .i64 t) (fun b w hb hH => Ht rfl rfl rfl (by omega) htm hb) ?_
  refine Ae Aw rfl ?_
  refine Aa (Aq ?_)
  rcases ht with ⟨h1, h2⟩ | ⟨h1, h2⟩
  · skip
    subst h2
    refine Ad ?_
    refine Ae Aw rfl ?_
    refine Ab rfl (.bool false) (fun b w hb hH => AV rfl rfl rfl (Bn (by omega)) hb) ?_
    refine Aa (Ar rfl (Ax (AE (Ad ?_))))
    refine Ae Aw rfl ?_
    refine Aa (Ay ?_)
    exact Av (.tmp rfl) (fun w h => ⟨rfl, AG h.up⟩) rfl
  · skip
    refine Ad ?_
    refine Ae Aw rfl ?_
    refine Ab rfl (.bool true) (fun b w hb hH => AV rfl rfl rfl (A7 (by omega)) hb) ?_
    refine Aa (AC rfl (Br ?_))
    refine Ae Aw rfl ?_
    refine Ab rfl (.int .i64 r) (fun b w hb hH => AN rfl rfl rfl rfl (by rw [IntWalk.i64_in _ (by omega)]; omega) hb) ?_
    refine Ae Aw rfl ?_
    refine AP (AE (Ad ?_))
    refine Ae Aw rfl ?_
    refine Aa (Ay ?_)
    exact Av (.tmp rfl) (fun w h => ⟨rfl, AG h.up⟩) rfl
end Go.Proofs.YtnknboibmifacaaGreat.Sep
namespace Go.Proofs.YtnknboibmifacaaGreat
open Go.RowKit
def Qf : BitVec 32 := 2197175160#32
def Io (h : BitVec 32) : BitVec 32 := (h >>> 1) ^^^ (if h.getLsbD 0 then Qf else 0#32)
def FG : Nat → BitVec 32 → BitVec 32
  | 0, h => h
  | n + 1, h => Io (FG n h)
def MJ (h : BitVec 32) (c : UInt8) : BitVec 32 := FG 8 (h ^^^ BitVec.ofNat 32 c.toNat)
def En (h : BitVec 32) (l : List UInt8) : BitVec 32 := l.foldl MJ h
def BN (l : List UInt8) : Nat := (~~~ En (BitVec.allOnes 32) l).toNat
theorem LT (a : Nat) (ha : a < 4294967296) : BitVec.ofInt 32 (a : Int) = BitVec.ofNat 32 a := BitVec.ofInt_natCast ..
theorem Kj (a b : BitVec 32) : bits .xor .u32 (a.toNat : Int) (b.toNat : Int) = ((a ^^^ b).toNat : Int) := by
 show IntKind.u32.wrap ((BitVec.ofInt 32 (a.toNat : Int) ^^^ BitVec.ofInt 32 (b.toNat : Int)).toNat : Int) = _
 rw [BitVec.ofInt_natCast, BitVec.ofInt_natCast, BitVec.ofNat_toNat, BitVec.ofNat_toNat, BitVec.setWidth_eq, BitVec.setWidth_eq, IntKind.wrap_u32]
 have := (a ^^^ b).isLt
 omega
theorem GY (a : BitVec 32) : bits .and .u32 (a.toNat : Int) 1 = if a.getLsbD 0 then 1 else 0 := by
  show IntKind.u32.wrap ((BitVec.ofInt 32 (a.toNat : Int) &&& BitVec.ofInt 32 1).toNat : Int) = _
  have h1 : BitVec.ofInt 32 1 = 1#32 := by decide
  rw [BitVec.ofInt_natCast, BitVec.ofNat_toNat, BitVec.setWidth_eq, h1, BitVec.toNat_and, IntKind.wrap_u32]
  have e : a.toNat &&& (1#32).toNat = a.toNat % 2 := Nat.and_one_is_mod _
  rw [e]
  have e2 : a.getLsbD 0 = decide (a.toNat % 2 = 1) := by simp [BitVec.getLsbD, Nat.testBit_zero]
  rw [e2]
  by_cases h : a.toNat % 2 = 1
  · simp [h]
  · have : a.toNat % 2 = 0 := by omega
    simp [this]
theorem Qg (a : BitVec 32) : bits .xor .u32 ((a.toNat : Int) / 2) (IntKind.u32.wrap (bits .and .u32 (a.toNat : Int) 1 * 2197175160)) = ((Io a).toNat : Int) := by
  have e1 : (a.toNat : Int) / (2 : Int) = ((a >>> 1).toNat : Int) := by
    rw [BitVec.toNat_ushiftRight, Nat.shiftRight_eq_div_pow]; omega
  have e2 : IntKind.u32.wrap (bits .and .u32 (a.toNat : Int) 1 * 2197175160) = ((if a.getLsbD 0 then Qf else 0#32).toNat : Int) := by
    rw [GY, IntKind.wrap_u32]
    cases a.getLsbD 0
    · rfl
    · rfl
  rw [e1, e2, Kj]
  rfl
theorem Ut (a : BitVec 32) (h : a.getLsbD 0 = true) : bits .xor .u32 ((a.toNat : Int) / 2) 2197175160 = ((Io a).toNat : Int) := by
 have := Qg a
 rw [GY, h] at this
 exact this
theorem SI (a : BitVec 32) (h : a.getLsbD 0 = false) : (a.toNat : Int) / 2 = ((Io a).toNat : Int) := by
 have e1 : (a.toNat : Int) / (2 : Int) = ((a >>> 1).toNat : Int) := by
  rw [BitVec.toNat_ushiftRight, Nat.shiftRight_eq_div_pow]; omega
 rw [e1]
 unfold Io
 rw [h]
 simp
theorem SJ (a : BitVec 32) (c : UInt8) : bits .xor .u32 (a.toNat : Int) (c.toNat : Int) = ((a ^^^ BitVec.ofNat 32 c.toNat).toNat : Int) := by
 rw [← Kj]
 have := UInt8.toNat_lt c
 rw [BitVec.toNat_ofNat, Nat.mod_eq_of_lt (by omega)]
theorem O4 (a b : Nat) (ha : a < 4294967296) (hb : b < 4294967296) : bits .or .u32 (a : Int) (b : Int) = ((a ||| b : Nat) : Int) := by
  have hx : a ||| b < 2 ^ 32 := Nat.or_lt_two_pow (by omega) (by omega)
  show IntKind.u32.wrap ((BitVec.ofInt 32 (a : Int) ||| BitVec.ofInt 32 (b : Int)).toNat : Int) = _
  rw [BitVec.toNat_or, LT a ha, LT b hb, BitVec.toNat_ofNat, BitVec.toNat_ofNat, Nat.mod_eq_of_lt (by omega), Nat.mod_eq_of_lt (by omega), IntKind.wrap_u32]
  omega
theorem Uu (r : BitVec 32) : bits .xor .u32 IntKind.u32.max (r.toNat : Int) = ((~~~ r).toNat : Int) := by
 have h : IntKind.u32.max = ((BitVec.allOnes 32).toNat : Int) := by decide
 rw [h, Kj, BitVec.allOnes_xor]
theorem SK (r : BitVec 32) : bits .xor .u32 (r.toNat : Int) 4294967295 = ((~~~ r).toNat : Int) := by
 have h : (4294967295 : Int) = ((BitVec.allOnes 32).toNat : Int) := by decide
 rw [h, Kj, BitVec.xor_allOnes]
end Go.Proofs.YtnknboibmifacaaGreat
namespace Go.Proofs.YtnknboibmifacaaGreat
open Go.RowKit
theorem Uv {S : Nat → Prop} (w : World) (A : Option Addr) (c : Nat) (l : List UInt8) (h : Bs S w A c l) (hl : l.length ≤ 140737488355328) :
    Calls Tryz.prog 74 #[.slice A l.length c] w fun e w' => e = .returned (.int .u32 (BN l : Int)) ∧ w = w' := by
  go_enter Tryz.func74, Tryz.ntmps74
  go_wp2
  go_loop [3, 5, 6, 9] (fun h _ _ i => ∃ k : Nat, k ≤ l.length ∧ i = .int .i64 k ∧ h = .int .u32 ((En (BitVec.allOnes 32) (l.take k)).toNat : Int)) (fun _ _ _ i => l.length - (intOf i).toNat)
  case atStart => exact ⟨0, Nat.zero_le _, rfl, rfl⟩
  case round =>
    obtain ⟨k, hk, rfl, rfl⟩ := hrel
    by_cases hlt : k < l.length
    · obtain ⟨g, o, rfl, hs, hc⟩ := h.2.2 (by omega)
      have hb := hc k l[k] (List.getElem?_eq_getElem hlt)
      unfold Or at hb
      clear hc
      have ht : En (BitVec.allOnes 32) (l.take (k + 1)) = MJ (En (BitVec.allOnes 32) (l.take k)) l[k] := by
        rw [List.take_succ_eq_append_getElem hlt]; unfold En; rw [List.foldl_append]; rfl
      have HT := Ey ht
      clear ht
      obtain ⟨b, hbb⟩ : ∃ b, b = l[k] := ⟨_, rfl⟩
      rw [← hbb] at hb HT
      have HB := Ey hbb
      clear hbb
      obtain ⟨x, hx⟩ : ∃ x, x = En (BitVec.allOnes 32) (l.take k) := ⟨_, rfl⟩
      rw [← hx] at HT ⊢
      have HX := Ey hx
      clear hx
      have hin := SJ x b
      obtain ⟨y, hy⟩ : ∃ y, y = x ^^^ BitVec.ofNat 32 b.toNat := ⟨_, rfl⟩
      rw [← hy] at hin
      have HY := Ey hy
      clear hy
      obtain ⟨n, hn⟩ : ∃ n, n = b.toNat := ⟨_, rfl⟩
      have hn2 : n < 256 := by rw [hn]; exact UInt8.toNat_lt _
      rw [← hn] at hin hb
      clear hn
      go_wp2
      go_loop [3, 6, 17] (fun h _ j => ∃ i : Nat, i ≤ 8 ∧ j = .int .i64 i ∧ h = .int .u32 ((FG i y).toNat : Int)) (fun _ _ j => 8 - (intOf j).toNat)
      case atStart => exact ⟨0, by omega, rfl, rfl⟩
      case round =>
        obtain ⟨i, hi, rfl, rfl⟩ := hrel
        by_cases hi8 : i < 8
        · have hbit := Qg (FG i y)
          rw [IntKind.wrap_u32] at hbit
          obtain ⟨z, hz⟩ : ∃ z, z = FG i y := ⟨_, rfl⟩
          rw [← hz] at hbit ⊢
          have HZ := Ey hz
          clear hz
          obtain ⟨z', hz'⟩ : ∃ z', z' = Io z := ⟨_, rfl⟩
          rw [← hz'] at hbit
          have HZ' := Ey hz'
          clear hz'
          go_wp2
          go_round
          case rel => exact ⟨i + 1, by omega, by go_num, by rw [HZ'.out, HZ.out]; rfl⟩
          case measure => simp [intOf]; omega
        · have e8 : i = 8 := by omega
          subst e8
          obtain ⟨z, hz⟩ : ∃ z, z = FG 8 y := ⟨_, rfl⟩
          rw [← hz]
          have HZ := Ey hz
          clear hz
          go_wp2
          go_round
          case rel => exact ⟨k + 1, by omega, by go_num, by rw [HT.out, HZ.out, HY.out]; rfl⟩
          case measure => simp [intOf]; omega
    · have e : l.take k = l := List.take_of_length_le (by omega)
      rw [e]
      clear e
      obtain ⟨r, hr⟩ : ∃ r, r = En (BitVec.allOnes 32) l := ⟨_, rfl⟩
      rw [← hr]
      have HR := Ey hr
      clear hr
      have hnot := Uu r
      obtain ⟨q, hq⟩ : ∃ q : Nat, q = (~~~ r).toNat := ⟨_, rfl⟩
      rw [← hq] at hnot
      have HQ := Ey hq
      clear hq
      go_wp2
      all_goals
        go_ret
        refine ⟨P0 ?_, rfl⟩
        unfold BN
        rw [← HR.out, ← HQ.out]
end Go.Proofs.YtnknboibmifacaaGreat
namespace Go.Proofs.YtnknboibmifacaaGreat
open Go.RowKit
end Go.Proofs.YtnknboibmifacaaGreat
