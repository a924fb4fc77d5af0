/-
  Law · Opz · Prt · DskM · TyC · Fil · CmdA · CmdB · CmdR · CmdL · CmdO · CmdP · CmdQ · CmdE · CmdF · CmdG · CmdN · CmdI · Crc · Sum · Seal · RefSum · RefText · Reader · Mk · RpcM · RpcN · RpcF · RpcA · RpcB · RpcC · App · Bld · RpcD · DskS · DskW
-/
import Derived.Test.YtfiojppagmnpcaaBA01
import Derived.Test.YtfiojppagmnpcaaBA04
import Derived.Test.YtfiojppagmnpcaaBA05
import Derived.Test.YtfiojppagmnpcaaBB01
import Derived.Test.YtfiojppagmnpcaaRows
import Derived.ProofKit
import Derived.OpenShut
import Derived.JoinedCond
import Derived.SizedLaws
import Derived.Test.YtfiojppagmnpcaaChecked
import Derived.Lib.SmallJoins
import Derived.ChangeMaps5
import Derived.Deep.QuietTactic
import Derived.BigQuiet
import Derived.Deep.RegionHeld3
set_option linter.unusedSimpArgs false
set_option linter.unusedVariables false

namespace Go.Proofs.Ytfiojppagmnpcaa
open Go.ChangeShapes Go.WideShapes Go.ChangeAt Go.RowKit

theorem own : ownKnob Try.prog.godebug = none := by kernel_rfl
theorem laidOut : laidOutB Try.prog = true := by kernel_rfl

section
variable {H : Type} {enc : TypeId × Value → H} {P : Program}

/-- what the arguments read as stays, where nothing that was there has changed -/
theorem trodAll_stays (hl : laidOutB P = true) {W W' : World} (hb : Below W.heap.size W W') :
    ∀ {ts : List TypeId} {vs : List Value} {ds : List (DataW H)} {ps : List MemPlace}, (∀ t ∈ ts, P.readableRec t = true ∧ t < P.types.size) → (∀ x ∈ ps, x.block < W.heap.size) →
      DataW.TrodAll enc P W 0 (fun _ => true) true ts vs ds ps → DataW.TrodAll enc P W' 0 (fun b => decide (b < W.heap.size)) true ts vs ds ps
  | [], vs, ds, ps, _, _, h => by
    obtain ⟨rfl, rfl, rfl⟩ := trodAll_nil h
    rfl
  | t :: ts, vs, ds, ps, ht, hp, h => by
    obtain ⟨v, vs1, d, ds1, a, b, rfl, rfl, rfl, h1, h2⟩ := trodAll_cons h
    obtain ⟨hr, hrow⟩ := ht t List.mem_cons_self
    exact ⟨a, b, Below.trod hl hr hrow h1 hb (fun x hx => hp x (List.mem_append_left _ hx)), trodAll_stays hl hb (fun t h => ht t (List.mem_cons_of_mem _ h)) (fun x hx => hp x (List.mem_append_right _ hx)) h2, rfl⟩

theorem law_post {f : Func} {s : ChangeSpec} {tb : TypeId} {W W' : World} {args : Array Value} {ds gs : List (DataW H)} {before : List MemPlace}
    (hl : laidOutB P = true) (hr : f.resultTypes = #[tb]) (htb : P.underlying tb = some .bool) (hread : ∀ t ∈ f.params.toList, P.readableRec t = true ∧ t < P.types.size)
    (hvars : s.vars = []) (hs : s.fn H ds = { results := [.lit (.bool true)], args := ds })
    (hW : DataW.Whole enc P f.params.toList s.vars false W args.toList ds gs before) (hb : Below W.heap.size W W') :
    s.post enc P f false true false false W args (.bool true) W' := by
  have hW' := hW
  obtain ⟨p, q, hA, hV, rfl, hfz, hnd⟩ := hW
  rw [hvars] at hV
  obtain ⟨rfl, rfl⟩ := trodVars_none hV
  have hlt : ∀ x ∈ p, x.block < W.heap.size := fun x hx => hW'.lt x (by simpa using hx)
  refine ⟨ds, [], p ++ [], [], p, [], hW', ?_, ?_, ?_, ?_, fun h => by cases h⟩
  · rw [List.append_nil, hs, hr]
    exact trodAll_cons_mk (shut_bool htb true) trodAll_mk0
  · rw [List.append_nil, hs]
    exact trodAll_stays hl hb hread hlt hA
  · rw [List.append_nil, hs, hvars]
    rfl
  · exact World.keptBut_mono (fun x hx => ⟨hx, .inr (.inl (by simpa using hx))⟩) (hb.frame (· ∈ p ++ []))
end

/-! ## Arguments, opened -/
section
variable {H : Type} {enc : TypeId × Value → H} {P : Program}

end


/-! ## The bound of the second form -/
theorem bound {H : Type} {l : List (DataW H)} (hk : Rows.uptoSmall H l = true) : Rows.uptoBulkAll l ≤ 1048576 := of_decide_eq_true hk
end Go.Proofs.Ytfiojppagmnpcaa

namespace Go.Proofs.Ytfiojppagmnpcaa.Sep
open Go.ChangeShapes Go.WideShapes Go.ChangeAt Go.RowKit
section
variable {H : Type} {enc : TypeId × Value → H} {P : Program}
/-- no slice or string in it is greater than memory may be -/
def SizedD (P : Program) (t : TypeId) (d : DataW H) : Prop := ∀ n ∈ d.weights P t, n ≤ reachBytes
theorem SizedD.len {t e : TypeId} {es sp : List (DataW H)} (h : SizedD P t (.slice es sp)) (hu : P.underlying t = some (.slice e)) : es.length * P.bytesOf e ≤ reachBytes := by
  have := h ((es.length + sp.length) * P.bytesOf e) (by simp [DataW.weights, hu])
  exact Nat.le_trans (Nat.mul_le_mul_right _ (Nat.le_add_right _ _)) this
theorem weights_all {e : TypeId} : ∀ {es : List (DataW H)} {j : Nat} {d : DataW H}, es[j]? = some d → ∀ n ∈ d.weights P e, n ∈ DataW.weightsAll P e es
  | [], _, _, h, _, _ => by simp at h
  | d0 :: r, 0, d, h, n, hn => by
    simp only [List.getElem?_cons_zero, Option.some.injEq] at h
    subst h
    simp only [DataW.weightsAll, List.mem_append]
    exact .inl hn
  | d0 :: r, j + 1, d, h, n, hn => by
    simp only [List.getElem?_cons_succ] at h
    simp only [DataW.weightsAll, List.mem_append]
    exact .inr (weights_all h n hn)
theorem SizedD.elem {t e : TypeId} {es sp : List (DataW H)} (h : SizedD P t (.slice es sp)) (hu : P.underlying t = some (.slice e)) {j : Nat} {d : DataW H} (hd : es[j]? = some d) : SizedD P e d := fun n hn => by
  refine h n ?_
  have := weights_all (P := P) hd n hn
  simp [DataW.weights, hu, this]
end
end Go.Proofs.Ytfiojppagmnpcaa.Sep

namespace Go.Proofs.Ytfiojppagmnpcaa.Sep
open Go.RowKit
open Go.Proofs.Ytfiojppagmnpcaa.Mem (Dist Blk Chg below0)

/-- a value of one cell, as itself -/
def encW (v : Value) : List Value := [if v.oneCell' = true then v else .nilIface]
/-- a slice, and its bytes -/
abbrev PtT := Value × List UInt8
def PartsT (te : TypeId) (v : Value) (l : List PtT) : Ass := star [Vec te 1 encW v (l.map (·.1)), Each (fun x : PtT => Vec 5 1 encB x.1 x.2) l]
section
variable {P : Program} {te t : TypeId} {v u : Value} {l : List PtT} {d : List UInt8} {w w0 : World} {rs : List RowT} {B : Nat → Prop} {os : List Ass} {Q : Exit → Act → World → Prop} {n : Nat} {env : List (Nat × Value)} {o : Oper} {act : Act}
theorem PartsT.at_ (h : PartsT te v l rs) (hr : RowsOf w rs) {j : Nat} (hj : l[j]? = some (u, d)) : ∃ ys, Vec 5 1 encB u d ys ∧ RowsOf w ys := by
  obtain ⟨a, b, e, h1, h2⟩ := h
  subst e
  exact (Parts.one' h2).at_ (f := fun x : PtT => Vec 5 1 encB x.1 x.2) (x := ((u, d) : PtT)) (rows_iff.2 fun z hz => rows_iff.1 hr z (by simp [hz])) hj
end

/-! ## Such as came in -/
structure PtV where
  A : Option Addr
  c : Nat
  d : List UInt8
def PtV.v (x : PtV) : Value := .slice x.A x.d.length x.c
def encPt (x : PtV) : List Value := [x.v]
instance : Inhabited PtV := ⟨⟨none, 0, []⟩⟩
def PtsRd (w : World) (v : Value) (l : List PtV) : Prop := SlRd w 1 v l.length (flat encPt l) ∧ ∀ x, x ∈ l → Sl8 w x.v x.d
section
variable {u w w0 : World} {v : Value} {l : List PtV} {B : Nat → Prop} {os : List Ass}
theorem PtsRd.below (h : PtsRd u v l) (hb : Below u.heap.size u w) : PtsRd w v l := ⟨h.1.below hb, fun x hx => (h.2 x hx).below hb⟩
end
theorem subTake {A : Option Addr} {n c j : Nat} : subv 1 (.slice A n c) 0 j = .slice A j c := by
  have e : A.map (·.add 0) = A := by
    cases A with
    | none => rfl
    | some a =>
      have : a.add 0 = a := by obtain ⟨b, o, q⟩ := a; cases q <;> simp [Addr.add]
      simp [this]
  simp [subv, e]
/-! ## A list of parts, and its value -/
end Go.Proofs.Ytfiojppagmnpcaa.Sep

namespace Go.Proofs.Ytfiojppagmnpcaa.Sep

/-! ## Files -/
abbrev FS := List (List UInt8 × List UInt8)
/-- what may be pending -/
inductive OpD where
  | app (n b : List UInt8)
  | cut (n : List UInt8) (size : Nat)
  | ren (a b : List UInt8)
  | del (n : List UInt8)
def doneF (f : FS) : OpD → FS
  | .app n b => putM f n ((getM f n).getD [] ++ b)
  | .cut n s => match getM f n with | some x => putM f n (x.take s) | none => f
  | .ren a b => match getM f a with | some x => putM (delM f a) b x | none => f
  | .del n => delM f n
def usedF (f : FS) : Nat := (f.map fun p => p.2.length).sum
theorem nodup_done {f : FS} (h : (keysM f).Nodup) (o : OpD) : (keysM (doneF f o)).Nodup := by
  cases o with
  | app n b => exact nodup_put h
  | cut n s =>
    show (keysM (match getM f n with | some x => putM f n (x.take s) | none => f)).Nodup
    split
    · exact nodup_put h
    · exact h
  | ren a b =>
    show (keysM (match getM f a with | some x => putM (delM f a) b x | none => f)).Nodup
    split
    · exact nodup_put (nodup_del h)
    · exact h
  | del n => exact nodup_del h
theorem nodup_all : ∀ (l : List OpD) {f : FS}, (keysM f).Nodup → (keysM (l.foldl doneF f)).Nodup
  | [], _, h => h
  | o :: r, _, h => nodup_all r (nodup_done h o)
theorem nodup_of_keys {f : FS} (h : (keysM f).Nodup) : f.Nodup := (List.Pairwise.of_map (fun p : List UInt8 × List UInt8 => p.1) (fun a b (hab : a.1 ≠ b.1) e => hab (by rw [e])) h)
/-- the order in which files lie is nobody's business -/
theorem perm_of_mem {f g : FS} (hf : (keysM f).Nodup) (hg : (keysM g).Nodup) (h : ∀ p, p ∈ f ↔ p ∈ g) : f.Perm g :=
  (List.perm_ext_iff_of_nodup (nodup_of_keys hf) (nodup_of_keys hg)).2 h
theorem keys_perm' {f g : FS} (h : f.Perm g) : (keysM f).Perm (keysM g) := h.map _
theorem perm_get {f g : FS} (h : f.Perm g) (hf : (keysM f).Nodup) (k : List UInt8) : getM f k = getM g k := by
  have hg : (keysM g).Nodup := (keys_perm' h).nodup_iff.1 hf
  cases e : getM g k with
  | none => rw [getM_none] at e ⊢; exact fun hm => e ((keys_perm' h).mem_iff.1 hm)
  | some x => exact (getM_some hf).2 (h.mem_iff.2 ((getM_some hg).1 e))
theorem perm_put {f g : FS} (h : f.Perm g) (hf : (keysM f).Nodup) (k x : List UInt8) : (putM f k x).Perm (putM g k x) := by
  have hg : (keysM g).Nodup := (keys_perm' h).nodup_iff.1 hf
  refine perm_of_mem (nodup_put hf) (nodup_put hg) fun p => ?_
  rw [mem_put hf, mem_put hg, h.mem_iff]
theorem perm_del {f g : FS} (h : f.Perm g) (hf : (keysM f).Nodup) (k : List UInt8) : (delM f k).Perm (delM g k) := by
  have hg : (keysM g).Nodup := (keys_perm' h).nodup_iff.1 hf
  refine perm_of_mem (nodup_del hf) (nodup_del hg) fun p => ?_
  rw [mem_del hf, mem_del hg, h.mem_iff]
theorem perm_done {f g : FS} (h : f.Perm g) (hf : (keysM f).Nodup) (o : OpD) : (doneF f o).Perm (doneF g o) := by
  cases o with
  | app n b =>
    show (putM f n _).Perm (putM g n _)
    rw [perm_get h hf]; exact perm_put h hf _ _
  | cut n s =>
    show List.Perm (match getM f n with | some x => putM f n (x.take s) | none => f) (match getM g n with | some x => putM g n (x.take s) | none => g)
    rw [perm_get h hf]
    split
    · exact perm_put h hf _ _
    · exact h
  | ren a b =>
    show List.Perm (match getM f a with | some x => putM (delM f a) b x | none => f) (match getM g a with | some x => putM (delM g a) b x | none => g)
    rw [perm_get h hf]
    split
    · exact perm_put (perm_del h hf _) (nodup_del hf) _ _
    · exact h
  | del n => exact perm_del h hf _
theorem perm_used {f g : FS} (h : f.Perm g) : usedF f = usedF g := (h.map _).sum_nat
theorem used_cons (p : List UInt8 × List UInt8) (f : FS) : usedF (p :: f) = p.2.length + usedF f := by simp [usedF]
theorem used_app (f g : FS) : usedF (f ++ g) = usedF f + usedF g := by simp [usedF]
theorem perm_split {f : FS} {k x : List UInt8} (hf : (keysM f).Nodup) (h : getM f k = some x) : f.Perm ((k, x) :: delM f k) := by
  have hm := (getM_some hf).1 h
  have hd := nodup_del (k := k) hf
  have hn : (keysM ((k, x) :: delM f k)).Nodup := List.nodup_cons.2 ⟨fun hm => by
    obtain ⟨p, hp, e⟩ := List.mem_map.1 hm
    exact ((mem_del hf p).1 hp).2 e, hd⟩
  refine perm_of_mem hf hn fun p => ?_
  rw [List.mem_cons, mem_del hf]
  constructor
  · intro hp
    by_cases e : p.1 = k
    · left
      have := (getM_some (x := p.2) hf).2 (show (k, p.2) ∈ f by rw [← e]; exact hp)
      rw [h] at this
      exact Prod.ext e (Option.some.inj this).symm
    · exact .inr ⟨hp, e⟩
  · rintro (rfl | ⟨hp, _⟩)
    · exact hm
    · exact hp
theorem used_del {f : FS} {k x : List UInt8} (hf : (keysM f).Nodup) (h : getM f k = some x) : usedF (delM f k) + x.length = usedF f := by
  rw [perm_used (perm_split hf h), used_cons]; simp only; omega
theorem del_none {f : FS} {k : List UInt8} (h : getM f k = none) : delM f k = f := by
  unfold delM
  unfold getM at h
  rw [Option.map_eq_none_iff.1 h]
theorem used_put_new {f : FS} {k x : List UInt8} (h : getM f k = none) : usedF (putM f k x) = usedF f + x.length := by
  rw [keys_put_new h, used_app]; simp [usedF]
theorem used_put_old {f : FS} {k x y : List UInt8} (hf : (keysM f).Nodup) (h : getM f k = some y) : usedF (putM f k x) + y.length = usedF f + x.length := by
  have hp := nodup_put (k := k) (x := x) hf
  have h1 : getM (putM f k x) k = some x := by rw [getM_put hf, if_pos rfl]
  have h2 := used_del hp h1
  have h3 := used_del hf h
  have h4 : (delM (putM f k x) k).Perm (delM f k) := perm_of_mem (nodup_del hp) (nodup_del hf) fun p => by
    rw [mem_del hp, mem_put hf, mem_del hf]
    constructor
    · rintro ⟨rfl | h, h'⟩
      · exact absurd rfl h'
      · exact h
    · rintro ⟨h, h'⟩
      exact ⟨.inr ⟨h, h'⟩, h'⟩
  rw [perm_used h4] at h2
  omega
theorem used_append {f : FS} (hf : (keysM f).Nodup) (n b : List UInt8) : usedF (doneF f (.app n b)) = usedF f + b.length := by
  show usedF (putM f n _) = _
  cases h : getM f n with
  | none => rw [used_put_new h]; simp
  | some y =>
    have := used_put_old (x := y ++ b) hf h
    rw [List.length_append] at this
    simp only [Option.getD_some]
    omega

/-! ## A disk -/
structure DiskD where
  room : Int
  syn : FS
  wait : List OpD
  fuse : Option Nat
  down : Bool
def DiskD.now (d : DiskD) : FS := d.wait.foldl doneF d.syn
/-- what each operation does first -/
def beginD (d : DiskD) : DiskD × Nat :=
  if d.down = true ∨ d.fuse = some 0 then ({ d with down := true }, 3) else ({ d with fuse := d.fuse.map (· - 1) }, 0)
def nameB (n : List UInt8) : Bool := decide (1 ≤ n.length) && decide (n.length ≤ 16)
def doesD (d : DiskD) (o : OpD) : DiskD := { d with wait := d.wait ++ [o] }
theorem now_does (d : DiskD) (o : OpD) : (doesD d o).now = doneF d.now o := by
  show (d.wait ++ [o]).foldl doneF d.syn = _
  rw [List.foldl_append]; rfl
def fitsD (d : DiskD) (n b : List UInt8) : Bool := decide ((usedF d.now : Int) + (b.length : Int) ≤ d.room) && !((getM d.now n).isNone && decide (64 ≤ d.now.length))
def appendD (d : DiskD) (n b : List UInt8) : DiskD × Nat :=
  match beginD d with
  | (d1, e) => if e ≠ 0 then (d1, e) else if nameB n = false then (d1, 1) else if fitsD d1 n b = false then (d1, 2) else (doesD d1 (.app n b), 0)
def delD (d : DiskD) (n : List UInt8) : DiskD × Nat :=
  match beginD d with
  | (d1, e) => if e ≠ 0 then (d1, e) else match getM d1.now n with
    | none => (d1, 4)
    | some _ => (doesD d1 (.del n), 0)
def syncD (d : DiskD) : DiskD × Nat :=
  match beginD d with
  | (d1, e) => if e ≠ 0 then (d1, e) else ({ d1 with syn := d1.now, wait := [] }, 0)
def readD (d : DiskD) (n : List UInt8) : Option (List UInt8) := if d.down = true then none else getM d.now n
def fuseD (d : DiskD) (n : Int) : DiskD := { d with fuse := if 0 ≤ n then some n.toNat else none }
/-- how many of what is pending a crash keeps -/
def keepD (d : DiskD) (keep : Int) : Nat := (keep % ((d.wait.length : Int) + 1)).toNat
/-- the files behind a crash -/
def leftF (d : DiskD) (keep torn : Int) : FS :=
  match d.wait[keepD d keep]? with
  | some (.app n b) => if (torn % (b.length : Int)).toNat = 0 ∨ b = [] then (d.wait.take (keepD d keep)).foldl doneF d.syn else doneF ((d.wait.take (keepD d keep)).foldl doneF d.syn) (.app n (b.take (torn % (b.length : Int)).toNat))
  | _ => (d.wait.take (keepD d keep)).foldl doneF d.syn
def crashD (d : DiskD) (keep torn : Int) : DiskD := ⟨d.room, leftF d keep torn, [], none, false⟩
def newD (room : Int) : DiskD := ⟨room, [], [], none, false⟩
theorem keepD_le (d : DiskD) (keep : Int) : keepD d keep ≤ d.wait.length := by
  unfold keepD
  have h1 := Int.emod_nonneg keep (show ((d.wait.length : Int) + 1) ≠ 0 by omega)
  have h2 := Int.emod_lt_of_pos keep (show 0 < (d.wait.length : Int) + 1 by omega)
  omega

/-! ## One file that is appended to -/
end Go.Proofs.Ytfiojppagmnpcaa.Sep

namespace Go.Proofs.Ytfiojppagmnpcaa.Sep
open Go.RowKit
open Go.Proofs.Ytfiojppagmnpcaa.Mem (Dist Blk Chg below0)
theorem ty_s_uint8 : OneOf Try.prog 28 := oneOf Try.underlying28 rfl (by kernel_rfl)
theorem ty_bool : OneOf Try.prog 4 := oneOf Try.underlying4 rfl (by kernel_rfl)
theorem ty_int : OneOf Try.prog 3 := oneOf Try.underlying3 rfl (by kernel_rfl)
theorem ty_string : OneOf Try.prog 9 := oneOf Try.underlying9 rfl (by kernel_rfl)
theorem sl_uint8 : SliceT Try.prog 28 5 1 := sliceT_of (z := .int .u8 0) Try.underlying28 (by kernel_rfl) rfl rfl (by decide)
def flS : List ((Nat × Nat) × Nat) := []
theorem hflS : Flds Try.prog flS := flds_of (fl := []) trivial

end Go.Proofs.Ytfiojppagmnpcaa.Sep

namespace Go.Proofs.Ytfiojppagmnpcaa.Sep
open Go.RowKit
open Go.Proofs.Ytfiojppagmnpcaa.Mem (Dist Blk Chg below0)

def encKey (s : List UInt8) : Value := .string (bs s)
def encFil (x : PtT) : Value := x.1
abbrev FilL := List (List UInt8 × PtT)
theorem mapTyF : MapTy Try.prog 47 9 28 .string encKey (.slice none 0 0) := mapTy_str Try.underlying47 Try.underlying9 (fun w => by kernel_rfl)
/-- the bytes behind the slices of a list of files -/
def FilE (L : FilL) : Ass := Each (fun p : List UInt8 × PtT => Vec 5 1 encB p.2.1 p.2.2) L
/-- the files of a list -/
def fsL (L : FilL) : FS := L.map fun p => (p.1, p.2.2)
theorem keys_fsL (L : FilL) : keysM (fsL L) = keysM L := by simp [keysM, fsL]
theorem rd8_fil {L : FilL} {p : List UInt8 × PtT} (h : p ∈ L) : Rd8 (FilE L) p.2.1 p.2.2 := fun rs w h1 h2 => by
  obtain ⟨j, hj⟩ := List.getElem?_of_mem h
  obtain ⟨ys, h3, h4⟩ := Each.at_ h1 h2 hj
  exact vec_sl8 h3 h4
theorem fnd_map {α β γ : Type} [DecidableEq α] (g : β → γ) (k : α) : ∀ (L : List (α × β)) (i : Nat), fnd k (L.map fun p => (p.1, g p.2)) i = (fnd k L i).map fun q => (q.1, g q.2)
  | [], i => rfl
  | p :: L, i => by
    simp only [List.map_cons, fnd]
    split
    · rfl
    · exact fnd_map g k L (i + 1)
theorem getM_map {α β γ : Type} [DecidableEq α] (g : β → γ) (k : α) (L : List (α × β)) : getM (L.map fun p => (p.1, g p.2)) k = (getM L k).map g := by
  unfold getM
  rw [fnd_map, Option.map_map, Option.map_map]; rfl
theorem putM_map {α β γ : Type} [DecidableEq α] (g : β → γ) (k : α) (x : β) (L : List (α × β)) : putM (L.map fun p => (p.1, g p.2)) k (g x) = (putM L k x).map fun p => (p.1, g p.2) := by
  unfold putM
  rw [fnd_map]
  cases fnd k L 0 with
  | none => simp
  | some q => simp [List.map_set]
theorem delM_map {α β γ : Type} [DecidableEq α] (g : β → γ) (k : α) (L : List (α × β)) : delM (L.map fun p => (p.1, g p.2)) k = (delM L k).map fun p => (p.1, g p.2) := by
  unfold delM
  rw [fnd_map]
  cases fnd k L 0 with
  | none => rfl
  | some q => simp [List.eraseIdx_eq_take_drop_succ, List.map_take, List.map_drop]
theorem getM_fsL (L : FilL) (k : List UInt8) : getM (fsL L) k = (getM L k).map (·.2) := getM_map (fun x : PtT => x.2) k L
theorem putM_fsL (L : FilL) (k : List UInt8) (x : PtT) : putM (fsL L) k x.2 = fsL (putM L k x) := putM_map (fun x : PtT => x.2) k x L
theorem delM_fsL (L : FilL) (k : List UInt8) : delM (fsL L) k = fsL (delM L k) := delM_map (fun x : PtT => x.2) k L
/-! ## The map and the bytes as one thing -/
def FilesT (v : Value) (f : FS) : Ass := fun rs => ∃ L : FilL, f = fsL L ∧ Parts [MapT encKey encFil v L, FilE L] rs
theorem files_open {v : Value} {f : FS} : ∀ rs, FilesT v f rs → ∃ x : { L : FilL // f = fsL L }, Parts [MapT encKey encFil v x.1, FilE x.1] rs := fun _ ⟨L, h, h'⟩ => ⟨⟨L, h⟩, h'⟩
/-- a file's entry: what lies ahead of it, its bytes, what lies behind -/
theorem fnd_at0 {L : FilL} {k : List UInt8} {q : Nat × PtT} (h : fnd k L 0 = some q) : L[q.1]? = some (k, q.2) := (fnd_some h).2
theorem fil_open {L : FilL} {k : List UInt8} {q : Nat × PtT} (h : fnd k L 0 = some q) : ∀ rs, FilE L rs → ∃ _ : Unit, Parts [FilE (L.take q.1), Vec 5 1 encB q.2.1 q.2.2, FilE (L.drop (q.1 + 1))] rs := each_open (fnd_at0 h)
theorem fil_put {L : FilL} {k : List UInt8} {q : Nat × PtT} (h : fnd k L 0 = some q) (y : PtT) : ∀ rs, Parts [FilE (L.take q.1), Vec 5 1 encB y.1 y.2, FilE (L.drop (q.1 + 1))] rs → FilE (putM L k y) rs := fun rs hr => by
  have h1 := each_back (f := fun p : List UInt8 × PtT => Vec 5 1 encB p.2.1 p.2.2) (y := (k, y)) rs hr
  rw [each_set (y := (k, y)) (List.getElem?_eq_some_iff.1 (fnd_at0 h)).1] at h1
  unfold FilE putM
  rw [h]
  exact h1
theorem fil_new {L : FilL} {k : List UInt8} (h : fnd k L 0 = none) (y : PtT) : ∀ rs, Parts [FilE L, Vec 5 1 encB y.1 y.2] rs → FilE (putM L k y) rs := fun rs hr => by
  have h1 := each_close (f := fun p : List UInt8 × PtT => Vec 5 1 encB p.2.1 p.2.2) (x := (k, y)) rs hr
  unfold FilE putM
  rw [h]
  exact h1
theorem erase_less {α : Type} {l : List α} {j : Nat} {x : α} (h : l[j]? = some x) : (l.eraseIdx j).length < l.length := by
  have := (List.getElem?_eq_some_iff.1 h).1
  rw [List.length_eraseIdx, if_pos this]; omega
theorem used_erase {l : FilL} {j : Nat} {p : List UInt8 × PtT} (h : l[j]? = some p) : usedF (fsL (l.eraseIdx j)) + p.2.2.length = usedF (fsL l) := by
  have hlt := (List.getElem?_eq_some_iff.1 h).1
  have hx := (List.getElem?_eq_some_iff.1 h).2
  have h1 : l = l.take j ++ p :: l.drop (j + 1) := by rw [← hx]; simp
  have h2 : l.eraseIdx j = l.take j ++ l.drop (j + 1) := List.eraseIdx_eq_take_drop_succ ..
  have e1 : fsL l = fsL (l.take j) ++ (p.1, p.2.2) :: fsL (l.drop (j + 1)) := by
    have := congrArg fsL h1
    rw [this]; simp [fsL]
  have e2 : fsL (l.eraseIdx j) = fsL (l.take j) ++ fsL (l.drop (j + 1)) := by rw [h2]; simp [fsL]
  rw [e1, e2, used_app, used_app, used_cons]
  show _ + p.2.2.length = _ + (p.2.2.length + _)
  omega
end Go.Proofs.Ytfiojppagmnpcaa.Sep

namespace Go.Proofs.Ytfiojppagmnpcaa.Sep
open Go.RowKit
open Go.Proofs.Ytfiojppagmnpcaa.Mem (Dist Blk Chg below0)

end Go.Proofs.Ytfiojppagmnpcaa.Sep

namespace Go.Proofs.Ytfiojppagmnpcaa.Sep
open Go.RowKit
open Go.Proofs.Ytfiojppagmnpcaa.Mem (Dist Blk Chg below0)

end Go.Proofs.Ytfiojppagmnpcaa.Sep

namespace Go.Proofs.Ytfiojppagmnpcaa.Sep
open Go.RowKit
open Go.Proofs.Ytfiojppagmnpcaa.Mem (Dist Blk Chg below0)

section
variable {P : Program} {n : Nat} {B : Nat → Prop} {w0 w : World} {os : List Ass} {env : List (Nat × Value)} {o : Oper} {a : Act}
end

end Go.Proofs.Ytfiojppagmnpcaa.Sep

namespace Go.Proofs.Ytfiojppagmnpcaa.Sep
open Go.RowKit
open Go.Proofs.Ytfiojppagmnpcaa.Mem (Dist Blk Chg below0)

end Go.Proofs.Ytfiojppagmnpcaa.Sep

namespace Go.Proofs.Ytfiojppagmnpcaa.Sep
open Go.ChangeShapes Go.WideShapes Go.ChangeAt Go.RowKit
section
variable {H : Type} {enc : TypeId × Value → H} {W : World} {base b0 : Nat} {r : Reach} {spare : Nat → Bool} {held : Bool} {v : Value} {d : DataW H} {p : List MemPlace}
end
end Go.Proofs.Ytfiojppagmnpcaa.Sep

namespace Go.Proofs.Ytfiojppagmnpcaa.Sep
open Go.RowKit
open Go.Proofs.Ytfiojppagmnpcaa.Mem (Dist Blk Chg below0)

end Go.Proofs.Ytfiojppagmnpcaa.Sep

namespace Go.Proofs.Ytfiojppagmnpcaa.Sep
open Go.RowKit
open Go.Proofs.Ytfiojppagmnpcaa.Mem (Dist Blk Chg below0)

end Go.Proofs.Ytfiojppagmnpcaa.Sep

namespace Go.Proofs.Ytfiojppagmnpcaa.Sep
open Go.RowKit
open Go.Proofs.Ytfiojppagmnpcaa.Mem (Dist Blk Chg below0)

end Go.Proofs.Ytfiojppagmnpcaa.Sep

namespace Go.Proofs.Ytfiojppagmnpcaa.Sep
open Go.RowKit
open Go.Proofs.Ytfiojppagmnpcaa.Mem (Dist Blk Chg below0)

end Go.Proofs.Ytfiojppagmnpcaa.Sep

namespace Go.Proofs.Ytfiojppagmnpcaa.Sep
open Go.RowKit
open Go.Proofs.Ytfiojppagmnpcaa.Mem (Dist Blk Chg below0)

structure RepD where
  code : Int
  val : Int
  hi : Int
  lo : Int
  sc : Int
deriving DecidableEq
structure RepD.ok (r : RepD) : Prop where
  code : I64 r.code
  val : U64 r.val
  hi : I64 r.hi
  lo : U64 r.lo
  sc : I64 r.sc
def RepD.right (r : RepD) : Bool := (decide (0 ≤ r.code) && decide (r.code ≤ 99)) && scB r.sc
end Go.Proofs.Ytfiojppagmnpcaa.Sep

namespace Go.Proofs.Ytfiojppagmnpcaa.Sep
open Go.RowKit
open Go.Proofs.Ytfiojppagmnpcaa.Mem (Dist Blk Chg below0)

end Go.Proofs.Ytfiojppagmnpcaa.Sep

namespace Go.Proofs.Ytfiojppagmnpcaa.Sep
open Go.RowKit
open Go.Proofs.Ytfiojppagmnpcaa.Mem (Dist Blk Chg below0)

set_option maxRecDepth 100000 in
theorem pick (w : World) (a m : Int) (ha : -9223372036854775808 ≤ a ∧ a ≤ 9223372036854775807) (hm : 1 ≤ m ∧ m ≤ 9223372036854775807) {r : Int} (hr : a % m = r) : Calls Try.prog 20 #[.int .i64 a, .int .i64 m] w fun e w' => e = .returned (.int .i64 r) ∧ Below w.heap.size w w' := by
  have hlt := Int.emod_lt_of_pos a (show 0 < m by omega)
  have hge := Int.emod_nonneg a (show m ≠ 0 by omega)
  have ht : (0 ≤ a.tmod m ∧ a.tmod m = r) ∨ (a.tmod m < 0 ∧ a.tmod m + m = r) := by
    rw [Int.tmod_eq_emod, ← hr]
    split
    · left; omega
    · rename_i h
      right
      have hne : a % m ≠ 0 := fun e => h (.inr (Int.dvd_of_emod_eq_zero e))
      omega
  rw [hr] at hlt hge
  obtain ⟨t, htm⟩ : ∃ t, a.tmod m = t := ⟨_, rfl⟩
  rw [htm] at ht
  refine d_in (args := [.int .i64 a, .int .i64 m]) 14 Try.func20 rfl rfl rfl ?_
  refine d_reg ?_
  refine h_q hflS rfl ?_
  refine h_done (d_reg ?_)
  refine h_q hflS rfl ?_
  refine h_val rfl (.int .i64 t) (fun b w hb hH => exec_remI rfl rfl rfl (by omega) htm hb) ?_
  refine h_q hflS rfl ?_
  refine h_done (d_seq ?_)
  rcases ht with ⟨h1, h2⟩ | ⟨h1, h2⟩
  · skip
    subst h2
    refine d_reg ?_
    refine h_q hflS rfl ?_
    refine h_val rfl (.bool false) (fun b w hb hH => exec_cmp rfl rfl rfl (cmp_lss_f (by omega)) hb) ?_
    refine h_done (d_else rfl (d_skip (f_to (d_reg ?_))))
    refine h_q hflS rfl ?_
    refine h_done (d_ret ?_)
    exact f_fin1 (.tmp rfl) (fun w h => ⟨rfl, below0 h.up⟩) rfl
  · skip
    refine d_reg ?_
    refine h_q hflS rfl ?_
    refine h_val rfl (.bool true) (fun b w hb hH => exec_cmp rfl rfl rfl (cmp_lss_t (by omega)) hb) ?_
    refine h_done (d_then rfl (d_reg1 ?_))
    refine h_q hflS rfl ?_
    refine h_val rfl (.int .i64 r) (fun b w hb hH => exec_ar rfl rfl rfl rfl (by rw [IntWalk.i64_in _ (by omega)]; omega) hb) ?_
    refine h_q hflS rfl ?_
    refine h_nil (f_to (d_reg ?_))
    refine h_q hflS rfl ?_
    refine h_done (d_ret ?_)
    exact f_fin1 (.tmp rfl) (fun w h => ⟨rfl, below0 h.up⟩) rfl
end Go.Proofs.Ytfiojppagmnpcaa.Sep

namespace Go.Proofs.Ytfiojppagmnpcaa
open Go.RowKit

/-! ## the model's words -/
end Go.Proofs.Ytfiojppagmnpcaa

namespace Go.Proofs.Ytfiojppagmnpcaa
open Go.RowKit

end Go.Proofs.Ytfiojppagmnpcaa

namespace Go.Proofs.Ytfiojppagmnpcaa
open Go.RowKit

end Go.Proofs.Ytfiojppagmnpcaa

namespace Go.Proofs.Ytfiojppagmnpcaa
open Go.RowKit

end Go.Proofs.Ytfiojppagmnpcaa

namespace Go.Proofs.Ytfiojppagmnpcaa
open Go.RowKit

end Go.Proofs.Ytfiojppagmnpcaa

namespace Go.Proofs.Ytfiojppagmnpcaa
open Go.RowKit

end Go.Proofs.Ytfiojppagmnpcaa

namespace Go.Proofs.Ytfiojppagmnpcaa.Sep
open Go.RowKit
open Go.Proofs.Ytfiojppagmnpcaa.Mem (Dist Blk Chg below0)
section
variable {P : Program} {Q : Exit → Act → World → Prop} {n : Nat} {env : List (Nat × Value)} {B : Nat → Prop} {w0 w : World} {os : List Ass} {o : Oper}
end
section
variable {P : Program} {F : FuncId} {args : Array Value} {l m b l' : List UInt8} {u : World} {g f f' : Nat} {v B : Value} {val : Value}
end
end Go.Proofs.Ytfiojppagmnpcaa.Sep

namespace Go.Proofs.Ytfiojppagmnpcaa

/-- a message -/
structure MsgD where
  k : Int
  a : Int
  b : Int
  t : Int
  i : Int
  lt : Int
  es : List EntD
  co : Int
  rf : Bool
  bi : Int
  bt : Int
  bc : Int
  o : Int
  d : List UInt8
  la : Bool
deriving DecidableEq
def MsgD.zero : MsgD := ⟨0, 0, 0, 0, 0, 0, [], 0, false, 0, 0, 0, 0, [], false⟩
structure MsgD.ok (m : MsgD) : Prop where
  k : I64 m.k
  a : I64 m.a
  b : I64 m.b
  t : U64 m.t
  i : U64 m.i
  lt : U64 m.lt
  es : m.es.length ≤ 9223372036854775807 ∧ ∀ e, e ∈ m.es → e.ok
  co : U64 m.co
  bi : U64 m.bi
  bt : U64 m.bt
  bc : I64 m.bc
  o : I64 m.o
  d : m.d.length ≤ 9223372036854775807

/-- the fields of a kind, as a sum of 1 (index), 2 (logterm), 4 (commit), 8 (entries), 16 (refused), 32 (base), 64 (offset), 128 (last), 256 (data) -/
def fm (k : Int) : Nat := if k = 1 then 131 else if k = 2 then 144 else if k = 3 then 15 else if k = 4 then 17 else if k = 5 then 480 else if k = 6 then 96 else 0
/-! ## What is laid -/
/-! ## What is read -/
/-- an entry of a message -/
def rent (l : List UInt8) (f : Nat) : EntD × List UInt8 × Nat :=
  match rtext 160 l f with
  | (x, l1, f1) => if f1 ≠ 0 then (.zero, l1, f1) else ((decE x).1, l1, (decE x).2)
theorem rent_text {l l1 x : List UInt8} {f f1 : Nat} (h : rtext 160 l f = (x, l1, f1)) (hf : f1 ≠ 0) : rent l f = (.zero, l1, f1) := by
  unfold rent
  rw [h]
  simp only
  rw [if_pos hf]
theorem rent_of {l l1 x : List UInt8} {f e : Nat} {y : EntD} (h : rtext 160 l f = (x, l1, 0)) (he : decE x = (y, e)) : rent l f = (y, l1, e) := by
  unfold rent
  rw [h]
  simp only
  rw [if_neg (by simp), he]
theorem rent_right {l l' : List UInt8} {f : Nat} {e : EntD} (h : rent l f = (e, l', 0)) : rightE e = true := by
  obtain ⟨⟨x, l1, f1⟩, h1⟩ : ∃ R, rtext 160 l f = R := ⟨_, rfl⟩
  by_cases hf : f1 = 0
  · subst hf
    obtain ⟨⟨y, e'⟩, h2⟩ : ∃ R, decE x = R := ⟨_, rfl⟩
    have e1 := (rent_of h1 h2).symm.trans h
    simp only [Prod.mk.injEq] at e1
    obtain ⟨rfl, rfl, rfl⟩ := e1
    have hb := decE_back x
    rw [h2] at hb
    rcases hb with ⟨hb, _⟩ | ⟨_, hb, _⟩
    · exact absurd rfl hb
    · exact hb
  · have e1 := (rent_text h1 hf).symm.trans h
    simp only [Prod.mk.injEq] at e1
    exact absurd e1.2.2 hf
/-- n entries -/
def rents : Nat → List UInt8 → Nat → List EntD × List UInt8 × Nat
  | 0, l, f => ([], l, f)
  | n + 1, l, f => match rent l f with
    | (e, l1, f1) => if f1 ≠ 0 then ([], l1, f1) else match rents n l1 0 with
      | (es, l2, f2) => (e :: es, l2, f2)
theorem rents_of {n : Nat} {l l1 l2 : List UInt8} {f f2 : Nat} {e : EntD} {es : List EntD} (h : rent l f = (e, l1, 0)) (h2 : rents n l1 0 = (es, l2, f2)) : rents (n + 1) l f = (e :: es, l2, f2) := by
  rw [rents, h]
  simp only
  rw [if_neg (by simp), h2]
/-- a message's entries: their number, then each -/
def rlist (l : List UInt8) (f : Nat) : List EntD × List UInt8 × Nat :=
  match rnum 4 l f with
  | (n, l1, f1) => rents n l1 f1
/-- a base -/
def rbase (l : List UInt8) (f : Nat) : (Int × Int × Int) × List UInt8 × Nat :=
  match rnum 72057594037927935 l f with
  | (x, l1, f1) => match rnum 72057594037927935 l1 f1 with
    | (y, l2, f2) => match rbyte 254 l2 f2 with
      | (z, l3, f3) => (((x : Int), (y : Int), (z : Int)), l3, f3)
/-- what is read of l: the message, the rest, what was wrong -/
def readM (l : List UInt8) : MsgD × List UInt8 × Nat :=
  match rbyte 6 l 0 with
  | (k, l0, f0) => match rI (k != 0) 0 (rbyte 7 l0 f0) l0 f0 with
  | (a, l1, f1) => match rI (k != 0) 0 (rbyte 7 l1 f1) l1 f1 with
  | (b, l2, f2) => match rI (k != 0) 0 (rnum 72057594037927935 l2 f2) l2 f2 with
  | (t, l3, f3) => match rI (wth (fm (k : Int)) 1) 0 (rnum 72057594037927935 l3 f3) l3 f3 with
  | (i, l4, f4) => match rI (wth (fm (k : Int)) 2) 0 (rnum 72057594037927935 l4 f4) l4 f4 with
  | (lt, l5, f5) => match rI (wth (fm (k : Int)) 4) 0 (rnum 72057594037927935 l5 f5) l5 f5 with
  | (co, l6, f6) => match rI (wth (fm (k : Int)) 8) [] (rlist l6 f6) l6 f6 with
  | (es, l7, f7) => match rI (wth (fm (k : Int)) 16) 0 (rbyte 1 l7 f7) l7 f7 with
  | (rf, l8, f8) => match rI (wth (fm (k : Int)) 32) (0, 0, 0) (rbase l8 f8) l8 f8 with
  | ((bi, bt, bc), l9, f9) => match rI (wth (fm (k : Int)) 64) 0 (rnum 32768 l9 f9) l9 f9 with
  | (o, l10, f10) => match rI (wth (fm (k : Int)) 128) 0 (rbyte 1 l10 f10) l10 f10 with
  | (la, l11, f11) => match rI (wth (fm (k : Int)) 256) [] (rtext 256 l11 f11) l11 f11 with
  | (d, l12, f12) => (⟨(k : Int), (a : Int), (b : Int), (t : Int), (i : Int), (lt : Int), es, (co : Int), rf == 1, bi, bt, bc, (o : Int), d, la == 1⟩, l12, f12)
/-- the same, step by step -/
structure ReadM (l : List UInt8) (m : MsgD) (l' : List UInt8) (f' : Nat) where
  mk ::
  k : Nat
  l0 : List UInt8
  f0 : Nat
  h0 : rbyte 6 l 0 = (k, l0, f0)
  a : Nat
  l1 : List UInt8
  f1 : Nat
  h1 : rI (k != 0) 0 (rbyte 7 l0 f0) l0 f0 = (a, l1, f1)
  b : Nat
  l2 : List UInt8
  f2 : Nat
  h2 : rI (k != 0) 0 (rbyte 7 l1 f1) l1 f1 = (b, l2, f2)
  t : Nat
  l3 : List UInt8
  f3 : Nat
  h3 : rI (k != 0) 0 (rnum 72057594037927935 l2 f2) l2 f2 = (t, l3, f3)
  i : Nat
  l4 : List UInt8
  f4 : Nat
  h4 : rI (wth (fm (k : Int)) 1) 0 (rnum 72057594037927935 l3 f3) l3 f3 = (i, l4, f4)
  lt : Nat
  l5 : List UInt8
  f5 : Nat
  h5 : rI (wth (fm (k : Int)) 2) 0 (rnum 72057594037927935 l4 f4) l4 f4 = (lt, l5, f5)
  co : Nat
  l6 : List UInt8
  f6 : Nat
  h6 : rI (wth (fm (k : Int)) 4) 0 (rnum 72057594037927935 l5 f5) l5 f5 = (co, l6, f6)
  es : List EntD
  l7 : List UInt8
  f7 : Nat
  h7 : rI (wth (fm (k : Int)) 8) [] (rlist l6 f6) l6 f6 = (es, l7, f7)
  rf : Nat
  l8 : List UInt8
  f8 : Nat
  h8 : rI (wth (fm (k : Int)) 16) 0 (rbyte 1 l7 f7) l7 f7 = (rf, l8, f8)
  bi : Int
  bt : Int
  bc : Int
  l9 : List UInt8
  f9 : Nat
  h9 : rI (wth (fm (k : Int)) 32) (0, 0, 0) (rbase l8 f8) l8 f8 = ((bi, bt, bc), l9, f9)
  o : Nat
  l10 : List UInt8
  f10 : Nat
  h10 : rI (wth (fm (k : Int)) 64) 0 (rnum 32768 l9 f9) l9 f9 = (o, l10, f10)
  la : Nat
  l11 : List UInt8
  f11 : Nat
  h11 : rI (wth (fm (k : Int)) 128) 0 (rbyte 1 l10 f10) l10 f10 = (la, l11, f11)
  d : List UInt8
  h12 : rI (wth (fm (k : Int)) 256) [] (rtext 256 l11 f11) l11 f11 = (d, l', f')
  hm : m = ⟨(k : Int), (a : Int), (b : Int), (t : Int), (i : Int), (lt : Int), es, (co : Int), rf == 1, bi, bt, bc, (o : Int), d, la == 1⟩
theorem ReadM.is {l l' : List UInt8} {m : MsgD} {f' : Nat} (h : ReadM l m l' f') : readM l = (m, l', f') := by
  obtain ⟨k, l0, f0, h0, a, l1, f1, h1, b, l2, f2, h2, t, l3, f3, h3, i, l4, f4, h4, lt, l5, f5, h5, co, l6, f6, h6, es, l7, f7, h7, rf, l8, f8, h8, bi, bt, bc, l9, f9, h9, o, l10, f10, h10, la, l11, f11, h11, d, h12, rfl⟩ := h
  simp only [readM, h0, h1, h2, h3, h4, h5, h6, h7, h8, h9, h10, h11, h12]
end Go.Proofs.Ytfiojppagmnpcaa

namespace Go.Proofs.Ytfiojppagmnpcaa

/-! ## Its bytes are few -/
/-! ## What was read is laid so -/
/-! ## Decode -/
end Go.Proofs.Ytfiojppagmnpcaa

namespace Go.Proofs.Ytfiojppagmnpcaa

/-! ## A fault stays -/
/-- the entries that are read one by one: what has been read, what is left -/
structure RentsAt (n : Nat) (l : List UInt8) (f : Nat) (es : List EntD) (j : Nat) (l1 : List UInt8) : Prop where
  le : j ≤ n
  len : es.length = j
  right : ∀ e, e ∈ es → rightE e = true
  rest : ∀ es' l' f', rents (n - j) l1 0 = (es', l', f') → rents n l f = (es ++ es', l', f')
theorem RentsAt.step {n j : Nat} {l l1 l2 : List UInt8} {f : Nat} {es : List EntD} {e : EntD} (h : RentsAt n l f es j l1) (hj : j < n) (he : rent l1 0 = (e, l2, 0)) : RentsAt n l f (es ++ [e]) (j + 1) l2 where
  le := hj
  len := by rw [List.length_append, h.len]; rfl
  right x hx := by
    rcases List.mem_append.1 hx with hx | hx
    · exact h.right x hx
    · rw [List.mem_singleton.1 hx]; exact rent_right he
  rest es' l' f' hr := by
    have e1 : n - j = (n - (j + 1)) + 1 := by omega
    have := h.rest (e :: es') l' f' (by rw [e1]; exact rents_of he hr)
    rw [this, List.append_assoc]; rfl
theorem RentsAt.done {n : Nat} {l l1 : List UInt8} {f : Nat} {es : List EntD} (h : RentsAt n l f es n l1) : rents n l f = (es, l1, 0) := by
  have := h.rest [] l1 0 (by rw [Nat.sub_self]; rfl)
  rwa [List.append_nil] at this
end Go.Proofs.Ytfiojppagmnpcaa

namespace Go.Proofs.Ytfiojppagmnpcaa.Sep
open Go.RowKit
open Go.Proofs.Ytfiojppagmnpcaa.Mem (Dist Blk Chg below0)

end Go.Proofs.Ytfiojppagmnpcaa.Sep

namespace Go.Proofs.Ytfiojppagmnpcaa.Sep
open Go.RowKit
open Go.Proofs.Ytfiojppagmnpcaa.Mem (Dist Blk Chg below0)

theorem sl8_cap {w : World} {A : Option Addr} {n c : Nat} {l : List UInt8} (h : Sl8 w (.slice A n c) l) : l.length ≤ c := by
  obtain ⟨A', c', e, hb⟩ := h
  simp only [Value.slice.injEq] at e
  obtain ⟨rfl, _, rfl⟩ := e
  exact hb.1
end Go.Proofs.Ytfiojppagmnpcaa.Sep

namespace Go.Proofs.Ytfiojppagmnpcaa.Sep
open Go.RowKit
open Go.Proofs.Ytfiojppagmnpcaa.Mem (Dist Blk Chg below0)

end Go.Proofs.Ytfiojppagmnpcaa.Sep

namespace Go.Proofs.Ytfiojppagmnpcaa.Sep
open Go.RowKit
open Go.Proofs.Ytfiojppagmnpcaa.Mem (Dist Blk Chg)
section
variable {P : Program} {t e ty : TypeId} {k : Nat} {α : Type} {enc : α → List Value} {v u : Value} {l m : List α} {w w' : World} {rs : List RowT}
variable {Q : Exit → Act → World → Prop} {n : Nat} {B : Nat → Prop} {w0 : World} {os : List Ass} {env : List (Nat × Value)} {o : Oper}
end
end Go.Proofs.Ytfiojppagmnpcaa.Sep

namespace Go.Proofs.Ytfiojppagmnpcaa.Sep
open Go.RowKit
open Go.Proofs.Ytfiojppagmnpcaa.Mem (Dist Blk Chg)
theorem fold_set : ∀ (ys : List Value) (n : Nat) (cs : Array Value), n + ys.length ≤ cs.size →
    ((ys.zipIdx n).foldl (fun (cs : Array Value) (p : Value × Nat) => cs.setIfInBounds p.2 p.1) cs).toList = cs.toList.take n ++ ys ++ cs.toList.drop (n + ys.length)
  | [], n, cs, _ => by simp
  | y :: ys, n, cs, h => by
    have hl : (y :: ys).length = ys.length + 1 := rfl
    have hn : n < cs.toList.length := by rw [Array.length_toList]; omega
    rw [List.zipIdx_cons, List.foldl_cons, fold_set ys (n + 1) _ (by rw [Array.size_setIfInBounds]; omega), Array.toList_setIfInBounds]
    have e1 : (cs.toList.set n y).take (n + 1) = cs.toList.take n ++ [y] := by
      rw [List.set_eq_take_append_cons_drop, if_pos hn, List.take_append, List.length_take, Nat.min_eq_left (by omega), List.take_of_length_le (by rw [List.length_take]; omega), show n + 1 - n = 1 by omega]
      rfl
    have e2 : (cs.toList.set n y).drop (n + 1 + ys.length) = cs.toList.drop (n + (ys.length + 1)) := by
      rw [List.drop_set, if_pos (by omega)]
      congr 1
      omega
    rw [e1, e2, hl]
    simp
variable {P : Program} {Q : Exit → Act → World → Prop} {n : Nat} {B : Nat → Prop} {w0 : World} {os : List Ass} {env : List (Nat × Value)} {o : Oper}
variable {t e : TypeId} {k : Nat} {α : Type} {enc : α → List Value}
theorem fill_one {v : Value} {cells : Array Value} (h : v.cells.size = cells.size) (hk : v.cells.size = k) : Instr.fill (fun i => some (i * k, k)) cells [(0, v)] = some v.cells := by
  have h1 : ¬ ((v.cells.size ≠ k || 0 * k + v.cells.size > cells.size) = true) := by simp [hk]; omega
  have h2 : (v.cells.zipIdx.foldl (fun (cs : Array Value) (p : Value × Nat) => cs.setIfInBounds (0 * k + p.2) p.1) cells) = v.cells := by
    have hf : (fun (cs : Array Value) (p : Value × Nat) => cs.setIfInBounds (0 * k + p.2) p.1) = fun cs p => cs.setIfInBounds p.2 p.1 := by
      funext cs p
      rw [Nat.zero_mul, Nat.zero_add]
    rw [hf, ← Array.foldl_toList, Array.toList_zipIdx]
    apply Array.toList_inj.1
    rw [fold_set _ 0 _ (by rw [Array.length_toList]; omega), Array.length_toList]
    simp [h]
  unfold Instr.fill
  simp only
  rw [if_neg h1]
  exact congrArg some h2
theorem run_buildK (hT : SliceT P t e k) (hk : k ≤ 4096) {x : Value} (hx : x.cells.size = k) (w : World) : (Instr.buildSlice t 1 #[(0, x)]).run P w = .ok (.slice (some ⟨w.heap.size, 0, none⟩) 1 1) (w.alloc (.cells x.cells e)) := by
  obtain ⟨inf, z, hinf, hz, hsz, _, hzs, _⟩ := hT.inf
  have hp := hT.pos
  have hf : Instr.fill (fun i => some (i * k, k)) ((Array.range k).map (fun j => z.cells[j % z.cells.size]!)) [(0, x)] = some x.cells := fill_one (by simp [hx]) hx
  have h1 : ¬ 1 * k > 2 ^ 24 := by omega
  have h2 : ¬ 1 * k = 0 := by omega
  simp only [Instr.buildSlice, run_underlying hT.ht, hT.sizeOf, Sem.run_bind, Sem.run_pure, Result.andThen_ok, if_neg h1, if_neg h2, zeroValue, typeInfo, hinf, hz]
  simp [newRow, zeroValue, typeInfo, hinf, hz, h1, h2]
  rw [hf]
  simp
theorem a_buildK (hT : SliceT P t e k) (hk : k ≤ 4096) (he : EncOf k enc) {x : Operand} {c : Value} (a : α) (hc : c.cells.toList = enc a) (ho : o.op = .buildSlice t 1 #[(0, x)]) (hx : evs env x = some c) : Acts P Q n env B w0 os o (fun v : Value => v) (fun v => Vec e k enc v [a] :: os) := fun b w hH hF K hK => by
  have hsz : c.cells.size = k := by rw [← he.len a, ← hc, Array.length_toList]
  have hrun : (execOp b.eval o).run P w = .ok (.value (.slice (some ⟨w.heap.size, 0, none⟩) 1 1)) (w.alloc (.cells c.cells e)) := by
    unfold execOp
    simp [ho, hF.evs hx, Sem.run_bind, run_buildK hT hk hsz]
  refine a_val (w0 := w) b hrun (hK _ _ ?_)
  have := hH.new e c.cells
  obtain ⟨rs, ⟨r1, r2, e1, h1, h2⟩, h3⟩ := this
  unfold cell at h1
  exact ⟨rs, ⟨r1, r2, e1, .inr ⟨w.heap.size, 1, c.cells, rfl, Nat.le_refl _, by unfold maxLen; omega, by simp [hsz], by rw [hc]; simp only [flat, List.flatMap_cons, List.flatMap_nil, List.append_nil, List.length_cons, List.length_nil, Nat.zero_add, Nat.one_mul]; exact List.take_of_length_le (by rw [he.len]; exact Nat.le_refl _), h1⟩, h2⟩, h3⟩
end Go.Proofs.Ytfiojppagmnpcaa.Sep

namespace Go.Proofs.Ytfiojppagmnpcaa.Sep
open Go.RowKit
open Go.Proofs.Ytfiojppagmnpcaa.Mem (Dist Blk Chg below0)

section
variable {P : Program} {ops : Array Oper} {Q : Exit → Act → World → Prop} {n : Nat} {env : List (Nat × Value)} {B : Nat → Prop} {w0 : World} {os : List Ass} {t : Ass}
theorem new_thing (h : t []) : ∀ rs, Parts os rs → ∃ _ : Unit, ∃ rs', rs.Perm rs' ∧ Parts (t :: os) rs' := fun rs hr => ⟨(), rs, .refl _, [], rs, rfl, h, hr⟩
theorem d_new (h0 : t []) {c : Code} (h : WC2 P Q n env B w0 (t :: os) c) : WC2 P Q n env B w0 os c := WC2.via (fun _ : Unit => _) (new_thing h0) fun _ => h
end
end Go.Proofs.Ytfiojppagmnpcaa.Sep

namespace Go.Proofs.Ytfiojppagmnpcaa.Sep
open Go.RowKit
open Go.Proofs.Ytfiojppagmnpcaa.Mem (Dist Blk Chg below0)

end Go.Proofs.Ytfiojppagmnpcaa.Sep

namespace Go.Proofs.Ytfiojppagmnpcaa.Sep
open Go.RowKit
/-- the bytes of an operation -/
def OpD.size : OpD → Nat
  | .app _ b => b.length
  | _ => 0
/-- a disk whose sizes are within reach -/
def DiskD.fit (d : DiskD) : Prop := usedF d.syn + (d.wait.map OpD.size).sum ≤ 1099511627776 ∧ d.wait.length ≤ 10000
/-! ## Parts cut short -/
def ShortL (m n : Nat) (L : List (List UInt8)) : Prop := L.length ≤ m ∧ ∀ b, b ∈ L → b.length ≤ n
theorem flat_le {n : Nat} : ∀ {L : List (List UInt8)}, (∀ b, b ∈ L → b.length ≤ n) → L.flatten.length ≤ L.length * n
  | [], _ => by simp
  | b :: r, h => by
    have h1 := h b (List.mem_cons_self ..)
    have h2 := flat_le (L := r) fun c hc => h c (List.mem_cons_of_mem _ hc)
    rw [List.flatten_cons, List.length_append, List.length_cons, Nat.succ_mul]
    omega
theorem ShortL.flat {m n : Nat} {L : List (List UInt8)} (h : ShortL m n L) : L.flatten.length ≤ m * n := Nat.le_trans (flat_le h.2) (Nat.mul_le_mul_right n h.1)
theorem ShortL.take {m n : Nat} {L : List (List UInt8)} (h : ShortL m n L) (i : Nat) : ShortL m n (L.take i) := ⟨by have := h.1; rw [List.length_take]; omega, fun b hb => h.2 b (List.mem_of_mem_take hb)⟩
def encKs (s : List UInt8) : List Value := [.string (bs s)]
/-! ## The example -/
def kd0 : DiskD := ⟨9, [], [], none, false⟩
def kd1 : DiskD := ⟨9, [], [.app [97] [120, 121, 122]], none, false⟩
def kd2 : DiskD := ⟨9, [([97], [120, 121, 122])], [], none, false⟩
def kd3 : DiskD := ⟨9, [([97], [120, 121, 122])], [.app [97] [49, 50]], none, false⟩
def kd4 : DiskD := ⟨9, [([97], [120, 121, 122])], [.app [97] [49, 50], .del [97]], none, false⟩
def kd5 : DiskD := ⟨9, [([97], [120, 121, 122, 49, 50])], [], none, false⟩
def kd6 : DiskD := ⟨9, [([97], [120, 121, 122, 49])], [], none, false⟩
def kd7 : DiskD := ⟨9, [([97], [120, 121, 122, 49])], [], some 1, false⟩
def kd8 : DiskD := ⟨9, [([97], [120, 121, 122, 49])], [.app [98] [49]], some 0, false⟩
def kd9 : DiskD := ⟨9, [([97], [120, 121, 122, 49])], [.app [98] [49]], some 0, true⟩
theorem kn1 : appendD kd0 [97] [120, 121, 122] = (kd1, 0) := by kernel_rfl
theorem kn2 : syncD kd1 = (kd2, 0) := by kernel_rfl
theorem kn3 : appendD kd2 [97] [49, 50] = (kd3, 0) := by kernel_rfl
theorem kn4 : delD kd3 [97] = (kd4, 0) := by kernel_rfl
theorem kn5 : crashD kd4 1 0 = kd5 := by kernel_rfl
theorem kn5k : keepD kd4 1 = 1 := by kernel_rfl
theorem kn6 : crashD kd4 0 1 = kd6 := by kernel_rfl
theorem kn6k : keepD kd4 0 = 0 := by kernel_rfl
theorem kn7 : fuseD kd6 1 = kd7 := by kernel_rfl
theorem kn8 : appendD kd7 [98] [49] = (kd8, 0) := by kernel_rfl
theorem kn9 : appendD kd8 [98] [50] = (kd9, 3) := by kernel_rfl
theorem kr5 : readD kd5 [97] = some [120, 121, 122, 49, 50] := by kernel_rfl
theorem kr6 : readD kd6 [97] = some [120, 121, 122, 49] := by kernel_rfl
theorem kr5s : (readD kd5 [97]).isSome = true := by rw [kr5]; rfl
theorem kr5b : (readD kd5 [97]).getD [] = [120, 121, 122, 49, 50] := by rw [kr5]; rfl
theorem kr6s : (readD kd6 [97]).isSome = true := by rw [kr6]; rfl
theorem kr6b : (readD kd6 [97]).getD [] = [120, 121, 122, 49] := by rw [kr6]; rfl
theorem kfit0 : kd0.fit := ⟨by decide, by decide⟩
theorem kfit1 : kd1.fit := ⟨by decide, by decide⟩
theorem kfit2 : kd2.fit := ⟨by decide, by decide⟩
theorem kfit3 : kd3.fit := ⟨by decide, by decide⟩
theorem kfit4 : kd4.fit := ⟨by decide, by decide⟩
theorem kfit5 : kd5.fit := ⟨by decide, by decide⟩
theorem kfit6 : kd6.fit := ⟨by decide, by decide⟩
theorem kfit7 : kd7.fit := ⟨by decide, by decide⟩
theorem kfit8 : kd8.fit := ⟨by decide, by decide⟩
end Go.Proofs.Ytfiojppagmnpcaa.Sep
