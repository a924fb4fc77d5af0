/-
  Opz · Prt · DskM · TyC · Fil · CmdA · CmdB · CmdR · CmdL · CmdO · CmdP · CmdQ · CmdE · CmdF · CmdG · CmdN · CmdI · Crc · Sum · Seal · RefSum · RefText · Reader · Mk
-/
import Derived.Test.YtnknboibmifacaaAA06
import Derived.Test.YtnknboibmifacaaAA07
import Derived.Test.YtnknboibmifacaaAB01
import Derived.SizedLaws
import Derived.Test.YtnknboibmifacaaChecked
import Derived.Lib.SmallJoins
import Derived.ChangeMaps5
import Derived.Deep.QuietTactic
import Derived.BigQuiet
import Derived.Deep.RegionHeld3
set_option linter.unusedSimpArgs false
set_option linter.unusedVariables false

namespace Go.Proofs.Ytnknboibmifacaa.Sep
open Go.ChangeShapes Go.WideShapes Go.ChangeAt Go.RowKit
section
variable {H : Type} {enc : TypeId × Value → H} {P : Program}
/-- no slice or string in it is greater than memory may be -/
def SizedD (P : Program) (t : TypeId) (d : DataW H) : Prop := ∀ n ∈ d.weights P t, n ≤ reachBytes
theorem SizedD.len {t e : TypeId} {es sp : List (DataW H)} (h : SizedD P t (.slice es sp)) (hu : P.underlying t = some (.slice e)) : es.length * P.bytesOf e ≤ reachBytes := by
  have := h ((es.length + sp.length) * P.bytesOf e) (by simp [DataW.weights, hu])
  exact Nat.le_trans (Nat.mul_le_mul_right _ (Nat.le_add_right _ _)) this
theorem weights_all {e : TypeId} : ∀ {es : List (DataW H)} {j : Nat} {d : DataW H}, es[j]? = some d → ∀ n ∈ d.weights P e, n ∈ DataW.weightsAll P e es
  | [], _, _, h, _, _ => by simp at h
  | d0 :: r, 0, d, h, n, hn => by
    simp only [List.getElem?_cons_zero, Option.some.injEq] at h
    subst h
    simp only [DataW.weightsAll, List.mem_append]
    exact .inl hn
  | d0 :: r, j + 1, d, h, n, hn => by
    simp only [List.getElem?_cons_succ] at h
    simp only [DataW.weightsAll, List.mem_append]
    exact .inr (weights_all h n hn)
theorem SizedD.elem {t e : TypeId} {es sp : List (DataW H)} (h : SizedD P t (.slice es sp)) (hu : P.underlying t = some (.slice e)) {j : Nat} {d : DataW H} (hd : es[j]? = some d) : SizedD P e d := fun n hn => by
  refine h n ?_
  have := weights_all (P := P) hd n hn
  simp [DataW.weights, hu, this]
end
end Go.Proofs.Ytnknboibmifacaa.Sep

namespace Go.Proofs.Ytnknboibmifacaa.Sep
open Go.RowKit
open Go.Proofs.Ytnknboibmifacaa.Mem (Dist Blk Chg below0)

/-- a value of one cell, as itself -/
def encW (v : Value) : List Value := [if v.oneCell' = true then v else .nilIface]
/-- a slice, and its bytes -/
abbrev PtT := Value × List UInt8
def PartsT (te : TypeId) (v : Value) (l : List PtT) : Ass := star [Vec te 1 encW v (l.map (·.1)), Each (fun x : PtT => Vec 5 1 encB x.1 x.2) l]
section
variable {P : Program} {te t : TypeId} {v u : Value} {l : List PtT} {d : List UInt8} {w w0 : World} {rs : List RowT} {B : Nat → Prop} {os : List Ass} {Q : Exit → Act → World → Prop} {n : Nat} {env : List (Nat × Value)} {o : Oper} {act : Act}
theorem PartsT.at_ (h : PartsT te v l rs) (hr : RowsOf w rs) {j : Nat} (hj : l[j]? = some (u, d)) : ∃ ys, Vec 5 1 encB u d ys ∧ RowsOf w ys := by
  obtain ⟨a, b, e, h1, h2⟩ := h
  subst e
  exact (Parts.one' h2).at_ (f := fun x : PtT => Vec 5 1 encB x.1 x.2) (x := ((u, d) : PtT)) (rows_iff.2 fun z hz => rows_iff.1 hr z (by simp [hz])) hj
end

/-! ## Such as came in -/
structure PtV where
  A : Option Addr
  c : Nat
  d : List UInt8
def PtV.v (x : PtV) : Value := .slice x.A x.d.length x.c
def encPt (x : PtV) : List Value := [x.v]
instance : Inhabited PtV := ⟨⟨none, 0, []⟩⟩
def PtsRd (w : World) (v : Value) (l : List PtV) : Prop := SlRd w 1 v l.length (flat encPt l) ∧ ∀ x, x ∈ l → Sl8 w x.v x.d
section
variable {u w w0 : World} {v : Value} {l : List PtV} {B : Nat → Prop} {os : List Ass}
theorem PtsRd.below (h : PtsRd u v l) (hb : Below u.heap.size u w) : PtsRd w v l := ⟨h.1.below hb, fun x hx => (h.2 x hx).below hb⟩
end
theorem subTake {A : Option Addr} {n c j : Nat} : subv 1 (.slice A n c) 0 j = .slice A j c := by
  have e : A.map (·.add 0) = A := by
    cases A with
    | none => rfl
    | some a =>
      have : a.add 0 = a := by obtain ⟨b, o, q⟩ := a; cases q <;> simp [Addr.add]
      simp [this]
  simp [subv, e]
/-! ## A list of parts, and its value -/
end Go.Proofs.Ytnknboibmifacaa.Sep

namespace Go.Proofs.Ytnknboibmifacaa.Sep

/-! ## Files -/
abbrev FS := List (List UInt8 × List UInt8)
/-- what may be pending -/
inductive OpD where
  | app (n b : List UInt8)
  | cut (n : List UInt8) (size : Nat)
  | ren (a b : List UInt8)
  | del (n : List UInt8)
def doneF (f : FS) : OpD → FS
  | .app n b => putM f n ((getM f n).getD [] ++ b)
  | .cut n s => match getM f n with | some x => putM f n (x.take s) | none => f
  | .ren a b => match getM f a with | some x => putM (delM f a) b x | none => f
  | .del n => delM f n
def usedF (f : FS) : Nat := (f.map fun p => p.2.length).sum
theorem nodup_done {f : FS} (h : (keysM f).Nodup) (o : OpD) : (keysM (doneF f o)).Nodup := by
  cases o with
  | app n b => exact nodup_put h
  | cut n s =>
    show (keysM (match getM f n with | some x => putM f n (x.take s) | none => f)).Nodup
    split
    · exact nodup_put h
    · exact h
  | ren a b =>
    show (keysM (match getM f a with | some x => putM (delM f a) b x | none => f)).Nodup
    split
    · exact nodup_put (nodup_del h)
    · exact h
  | del n => exact nodup_del h
theorem nodup_all : ∀ (l : List OpD) {f : FS}, (keysM f).Nodup → (keysM (l.foldl doneF f)).Nodup
  | [], _, h => h
  | o :: r, _, h => nodup_all r (nodup_done h o)
theorem nodup_of_keys {f : FS} (h : (keysM f).Nodup) : f.Nodup := (List.Pairwise.of_map (fun p : List UInt8 × List UInt8 => p.1) (fun a b (hab : a.1 ≠ b.1) e => hab (by rw [e])) h)
/-- the order in which files lie is nobody's business -/
theorem perm_of_mem {f g : FS} (hf : (keysM f).Nodup) (hg : (keysM g).Nodup) (h : ∀ p, p ∈ f ↔ p ∈ g) : f.Perm g :=
  (List.perm_ext_iff_of_nodup (nodup_of_keys hf) (nodup_of_keys hg)).2 h
theorem keys_perm' {f g : FS} (h : f.Perm g) : (keysM f).Perm (keysM g) := h.map _
theorem perm_get {f g : FS} (h : f.Perm g) (hf : (keysM f).Nodup) (k : List UInt8) : getM f k = getM g k := by
  have hg : (keysM g).Nodup := (keys_perm' h).nodup_iff.1 hf
  cases e : getM g k with
  | none => rw [getM_none] at e ⊢; exact fun hm => e ((keys_perm' h).mem_iff.1 hm)
  | some x => exact (getM_some hf).2 (h.mem_iff.2 ((getM_some hg).1 e))
theorem perm_put {f g : FS} (h : f.Perm g) (hf : (keysM f).Nodup) (k x : List UInt8) : (putM f k x).Perm (putM g k x) := by
  have hg : (keysM g).Nodup := (keys_perm' h).nodup_iff.1 hf
  refine perm_of_mem (nodup_put hf) (nodup_put hg) fun p => ?_
  rw [mem_put hf, mem_put hg, h.mem_iff]
theorem perm_del {f g : FS} (h : f.Perm g) (hf : (keysM f).Nodup) (k : List UInt8) : (delM f k).Perm (delM g k) := by
  have hg : (keysM g).Nodup := (keys_perm' h).nodup_iff.1 hf
  refine perm_of_mem (nodup_del hf) (nodup_del hg) fun p => ?_
  rw [mem_del hf, mem_del hg, h.mem_iff]
theorem perm_done {f g : FS} (h : f.Perm g) (hf : (keysM f).Nodup) (o : OpD) : (doneF f o).Perm (doneF g o) := by
  cases o with
  | app n b =>
    show (putM f n _).Perm (putM g n _)
    rw [perm_get h hf]; exact perm_put h hf _ _
  | cut n s =>
    show List.Perm (match getM f n with | some x => putM f n (x.take s) | none => f) (match getM g n with | some x => putM g n (x.take s) | none => g)
    rw [perm_get h hf]
    split
    · exact perm_put h hf _ _
    · exact h
  | ren a b =>
    show List.Perm (match getM f a with | some x => putM (delM f a) b x | none => f) (match getM g a with | some x => putM (delM g a) b x | none => g)
    rw [perm_get h hf]
    split
    · exact perm_put (perm_del h hf _) (nodup_del hf) _ _
    · exact h
  | del n => exact perm_del h hf _
theorem perm_used {f g : FS} (h : f.Perm g) : usedF f = usedF g := (h.map _).sum_nat
theorem used_cons (p : List UInt8 × List UInt8) (f : FS) : usedF (p :: f) = p.2.length + usedF f := by simp [usedF]
theorem used_app (f g : FS) : usedF (f ++ g) = usedF f + usedF g := by simp [usedF]
theorem perm_split {f : FS} {k x : List UInt8} (hf : (keysM f).Nodup) (h : getM f k = some x) : f.Perm ((k, x) :: delM f k) := by
  have hm := (getM_some hf).1 h
  have hd := nodup_del (k := k) hf
  have hn : (keysM ((k, x) :: delM f k)).Nodup := List.nodup_cons.2 ⟨fun hm => by
    obtain ⟨p, hp, e⟩ := List.mem_map.1 hm
    exact ((mem_del hf p).1 hp).2 e, hd⟩
  refine perm_of_mem hf hn fun p => ?_
  rw [List.mem_cons, mem_del hf]
  constructor
  · intro hp
    by_cases e : p.1 = k
    · left
      have := (getM_some (x := p.2) hf).2 (show (k, p.2) ∈ f by rw [← e]; exact hp)
      rw [h] at this
      exact Prod.ext e (Option.some.inj this).symm
    · exact .inr ⟨hp, e⟩
  · rintro (rfl | ⟨hp, _⟩)
    · exact hm
    · exact hp
theorem used_del {f : FS} {k x : List UInt8} (hf : (keysM f).Nodup) (h : getM f k = some x) : usedF (delM f k) + x.length = usedF f := by
  rw [perm_used (perm_split hf h), used_cons]; simp only; omega
theorem del_none {f : FS} {k : List UInt8} (h : getM f k = none) : delM f k = f := by
  unfold delM
  unfold getM at h
  rw [Option.map_eq_none_iff.1 h]
theorem used_put_new {f : FS} {k x : List UInt8} (h : getM f k = none) : usedF (putM f k x) = usedF f + x.length := by
  rw [keys_put_new h, used_app]; simp [usedF]
theorem used_put_old {f : FS} {k x y : List UInt8} (hf : (keysM f).Nodup) (h : getM f k = some y) : usedF (putM f k x) + y.length = usedF f + x.length := by
  have hp := nodup_put (k := k) (x := x) hf
  have h1 : getM (putM f k x) k = some x := by rw [getM_put hf, if_pos rfl]
  have h2 := used_del hp h1
  have h3 := used_del hf h
  have h4 : (delM (putM f k x) k).Perm (delM f k) := perm_of_mem (nodup_del hp) (nodup_del hf) fun p => by
    rw [mem_del hp, mem_put hf, mem_del hf]
    constructor
    · rintro ⟨rfl | h, h'⟩
      · exact absurd rfl h'
      · exact h
    · rintro ⟨h, h'⟩
      exact ⟨.inr ⟨h, h'⟩, h'⟩
  rw [perm_used h4] at h2
  omega
theorem used_append {f : FS} (hf : (keysM f).Nodup) (n b : List UInt8) : usedF (doneF f (.app n b)) = usedF f + b.length := by
  show usedF (putM f n _) = _
  cases h : getM f n with
  | none => rw [used_put_new h]; simp
  | some y =>
    have := used_put_old (x := y ++ b) hf h
    rw [List.length_append] at this
    simp only [Option.getD_some]
    omega

/-! ## A disk -/
structure DiskD where
  room : Int
  syn : FS
  wait : List OpD
  fuse : Option Nat
  down : Bool
def DiskD.now (d : DiskD) : FS := d.wait.foldl doneF d.syn
/-- what each operation does first -/
def beginD (d : DiskD) : DiskD × Nat :=
  if d.down = true ∨ d.fuse = some 0 then ({ d with down := true }, 3) else ({ d with fuse := d.fuse.map (· - 1) }, 0)
def nameB (n : List UInt8) : Bool := decide (1 ≤ n.length) && decide (n.length ≤ 16)
def doesD (d : DiskD) (o : OpD) : DiskD := { d with wait := d.wait ++ [o] }
theorem now_does (d : DiskD) (o : OpD) : (doesD d o).now = doneF d.now o := by
  show (d.wait ++ [o]).foldl doneF d.syn = _
  rw [List.foldl_append]; rfl
def fitsD (d : DiskD) (n b : List UInt8) : Bool := decide ((usedF d.now : Int) + (b.length : Int) ≤ d.room) && !((getM d.now n).isNone && decide (64 ≤ d.now.length))
def appendD (d : DiskD) (n b : List UInt8) : DiskD × Nat :=
  match beginD d with
  | (d1, e) => if e ≠ 0 then (d1, e) else if nameB n = false then (d1, 1) else if fitsD d1 n b = false then (d1, 2) else (doesD d1 (.app n b), 0)
def cutD (d : DiskD) (n : List UInt8) (s : Int) : DiskD × Nat :=
  match beginD d with
  | (d1, e) => if e ≠ 0 then (d1, e) else match getM d1.now n with
    | none => (d1, 4)
    | some x => if s < 0 ∨ (x.length : Int) < s then (d1, 1) else (doesD d1 (.cut n s.toNat), 0)
def renD (d : DiskD) (a b : List UInt8) : DiskD × Nat :=
  match beginD d with
  | (d1, e) => if e ≠ 0 then (d1, e) else if nameB b = false then (d1, 1) else match getM d1.now a with
    | none => (d1, 4)
    | some _ => (doesD d1 (.ren a b), 0)
def delD (d : DiskD) (n : List UInt8) : DiskD × Nat :=
  match beginD d with
  | (d1, e) => if e ≠ 0 then (d1, e) else match getM d1.now n with
    | none => (d1, 4)
    | some _ => (doesD d1 (.del n), 0)
def syncD (d : DiskD) : DiskD × Nat :=
  match beginD d with
  | (d1, e) => if e ≠ 0 then (d1, e) else ({ d1 with syn := d1.now, wait := [] }, 0)
def readD (d : DiskD) (n : List UInt8) : Option (List UInt8) := if d.down = true then none else getM d.now n
/-- how many of what is pending a crash keeps -/
def keepD (d : DiskD) (keep : Int) : Nat := (keep % ((d.wait.length : Int) + 1)).toNat
/-- the files behind a crash -/
def leftF (d : DiskD) (keep torn : Int) : FS :=
  match d.wait[keepD d keep]? with
  | some (.app n b) => if (torn % (b.length : Int)).toNat = 0 ∨ b = [] then (d.wait.take (keepD d keep)).foldl doneF d.syn else doneF ((d.wait.take (keepD d keep)).foldl doneF d.syn) (.app n (b.take (torn % (b.length : Int)).toNat))
  | _ => (d.wait.take (keepD d keep)).foldl doneF d.syn
def crashD (d : DiskD) (keep torn : Int) : DiskD := ⟨d.room, leftF d keep torn, [], none, false⟩
def newD (room : Int) : DiskD := ⟨room, [], [], none, false⟩
theorem keepD_le (d : DiskD) (keep : Int) : keepD d keep ≤ d.wait.length := by
  unfold keepD
  have h1 := Int.emod_nonneg keep (show ((d.wait.length : Int) + 1) ≠ 0 by omega)
  have h2 := Int.emod_lt_of_pos keep (show 0 < (d.wait.length : Int) + 1 by omega)
  omega

/-! ## One file that is appended to -/
end Go.Proofs.Ytnknboibmifacaa.Sep

namespace Go.Proofs.Ytnknboibmifacaa.Sep
open Go.RowKit
open Go.Proofs.Ytnknboibmifacaa.Mem (Dist Blk Chg below0)
theorem ty_s_disk_operation : OneOf Try.prog 46 := oneOf Try.underlying46 rfl (by kernel_rfl)
theorem ty_s_uint8 : OneOf Try.prog 50 := oneOf Try.underlying50 rfl (by kernel_rfl)
theorem ze_s_uint8 : Zero Try.prog 50 #[.slice none 0 0] := zero_of (z := .slice none 0 0) (by kernel_rfl) rfl
theorem ty_api_Errno : OneOf Try.prog 23 := oneOf Try.underlying23 rfl (by kernel_rfl)
theorem ty_bool : OneOf Try.prog 4 := oneOf Try.underlying4 rfl (by kernel_rfl)
theorem ty_disk_files : OneOf Try.prog 45 := oneOf Try.underlying45 rfl (by kernel_rfl)
theorem ty_disk_kind : OneOf Try.prog 62 := oneOf Try.underlying62 rfl (by kernel_rfl)
theorem ty_disk_operation : AggOf Try.prog 64 5 := aggOf Try.underlying64 rfl (by kernel_rfl)
theorem ze_disk_operation : Zero Try.prog 64 #[.int .i64 0, .string { data := #[] }, .slice none 0 0, .int .i64 0, .string { data := #[] }] := zero_of (z := .agg #[.int .i64 0, .string { data := #[] }, .slice none 0 0, .int .i64 0, .string { data := #[] }]) (by kernel_rfl) rfl
theorem ty_func_s_uint8_bool : OneOf Try.prog 85 := oneOf Try.underlying85 rfl (by kernel_rfl)
theorem ty_int : OneOf Try.prog 3 := oneOf Try.underlying3 rfl (by kernel_rfl)
theorem ze_int : Zero Try.prog 3 #[.int .i64 0] := zero_of (z := .int .i64 0) (by kernel_rfl) rfl
theorem ty_string : OneOf Try.prog 9 := oneOf Try.underlying9 rfl (by kernel_rfl)
theorem ty_uint64 : OneOf Try.prog 26 := oneOf Try.underlying26 rfl (by kernel_rfl)
theorem ty_uint8 : OneOf Try.prog 5 := oneOf Try.underlying5 rfl (by kernel_rfl)
theorem fd_disk_Disk_0 : FieldAt Try.prog 48 0 0 := fun g off w => by kernel_rfl
theorem fd_disk_Disk_1 : FieldAt Try.prog 48 1 1 := fun g off w => by kernel_rfl
theorem fd_disk_Disk_2 : FieldAt Try.prog 48 2 2 := fun g off w => by kernel_rfl
theorem fd_disk_Disk_3 : FieldAt Try.prog 48 3 3 := fun g off w => by kernel_rfl
theorem fd_disk_Disk_4 : FieldAt Try.prog 48 4 4 := fun g off w => by kernel_rfl
theorem fd_disk_Disk_5 : FieldAt Try.prog 48 5 5 := fun g off w => by kernel_rfl
theorem fd_disk_operation_0 : FieldAt Try.prog 64 0 0 := fun g off w => by kernel_rfl
theorem fd_disk_operation_1 : FieldAt Try.prog 64 1 1 := fun g off w => by kernel_rfl
theorem fd_disk_operation_2 : FieldAt Try.prog 64 2 2 := fun g off w => by kernel_rfl
theorem fd_disk_operation_3 : FieldAt Try.prog 64 3 3 := fun g off w => by kernel_rfl
theorem fd_disk_operation_4 : FieldAt Try.prog 64 4 4 := fun g off w => by kernel_rfl
theorem fd_pack_Reader_0 : FieldAt Try.prog 95 0 0 := fun g off w => by kernel_rfl
theorem fd_pack_Reader_1 : FieldAt Try.prog 95 1 1 := fun g off w => by kernel_rfl
theorem sl_disk_operation : SliceT Try.prog 46 64 5 := sliceT_of (z := .agg #[.int .i64 0, .string { data := #[] }, .slice none 0 0, .int .i64 0, .string { data := #[] }]) Try.underlying46 (by kernel_rfl) rfl rfl (by decide)
theorem sl_uint8 : SliceT Try.prog 50 5 1 := sliceT_of (z := .int .u8 0) Try.underlying50 (by kernel_rfl) rfl rfl (by decide)
def flS : List ((Nat × Nat) × Nat) := [((48, 0), 0), ((48, 1), 1), ((48, 2), 2), ((48, 3), 3), ((48, 4), 4), ((48, 5), 5), ((64, 0), 0), ((64, 1), 1), ((64, 2), 2), ((64, 3), 3), ((64, 4), 4), ((95, 0), 0), ((95, 1), 1)]
theorem hflS : Flds Try.prog flS := flds_of ⟨fd_disk_Disk_0, fd_disk_Disk_1, fd_disk_Disk_2, fd_disk_Disk_3, fd_disk_Disk_4, fd_disk_Disk_5, fd_disk_operation_0, fd_disk_operation_1, fd_disk_operation_2, fd_disk_operation_3, fd_disk_operation_4, fd_pack_Reader_0, fd_pack_Reader_1, trivial⟩

end Go.Proofs.Ytnknboibmifacaa.Sep

namespace Go.Proofs.Ytnknboibmifacaa.Sep
open Go.RowKit
open Go.Proofs.Ytnknboibmifacaa.Mem (Dist Blk Chg below0)

def encKey (s : List UInt8) : Value := .string (bs s)
def encFil (x : PtT) : Value := x.1
abbrev FilL := List (List UInt8 × PtT)
theorem mapTyF : MapTy Try.prog 45 9 50 .string encKey (.slice none 0 0) := mapTy_str Try.underlying45 Try.underlying9 (fun w => by kernel_rfl)
/-- the bytes behind the slices of a list of files -/
def FilE (L : FilL) : Ass := Each (fun p : List UInt8 × PtT => Vec 5 1 encB p.2.1 p.2.2) L
/-- the files of a list -/
def fsL (L : FilL) : FS := L.map fun p => (p.1, p.2.2)
theorem keys_fsL (L : FilL) : keysM (fsL L) = keysM L := by simp [keysM, fsL]
theorem rd8_fil {L : FilL} {p : List UInt8 × PtT} (h : p ∈ L) : Rd8 (FilE L) p.2.1 p.2.2 := fun rs w h1 h2 => by
  obtain ⟨j, hj⟩ := List.getElem?_of_mem h
  obtain ⟨ys, h3, h4⟩ := Each.at_ h1 h2 hj
  exact vec_sl8 h3 h4
theorem fnd_map {α β γ : Type} [DecidableEq α] (g : β → γ) (k : α) : ∀ (L : List (α × β)) (i : Nat), fnd k (L.map fun p => (p.1, g p.2)) i = (fnd k L i).map fun q => (q.1, g q.2)
  | [], i => rfl
  | p :: L, i => by
    simp only [List.map_cons, fnd]
    split
    · rfl
    · exact fnd_map g k L (i + 1)
theorem getM_map {α β γ : Type} [DecidableEq α] (g : β → γ) (k : α) (L : List (α × β)) : getM (L.map fun p => (p.1, g p.2)) k = (getM L k).map g := by
  unfold getM
  rw [fnd_map, Option.map_map, Option.map_map]; rfl
theorem putM_map {α β γ : Type} [DecidableEq α] (g : β → γ) (k : α) (x : β) (L : List (α × β)) : putM (L.map fun p => (p.1, g p.2)) k (g x) = (putM L k x).map fun p => (p.1, g p.2) := by
  unfold putM
  rw [fnd_map]
  cases fnd k L 0 with
  | none => simp
  | some q => simp [List.map_set]
theorem delM_map {α β γ : Type} [DecidableEq α] (g : β → γ) (k : α) (L : List (α × β)) : delM (L.map fun p => (p.1, g p.2)) k = (delM L k).map fun p => (p.1, g p.2) := by
  unfold delM
  rw [fnd_map]
  cases fnd k L 0 with
  | none => rfl
  | some q => simp [List.eraseIdx_eq_take_drop_succ, List.map_take, List.map_drop]
theorem getM_fsL (L : FilL) (k : List UInt8) : getM (fsL L) k = (getM L k).map (·.2) := getM_map (fun x : PtT => x.2) k L
theorem putM_fsL (L : FilL) (k : List UInt8) (x : PtT) : putM (fsL L) k x.2 = fsL (putM L k x) := putM_map (fun x : PtT => x.2) k x L
theorem delM_fsL (L : FilL) (k : List UInt8) : delM (fsL L) k = fsL (delM L k) := delM_map (fun x : PtT => x.2) k L
/-! ## The map and the bytes as one thing -/
def FilesT (v : Value) (f : FS) : Ass := fun rs => ∃ L : FilL, f = fsL L ∧ Parts [MapT encKey encFil v L, FilE L] rs
theorem files_open {v : Value} {f : FS} : ∀ rs, FilesT v f rs → ∃ x : { L : FilL // f = fsL L }, Parts [MapT encKey encFil v x.1, FilE x.1] rs := fun _ ⟨L, h, h'⟩ => ⟨⟨L, h⟩, h'⟩
/-- a file's entry: what lies ahead of it, its bytes, what lies behind -/
theorem fnd_at0 {L : FilL} {k : List UInt8} {q : Nat × PtT} (h : fnd k L 0 = some q) : L[q.1]? = some (k, q.2) := (fnd_some h).2
theorem fil_open {L : FilL} {k : List UInt8} {q : Nat × PtT} (h : fnd k L 0 = some q) : ∀ rs, FilE L rs → ∃ _ : Unit, Parts [FilE (L.take q.1), Vec 5 1 encB q.2.1 q.2.2, FilE (L.drop (q.1 + 1))] rs := each_open (fnd_at0 h)
theorem fil_put {L : FilL} {k : List UInt8} {q : Nat × PtT} (h : fnd k L 0 = some q) (y : PtT) : ∀ rs, Parts [FilE (L.take q.1), Vec 5 1 encB y.1 y.2, FilE (L.drop (q.1 + 1))] rs → FilE (putM L k y) rs := fun rs hr => by
  have h1 := each_back (f := fun p : List UInt8 × PtT => Vec 5 1 encB p.2.1 p.2.2) (y := (k, y)) rs hr
  rw [each_set (y := (k, y)) (List.getElem?_eq_some_iff.1 (fnd_at0 h)).1] at h1
  unfold FilE putM
  rw [h]
  exact h1
theorem fil_new {L : FilL} {k : List UInt8} (h : fnd k L 0 = none) (y : PtT) : ∀ rs, Parts [FilE L, Vec 5 1 encB y.1 y.2] rs → FilE (putM L k y) rs := fun rs hr => by
  have h1 := each_close (f := fun p : List UInt8 × PtT => Vec 5 1 encB p.2.1 p.2.2) (x := (k, y)) rs hr
  unfold FilE putM
  rw [h]
  exact h1
theorem erase_less {α : Type} {l : List α} {j : Nat} {x : α} (h : l[j]? = some x) : (l.eraseIdx j).length < l.length := by
  have := (List.getElem?_eq_some_iff.1 h).1
  rw [List.length_eraseIdx, if_pos this]; omega
theorem used_erase {l : FilL} {j : Nat} {p : List UInt8 × PtT} (h : l[j]? = some p) : usedF (fsL (l.eraseIdx j)) + p.2.2.length = usedF (fsL l) := by
  have hlt := (List.getElem?_eq_some_iff.1 h).1
  have hx := (List.getElem?_eq_some_iff.1 h).2
  have h1 : l = l.take j ++ p :: l.drop (j + 1) := by rw [← hx]; simp
  have h2 : l.eraseIdx j = l.take j ++ l.drop (j + 1) := List.eraseIdx_eq_take_drop_succ ..
  have e1 : fsL l = fsL (l.take j) ++ (p.1, p.2.2) :: fsL (l.drop (j + 1)) := by
    have := congrArg fsL h1
    rw [this]; simp [fsL]
  have e2 : fsL (l.eraseIdx j) = fsL (l.take j) ++ fsL (l.drop (j + 1)) := by rw [h2]; simp [fsL]
  rw [e1, e2, used_app, used_app, used_cons]
  show _ + p.2.2.length = _ + (p.2.2.length + _)
  omega
end Go.Proofs.Ytnknboibmifacaa.Sep

namespace Go.Proofs.Ytnknboibmifacaa.Sep
open Go.RowKit
open Go.Proofs.Ytnknboibmifacaa.Mem (Dist Blk Chg below0)

end Go.Proofs.Ytnknboibmifacaa.Sep

namespace Go.Proofs.Ytnknboibmifacaa.Sep
open Go.RowKit
open Go.Proofs.Ytnknboibmifacaa.Mem (Dist Blk Chg below0)

end Go.Proofs.Ytnknboibmifacaa.Sep

namespace Go.Proofs.Ytnknboibmifacaa.Sep
open Go.RowKit
open Go.Proofs.Ytnknboibmifacaa.Mem (Dist Blk Chg below0)

theorem rbyte_stop {most f : Nat} {l : List UInt8} (h : f ≠ 0) : rbyte most l f = (0, l, f) := rbyte_stuck h
theorem rbyte_nil {most f : Nat} {l : List UInt8} (hf : f = 0) (h : l.length = 0) : rbyte most l f = (0, l, 10) := by
  subst hf
  rw [List.eq_nil_of_length_eq_zero h]; rfl
theorem rbyte_big {most f : Nat} {l : List UInt8} {x : UInt8} (hf : f = 0) (hx : l[0]? = some x) (h : most < x.toNat) : rbyte most l f = (0, l, 12) := by
  subst hf
  cases l with
  | nil => simp at hx
  | cons b r =>
    simp only [List.getElem?_cons_zero, Option.some.injEq] at hx
    subst hx
    simp only [rbyte]
    rw [if_neg (by simp), if_pos h]
theorem rbyte_fine {most f : Nat} {l : List UInt8} {x : UInt8} (hf : f = 0) (hx : l[0]? = some x) (h : ¬ most < x.toNat) : rbyte most l f = (x.toNat, l.drop 1, f) := by
  subst hf
  cases l with
  | nil => simp at hx
  | cons b r =>
    simp only [List.getElem?_cons_zero, Option.some.injEq] at hx
    subst hx
    simp only [rbyte]
    rw [if_neg (by simp), if_neg h]; rfl
theorem vnum_sz (most : Nat) (l : List UInt8) : (vnum most l 0 0).2.1 ≤ l.length := by
  rcases vnum_ends most l 0 0 (by omega) (by decide) with h | h <;> omega
theorem byteR (most : Nat) (l : List UInt8) (f : Nat) : ∃ (x : UInt8) (l1 : List UInt8) (f1 : Nat), rbyte most l f = (x.toNat, l1, f1) := by
  have h := rbyte_lt most l f
  obtain ⟨⟨n, l1, f1⟩, e⟩ : ∃ R, rbyte most l f = R := ⟨_, rfl⟩
  rw [e] at h
  exact ⟨UInt8.ofNat n, l1, f1, by rw [e, byte_of n h]⟩
section
variable {P : Program} {n : Nat} {B : Nat → Prop} {w0 w : World} {os : List Ass} {env : List (Nat × Value)} {o : Oper} {a : Act}
end

set_option maxRecDepth 100000 in
theorem rd_new (u : World) (v : Value) (l : List UInt8) (hv : Sl8 u v l) (hl : l.length ≤ 140737488355328) : DoesU u Try.prog 46 #[v] [] (fun (g : Nat) => .pointer (some ⟨g, 0, none⟩)) (fun (g : Nat) => [RdT g l 0]) := by
  refine d_insU (args := [v]) 7 Try.func46 rfl rfl rfl ?_; intro w rs hU hS
  refine d_reg ?_
  refine h_q hflS rfl ?_
  refine h_done (d_reg ?_)
  refine h_q hflS rfl ?_
  refine h_act (post := fun v2 => [Vec 5 1 encB v2 l]) rfl (a_doesU hU hS (os' := fun v2 => [Vec 5 1 encB v2 l]) [] 0 (ent_of Try.func29 (by kernel_rfl) rfl) (clone8U u hv hl) rfl rfl rfl (fun _ => rfl) rfl rfl rfl) ?_; rintro v2
  refine WL2.fact 0 rfl (fun _ h => Vec.is h) ?_; rintro ⟨A, c, rfl⟩
  refine h_val rfl (.agg #[.slice A l.length c, .int .i64 0]) (fun b w hb hH => exec_build rfl rfl (by kernel_rfl) hb) ?_
  refine h_act (post := fun g1 => [cell g1 95 #[.slice A l.length c, .int .i64 0], Vec 5 1 encB (.slice A l.length c) l]) rfl (a_box (cs := #[.slice A l.length c, .int .i64 0]) rfl rfl rfl) ?_; rintro g1
  refine h_q hflS rfl ?_
  refine h_done (d_ret ?_)
  exact f_fin1 (.tmp rfl) (fun w h => tells g1 rfl [0, 1] rfl h (fun z hz => ⟨z, .refl _, Parts.one (RdT.mk_ rfl rd8_vec hl z hz)⟩)) rfl

set_option maxRecDepth 100000 in
theorem rd_byte (g : Nat) (l : List UInt8) (f most : Nat) (hm : most < 256) (R : Nat × List UInt8 × Nat) (h : rbyte most l f = R) : Does Try.prog 48 #[.pointer (some ⟨g, 0, none⟩), .int .u8 (most : Int)] [RdT g l f] (fun (_ : Unit) => .int .u8 (R.1 : Int)) (fun (_ : Unit) => [RdT g R.2.1 R.2.2]) := by
  refine d_ins (args := [.pointer (some ⟨g, 0, none⟩), .int .u8 (most : Int)]) 41 Try.func48 rfl rfl rfl ?_; intro w rs
  refine d_open 0 rfl RdT.open_ (fun _ => rfl) ?_; rintro ⟨⟨X, A, c⟩, hR, hL⟩
  refine WC2.keep (env' := [(0, .pointer (some ⟨g, 0, none⟩)), (1, .int .u8 (most : Int))]) ⟨rfl, rfl, trivial⟩ ?_
  refine WC2.mid [cell g 95 #[.slice A l.length c, .int .i64 (f : Int)], X] (.refl _) ?_
  refine d_reg ?_
  refine h_q hflS rfl ?_
  refine h_done (d_seq ?_)
  by_cases hf : f = 0
  · skip
    refine d_reg ?_
    refine h_q hflS rfl ?_
    refine h_val rfl (.pointer (some ⟨g, 0, none⟩)) (fun b w hb hH => by exact exec_nilCheck rfl rfl hb) ?_
    refine h_q hflS rfl ?_
    refine h_val rfl (.int .i64 (f : Int)) (fun b w hb hH => exec_load rfl rfl (reads_one ty_api_Errno rfl) (hH.row 0 rfl) hb) ?_
    refine h_val rfl (.bool false) (fun b w hb hH => exec_cmp rfl rfl rfl (cmp_neq_f (by omega)) hb) ?_
    refine h_done (d_else rfl (d_skip (f_to (d_seq ?_))))
    rcases Nat.eq_zero_or_pos l.length with h0 | h0
    · skip
      obtain rfl : R = (0, l, 10) := h.symm.trans (rbyte_nil hf h0)
      refine d_reg ?_
      refine h_q hflS rfl ?_
      refine h_val rfl (.pointer (some ⟨g, 0, none⟩)) (fun b w hb hH => by exact exec_nilCheck rfl rfl hb) ?_
      refine h_q hflS rfl ?_
      refine h_val rfl (.slice A l.length c) (fun b w hb hH => exec_load rfl rfl (reads_one ty_s_uint8 rfl) (hH.row 0 rfl) hb) ?_
      refine h_val rfl (.int .i64 (l.length : Int)) (fun b w hb hH => e_len sl_uint8 rfl rfl hH hb) ?_
      refine h_val rfl (.bool true) (fun b w hb hH => exec_cmp rfl rfl rfl (cmp_eql_t (by omega)) hb) ?_
      refine h_done (d_then rfl (d_reg ?_))
      refine h_q hflS rfl ?_
      refine h_val rfl (.pointer (some ⟨g, 0, none⟩)) (fun b w hb hH => by exact exec_nilCheck rfl rfl hb) ?_
      refine h_q hflS rfl ?_
      refine h_acts (post := fun _ => [cell g 95 #[.slice A l.length c, .int .i64 10], X]) rfl rfl (a_store 0 (v := .int .i64 10) #[.slice A l.length c, .int .i64 10] ty_api_Errno.2 rfl rfl rfl rfl rfl rfl rfl rfl rfl) ?_; rintro ⟨⟩
      refine h_done (d_reg ?_)
      refine h_q hflS rfl ?_
      refine h_done (d_ret (f_then_ret ?_))
      exact f_fin1 (.tmp rfl) (fun w h => tells () rfl [0, 1] rfl h (fun z hz => ⟨z, .refl _, Parts.one (RdT.mk_ rfl hR hL z hz)⟩)) rfl
    · skip
      obtain ⟨x, hx⟩ : ∃ x, l[0]? = some x := ⟨_, List.getElem?_eq_getElem h0⟩
      refine d_reg ?_
      refine h_q hflS rfl ?_
      refine h_val rfl (.pointer (some ⟨g, 0, none⟩)) (fun b w hb hH => by exact exec_nilCheck rfl rfl hb) ?_
      refine h_q hflS rfl ?_
      refine h_val rfl (.slice A l.length c) (fun b w hb hH => exec_load rfl rfl (reads_one ty_s_uint8 rfl) (hH.row 0 rfl) hb) ?_
      refine h_val rfl (.int .i64 (l.length : Int)) (fun b w hb hH => e_len sl_uint8 rfl rfl hH hb) ?_
      refine h_val rfl (.bool false) (fun b w hb hH => exec_cmp rfl rfl rfl (cmp_eql_f (by omega)) hb) ?_
      refine h_done (d_else rfl (d_skip (f_to (d_reg ?_))))
      refine h_q hflS rfl ?_
      refine h_val rfl (.pointer (some ⟨g, 0, none⟩)) (fun b w hb hH => by exact exec_nilCheck rfl rfl hb) ?_
      refine h_q hflS rfl ?_
      refine h_val rfl (.slice A l.length c) (fun b w hb hH => exec_load rfl rfl (reads_one ty_s_uint8 rfl) (hH.row 0 rfl) hb) ?_
      refine h_val rfl (elp' (.slice A l.length c) (0 * 1)) (fun b w hb hH => e_ridx 1 hR.rd sl_uint8 rfl 0 h0 rfl rfl rfl hH hb) ?_
      refine h_val rfl (.int .u8 ((x).toNat : Int)) (fun b w hb hH => e_rload1 1 hR.rd ty_uint8 okB rfl 0 (a := x) hx rfl rfl rfl hH hb) ?_
      refine h_q hflS rfl ?_
      refine h_done (d_seq ?_)
      by_cases hb : most < x.toNat
      · skip
        obtain rfl : R = (0, l, 12) := h.symm.trans (rbyte_big hf hx hb)
        refine d_reg ?_
        refine h_q hflS rfl ?_
        refine h_val rfl (.bool true) (fun b w hb hH => exec_cmp rfl rfl rfl (cmp_gtr_t (by omega)) hb) ?_
        refine h_done (d_then rfl (d_reg ?_))
        refine h_q hflS rfl ?_
        refine h_val rfl (.pointer (some ⟨g, 0, none⟩)) (fun b w hb hH => by exact exec_nilCheck rfl rfl hb) ?_
        refine h_q hflS rfl ?_
        refine h_acts (post := fun _ => [cell g 95 #[.slice A l.length c, .int .i64 12], X]) rfl rfl (a_store 0 (v := .int .i64 12) #[.slice A l.length c, .int .i64 12] ty_api_Errno.2 rfl rfl rfl rfl rfl rfl rfl rfl rfl) ?_; rintro ⟨⟩
        refine h_done (d_reg ?_)
        refine h_q hflS rfl ?_
        refine h_done (d_ret (f_then_ret ?_))
        exact f_fin1 (.tmp rfl) (fun w h => tells () rfl [0, 1] rfl h (fun z hz => ⟨z, .refl _, Parts.one (RdT.mk_ rfl hR hL z hz)⟩)) rfl
      · skip
        obtain ⟨A2, hA2⟩ : ∃ A2, (if c = 1 then A else A.map (·.add 1)) = A2 := ⟨_, rfl⟩
        obtain ⟨l2, hl2⟩ : ∃ l2, l.drop 1 = l2 := ⟨_, rfl⟩
        have hR2 : Rd8 X (.slice A2 l2.length (c - 1)) l2 := by rw [← hA2, ← hl2]; exact hR.drop (by omega)
        have hn2 : l2.length = l.length - 1 := by rw [← hl2, List.length_drop]
        have hL2 : l2.length ≤ 140737488355328 := by omega
        have hsub : subv 1 (.slice A l.length c) 1 l.length = .slice A2 l2.length (c - 1) := by rw [← hA2]; exact sub_drop (by omega) (by omega)
        obtain rfl : R = (x.toNat, l2, f) := by rw [← h, ← hl2]; exact rbyte_fine hf hx hb
        refine d_reg ?_
        refine h_q hflS rfl ?_
        refine h_val rfl (.bool false) (fun b w hb hH => exec_cmp rfl rfl rfl (cmp_gtr_f (by omega)) hb) ?_
        refine h_done (d_else rfl (d_skip (f_to (d_reg ?_))))
        refine h_q hflS rfl ?_
        refine h_val rfl (.pointer (some ⟨g, 0, none⟩)) (fun b w hb hH => by exact exec_nilCheck rfl rfl hb) ?_
        refine h_q hflS rfl ?_
        refine h_val rfl (.slice A l.length c) (fun b w hb hH => exec_load rfl rfl (reads_one ty_s_uint8 rfl) (hH.row 0 rfl) hb) ?_
        refine h_val rfl (.slice A2 l2.length (c - 1)) (fun b w hb hH => e_sub_lo (i := 1) sl_uint8 hsub h0 rfl rfl rfl hH hb) ?_
        refine h_val rfl (.pointer (some ⟨g, 0, none⟩)) (fun b w hb hH => by exact exec_nilCheck rfl rfl hb) ?_
        refine h_q hflS rfl ?_
        refine h_acts (post := fun _ => [cell g 95 #[.slice A2 l2.length (c - 1), .int .i64 (f : Int)], X]) rfl rfl (a_store 0 (v := .slice A2 l2.length (c - 1)) #[.slice A2 l2.length (c - 1), .int .i64 (f : Int)] ty_s_uint8.2 rfl rfl rfl rfl rfl rfl rfl rfl rfl) ?_; rintro ⟨⟩
        refine h_done (d_reg ?_)
        refine h_q hflS rfl ?_
        refine h_done (d_ret ?_)
        exact f_fin1 (.tmp rfl) (fun w h => tells () rfl [0, 1] rfl h (fun z hz => ⟨z, .refl _, Parts.one (RdT.mk_ rfl hR2 hL2 z hz)⟩)) rfl
  · skip
    obtain rfl : R = (0, l, f) := h.symm.trans (rbyte_stop hf)
    refine d_reg ?_
    refine h_q hflS rfl ?_
    refine h_val rfl (.pointer (some ⟨g, 0, none⟩)) (fun b w hb hH => by exact exec_nilCheck rfl rfl hb) ?_
    refine h_q hflS rfl ?_
    refine h_val rfl (.int .i64 (f : Int)) (fun b w hb hH => exec_load rfl rfl (reads_one ty_api_Errno rfl) (hH.row 0 rfl) hb) ?_
    refine h_val rfl (.bool true) (fun b w hb hH => exec_cmp rfl rfl rfl (cmp_neq_t (by omega)) hb) ?_
    refine h_done (d_then rfl (d_reg ?_))
    refine h_q hflS rfl ?_
    refine h_done (d_ret (f_then_ret ?_))
    exact f_fin1 (.tmp rfl) (fun w h => tells () rfl [0, 1] rfl h (fun z hz => ⟨z, .refl _, Parts.one (RdT.mk_ rfl hR hL z hz)⟩)) rfl

set_option maxRecDepth 100000 in
theorem rd_num (g : Nat) (l : List UInt8) (f most : Nat) (hm : most < 18446744073709551616) (R : Nat × List UInt8 × Nat) (h : rnum most l f = R) : Does Try.prog 47 #[.pointer (some ⟨g, 0, none⟩), .int .u64 (most : Int)] [RdT g l f] (fun (_ : Unit) => .int .u64 (R.1 : Int)) (fun (_ : Unit) => [RdT g R.2.1 R.2.2]) := by
  refine d_ins (args := [.pointer (some ⟨g, 0, none⟩), .int .u64 (most : Int)]) 37 Try.func47 rfl rfl rfl ?_; intro w rs
  refine d_open 0 rfl RdT.open_ (fun _ => rfl) ?_; rintro ⟨⟨X, A, c⟩, hR, hL⟩
  refine WC2.keep (env' := [(0, .pointer (some ⟨g, 0, none⟩)), (1, .int .u64 (most : Int))]) ⟨rfl, rfl, trivial⟩ ?_
  refine WC2.mid [cell g 95 #[.slice A l.length c, .int .i64 (f : Int)], X] (.refl _) ?_
  refine d_reg ?_
  refine h_q hflS rfl ?_
  refine h_done (d_seq ?_)
  by_cases hf : f = 0
  · skip
    have hz := vnum_sz most l
    obtain ⟨⟨n, sz, e2⟩, hv⟩ : ∃ R, vnum most l 0 0 = R := ⟨_, rfl⟩
    rw [hv] at hz
    simp only at hz
    obtain ⟨A2, hA2⟩ : ∃ A2, (if c = sz then A else A.map (·.add sz)) = A2 := ⟨_, rfl⟩
    obtain ⟨l2, hl2⟩ : ∃ l2, l.drop sz = l2 := ⟨_, rfl⟩
    have hR2 : Rd8 X (.slice A2 l2.length (c - sz)) l2 := by rw [← hA2, ← hl2]; exact hR.drop (by omega)
    have hn2 : l2.length = l.length - sz := by rw [← hl2, List.length_drop]
    have hL2 : l2.length ≤ 140737488355328 := by omega
    have hsub : subv 1 (.slice A l.length c) sz l.length = .slice A2 l2.length (c - sz) := by rw [← hA2]; exact sub_drop (by omega) (by omega)
    obtain rfl : R = (n, l2, e2) := by rw [← h, ← hl2]; unfold rnum; rw [if_neg (by simp [hf]), hv]
    refine d_reg ?_
    refine h_q hflS rfl ?_
    refine h_val rfl (.pointer (some ⟨g, 0, none⟩)) (fun b w hb hH => by exact exec_nilCheck rfl rfl hb) ?_
    refine h_q hflS rfl ?_
    refine h_val rfl (.int .i64 (f : Int)) (fun b w hb hH => exec_load rfl rfl (reads_one ty_api_Errno rfl) (hH.row 0 rfl) hb) ?_
    refine h_val rfl (.bool false) (fun b w hb hH => exec_cmp rfl rfl rfl (cmp_neq_f (by omega)) hb) ?_
    refine h_done (d_else rfl (d_skip (f_to (d_reg ?_))))
    refine h_q hflS rfl ?_
    refine h_val rfl (.pointer (some ⟨g, 0, none⟩)) (fun b w hb hH => by exact exec_nilCheck rfl rfl hb) ?_
    refine h_q hflS rfl ?_
    refine h_val rfl (.slice A l.length c) (fun b w hb hH => exec_load rfl rfl (reads_one ty_s_uint8 rfl) (hH.row 0 rfl) hb) ?_
    refine h_q hflS rfl ?_
    refine h_act (post := fun _ => [cell g 95 #[.slice A l.length c, .int .i64 (f : Int)], X]) rfl (a_call (ent_of Try.func52 (by kernel_rfl) rfl) (fun w hH => varint8 (hH.rd8 1 rfl hR) hL most hm (n, sz, e2) hv) rfl rfl rfl) ?_; rintro ⟨⟩
    refine h_q hflS rfl ?_
    refine h_done (d_reg ?_)
    refine h_q hflS rfl ?_
    refine h_val rfl (.pointer (some ⟨g, 0, none⟩)) (fun b w hb hH => by exact exec_nilCheck rfl rfl hb) ?_
    refine h_q hflS rfl ?_
    refine h_acts (post := fun _ => [cell g 95 #[.slice A l.length c, .int .i64 (e2 : Int)], X]) rfl rfl (a_store 0 (v := .int .i64 (e2 : Int)) #[.slice A l.length c, .int .i64 (e2 : Int)] ty_api_Errno.2 rfl rfl rfl rfl rfl rfl rfl rfl rfl) ?_; rintro ⟨⟩
    refine h_done (d_reg ?_)
    refine h_q hflS rfl ?_
    refine h_val rfl (.pointer (some ⟨g, 0, none⟩)) (fun b w hb hH => by exact exec_nilCheck rfl rfl hb) ?_
    refine h_q hflS rfl ?_
    refine h_val rfl (.slice A l.length c) (fun b w hb hH => exec_load rfl rfl (reads_one ty_s_uint8 rfl) (hH.row 0 rfl) hb) ?_
    refine h_q hflS rfl ?_
    refine h_val rfl (.slice A2 l2.length (c - sz)) (fun b w hb hH => e_sub_lo (i := sz) sl_uint8 hsub hz rfl rfl rfl hH hb) ?_
    refine h_val rfl (.pointer (some ⟨g, 0, none⟩)) (fun b w hb hH => by exact exec_nilCheck rfl rfl hb) ?_
    refine h_q hflS rfl ?_
    refine h_acts (post := fun _ => [cell g 95 #[.slice A2 l2.length (c - sz), .int .i64 (e2 : Int)], X]) rfl rfl (a_store 0 (v := .slice A2 l2.length (c - sz)) #[.slice A2 l2.length (c - sz), .int .i64 (e2 : Int)] ty_s_uint8.2 rfl rfl rfl rfl rfl rfl rfl rfl rfl) ?_; rintro ⟨⟩
    refine h_done (d_reg ?_)
    refine h_q hflS rfl ?_
    refine h_done (d_ret ?_)
    exact f_fin1 (.tmp rfl) (fun w h => tells () rfl [0, 1] rfl h (fun z hz => ⟨z, .refl _, Parts.one (RdT.mk_ rfl hR2 hL2 z hz)⟩)) rfl
  · skip
    obtain rfl : R = (0, l, f) := h.symm.trans (rnum_stuck hf)
    refine d_reg ?_
    refine h_q hflS rfl ?_
    refine h_val rfl (.pointer (some ⟨g, 0, none⟩)) (fun b w hb hH => by exact exec_nilCheck rfl rfl hb) ?_
    refine h_q hflS rfl ?_
    refine h_val rfl (.int .i64 (f : Int)) (fun b w hb hH => exec_load rfl rfl (reads_one ty_api_Errno rfl) (hH.row 0 rfl) hb) ?_
    refine h_val rfl (.bool true) (fun b w hb hH => exec_cmp rfl rfl rfl (cmp_neq_t (by omega)) hb) ?_
    refine h_done (d_then rfl (d_reg ?_))
    refine h_q hflS rfl ?_
    refine h_done (d_ret (f_then_ret ?_))
    exact f_fin1 (.tmp rfl) (fun w h => tells () rfl [0, 1] rfl h (fun z hz => ⟨z, .refl _, Parts.one (RdT.mk_ rfl hR hL z hz)⟩)) rfl

set_option maxRecDepth 100000 in
theorem rd_end (g : Nat) (l : List UInt8) (f r : Nat) (h : rend l f = r) : Does Try.prog 49 #[.pointer (some ⟨g, 0, none⟩)] [RdT g l f] (fun (_ : Unit) => .int .i64 (r : Int)) (fun (_ : Unit) => [RdT g l f]) := by
  refine d_ins (args := [.pointer (some ⟨g, 0, none⟩)]) 20 Try.func49 rfl rfl rfl ?_; intro w rs
  refine d_open 0 rfl RdT.open_ (fun _ => rfl) ?_; rintro ⟨⟨X, A, c⟩, hR, hL⟩
  refine WC2.keep (env' := [(0, .pointer (some ⟨g, 0, none⟩))]) ⟨rfl, trivial⟩ ?_
  refine WC2.mid [cell g 95 #[.slice A l.length c, .int .i64 (f : Int)], X] (.refl _) ?_
  refine d_reg ?_
  refine h_q hflS rfl ?_
  refine h_done (d_seq ?_)
  have hc : (f = 0 ∧ 0 < l.length) ∨ (f = 0 ∧ ¬ 0 < l.length) ∨ f ≠ 0 := by omega
  rcases hc with ⟨hf, h0⟩ | ⟨hf, h0⟩ | hf
  · skip
    obtain rfl : r = 11 := by rw [← h]; unfold rend; rw [if_pos ⟨hf, h0⟩]
    refine d_reg ?_
    refine h_q hflS rfl ?_
    refine h_val rfl (.pointer (some ⟨g, 0, none⟩)) (fun b w hb hH => by exact exec_nilCheck rfl rfl hb) ?_
    refine h_q hflS rfl ?_
    refine h_val rfl (.int .i64 (f : Int)) (fun b w hb hH => exec_load rfl rfl (reads_one ty_api_Errno rfl) (hH.row 0 rfl) hb) ?_
    refine h_val rfl (.bool true) (fun b w hb hH => exec_cmp rfl rfl rfl (cmp_eql_t (by omega)) hb) ?_
    refine h_q hflS rfl ?_
    refine h_val rfl (.pointer (some ⟨g, 0, none⟩)) (fun b w hb hH => by exact exec_nilCheck rfl rfl hb) ?_
    refine h_q hflS rfl ?_
    refine h_val rfl (.slice A l.length c) (fun b w hb hH => exec_load rfl rfl (reads_one ty_s_uint8 rfl) (hH.row 0 rfl) hb) ?_
    refine h_val rfl (.int .i64 (l.length : Int)) (fun b w hb hH => e_len sl_uint8 rfl rfl hH hb) ?_
    refine h_val rfl (.bool true) (fun b w hb hH => exec_cmp rfl rfl rfl (cmp_gtr_t (by omega)) hb) ?_
    refine h_q hflS rfl ?_
    refine h_done (d_then rfl (d_reg ?_))
    refine h_q hflS rfl ?_
    refine h_done (d_ret (f_then_ret ?_))
    exact f_fin1 (.tmp rfl) (fun w h => tells () rfl [0, 1] rfl h (fun z hz => ⟨z, .refl _, Parts.one (RdT.mk_ rfl hR hL z hz)⟩)) rfl
  · skip
    have hr : r = f := by rw [← h]; unfold rend; rw [if_neg (fun hh => h0 hh.2)]
    refine d_reg ?_
    refine h_q hflS rfl ?_
    refine h_val rfl (.pointer (some ⟨g, 0, none⟩)) (fun b w hb hH => by exact exec_nilCheck rfl rfl hb) ?_
    refine h_q hflS rfl ?_
    refine h_val rfl (.int .i64 (f : Int)) (fun b w hb hH => exec_load rfl rfl (reads_one ty_api_Errno rfl) (hH.row 0 rfl) hb) ?_
    refine h_val rfl (.bool true) (fun b w hb hH => exec_cmp rfl rfl rfl (cmp_eql_t (by omega)) hb) ?_
    refine h_q hflS rfl ?_
    refine h_val rfl (.pointer (some ⟨g, 0, none⟩)) (fun b w hb hH => by exact exec_nilCheck rfl rfl hb) ?_
    refine h_q hflS rfl ?_
    refine h_val rfl (.slice A l.length c) (fun b w hb hH => exec_load rfl rfl (reads_one ty_s_uint8 rfl) (hH.row 0 rfl) hb) ?_
    refine h_val rfl (.int .i64 (l.length : Int)) (fun b w hb hH => e_len sl_uint8 rfl rfl hH hb) ?_
    refine h_val rfl (.bool false) (fun b w hb hH => exec_cmp rfl rfl rfl (cmp_gtr_f (by omega)) hb) ?_
    refine h_q hflS rfl ?_
    refine h_done (d_else rfl (d_skip (f_to (d_reg ?_))))
    refine h_q hflS rfl ?_
    refine h_val rfl (.pointer (some ⟨g, 0, none⟩)) (fun b w hb hH => by exact exec_nilCheck rfl rfl hb) ?_
    refine h_q hflS rfl ?_
    refine h_val rfl (.int .i64 (f : Int)) (fun b w hb hH => exec_load rfl rfl (reads_one ty_api_Errno rfl) (hH.row 0 rfl) hb) ?_
    refine h_q hflS rfl ?_
    refine h_done (d_ret ?_)
    exact f_fin1 (.tmp rfl) (fun w h => tells () (by rw [hr]) [0, 1] rfl h (fun z hz => ⟨z, .refl _, Parts.one (RdT.mk_ rfl hR hL z hz)⟩)) rfl
  · skip
    have hr : r = f := by rw [← h]; unfold rend; rw [if_neg (fun hh => hf hh.1)]
    refine d_reg ?_
    refine h_q hflS rfl ?_
    refine h_val rfl (.pointer (some ⟨g, 0, none⟩)) (fun b w hb hH => by exact exec_nilCheck rfl rfl hb) ?_
    refine h_q hflS rfl ?_
    refine h_val rfl (.int .i64 (f : Int)) (fun b w hb hH => exec_load rfl rfl (reads_one ty_api_Errno rfl) (hH.row 0 rfl) hb) ?_
    refine h_val rfl (.bool false) (fun b w hb hH => exec_cmp rfl rfl rfl (cmp_eql_f (by omega)) hb) ?_
    refine h_q hflS rfl ?_
    refine h_done (d_else rfl (d_skip (f_to (d_reg ?_))))
    refine h_q hflS rfl ?_
    refine h_val rfl (.pointer (some ⟨g, 0, none⟩)) (fun b w hb hH => by exact exec_nilCheck rfl rfl hb) ?_
    refine h_q hflS rfl ?_
    refine h_val rfl (.int .i64 (f : Int)) (fun b w hb hH => exec_load rfl rfl (reads_one ty_api_Errno rfl) (hH.row 0 rfl) hb) ?_
    refine h_q hflS rfl ?_
    refine h_done (d_ret ?_)
    exact f_fin1 (.tmp rfl) (fun w h => tells () (by rw [hr]) [0, 1] rfl h (fun z hz => ⟨z, .refl _, Parts.one (RdT.mk_ rfl hR hL z hz)⟩)) rfl
end Go.Proofs.Ytnknboibmifacaa.Sep

namespace Go.Proofs.Ytnknboibmifacaa.Sep
open Go.RowKit
open Go.Proofs.Ytnknboibmifacaa.Mem (Dist Blk Chg below0)

end Go.Proofs.Ytnknboibmifacaa.Sep

namespace Go.Proofs.Ytnknboibmifacaa.Sep
open Go.ChangeShapes Go.WideShapes Go.ChangeAt Go.RowKit
section
variable {H : Type} {enc : TypeId × Value → H} {W : World} {base b0 : Nat} {r : Reach} {spare : Nat → Bool} {held : Bool} {v : Value} {d : DataW H} {p : List MemPlace}
end
end Go.Proofs.Ytnknboibmifacaa.Sep

namespace Go.Proofs.Ytnknboibmifacaa.Sep
open Go.RowKit
open Go.Proofs.Ytnknboibmifacaa.Mem (Dist Blk Chg below0)

end Go.Proofs.Ytnknboibmifacaa.Sep

namespace Go.Proofs.Ytnknboibmifacaa.Sep
open Go.RowKit
open Go.Proofs.Ytnknboibmifacaa.Mem (Dist Blk Chg below0)

end Go.Proofs.Ytnknboibmifacaa.Sep

namespace Go.Proofs.Ytnknboibmifacaa.Sep
open Go.RowKit
open Go.Proofs.Ytnknboibmifacaa.Mem (Dist Blk Chg below0)

end Go.Proofs.Ytnknboibmifacaa.Sep

namespace Go.Proofs.Ytnknboibmifacaa.Sep
open Go.RowKit
open Go.Proofs.Ytnknboibmifacaa.Mem (Dist Blk Chg below0)

end Go.Proofs.Ytnknboibmifacaa.Sep

namespace Go.Proofs.Ytnknboibmifacaa.Sep
open Go.RowKit
open Go.Proofs.Ytnknboibmifacaa.Mem (Dist Blk Chg below0)

structure RepD where
  code : Int
  val : Int
  hi : Int
  lo : Int
  sc : Int
deriving DecidableEq
structure RepD.ok (r : RepD) : Prop where
  code : I64 r.code
  val : U64 r.val
  hi : I64 r.hi
  lo : U64 r.lo
  sc : I64 r.sc
def RepD.right (r : RepD) : Bool := (decide (0 ≤ r.code) && decide (r.code ≤ 99)) && scB r.sc
end Go.Proofs.Ytnknboibmifacaa.Sep

namespace Go.Proofs.Ytnknboibmifacaa.Sep
open Go.RowKit
open Go.Proofs.Ytnknboibmifacaa.Mem (Dist Blk Chg below0)

end Go.Proofs.Ytnknboibmifacaa.Sep

namespace Go.Proofs.Ytnknboibmifacaa.Sep
open Go.RowKit
open Go.Proofs.Ytnknboibmifacaa.Mem (Dist Blk Chg below0)

set_option maxRecDepth 100000 in
theorem pick (w : World) (a m : Int) (ha : -9223372036854775808 ≤ a ∧ a ≤ 9223372036854775807) (hm : 1 ≤ m ∧ m ≤ 9223372036854775807) {r : Int} (hr : a % m = r) : Calls Try.prog 10 #[.int .i64 a, .int .i64 m] w fun e w' => e = .returned (.int .i64 r) ∧ Below w.heap.size w w' := by
  have hlt := Int.emod_lt_of_pos a (show 0 < m by omega)
  have hge := Int.emod_nonneg a (show m ≠ 0 by omega)
  have ht : (0 ≤ a.tmod m ∧ a.tmod m = r) ∨ (a.tmod m < 0 ∧ a.tmod m + m = r) := by
    rw [Int.tmod_eq_emod, ← hr]
    split
    · left; omega
    · rename_i h
      right
      have hne : a % m ≠ 0 := fun e => h (.inr (Int.dvd_of_emod_eq_zero e))
      omega
  rw [hr] at hlt hge
  obtain ⟨t, htm⟩ : ∃ t, a.tmod m = t := ⟨_, rfl⟩
  rw [htm] at ht
  refine d_in (args := [.int .i64 a, .int .i64 m]) 14 Try.func10 rfl rfl rfl ?_
  refine d_reg ?_
  refine h_q hflS rfl ?_
  refine h_done (d_reg ?_)
  refine h_q hflS rfl ?_
  refine h_val rfl (.int .i64 t) (fun b w hb hH => exec_remI rfl rfl rfl (by omega) htm hb) ?_
  refine h_q hflS rfl ?_
  refine h_done (d_seq ?_)
  rcases ht with ⟨h1, h2⟩ | ⟨h1, h2⟩
  · skip
    subst h2
    refine d_reg ?_
    refine h_q hflS rfl ?_
    refine h_val rfl (.bool false) (fun b w hb hH => exec_cmp rfl rfl rfl (cmp_lss_f (by omega)) hb) ?_
    refine h_done (d_else rfl (d_skip (f_to (d_reg ?_))))
    refine h_q hflS rfl ?_
    refine h_done (d_ret ?_)
    exact f_fin1 (.tmp rfl) (fun w h => ⟨rfl, below0 h.up⟩) rfl
  · skip
    refine d_reg ?_
    refine h_q hflS rfl ?_
    refine h_val rfl (.bool true) (fun b w hb hH => exec_cmp rfl rfl rfl (cmp_lss_t (by omega)) hb) ?_
    refine h_done (d_then rfl (d_reg1 ?_))
    refine h_q hflS rfl ?_
    refine h_val rfl (.int .i64 r) (fun b w hb hH => exec_ar rfl rfl rfl rfl (by rw [IntWalk.i64_in _ (by omega)]; omega) hb) ?_
    refine h_q hflS rfl ?_
    refine h_nil (f_to (d_reg ?_))
    refine h_q hflS rfl ?_
    refine h_done (d_ret ?_)
    exact f_fin1 (.tmp rfl) (fun w h => ⟨rfl, below0 h.up⟩) rfl
end Go.Proofs.Ytnknboibmifacaa.Sep

namespace Go.Proofs.Ytnknboibmifacaa
open Go.RowKit

def crcMask : BitVec 32 := 2197175160#32
/-- one bit -/
def crcBit (h : BitVec 32) : BitVec 32 := (h >>> 1) ^^^ (if h.getLsbD 0 then crcMask else 0#32)
def crcBits : Nat → BitVec 32 → BitVec 32
  | 0, h => h
  | n + 1, h => crcBit (crcBits n h)
/-- one byte -/
def crcByte (h : BitVec 32) (c : UInt8) : BitVec 32 := crcBits 8 (h ^^^ BitVec.ofNat 32 c.toNat)
def crcRun (h : BitVec 32) (l : List UInt8) : BitVec 32 := l.foldl crcByte h
def crcSum (l : List UInt8) : Nat := (~~~ crcRun (BitVec.allOnes 32) l).toNat

/-! ## the model's words -/
theorem ofInt_u32 (a : Nat) (ha : a < 4294967296) : BitVec.ofInt 32 (a : Int) = BitVec.ofNat 32 a := BitVec.ofInt_natCast ..
theorem u32_xor (a b : BitVec 32) : bits .xor .u32 (a.toNat : Int) (b.toNat : Int) = ((a ^^^ b).toNat : Int) := by
  show IntKind.u32.wrap ((BitVec.ofInt 32 (a.toNat : Int) ^^^ BitVec.ofInt 32 (b.toNat : Int)).toNat : Int) = _
  rw [BitVec.ofInt_natCast, BitVec.ofInt_natCast, BitVec.ofNat_toNat, BitVec.ofNat_toNat, BitVec.setWidth_eq, BitVec.setWidth_eq, IntKind.wrap_u32]
  have := (a ^^^ b).isLt
  omega
theorem u32_and_one (a : BitVec 32) : bits .and .u32 (a.toNat : Int) 1 = if a.getLsbD 0 then 1 else 0 := by
  show IntKind.u32.wrap ((BitVec.ofInt 32 (a.toNat : Int) &&& BitVec.ofInt 32 1).toNat : Int) = _
  have h1 : BitVec.ofInt 32 1 = 1#32 := by decide
  rw [BitVec.ofInt_natCast, BitVec.ofNat_toNat, BitVec.setWidth_eq, h1, BitVec.toNat_and, IntKind.wrap_u32]
  have e : a.toNat &&& (1#32).toNat = a.toNat % 2 := Nat.and_one_is_mod _
  rw [e]
  have e2 : a.getLsbD 0 = decide (a.toNat % 2 = 1) := by simp [BitVec.getLsbD, Nat.testBit_zero]
  rw [e2]
  by_cases h : a.toNat % 2 = 1
  · simp [h]
  · have : a.toNat % 2 = 0 := by omega
    simp [this]
/-- a step as the program's Sum reckons it -/
theorem u32_bit (a : BitVec 32) : bits .xor .u32 ((a.toNat : Int) / 2) (IntKind.u32.wrap (bits .and .u32 (a.toNat : Int) 1 * 2197175160)) = ((crcBit a).toNat : Int) := by
  have e1 : (a.toNat : Int) / (2 : Int) = ((a >>> 1).toNat : Int) := by
    rw [BitVec.toNat_ushiftRight, Nat.shiftRight_eq_div_pow]; omega
  have e2 : IntKind.u32.wrap (bits .and .u32 (a.toNat : Int) 1 * 2197175160) = ((if a.getLsbD 0 then crcMask else 0#32).toNat : Int) := by
    rw [u32_and_one, IntKind.wrap_u32]
    cases a.getLsbD 0
    · rfl
    · rfl
  rw [e1, e2, u32_xor]
  rfl
theorem u32_in (a : BitVec 32) (c : UInt8) : bits .xor .u32 (a.toNat : Int) (c.toNat : Int) = ((a ^^^ BitVec.ofNat 32 c.toNat).toNat : Int) := by
  rw [← u32_xor]
  have := UInt8.toNat_lt c
  rw [BitVec.toNat_ofNat, Nat.mod_eq_of_lt (by omega)]
theorem u32_or_nat (a b : Nat) (ha : a < 4294967296) (hb : b < 4294967296) : bits .or .u32 (a : Int) (b : Int) = ((a ||| b : Nat) : Int) := by
  have hx : a ||| b < 2 ^ 32 := Nat.or_lt_two_pow (by omega) (by omega)
  show IntKind.u32.wrap ((BitVec.ofInt 32 (a : Int) ||| BitVec.ofInt 32 (b : Int)).toNat : Int) = _
  rw [BitVec.toNat_or, ofInt_u32 a ha, ofInt_u32 b hb, BitVec.toNat_ofNat, BitVec.toNat_ofNat, Nat.mod_eq_of_lt (by omega), Nat.mod_eq_of_lt (by omega), IntKind.wrap_u32]
  omega
theorem u32_not (r : BitVec 32) : bits .xor .u32 IntKind.u32.max (r.toNat : Int) = ((~~~ r).toNat : Int) := by
  have h : IntKind.u32.max = ((BitVec.allOnes 32).toNat : Int) := by decide
  rw [h, u32_xor, BitVec.allOnes_xor]
end Go.Proofs.Ytnknboibmifacaa

namespace Go.Proofs.Ytnknboibmifacaa
open Go.RowKit

theorem sum_any {S : Nat → Prop} (w : World) (A : Option Addr) (c : Nat) (l : List UInt8) (h : Bs S w A c l) (hl : l.length ≤ 140737488355328) :
    Calls Try.prog 35 #[.slice A l.length c] w fun e w' => e = .returned (.int .u32 (crcSum l : Int)) ∧ w = w' := by
  go_enter Try.func35, Try.ntmps35
  go_wp2
  go_loop [3, 5, 6, 9] (fun h _ _ i => ∃ k : Nat, k ≤ l.length ∧ i = .int .i64 k ∧ h = .int .u32 ((crcRun (BitVec.allOnes 32) (l.take k)).toNat : Int)) (fun _ _ _ i => l.length - (intOf i).toNat)
  case atStart => exact ⟨0, Nat.zero_le _, rfl, rfl⟩
  case round =>
    obtain ⟨k, hk, rfl, rfl⟩ := hrel
    by_cases hlt : k < l.length
    · obtain ⟨g, o, rfl, hs, hc⟩ := h.2.2 (by omega)
      have hb := hc k l[k] (List.getElem?_eq_getElem hlt)
      unfold u8v at hb
      clear hc
      have ht : crcRun (BitVec.allOnes 32) (l.take (k + 1)) = crcByte (crcRun (BitVec.allOnes 32) (l.take k)) l[k] := by
        rw [List.take_succ_eq_append_getElem hlt]; unfold crcRun; rw [List.foldl_append]; rfl
      have HT := hid ht
      clear ht
      obtain ⟨b, hbb⟩ : ∃ b, b = l[k] := ⟨_, rfl⟩
      rw [← hbb] at hb HT
      have HB := hid hbb
      clear hbb
      obtain ⟨x, hx⟩ : ∃ x, x = crcRun (BitVec.allOnes 32) (l.take k) := ⟨_, rfl⟩
      rw [← hx] at HT ⊢
      have HX := hid hx
      clear hx
      have hin := u32_in x b
      obtain ⟨y, hy⟩ : ∃ y, y = x ^^^ BitVec.ofNat 32 b.toNat := ⟨_, rfl⟩
      rw [← hy] at hin
      have HY := hid hy
      clear hy
      obtain ⟨n, hn⟩ : ∃ n, n = b.toNat := ⟨_, rfl⟩
      have hn2 : n < 256 := by rw [hn]; exact UInt8.toNat_lt _
      rw [← hn] at hin hb
      clear hn
      go_wp2
      go_loop [3, 6, 17] (fun h _ j => ∃ i : Nat, i ≤ 8 ∧ j = .int .i64 i ∧ h = .int .u32 ((crcBits i y).toNat : Int)) (fun _ _ j => 8 - (intOf j).toNat)
      case atStart => exact ⟨0, by omega, rfl, rfl⟩
      case round =>
        obtain ⟨i, hi, rfl, rfl⟩ := hrel
        by_cases hi8 : i < 8
        · have hbit := u32_bit (crcBits i y)
          rw [IntKind.wrap_u32] at hbit
          obtain ⟨z, hz⟩ : ∃ z, z = crcBits i y := ⟨_, rfl⟩
          rw [← hz] at hbit ⊢
          have HZ := hid hz
          clear hz
          obtain ⟨z', hz'⟩ : ∃ z', z' = crcBit z := ⟨_, rfl⟩
          rw [← hz'] at hbit
          have HZ' := hid hz'
          clear hz'
          go_wp2
          go_round
          case rel => exact ⟨i + 1, by omega, by go_num, by rw [HZ'.out, HZ.out]; rfl⟩
          case measure => simp [intOf]; omega
        · have e8 : i = 8 := by omega
          subst e8
          obtain ⟨z, hz⟩ : ∃ z, z = crcBits 8 y := ⟨_, rfl⟩
          rw [← hz]
          have HZ := hid hz
          clear hz
          go_wp2
          go_round
          case rel => exact ⟨k + 1, by omega, by go_num, by rw [HT.out, HZ.out, HY.out]; rfl⟩
          case measure => simp [intOf]; omega
    · have e : l.take k = l := List.take_of_length_le (by omega)
      rw [e]
      clear e
      obtain ⟨r, hr⟩ : ∃ r, r = crcRun (BitVec.allOnes 32) l := ⟨_, rfl⟩
      rw [← hr]
      have HR := hid hr
      clear hr
      have hnot := u32_not r
      obtain ⟨q, hq⟩ : ∃ q : Nat, q = (~~~ r).toNat := ⟨_, rfl⟩
      rw [← hq] at hnot
      have HQ := hid hq
      clear hq
      go_wp2
      all_goals
        go_ret
        refine ⟨ret_int ?_, rfl⟩
        unfold crcSum
        rw [← HR.out, ← HQ.out]
end Go.Proofs.Ytnknboibmifacaa

namespace Go.Proofs.Ytnknboibmifacaa
open Go.RowKit

end Go.Proofs.Ytnknboibmifacaa

namespace Go.Proofs.Ytnknboibmifacaa
open Go.RowKit

end Go.Proofs.Ytnknboibmifacaa

namespace Go.Proofs.Ytnknboibmifacaa
open Go.RowKit

end Go.Proofs.Ytnknboibmifacaa

namespace Go.Proofs.Ytnknboibmifacaa
open Go.RowKit

/-- At block p lies a Reader of the bytes l with the fault f; its bytes lie in the blocks from base on, ahead of p. -/
def Rdr (w : World) (base p : Nat) (l : List UInt8) (f : Nat) : Prop :=
  l.length ≤ 140737488355328 ∧ ∃ A c, Row w p 95 #[.slice A l.length c, .int .i64 (f : Int)] ∧ Bs (fun k => base ≤ k ∧ k < p) w A c l

theorem Rdr.mod {S : Nat → Prop} {w w' : World} {base p f : Nat} {l : List UInt8} (h : Rdr w base p l f) (hm : Mod S w w') (hn : ∀ k, base ≤ k → k ≤ p → ¬ S k) (hb : base ≤ p) : Rdr w' base p l f := by
  obtain ⟨hl, A, c, hr, hs⟩ := h
  exact ⟨hl, A, c, hr.mod hm (hn p hb (Nat.le_refl _)), hs.mod hm (fun k hk => hn k hk.1 (by omega))⟩
theorem Rdr.lt {w : World} {base p f : Nat} {l : List UInt8} (h : Rdr w base p l f) : p < w.heap.size := by
  obtain ⟨_, _, _, hr, _⟩ := h
  exact hr.lt

end Go.Proofs.Ytnknboibmifacaa

namespace Go.Proofs.Ytnknboibmifacaa.Sep
open Go.RowKit
open Go.Proofs.Ytnknboibmifacaa.Mem (Dist Blk Chg below0)
section
variable {P : Program} {Q : Exit → Act → World → Prop} {n : Nat} {env : List (Nat × Value)} {B : Nat → Prop} {w0 w : World} {os : List Ass} {o : Oper}
/-- a call that reads what can be read in the present world, and answers new things -/
theorem a_makes {X : Type} {F : FuncId} {f : Operand} {args : Array Operand} {ats : Array TypeId} {vs : List Value} {val : X → Value} {post : X → List Ass} {os' : X → List Ass} (ids : List Nat) (pads : Nat) (hE : Ent P F) (hc : ∀ w, Hp B w0 w os → DoesU w P F vs.toArray [] val post) (hp : selA ids os = List.replicate pads emp) (hn : nodupB ids = true) (hb : (ids.all fun i => Nat.blt i os.length) = true) (he : ∀ x, (post x).drop ids.length ++ replA ids (padTo ids.length (post x)) os = os' x) (ho : o.op = .call { callee := .value f, args := args, argTypes := ats }) (hf : evs env f = some (.func (.func F) #[] #[])) (hx : evl env args.toList = some vs) :
    Acts P Q n env B w0 os o val os' := fun b w hH hb' K hK => by
  unfold Oper.wp
  rw [exec_call hE ho hf hx hb', Oper.upon_enter]
  obtain ⟨x, h0, h1, h2, h3, h4⟩ := hH.give2 ids (nodupB_iff hn)
  rw [hp] at h1
  have hx0 : x = [] := parts_emp.1 h1
  subst hx0
  refine (hc w hH w [] (Below.refl _ _) (fun x hx => by cases hx) rfl trivial trivial).mono ?_
  rintro e w' ⟨x, rfl, rs', hpx, hch⟩
  have hq := h4 (post x) rs' w' hpx hch
  refine hK x w' (he x ▸ Hp.imp hq fun rs h => ?_)
  obtain ⟨a, c, e, ha, hc'⟩ := h.split
  obtain ⟨a', p, ha'⟩ := padTo_parts (k := ids.length) ha
  have h2 := Parts.app ha' hc'
  rw [List.append_assoc] at h2
  obtain ⟨r2, p2, h3⟩ := h2.perm ((repl_perm (xs := post x) (nodupB_iff hn) hb).append_left _)
  exact ⟨r2, e ▸ (p.append_right c).trans p2, h3⟩
end
section
variable {P : Program} {F : FuncId} {args : Array Value} {l m b l' : List UInt8} {u : World} {g f f' : Nat} {v B : Value} {val : Value}
end
end Go.Proofs.Ytnknboibmifacaa.Sep
