/-
  DskV · MapU · TyK · DskA · DskB
-/
import Derived.Test.YtjcfimmcogkopaaAB01
import Derived.Test.YtjcfimmcogkopaaAB02
import Derived.Test.YtjcfimmcogkopaaAB03
set_option linter.unusedSimpArgs false
set_option linter.unusedVariables false

namespace Go.Proofs.Ytjcfimmcogkopaa.Sep
open Go.RowKit
open Go.Proofs.Ytjcfimmcogkopaa.Mem (Dist Blk Chg below0)

/-! ## Operations -/
def OpD.data : OpD → List UInt8
  | .app _ b => b
  | _ => []
def OpD.kind : OpD → Int
  | .app .. => 0
  | .cut .. => 1
  | .ren .. => 2
  | .del _ => 3
def OpD.name : OpD → List UInt8
  | .app n _ => n
  | .cut n _ => n
  | .ren a _ => a
  | .del n => n
def OpD.cutS : OpD → Nat
  | .cut _ s => s
  | _ => 0
def OpD.to : OpD → List UInt8
  | .ren _ b => b
  | _ => []
/-- an operation, and where its bytes lie -/
structure OpV where
  o : OpD
  A : Option Addr
  c : Nat
def OpV.v (x : OpV) : Value := .slice x.A x.o.data.length x.c
def encO (x : OpV) : List Value := [.int .i64 x.o.kind, .string (bs x.o.name), x.v, .int .i64 (x.o.cutS : Int), .string (bs x.o.to)]
theorem okO : EncOf 5 encO := ⟨fun _ => rfl, fun x v h => by unfold encO OpV.v at h; simp at h; rcases h with rfl | rfl | rfl | rfl | rfl <;> rfl⟩
instance : Inhabited OpV := ⟨⟨.del [], none, 0⟩⟩
def OpsE (W : List OpV) : Ass := Each (fun x : OpV => Vec 5 1 encB x.v x.o.data) W
def opsO (W : List OpV) : List OpD := W.map (·.o)
theorem rd8_ops {W : List OpV} {x : OpV} (h : x ∈ W) : Rd8 (OpsE W) x.v x.o.data := fun rs w h1 h2 => by
  obtain ⟨j, hj⟩ := List.getElem?_of_mem h
  obtain ⟨ys, h3, h4⟩ := Each.at_ h1 h2 hj
  exact vec_sl8 h3 h4
/-- what is asked of the files, that an operation can be done to them -/
def OkO (f : FS) : OpD → Prop
  | .app n _ => nameB n = true
  | .cut n s => ∃ x, getM f n = some x ∧ s ≤ x.length
  | .ren a b => (∃ x, getM f a = some x) ∧ nameB b = true
  | .del _ => True
def okOs : FS → List OpD → Prop
  | _, [] => True
  | f, o :: r => OkO f o ∧ okOs (doneF f o) r
theorem okOs_nil {f : FS} : okOs f [] := trivial
theorem okOs_push : ∀ {l : List OpD} {f : FS} {o : OpD}, okOs f l → OkO (l.foldl doneF f) o → okOs f (l ++ [o])
  | [], _, _, _, ho => ⟨ho, trivial⟩
  | _ :: r, _, _, h, ho => ⟨h.1, okOs_push (l := r) h.2 ho⟩
theorem okOs_take : ∀ {l : List OpD} {f : FS} (i : Nat), okOs f l → okOs f (l.take i)
  | [], _, _, _ => by rw [List.take_nil]; trivial
  | _ :: _, _, 0, _ => trivial
  | _ :: r, _, i + 1, h => ⟨h.1, okOs_take (l := r) i h.2⟩
theorem okOs_at : ∀ {l : List OpD} {f : FS} {i : Nat} {o : OpD}, okOs f l → l[i]? = some o → OkO ((l.take i).foldl doneF f) o
  | x :: r, f, 0, o, h, hi => by
    simp only [List.getElem?_cons_zero, Option.some.injEq] at hi
    subst hi
    exact h.1
  | x :: r, f, i + 1, o, h, hi => okOs_at (l := r) (i := i) h.2 (by simpa using hi)
theorem okO_perm {f g : FS} {o : OpD} (h : f.Perm g) (hf : (keysM f).Nodup) (ho : OkO f o) : OkO g o := by
  cases o with
  | app n b => exact ho
  | cut n s => obtain ⟨x, h1, h2⟩ := ho; exact ⟨x, by rw [← perm_get h hf]; exact h1, h2⟩
  | ren a b => obtain ⟨⟨x, h1⟩, h2⟩ := ho; exact ⟨⟨x, by rw [← perm_get h hf]; exact h1⟩, h2⟩
  | del n => trivial

/-! ## Names -/
def namesF (f : FS) : Prop := ∀ k, k ∈ keysM f → nameB k = true
theorem names_nil : namesF [] := fun k h => by cases h
theorem names_put {f : FS} {n x : List UInt8} (hf : (keysM f).Nodup) (h : namesF f) (hn : nameB n = true) : namesF (putM f n x) := fun k hk => by
  obtain ⟨p, hp, rfl⟩ := List.mem_map.1 hk
  rcases (mem_put hf p).1 hp with rfl | ⟨h1, _⟩
  · exact hn
  · exact h _ (List.mem_map_of_mem h1)
theorem names_del {f : FS} {n : List UInt8} (hf : (keysM f).Nodup) (h : namesF f) : namesF (delM f n) := fun k hk => by
  obtain ⟨p, hp, rfl⟩ := List.mem_map.1 hk
  exact h _ (List.mem_map_of_mem ((mem_del hf p).1 hp).1)
theorem names_done {f : FS} {o : OpD} (hf : (keysM f).Nodup) (h : namesF f) (ho : OkO f o) : namesF (doneF f o) := by
  cases o with
  | app n b => exact names_put hf h ho
  | cut n s =>
    obtain ⟨x, h1, _⟩ := ho
    show namesF (match getM f n with | some x => putM f n (x.take s) | none => f)
    rw [h1]
    exact names_put hf h (h _ (List.mem_map.2 ⟨_, (getM_some hf).1 h1, rfl⟩))
  | ren a b =>
    obtain ⟨⟨x, h1⟩, h2⟩ := ho
    show namesF (match getM f a with | some x => putM (delM f a) b x | none => f)
    rw [h1]
    exact names_put (nodup_del hf) (names_del hf h) h2
  | del n => exact names_del hf h
theorem names_all : ∀ (l : List OpD) {f : FS}, (keysM f).Nodup → namesF f → okOs f l → namesF (l.foldl doneF f)
  | [], _, _, h, _ => h
  | o :: r, _, hf, h, ho => names_all r (nodup_done hf o) (names_done hf h ho.1) ho.2

/-! ## Sizes -/
theorem used_put_le {f : FS} {k x : List UInt8} (hf : (keysM f).Nodup) : usedF (putM f k x) ≤ usedF f + x.length := by
  cases h : getM f k with
  | none => rw [used_put_new h]; exact Nat.le_refl _
  | some y => have := used_put_old (x := x) hf h; omega
theorem used_done_le {f : FS} (hf : (keysM f).Nodup) {o : OpD} (ho : OkO f o) : usedF (doneF f o) ≤ usedF f + o.size := by
  cases o with
  | app n b => rw [used_append hf]; exact Nat.le_refl _
  | cut n s =>
    obtain ⟨x, h1, h2⟩ := ho
    show usedF (match getM f n with | some x => putM f n (x.take s) | none => f) ≤ usedF f + 0
    rw [h1]
    have := used_put_old (x := x.take s) hf h1
    rw [List.length_take] at this
    show usedF (putM f n (x.take s)) ≤ _
    omega
  | ren a b =>
    obtain ⟨⟨x, h1⟩, _⟩ := ho
    show usedF (match getM f a with | some x => putM (delM f a) b x | none => f) ≤ usedF f + 0
    rw [h1]
    have h2 := used_del hf h1
    have h3 := used_put_le (k := b) (x := x) (nodup_del (k := a) hf)
    show usedF (putM (delM f a) b x) ≤ _
    omega
  | del n =>
    show usedF (delM f n) ≤ _
    cases h : getM f n with
    | none => rw [del_none h]; exact Nat.le_add_right _ _
    | some x => have := used_del hf h; show _ ≤ usedF f + 0; omega
theorem used_all_le : ∀ (l : List OpD) {f : FS}, (keysM f).Nodup → okOs f l → usedF (l.foldl doneF f) ≤ usedF f + (l.map OpD.size).sum
  | [], _, _, _ => by simp
  | o :: r, f, hf, ho => by
    have h1 := used_done_le hf ho.1
    have h2 := used_all_le r (nodup_done hf o) ho.2
    rw [List.foldl_cons, List.map_cons, List.sum_cons]; omega
theorem size_take : ∀ (l : List OpD) (i : Nat), ((l.take i).map OpD.size).sum ≤ (l.map OpD.size).sum
  | [], _ => by simp
  | _ :: _, 0 => by simp
  | x :: r, i + 1 => by
    have := size_take r i
    simp only [List.take_succ_cons, List.map_cons, List.sum_cons]; omega
/-- a file is no longer than all files -/
theorem used_get {f : FS} {k x : List UInt8} (hf : (keysM f).Nodup) (h : getM f k = some x) : x.length ≤ usedF f := by
  have := used_del hf h; omega
/-! ## Files in a map, changed -/
theorem get_none {κ ν : Type} [DecidableEq κ] {k : κ} {l : List (κ × ν)} (h : fnd k l 0 = none) : getM l k = none := by unfold getM; rw [h]; rfl
theorem get_some {κ ν : Type} [DecidableEq κ] {k : κ} {l : List (κ × ν)} {q : Nat × ν} (h : fnd k l 0 = some q) : getM l k = some q.2 := by unfold getM; rw [h]; rfl
theorem app_none {L : FilL} {n b : List UInt8} {u : Value} (h : fnd n L 0 = none) : doneF (fsL L) (.app n b) = fsL (putM L n (u, b)) := by
  show putM (fsL L) n _ = _
  rw [getM_fsL, get_none h, Option.map_none, Option.getD_none, List.nil_append]
  exact putM_fsL L n (u, b)
theorem app_some {L : FilL} {n b : List UInt8} {u : Value} {q : Nat × PtT} (h : fnd n L 0 = some q) : doneF (fsL L) (.app n b) = fsL (putM L n (u, q.2.2 ++ b)) := by
  show putM (fsL L) n _ = _
  rw [getM_fsL, get_some h, Option.map_some, Option.getD_some]
  exact putM_fsL L n (u, q.2.2 ++ b)
theorem del_fil {L : FilL} {n : List UInt8} : doneF (fsL L) (.del n) = fsL (delM L n) := delM_fsL L n
theorem delM_none {κ ν : Type} [DecidableEq κ] {k : κ} {l : List (κ × ν)} (h : fnd k l 0 = none) : delM l k = l := by unfold delM; rw [h]
/-- a file's bytes left: what lies ahead and behind -/
theorem fil_del {L : FilL} {k : List UInt8} {q : Nat × PtT} (h : fnd k L 0 = some q) : ∀ rs, Parts [FilE (L.take q.1), FilE (L.drop (q.1 + 1))] rs → FilE (delM L k) rs := fun rs hr => by
  obtain ⟨a, b, rfl, h1, h2⟩ := hr
  unfold FilE delM
  rw [h]
  show Each _ (L.eraseIdx q.1) _
  rw [List.eraseIdx_eq_take_drop_succ]
  unfold Each
  rw [List.map_append]
  exact Parts.app h1 (Parts.one' h2)
theorem filesT_nodup {v : Value} {f : FS} : ∀ rs, FilesT v f rs → (keysM f).Nodup := fun rs ⟨L, h, h'⟩ => by
  obtain ⟨a, b, e, h1, _⟩ := h'
  rw [h, keys_fsL]
  exact MapT.nodup _ h1
/-- a map and its bytes, and another thing, told as files -/
theorem files_tell {v : Value} {f : FS} {L : FilL} {os : List Ass} (h : f = fsL L) : ∀ rs, Parts (MapT encKey encFil v L :: FilE L :: os) rs → ∃ z, rs.Perm z ∧ Parts (FilesT v f :: os) z := fun rs hr => by
  subst h
  obtain ⟨a, r, rfl, h1, b, r2, rfl, h2, h3⟩ := hr
  exact ⟨a ++ (b ++ r2), .refl _, a ++ b, r2, by simp, ⟨L, rfl, a, b, rfl, h1, Parts.one h2⟩, h3⟩

theorem files_new {v u : Value} {f : FS} {L : FilL} {n y : List UInt8} {os : List Ass} (hq : fnd n L 0 = none) (h : f = fsL (putM L n (u, y))) : ∀ rs, Parts (MapT encKey encFil v (putM L n (u, y)) :: FilE L :: Vec 5 1 encB u y :: os) rs → ∃ z, rs.Perm z ∧ Parts (FilesT v f :: os) z := fun rs hr => by
  obtain ⟨a, r, rfl, h1, b, r2, rfl, h2, c, r3, rfl, h3, h4⟩ := hr
  rw [show a ++ (b ++ (c ++ r3)) = a ++ ((b ++ c) ++ r3) by simp]
  exact files_tell h _ ⟨a, _, rfl, h1, b ++ c, r3, rfl, fil_new hq (u, y) _ ⟨b, c, rfl, h2, Parts.one h3⟩, h4⟩
theorem files_put {v u : Value} {f : FS} {L : FilL} {n y : List UInt8} {q : Nat × PtT} {os : List Ass} (hq : fnd n L 0 = some q) (h : f = fsL (putM L n (u, y))) : ∀ rs, Parts (MapT encKey encFil v (putM L n (u, y)) :: FilE (L.take q.1) :: Vec 5 1 encB u y :: FilE (L.drop (q.1 + 1)) :: os) rs → ∃ z, rs.Perm z ∧ Parts (FilesT v f :: os) z := fun rs hr => by
  obtain ⟨a, r, rfl, h1, b, r2, rfl, h2, c, r3, rfl, h3, e, r4, rfl, h4, h5⟩ := hr
  rw [show a ++ (b ++ (c ++ (e ++ r4))) = a ++ ((b ++ (c ++ e)) ++ r4) by simp]
  exact files_tell h _ ⟨a, _, rfl, h1, b ++ (c ++ e), r4, rfl, fil_put hq (u, y) _ ⟨b, c ++ e, rfl, h2, c, e, rfl, h3, Parts.one h4⟩, h5⟩
theorem files_gone {v : Value} {f : FS} {L : FilL} {n : List UInt8} {q : Nat × PtT} {os : List Ass} (hq : fnd n L 0 = some q) (h : f = fsL (delM L n)) : ∀ rs, Parts (MapT encKey encFil v (delM L n) :: FilE (L.take q.1) :: FilE (L.drop (q.1 + 1)) :: os) rs → ∃ z, rs.Perm z ∧ Parts (FilesT v f :: os) z := fun rs hr => by
  obtain ⟨a, r, rfl, h1, b, r2, rfl, h2, e, r4, rfl, h4, h5⟩ := hr
  rw [show a ++ (b ++ (e ++ r4)) = a ++ ((b ++ e) ++ r4) by simp]
  exact files_tell h _ ⟨a, _, rfl, h1, b ++ e, r4, rfl, fil_del hq _ ⟨b, e, rfl, h2, Parts.one h4⟩, h5⟩

/-- a slice cut off is its beginning -/
theorem vec_shrink {e : TypeId} {v : Value} {l : List UInt8} {k : Nat} (hk : k ≤ l.length) : ∀ rs, Parts [Vec e 1 encB v l] rs → Vec e 1 encB (subv 1 v 0 k) (l.take k) rs := fun rs hr => by
  rcases Parts.one' hr with ⟨h1, h2, h3⟩ | ⟨g, cap, cs, h1, h2, h3, h4, h5, h6⟩
  · subst h2; subst h1
    have : k = 0 := by simpa using hk
    subst this
    exact .inl ⟨by simp [subv], by simp, h3⟩
  · subst h1
    have hl : (l.take k).length = k := by rw [List.length_take]; omega
    have e1 : (⟨g, 0 + 0 * 1, none⟩ : Addr) = ⟨g, 0, none⟩ := rfl
    refine .inr ⟨g, cap, cs, ?_, by rw [hl]; omega, h3, h4, ?_, h6⟩
    · simp [subv, Addr.add, hl]
    · rw [hl]
      have h7 := congrArg (List.take (k * 1)) h5
      rw [List.take_take, Nat.min_eq_left (by omega)] at h7
      rw [h7]
      have h8 : flat encB l = flat encB (l.take k) ++ flat encB (l.drop k) := by rw [← flat_app, List.take_append_drop]
      rw [h8, List.take_append_of_le_length (by rw [flat_len okB, hl]; omega), List.take_of_length_le (by rw [flat_len okB, hl]; omega)]
theorem cut_fil {L : FilL} {n : List UInt8} {s : Nat} {u : Value} {q : Nat × PtT} (h : fnd n L 0 = some q) : doneF (fsL L) (.cut n s) = fsL (putM L n (u, q.2.2.take s)) := by
  show (match getM (fsL L) n with | some x => putM (fsL L) n (x.take s) | none => fsL L) = _
  rw [getM_fsL, get_some h]
  exact putM_fsL L n (u, q.2.2.take s)
theorem ren_fil {L : FilL} {a b : List UInt8} {q : Nat × PtT} (h : fnd a L 0 = some q) : doneF (fsL L) (.ren a b) = fsL (putM (delM L a) b (q.2.1, q.2.2)) := by
  show (match getM (fsL L) a with | some x => putM (delM (fsL L) a) b x | none => fsL L) = _
  rw [getM_fsL, get_some h, delM_fsL]
  exact putM_fsL (delM L a) b (q.2.1, q.2.2)
theorem fnd_of_get {κ ν : Type} [DecidableEq κ] {k : κ} {l : List (κ × ν)} {x : ν} (h : getM l k = some x) : ∃ q, fnd k l 0 = some q ∧ q.2 = x := by
  unfold getM at h
  exact Option.map_eq_some_iff.1 h
theorem fnd_of_fs {L : FilL} {n x : List UInt8} (h : getM (fsL L) n = some x) : ∃ q, fnd n L 0 = some q ∧ q.2.2 = x := by
  rw [getM_fsL] at h
  obtain ⟨r, h1, h2⟩ := Option.map_eq_some_iff.1 h
  obtain ⟨q, h3, h4⟩ := fnd_of_get h1
  exact ⟨q, h3, by rw [h4]; exact h2⟩

theorem files_cut {v : Value} {f : FS} {L : FilL} {n : List UInt8} {s : Nat} {q : Nat × PtT} {os : List Ass} (hq : fnd n L 0 = some q) (hs : s ≤ q.2.2.length) (h : f = fsL (putM L n (subv 1 q.2.1 0 s, q.2.2.take s))) : ∀ rs, Parts (MapT encKey encFil v (putM L n (subv 1 q.2.1 0 s, q.2.2.take s)) :: FilE (L.take q.1) :: Vec 5 1 encB q.2.1 q.2.2 :: FilE (L.drop (q.1 + 1)) :: os) rs → ∃ z, rs.Perm z ∧ Parts (FilesT v f :: os) z := fun rs hr => by
  obtain ⟨a, r, e1, h1, b, r2, e2, h2, c, r3, e3, h3, hx⟩ := hr
  exact files_put hq h _ ⟨a, r, e1, h1, b, r2, e2, h2, c, r3, e3, vec_shrink hs _ (Parts.one h3), hx⟩

/-! ## A disk -/
def fzI : Option Nat → Int
  | none => -1
  | some n => n
/-- the values that a disk's struct holds, and what is not told of them -/
structure DskU (d : DiskD) where
  pv : Value
  sm : Value
  sh : Value
  W : List OpV
  g : FS
  hW : opsO W = d.wait
  hg : d.down = false → g.Perm d.now
  hok : okOs d.syn d.wait
  hf : ∀ n, d.fuse = some n → n ≤ 9223372036854775807
  hr : 0 ≤ d.room ∧ d.room ≤ 1048576
  hk : namesF d.syn
/-- what a disk that is up shows -/
def ShT : Bool → Value → FS → Ass
  | true, v, _ => fact (v = .map none)
  | false, v, f => FilesT v f
def DiskT (p : Nat) (d : DiskD) : Ass := fun rs => ∃ x : DskU d, Parts [cell p 53 #[.int .i64 d.room, .int .i64 (fzI d.fuse), .bool d.down, x.pv, x.sm, x.sh], Vec 68 5 encO x.pv x.W, OpsE x.W, FilesT x.sm d.syn, ShT d.down x.sh x.g] rs
section
variable {p : Nat} {d : DiskD}
theorem disk_open : ∀ rs, DiskT p d rs → ∃ x : DskU d, Parts [cell p 53 #[.int .i64 d.room, .int .i64 (fzI d.fuse), .bool d.down, x.pv, x.sm, x.sh], Vec 68 5 encO x.pv x.W, OpsE x.W, FilesT x.sm d.syn, ShT d.down x.sh x.g] rs := fun _ h => h
theorem disk_up (h : d.down = false) : ∀ rs, DiskT p d rs → ∃ x : DskU d, Parts [cell p 53 #[.int .i64 d.room, .int .i64 (fzI d.fuse), .bool false, x.pv, x.sm, x.sh], Vec 68 5 encO x.pv x.W, OpsE x.W, FilesT x.sm d.syn, FilesT x.sh x.g] rs := fun rs ⟨x, hx⟩ => ⟨x, by rw [h] at hx; exact hx⟩
theorem fact_part {q : Prop} {a b c e : Ass} {rs : List RowT} (h : Parts [a, b, c, e, fact q] rs) : q ∧ Parts [a, b, c, e] rs := by
  obtain ⟨_, _, rfl, h1, _, _, rfl, h2, _, _, rfl, h3, _, _, rfl, h4, _, _, rfl, ⟨rfl, h5⟩, rfl⟩ := h
  exact ⟨h5, _, _, rfl, h1, _, _, rfl, h2, _, _, rfl, h3, _, _, rfl, h4, rfl⟩
theorem part_fact {q : Prop} {a b c e : Ass} {rs : List RowT} (h5 : q) (h : Parts [a, b, c, e] rs) : Parts [a, b, c, e, fact q] rs := by
  obtain ⟨_, _, rfl, h1, _, _, rfl, h2, _, _, rfl, h3, _, _, rfl, h4, rfl⟩ := h
  exact ⟨_, _, rfl, h1, _, _, rfl, h2, _, _, rfl, h3, _, _, rfl, h4, _, _, rfl, ⟨rfl, h5⟩, rfl⟩
theorem disk_dn (h : d.down = true) : ∀ rs, DiskT p d rs → ∃ x : DskU d, Parts [cell p 53 #[.int .i64 d.room, .int .i64 (fzI d.fuse), .bool true, x.pv, x.sm, .map none], Vec 68 5 encO x.pv x.W, OpsE x.W, FilesT x.sm d.syn] rs := fun rs ⟨x, hx⟩ => by
  rw [h] at hx
  obtain ⟨e, h1⟩ := fact_part hx
  rw [e] at h1
  exact ⟨x, h1⟩
theorem dn_close {os : List Ass} (x : DskU d) (h : d.down = true) (hs : x.sh = .map none) : ∀ rs, Parts ([cell p 53 #[.int .i64 d.room, .int .i64 (fzI d.fuse), .bool true, x.pv, x.sm, .map none], Vec 68 5 encO x.pv x.W, OpsE x.W, FilesT x.sm d.syn] ++ os) rs → ∃ z, rs.Perm z ∧ Parts ([DiskT p d] ++ os) z := fun rs hr => by
  obtain ⟨a, b, e, h1, h2⟩ := Parts.split hr
  subst e
  refine ⟨a ++ b, .refl _, Parts.app (Parts.one ⟨x, ?_⟩) h2⟩
  rw [h]
  exact part_fact hs (by rw [hs]; exact h1)
theorem up_close {os : List Ass} (x : DskU d) (h : d.down = false) : ∀ rs, Parts ([cell p 53 #[.int .i64 d.room, .int .i64 (fzI d.fuse), .bool false, x.pv, x.sm, x.sh], Vec 68 5 encO x.pv x.W, OpsE x.W, FilesT x.sm d.syn, FilesT x.sh x.g] ++ os) rs → ∃ z, rs.Perm z ∧ Parts ([DiskT p d] ++ os) z := fun rs hr => by
  obtain ⟨a, b, e, h1, h2⟩ := Parts.split hr
  subst e
  refine ⟨a ++ b, .refl _, Parts.app (Parts.one ⟨x, ?_⟩) h2⟩
  rw [h]
  exact h1
end
theorem take_push' {α : Type} {L : List α} {i : Nat} {b : α} (h : L[i]? = some b) : L.take i ++ [b] = L.take (i + 1) := by
  have hlt := (List.getElem?_eq_some_iff.1 h).1
  have hx := (List.getElem?_eq_some_iff.1 h).2
  rw [← hx, List.take_succ_eq_append_getElem hlt]
/-- the same, with the map that is shown laid open -/
structure DskL (d : DiskD) where
  pv : Value
  sm : Value
  sh : Value
  W : List OpV
  L : FilL
  hW : opsO W = d.wait
  hg : (fsL L).Perm d.now
  hok : okOs d.syn d.wait
  hf : ∀ n, d.fuse = some n → n ≤ 9223372036854775807
  hr : 0 ≤ d.room ∧ d.room ≤ 1048576
  hk : namesF d.syn
section
variable {p : Nat} {d : DiskD}
theorem disk_upL (h : d.down = false) : ∀ rs, DiskT p d rs → ∃ y : DskL d, Parts [cell p 53 #[.int .i64 d.room, .int .i64 (fzI d.fuse), .bool false, y.pv, y.sm, y.sh], Vec 68 5 encO y.pv y.W, OpsE y.W, FilesT y.sm d.syn, MapT encKey encFil y.sh y.L, FilE y.L] rs := fun rs hr => by
  obtain ⟨x, a1, _, rfl, h1, a2, _, rfl, h2, a3, _, rfl, h3, a4, _, rfl, h4, a5, _, rfl, ⟨L, hL, h5⟩, rfl⟩ := disk_up h rs hr
  refine ⟨⟨x.pv, x.sm, x.sh, x.W, L, x.hW, hL ▸ x.hg h, x.hok, x.hf, x.hr, x.hk⟩, a1, _, rfl, h1, a2, _, rfl, h2, a3, _, rfl, h3, a4, a5, by simp, h4, h5⟩
theorem up_one (x : DskU d) (h : d.down = false) : ∀ rs, Parts [cell p 53 #[.int .i64 d.room, .int .i64 (fzI d.fuse), .bool false, x.pv, x.sm, x.sh], Vec 68 5 encO x.pv x.W, OpsE x.W, FilesT x.sm d.syn, FilesT x.sh x.g] rs → DiskT p d rs := fun rs hr => ⟨x, by rw [h]; exact hr⟩
theorem upL_one (y : DskL d) (h : d.down = false) : ∀ rs, Parts [cell p 53 #[.int .i64 d.room, .int .i64 (fzI d.fuse), .bool false, y.pv, y.sm, y.sh], Vec 68 5 encO y.pv y.W, OpsE y.W, FilesT y.sm d.syn, MapT encKey encFil y.sh y.L, FilE y.L] rs → DiskT p d rs := fun rs hr => by
  obtain ⟨a1, _, rfl, h1, a2, _, rfl, h2, a3, _, rfl, h3, a4, a5, rfl, h4, h5⟩ := hr
  exact up_one ⟨y.pv, y.sm, y.sh, y.W, fsL y.L, y.hW, fun _ => y.hg, y.hok, y.hf, y.hr, y.hk⟩ h _ ⟨a1, _, rfl, h1, a2, _, rfl, h2, a3, _, rfl, h3, a4, a5, rfl, h4, Parts.one ⟨y.L, rfl, h5⟩⟩
theorem upL_close {os : List Ass} (y : DskL d) (h : d.down = false) : ∀ rs, Parts ([cell p 53 #[.int .i64 d.room, .int .i64 (fzI d.fuse), .bool false, y.pv, y.sm, y.sh], Vec 68 5 encO y.pv y.W, OpsE y.W, FilesT y.sm d.syn, MapT encKey encFil y.sh y.L, FilE y.L] ++ os) rs → ∃ z, rs.Perm z ∧ Parts ([DiskT p d] ++ os) z := fun rs hr => by
  obtain ⟨a, b, e, h1, h2⟩ := Parts.split hr
  subst e
  exact ⟨a ++ b, .refl _, Parts.app (Parts.one (upL_one y h _ h1)) h2⟩
end
theorem fits_L {d : DiskD} {L : FilL} (hp : (fsL L).Perm d.now) (hn : (keysM (fsL L)).Nodup) (n y : List UInt8) : fitsD d n y = (decide ((usedF (fsL L) : Int) + (y.length : Int) ≤ d.room) && !((getM L n).isNone && decide (64 ≤ L.length))) := by
  unfold fitsD
  rw [← perm_used hp, ← perm_get hp hn, ← hp.length_eq, getM_fsL]
  have h1 : (fsL L).length = L.length := by simp [fsL]
  rw [h1]
  cases getM L n <;> rfl
theorem full_ways {d : DiskD} {L : FilL} {n y : List UInt8} (hp : (fsL L).Perm d.now) (hn : (keysM (fsL L)).Nodup) (h : fitsD d n y = false) : (d.room < (usedF (fsL L) : Int) + (y.length : Int) ∧ getM L n = none) ∨ (d.room < (usedF (fsL L) : Int) + (y.length : Int) ∧ ∃ r, getM L n = some r) ∨ ((usedF (fsL L) : Int) + (y.length : Int) ≤ d.room ∧ getM L n = none ∧ 64 ≤ L.length) := by
  rw [fits_L hp hn] at h
  by_cases h1 : (usedF (fsL L) : Int) + (y.length : Int) ≤ d.room
  · right; right
    cases h2 : getM L n with
    | none => rw [h2] at h; simp [h1] at h; exact ⟨h1, rfl, h⟩
    | some r => rw [h2] at h; simp [h1] at h
  · cases h2 : getM L n with
    | none => exact .inl ⟨by omega, rfl⟩
    | some r => exact .inr (.inl ⟨by omega, r, rfl⟩)
theorem ok_ways {d : DiskD} {L : FilL} {n y : List UInt8} (hp : (fsL L).Perm d.now) (hn : (keysM (fsL L)).Nodup) (h : fitsD d n y = true) : (usedF (fsL L) : Int) + (y.length : Int) ≤ d.room ∧ ((∃ r, getM L n = some r) ∨ (getM L n = none ∧ L.length < 64)) := by
  rw [fits_L hp hn, Bool.and_eq_true, decide_eq_true_eq] at h
  refine ⟨h.1, ?_⟩
  cases h2 : getM L n with
  | none => right; have := h.2; rw [h2] at this; simp at this; exact ⟨rfl, this⟩
  | some r => exact .inl ⟨r, rfl⟩
theorem getM_L {d : DiskD} {L : FilL} (hp : (fsL L).Perm d.now) (hn : (keysM (fsL L)).Nodup) (n : List UInt8) : getM d.now n = (getM L n).map (·.2) := by rw [← perm_get hp hn, getM_fsL]
theorem filE_nodup_map {v : Value} {L : FilL} : ∀ rs, MapT encKey encFil v L rs → (keysM (fsL L)).Nodup := fun rs h => by rw [keys_fsL]; exact MapT.nodup _ h
theorem new_tell {p : Nat} {room : Int} {sm sh : Value} (hr : 0 ≤ room ∧ room ≤ 1048576) : ∀ rs, Parts [cell p 53 #[.int .i64 room, .int .i64 (-1), .bool false, .slice none 0 0, sm, sh], Vec 68 5 encO (.slice none 0 0) [], OpsE [], MapT encKey encFil sm [], FilE [], MapT encKey encFil sh [], FilE []] rs → ∃ z, rs.Perm z ∧ Parts [DiskT p (newD room)] z := fun rs hx => by
  obtain ⟨a1, _, rfl, h1, a2, _, rfl, h2, a3, _, rfl, h3, a4, _, rfl, h4, a5, a6, rfl, h5, h6⟩ := hx
  refine ⟨_, .refl _, Parts.one ⟨⟨.slice none 0 0, sm, sh, [], [], rfl, fun _ => .refl _, okOs_nil, (fun n h => by cases h), hr, names_nil⟩, ?_⟩⟩
  refine ⟨a1, _, rfl, h1, a2, _, rfl, h2, a3, _, rfl, h3, a4 ++ a5, a6, by simp, ⟨[], rfl, a4, a5, rfl, h4, Parts.one h5⟩, Parts.one ⟨[], rfl, h6⟩⟩
/-! ## Files copied -/
theorem fsL_erase {l : FilL} {j : Nat} {p : List UInt8 × PtT} (h : l[j]? = some p) : ((p.1, p.2.2) :: fsL (l.eraseIdx j)).Perm (fsL l) := by
  have hlt := (List.getElem?_eq_some_iff.1 h).1
  have hx := (List.getElem?_eq_some_iff.1 h).2
  have h1 : l = l.take j ++ p :: l.drop (j + 1) := by rw [← hx]; simp
  have h2 : (p :: l.eraseIdx j).Perm l := by
    rw [List.eraseIdx_eq_take_drop_succ]
    have h3 := (List.perm_middle (a := p) (l₁ := l.take j) (l₂ := l.drop (j + 1))).symm
    rw [← h1] at h3
    exact h3
  exact h2.map (fun p : List UInt8 × PtT => (p.1, p.2.2))
theorem copied_new {done left L : FilL} {j : Nat} {p : List UInt8 × PtT} (hn : (keysM (fsL L)).Nodup) (hp : (fsL done ++ fsL left).Perm (fsL L)) (hj : left[j]? = some p) : fnd p.1 done 0 = none := by
  have h1 : (keysM (fsL done ++ fsL left)).Nodup := (keys_perm' hp).nodup_iff.2 hn
  have h2 : keysM (fsL done ++ fsL left) = keysM done ++ keysM left := by rw [← keys_fsL done, ← keys_fsL left]; unfold keysM; rw [List.map_append]
  rw [h2] at h1
  cases h : fnd p.1 done 0 with
  | none => rfl
  | some q =>
    exfalso
    have h3 := (fnd_some h).2
    have h4 : p.1 ∈ keysM done := List.mem_map.2 ⟨_, List.mem_of_getElem? h3, rfl⟩
    have h5 : p.1 ∈ keysM left := List.mem_map.2 ⟨_, List.mem_of_getElem? hj, rfl⟩
    exact (List.nodup_append.1 h1).2.2 _ h4 _ h5 rfl
theorem copied_step {done left L : FilL} {j : Nat} {p : List UInt8 × PtT} {u : Value} (hp : (fsL done ++ fsL left).Perm (fsL L)) (hj : left[j]? = some p) (hf : fnd p.1 done 0 = none) : (fsL (putM done p.1 (u, p.2.2)) ++ fsL (left.eraseIdx j)).Perm (fsL L) := by
  have h1 : putM done p.1 (u, p.2.2) = done ++ [(p.1, (u, p.2.2))] := by unfold putM; rw [hf]
  have h2 : fsL (done ++ [(p.1, (u, p.2.2))]) = fsL done ++ [(p.1, p.2.2)] := by simp [fsL]
  rw [h1, h2, List.append_assoc]
  exact ((fsL_erase hj).append_left (fsL done)).trans hp
theorem copied_tell {v u : Value} {f : FS} {L M : FilL} (h : f = fsL L) : ∀ rs, Parts [MapT encKey encFil v L, FilE L, MapT encKey encFil u M, FilE M] rs → ∃ z, rs.Perm z ∧ Parts [FilesT v f, FilesT u (fsL M)] z := fun rs hr => by
  subst h
  obtain ⟨a, r, rfl, h1, b, r2, rfl, h2, h3⟩ := hr
  exact ⟨a ++ (b ++ r2), .refl _, a ++ b, r2, by simp, ⟨L, rfl, a, b, rfl, h1, Parts.one h2⟩, Parts.one ⟨M, rfl, h3⟩⟩
/-! ## What a crash leaves -/
def tornF (f : FS) (o : OpD) (torn : Int) : FS := match o with
  | .app n b => if (torn % (b.length : Int)).toNat = 0 ∨ b = [] then f else doneF f (.app n (b.take (torn % (b.length : Int)).toNat))
  | _ => f
theorem leftF_torn (d : DiskD) (keep torn : Int) : leftF d keep torn = match d.wait[keepD d keep]? with
  | some o => tornF ((d.wait.take (keepD d keep)).foldl doneF d.syn) o torn
  | none => (d.wait.take (keepD d keep)).foldl doneF d.syn := by
  unfold leftF tornF
  cases d.wait[keepD d keep]? with
  | none => rfl
  | some o => cases o <;> rfl
theorem torn_nil {f : FS} {o : OpD} {torn : Int} (h : o.data = []) : tornF f o torn = f := by
  cases o with
  | app n b => unfold tornF; simp only; rw [if_pos (.inr h)]
  | cut n s => rfl
  | ren a b => rfl
  | del n => rfl
theorem fold_take {l : List OpD} {i : Nat} {o : OpD} (h : l[i]? = some o) (f : FS) : (l.take (i + 1)).foldl doneF f = doneF ((l.take i).foldl doneF f) o := by
  rw [← take_push' h, List.foldl_append]; rfl

theorem settle_sizes {l : List OpD} {i : Nat} {o : OpD} {f : FS} {N : Nat} (hn : (keysM f).Nodup) (hok : okOs f l) (h : l[i]? = some o) (hs : usedF f + (l.map OpD.size).sum ≤ N) : usedF ((l.take i).foldl doneF f) + o.size ≤ N := by
  have h1 := used_all_le (l.take i) hn (okOs_take i hok)
  have h2 : ((l.take (i + 1)).map OpD.size).sum = ((l.take i).map OpD.size).sum + o.size := by rw [← take_push' h]; simp
  have h3 := size_take l (i + 1)
  omega
theorem names_torn {f : FS} {o : OpD} {torn : Int} (hf : (keysM f).Nodup) (h : namesF f) (ho : OkO f o) : namesF (tornF f o torn) := by
  cases o with
  | app n b =>
    unfold tornF
    simp only
    split
    · exact h
    · exact names_put hf h ho
  | cut n s => exact h
  | ren a b => exact h
  | del n => exact h
theorem names_left {d : DiskD} {keep torn : Int} (hn : (keysM d.syn).Nodup) (h : namesF d.syn) (ho : okOs d.syn d.wait) : namesF (leftF d keep torn) := by
  rw [leftF_torn]
  have h1 := names_all _ hn h (okOs_take (keepD d keep) ho)
  cases hw : d.wait[keepD d keep]? with
  | none => exact h1
  | some o => exact names_torn (nodup_all _ hn) h1 (okOs_at ho hw)
/-! ## What a fit disk has -/
theorem now_le {d : DiskD} (h : d.fit) (hn : (keysM d.syn).Nodup) (ho : okOs d.syn d.wait) : usedF d.now ≤ 1099511627776 := Nat.le_trans (used_all_le d.wait hn ho) h.1
theorem now_names {d : DiskD} (hn : (keysM d.syn).Nodup) (h : namesF d.syn) (ho : okOs d.syn d.wait) : namesF d.now := names_all d.wait hn h ho
theorem now_nodup {d : DiskD} (hn : (keysM d.syn).Nodup) : (keysM d.now).Nodup := nodup_all d.wait hn
theorem ops_len {d : DiskD} (x : DskU d) : x.W.length = d.wait.length := by rw [← x.hW]; simp [opsO]
/-- the lengths of an integer's division, and its remains -/
theorem emod_of_tmod {a m : Int} (hm : 0 < m) : a % m = if a.tmod m < 0 then a.tmod m + m else a.tmod m := by
  by_cases ha : 0 ≤ a
  · have h1 : a.tmod m = a % m := Int.tmod_eq_emod_of_nonneg ha
    have := Int.emod_nonneg a (show m ≠ 0 by omega)
    rw [h1, if_neg (by omega)]
  · have h1 := Int.tmod_eq_emod (a := a) (b := m)
    have h3 := Int.emod_nonneg a (show m ≠ 0 by omega)
    have h4 := Int.emod_lt_of_pos a hm
    by_cases hd : m ∣ a
    · have h5 : a % m = 0 := Int.emod_eq_zero_of_dvd hd
      have h6 : a.tmod m = 0 := by rw [h1, if_pos (.inr hd), h5]; simp
      rw [h5, h6]; simp
    · rw [if_neg (by simp [ha, hd])] at h1
      have h7 : (m.natAbs : Int) = m := by omega
      rw [h7] at h1
      have h8 : a % m ≠ 0 := fun e => hd (Int.dvd_of_emod_eq_zero e)
      rw [h1, if_pos (by omega)]; omega
end Go.Proofs.Ytjcfimmcogkopaa.Sep

namespace Go.Proofs.Ytjcfimmcogkopaa.Sep
open Go.RowKit
open Go.Proofs.Ytjcfimmcogkopaa.Mem (Dist Blk Chg below0)
section
variable {P : Program} {κ ν : Type} {kk : κ → Value} {vv : ν → Value} {B : Nat → Prop} {w0 w : World} {os : List Ass} {mt kt vt : TypeId} {n : Nat} {env : List (Nat × Value)} {Q : Exit → Act → World → Prop} {o : Oper} {act : Act}
theorem a_mmakeN {r : Operand} {k : IntKind} {q : Int} (ht : P.underlying mt = some (.map kt vt)) (ho : o.op = .makeMap mt (some r)) (hr : evs env r = some (.int k q)) : Acts P Q n env B w0 os o (fun g : Nat => .map (some g)) (fun g => MapT kk vv (.map (some g)) [] :: os) := fun act w hH hF K hK => by
  have hrun : (execOp act.eval o).run P w = .ok (.value (.map (some w.heap.size))) (w.alloc (.map #[] 0)) := by
    unfold execOp
    simp [ho, hF.evs hr, Instr.makeMap, run_underlying ht, asInt, asIntOf, newObj, Sem.run]
  obtain ⟨rs, h1, h2⟩ := hH
  exact a_val (w0 := w) act hrun (hK w.heap.size _ ⟨_, ⟨[(w.heap.size, none, mapC #[] 0)], rs, rfl, ⟨w.heap.size, #[], 0, rfl, rfl, mapL_nil⟩, h1⟩, mem_newObj h2 _ (rowx_map.2 (heap_alloc_new w _))⟩)
end
section
variable {P : Program} {κ : Type} [DecidableEq κ] {kk : κ → Value} {w : World} {mt kt vt : TypeId} {kd : TypeDesc} {z : Value} {n : Nat} {env : List (Nat × Value)} {o : Oper} {act : Act}
theorem e_mget0 (hT : MapTy P mt kt vt kd kk z) {x y : Operand} (ho : o.op = .lookup mt x y false) {k : κ} (hx : evs env x = some (.map none)) (hy : evs env y = some (kk k)) (hF : Fr n act env) : (execOp act.eval o).run P w = .ok (.value z) w := by
  unfold execOp
  simp only [ho, hF.evs hx, hF.evs hy, Sem.run_bind, run_lookup_nil hT, Result.andThen_ok, Sem.run_pure, Bool.false_eq_true, if_false]
theorem e_mhas0 (hT : MapTy P mt kt vt kd kk z) {x y : Operand} (ho : o.op = .lookup mt x y true) {k : κ} (hx : evs env x = some (.map none)) (hy : evs env y = some (kk k)) (hF : Fr n act env) : (execOp act.eval o).run P w = .ok (.value (.tuple #[z, .bool false])) w := by
  unfold execOp
  simp only [ho, hF.evs hx, hF.evs hy, Sem.run_bind, run_lookup_nil hT, Result.andThen_ok, Sem.run_pure, if_true]
end
end Go.Proofs.Ytjcfimmcogkopaa.Sep

namespace Go.Proofs.Ytjcfimmcogkopaa.Sep
open Go.RowKit
open Go.Proofs.Ytjcfimmcogkopaa.Mem (Dist Blk Chg below0)
def flK : List ((Nat × Nat) × Nat) := flS
theorem hflK : Flds Try.prog flK := hflS
end Go.Proofs.Ytjcfimmcogkopaa.Sep

namespace Go.Proofs.Ytjcfimmcogkopaa.Sep
open Go.RowKit
open Go.Proofs.Ytjcfimmcogkopaa.Mem (Dist Blk Chg below0)

set_option maxRecDepth 100000 in
theorem roomMay_ok (w : World) (room : Int) (h : 0 ≤ room ∧ room ≤ 1048576) : Calls Try.prog 16 #[.int .i64 room] w fun e w' => e = .returned (.bool true) ∧ Below w.heap.size w w' := by
  refine d_in (args := [.int .i64 room]) 9 Try.func16 rfl rfl rfl ?_
  refine d_reg ?_
  refine h_q hflS rfl ?_
  refine h_done (d_reg ?_)
  refine h_q hflS rfl ?_
  refine h_val rfl (.bool true) (fun b w hb hH => exec_cmp rfl rfl rfl (cmp_geq_t (by omega)) hb) ?_
  refine h_q hflS rfl ?_
  refine h_val rfl (.bool true) (fun b w hb hH => exec_cmp rfl rfl rfl (cmp_leq_t (by omega)) hb) ?_
  refine h_q hflS rfl ?_
  refine h_done (d_ret ?_)
  exact f_fin1 (.tmp rfl) (fun w h => ⟨rfl, below0 h.up⟩) rfl

theorem nameB_iff (n : List UInt8) : nameB n = true ↔ 1 ≤ n.length ∧ n.length ≤ 16 := by simp [nameB]
theorem nameB_no (n : List UInt8) : nameB n = false ↔ ¬ (1 ≤ n.length ∧ n.length ≤ 16) := by rw [← nameB_iff]; simp

set_option maxRecDepth 100000 in
theorem nameMay_ok (w : World) (n : List UInt8) (h : nameB n = true) : Calls Try.prog 36 #[.string (bs n)] w fun e w' => e = .returned (.bool true) ∧ Below w.heap.size w w' := by
  have h := (nameB_iff n).1 h
  refine d_in (args := [.string (bs n)]) 11 Try.func36 rfl rfl rfl ?_
  refine d_reg ?_
  refine h_q hflS rfl ?_
  refine h_done (d_reg ?_)
  refine h_q hflS rfl ?_
  refine h_val rfl (.int .i64 (n.length : Int)) (fun b w hb hH => exec_builtin2 rfl rfl (fun cs => (fun w cs => run_len_bs Try.underlying9 _ _ w cs) w cs) hb) ?_
  refine h_val rfl (.bool true) (fun b w hb hH => exec_cmp rfl rfl rfl (cmp_geq_t (by omega)) hb) ?_
  refine h_q hflS rfl ?_
  refine h_val rfl (.int .i64 (n.length : Int)) (fun b w hb hH => exec_builtin2 rfl rfl (fun cs => (fun w cs => run_len_bs Try.underlying9 _ _ w cs) w cs) hb) ?_
  refine h_val rfl (.bool true) (fun b w hb hH => exec_cmp rfl rfl rfl (cmp_leq_t (by omega)) hb) ?_
  refine h_q hflS rfl ?_
  refine h_done (d_ret ?_)
  exact f_fin1 (.tmp rfl) (fun w h => ⟨rfl, below0 h.up⟩) rfl

set_option maxRecDepth 100000 in
theorem nameMay_no (w : World) (n : List UInt8) (h : nameB n = false) : Calls Try.prog 36 #[.string (bs n)] w fun e w' => e = .returned (.bool false) ∧ Below w.heap.size w w' := by
  have h := (nameB_no n).1 h
  refine d_in (args := [.string (bs n)]) 11 Try.func36 rfl rfl rfl ?_
  refine d_reg ?_
  refine h_q hflS rfl ?_
  refine h_done ?_
  rcases Nat.lt_or_ge n.length 1 with h0 | h0
  · skip
    refine d_reg ?_
    refine h_q hflS rfl ?_
    refine h_val rfl (.int .i64 (n.length : Int)) (fun b w hb hH => exec_builtin2 rfl rfl (fun cs => (fun w cs => run_len_bs Try.underlying9 _ _ w cs) w cs) hb) ?_
    refine h_val rfl (.bool false) (fun b w hb hH => exec_cmp rfl rfl rfl (cmp_geq_f (by omega)) hb) ?_
    refine h_q hflS rfl ?_
    refine h_done (d_ret ?_)
    exact f_fin1 (.tmp rfl) (fun w h => ⟨rfl, below0 h.up⟩) rfl
  · skip
    refine d_reg ?_
    refine h_q hflS rfl ?_
    refine h_val rfl (.int .i64 (n.length : Int)) (fun b w hb hH => exec_builtin2 rfl rfl (fun cs => (fun w cs => run_len_bs Try.underlying9 _ _ w cs) w cs) hb) ?_
    refine h_val rfl (.bool true) (fun b w hb hH => exec_cmp rfl rfl rfl (cmp_geq_t (by omega)) hb) ?_
    refine h_q hflS rfl ?_
    refine h_val rfl (.int .i64 (n.length : Int)) (fun b w hb hH => exec_builtin2 rfl rfl (fun cs => (fun w cs => run_len_bs Try.underlying9 _ _ w cs) w cs) hb) ?_
    refine h_val rfl (.bool false) (fun b w hb hH => exec_cmp rfl rfl rfl (cmp_leq_f (by omega)) hb) ?_
    refine h_q hflS rfl ?_
    refine h_done (d_ret ?_)
    exact f_fin1 (.tmp rfl) (fun w h => ⟨rfl, below0 h.up⟩) rfl

set_option maxRecDepth 100000 in
theorem modulo_any (w : World) (a m r : Int) (hm : 0 < m) (h1 : m ≤ 9223372036854775807) (hr : a % m = r) : Calls Try.prog 28 #[.int .i64 a, .int .i64 m] w fun e w' => e = .returned (.int .i64 r) ∧ Below w.heap.size w w' := by
  have he := emod_of_tmod (a := a) hm
  have h2 := Int.emod_nonneg a (show m ≠ 0 by omega)
  have h3 := Int.emod_lt_of_pos a hm
  obtain ⟨t, ht⟩ : ∃ t, a.tmod m = t := ⟨_, rfl⟩
  rw [ht, hr] at he
  rw [hr] at h2 h3
  refine d_in (args := [.int .i64 a, .int .i64 m]) 14 Try.func28 rfl rfl rfl ?_
  refine d_reg ?_
  refine h_q hflS rfl ?_
  refine h_done (d_reg ?_)
  refine h_q hflS rfl ?_
  refine h_val rfl (.int .i64 t) (fun b w hb hH => exec_remI rfl rfl rfl (by omega) ht hb) ?_
  refine h_q hflS rfl ?_
  refine h_done (d_seq ?_)
  rcases Int.lt_or_le t 0 with h0 | h0
  · skip
    rw [if_pos h0] at he
    refine d_reg ?_
    refine h_q hflS rfl ?_
    refine h_val rfl (.bool true) (fun b w hb hH => exec_cmp rfl rfl rfl (cmp_lss_t (by omega)) hb) ?_
    refine h_done (d_then rfl (d_reg1 ?_))
    refine h_q hflS rfl ?_
    refine h_val rfl (.int .i64 r) (fun b w hb hH => exec_ar rfl rfl rfl rfl (by rw [IntWalk.i64_in _ (by omega)]; omega) hb) ?_
    refine h_q hflS rfl ?_
    refine h_nil (f_to (d_reg ?_))
    refine h_q hflS rfl ?_
    refine h_done (d_ret ?_)
    exact f_fin1 (.tmp rfl) (fun w h => ⟨rfl, below0 h.up⟩) rfl
  · skip
    rw [if_neg (by omega)] at he
    subst he
    refine d_reg ?_
    refine h_q hflS rfl ?_
    refine h_val rfl (.bool false) (fun b w hb hH => exec_cmp rfl rfl rfl (cmp_lss_f (by omega)) hb) ?_
    refine h_done (d_else rfl (d_skip (f_to (d_reg ?_))))
    refine h_q hflS rfl ?_
    refine h_done (d_ret ?_)
    exact f_fin1 (.tmp rfl) (fun w h => ⟨rfl, below0 h.up⟩) rfl

set_option maxRecDepth 100000 in
theorem has_t (v : Value) (l : FilL) (n : List UInt8) (r : Option PtT) (h : getM l n = r) : Does Try.prog 33 #[v, .string (bs n)] [MapT encKey encFil v l] (fun (_ : Unit) => .bool r.isSome) (fun (_ : Unit) => [MapT encKey encFil v l]) := by
  refine d_ins (args := [v, .string (bs n)]) 14 Try.func33 rfl rfl rfl ?_; intro w rs
  refine d_reg ?_
  refine h_q hflK rfl ?_
  refine h_done (d_reg ?_)
  refine h_q hflK rfl ?_
  refine h_val rfl (.tuple #[((r).map encFil).getD (.slice none 0 0), .bool ((r).isSome)]) (fun b w hb hH => e_mhas 0 mapTyF rfl (k := n) (r := r) h rfl rfl rfl hH hb) ?_
  refine h_q hflK rfl ?_
  refine h_done (d_reg ?_)
  refine h_q hflK rfl ?_
  refine h_done (d_ret ?_)
  exact f_fin1 (.tmp rfl) (fun w h => tells () rfl [0] rfl h same_parts) rfl

set_option maxRecDepth 100000 in
theorem has_nil (n : List UInt8) : Does Try.prog 33 #[.map none, .string (bs n)] [] (fun (_ : Unit) => .bool false) (fun (_ : Unit) => []) := by
  refine d_ins (args := [.map none, .string (bs n)]) 14 Try.func33 rfl rfl rfl ?_; intro w rs
  refine d_reg ?_
  refine h_q hflK rfl ?_
  refine h_done (d_reg ?_)
  refine h_q hflK rfl ?_
  refine h_val rfl (.tuple #[.slice none 0 0, .bool false]) (fun b w hb hH => e_mhas0 mapTyF rfl (k := n) rfl rfl hb) ?_
  refine h_q hflK rfl ?_
  refine h_done (d_reg ?_)
  refine h_q hflK rfl ?_
  refine h_done (d_ret ?_)
  exact f_fin1 (.tmp rfl) (fun w h => tells () rfl [] rfl h same_parts) rfl

set_option maxRecDepth 100000 in
theorem used_t (p : Nat) (r1 r2 r3 sm fm pv : Value) (l : FilL) (hl : usedF (fsL l) ≤ 1099511627776) : Does Try.prog 37 #[.pointer (some ⟨p, 0, none⟩)] [cell p 53 #[r1, r2, r3, pv, sm, fm], MapT encKey encFil fm l, FilE l] (fun (_ : Unit) => .int .i64 ((usedF (fsL l) : Nat) : Int)) (fun (_ : Unit) => [cell p 53 #[r1, r2, r3, pv, sm, fm], MapT encKey encFil fm l, FilE l]) := by
  refine d_ins (args := [.pointer (some ⟨p, 0, none⟩)]) 20 Try.func37 rfl rfl rfl ?_; intro w rs
  refine d_reg ?_
  refine h_q hflK rfl ?_
  refine h_done (d_reg ?_)
  refine h_q hflK rfl ?_
  refine h_done (d_seq (d_reg ?_))
  refine h_q hflK rfl ?_
  refine h_val rfl (.pointer (some ⟨p, 0, none⟩)) (fun b w hb hH => by exact exec_nilCheck rfl rfl hb) ?_
  refine h_q hflK rfl ?_
  refine h_val rfl (fm) (fun b w hb hH => exec_load rfl rfl (reads_one ty_disk_files rfl) (hH.row 0 rfl) hb) ?_
  refine h_act (post := fun g1 => [cell p 53 #[r1, r2, r3, pv, sm, fm], RngT encKey encFil fm (.pointer (some ⟨g1, 0, none⟩)) l l none, FilE l]) rfl (a_range 1 Try.underlying50 rfl rfl rfl) ?_; rintro g1
  refine h_done (d_block ?_)
  refine d_loop (α := Nat × FilL × Option (List UInt8 × PtT)) (fun ⟨n, left, cur⟩ => [(2, .int .i64 0), (3, .int .i64 ((n : Nat) : Int)), (10, .pointer (some ⟨g1, 0, none⟩))]) (fun ⟨n, left, cur⟩ => [cell p 53 #[r1, r2, r3, pv, sm, fm], RngT encKey encFil fm (.pointer (some ⟨g1, 0, none⟩)) l left cur, FilE l]) (fun ⟨n, left, cur⟩ => n + usedF (fsL left) = usedF (fsL l) ∧ ∀ p, p ∈ left → p ∈ l) (fun ⟨n, left, cur⟩ => left.length) (0, l, none) ⟨Nat.zero_add _, fun _ h => h⟩ ⟨rfl, rfl, rfl, trivial⟩ rfl ?_
  rintro ⟨n, left, cur⟩ hI
  refine WC2.at_ (env' := [(2, .int .i64 0), (3, .int .i64 ((n : Nat) : Int)), (10, .pointer (some ⟨g1, 0, none⟩))]) (rs' := [cell p 53 #[r1, r2, r3, pv, sm, fm], RngT encKey encFil fm (.pointer (some ⟨g1, 0, none⟩)) l left cur, FilE l]) ⟨rfl, rfl, rfl, trivial⟩ rfl ?_
  have hI1 : n + usedF (fsL left) = usedF (fsL l) := hI.1
  rcases Classical.em (left = []) with hc | hc
  · skip
    have hn : n = usedF (fsL l) := by rw [hc] at hI1; simpa [fsL, usedF] using hI1
    refine d_reg ?_
    refine h_q hflK rfl ?_
    refine h_val rfl (.tuple #[.bool false]) (fun b w hb hH => e_next0 1 rfl hc rfl rfl hH hb) ?_
    refine h_q hflK rfl ?_
    refine h_done (d_seq (d_else rfl (d_exit (f_then_exit (f_then_exit (f_block_exit (f_to ?_)))))))
    refine d_open 1 rfl rng_close (fun _ => rfl) ?_; rintro ⟨⟩
    refine WC2.leave [1] rfl rfl ?_
    refine d_reg ?_
    refine h_q hflK rfl ?_
    refine h_done (d_ret ?_)
    exact f_fin1 (.tmp rfl) (fun w h => tells () (by rw [hn]) [1, 0, 2] rfl h same_parts) rfl
  · skip
    refine d_reg ?_
    refine h_q hflK rfl ?_
    refine h_act (post := fun q : { q : Nat × List UInt8 × PtT // (left)[q.1]? = some q.2 } => [cell p 53 #[r1, r2, r3, pv, sm, fm], RngT encKey encFil fm (.pointer (some ⟨g1, 0, none⟩)) l (left.eraseIdx q.1.1) (some (q.1.2.1, q.1.2.2)), FilE l]) rfl (a_next1 1 rfl hc rfl rfl) ?_; rintro q
    refine h_q hflK rfl ?_
    refine h_done (d_seq (d_then rfl (d_skip (f_to (d_block ?_)))))
    have hqm : q.1.2 ∈ l := hI.2 _ (List.mem_of_getElem? q.2)
    have hqu : usedF (fsL (left.eraseIdx q.1.1)) + q.1.2.2.2.length = usedF (fsL left) := used_erase q.2
    refine d_reg ?_
    refine h_q hflK rfl ?_
    refine h_val rfl (.tuple #[.string (bs q.1.2.1), q.1.2.2.1]) (fun b w hb hH => e_entry 1 rfl rfl rfl hH hb) ?_
    refine h_q hflK rfl ?_
    refine h_done (d_reg1 ?_)
    refine h_q hflK rfl ?_
    refine h_val rfl (.int .i64 (q.1.2.2.2.length : Int)) (fun b w hb hH => e_slen ((hH.rd8 2 rfl (rd8_fil hqm)).rd) Try.underlying29 rfl rfl hb) ?_
    refine h_val rfl (.int .i64 ((n + q.1.2.2.2.length : Nat) : Int)) (fun b w hb hH => exec_ar rfl rfl rfl rfl (by rw [IntWalk.i64_in _ (by omega)]; omega) hb) ?_
    refine h_q hflK rfl ?_
    refine h_nil (f_block ?_)
    exact f_again (n + q.1.2.2.2.length, left.eraseIdx q.1.1, some (q.1.2.1, q.1.2.2)) 0 ⟨by omega, fun p hp => hI.2 p (List.mem_of_mem_eraseIdx hp)⟩ (show (left.eraseIdx q.1.1).length < left.length from erase_less q.2) ⟨rfl, rfl, rfl, trivial⟩ rfl
end Go.Proofs.Ytjcfimmcogkopaa.Sep

namespace Go.Proofs.Ytjcfimmcogkopaa.Sep
open Go.RowKit
open Go.Proofs.Ytjcfimmcogkopaa.Mem (Dist Blk Chg below0)

set_option maxRecDepth 100000 in
theorem do_app {X : Ass} {v : Value} {f f' : FS} {n b : List UInt8} {A : Option Addr} {c : Nat} (hX : Rd8 X (.slice A b.length c) b) (hl : usedF f + b.length ≤ 4398046511104) (h : doneF f (.app n b) = f') : Does Try.prog 46 #[v, .agg #[.int .i64 0, .string (bs n), .slice A b.length c, .int .i64 0, .string (bs ([]))]] [FilesT v f, X] (fun (_ : Unit) => .tuple #[]) (fun (_ : Unit) => [FilesT v f', X]) := by
  have h_ := h
  refine d_ins (args := [v, .agg #[.int .i64 0, .string (bs n), .slice A b.length c, .int .i64 0, .string (bs ([]))]]) 49 Try.func46 rfl rfl rfl ?_; intro w rs
  refine WC2.fact 0 rfl filesT_nodup ?_; rintro hnd
  refine d_open 0 rfl files_open (fun _ => rfl) ?_; rintro ⟨L, hL⟩
  subst hL
  refine d_reg ?_
  refine h_q hflK rfl ?_
  refine h_act (post := fun g1 => [cell g1 68 #[.int .i64 0, .string (bs n), .slice A b.length c, .int .i64 0, .string (bs ([]))], MapT encKey encFil v L, FilE L, X]) rfl (a_box (cs := #[.int .i64 0, .string (bs n), .slice A b.length c, .int .i64 0, .string (bs ([]))]) rfl rfl rfl) ?_; rintro g1
  refine h_done (d_reg ?_)
  refine h_q hflK rfl ?_
  refine h_val rfl (.int .i64 0) (fun b w hb hH => exec_load rfl rfl (reads_one ty_disk_kind rfl) (hH.row 0 rfl) hb) ?_
  refine h_done (d_block (d_reg ?_))
  refine h_q hflK rfl ?_
  refine h_val rfl (.bool true) (fun b w hb hH => exec_cmp rfl rfl rfl (cmp_eql_t (by decide)) hb) ?_
  refine h_q hflK rfl ?_
  refine h_done (d_then rfl ?_)
  rcases hq : fnd n L 0 with _ | q
  · skip
    refine d_nilvec 5 1 encB ?_
    refine d_parS 10 1 [⟨.quiet, [none], fun _ => v, []⟩, ⟨.quiet, [none], fun _ => .pointer (some ⟨g1, 1, none⟩), []⟩, ⟨.quiet, [none], fun _ => .string (bs n), [1]⟩, ⟨.quiet, [none], fun _ => v, []⟩, ⟨.quiet, [none], fun _ => .pointer (some ⟨g1, 1, none⟩), []⟩, ⟨.quiet, [none], fun _ => .string (bs n), [4]⟩, ⟨.quiet, [none], fun _ => .slice none 0 0, [3, 5]⟩, ⟨.quiet, [none], fun _ => .pointer (some ⟨g1, 2, none⟩), []⟩, ⟨.quiet, [none], fun _ => .slice A b.length c, [7]⟩, ⟨.act 0, [some false], fun _ => undef, [6, 8]⟩] [(0, v), (3, .pointer (some ⟨g1, 0, none⟩))] (fun ρ => match ρ with | [r0] => [selS r0 (fun u => Vec 5 1 encB u b) (Vec 5 1 encB (.slice none 0 0) ([])), cell g1 68 #[.int .i64 0, .string (bs n), .slice A b.length c, .int .i64 0, .string (bs ([]))], MapT encKey encFil v L, FilE L, X] | _ => []) (by kernel_rfl) (by kernel_rfl) ⟨rfl, rfl, trivial⟩ rfl ?_ ?_
    · skip
      refine s_cons (by intro r0_; exact ⟨rfl, fun b w hH hb => exec_q1 hflK rfl hb⟩) ?_
      refine s_cons (by intro r0_; exact ⟨rfl, fun b w hH hb => exec_q1 hflK rfl hb⟩) ?_
      refine s_cons (by intro r0_; exact ⟨rfl, fun b w hH hb => exec_load rfl rfl (reads_one ty_string rfl) (hH.row 1 rfl) hb⟩) ?_
      refine s_cons (by intro r0_; exact ⟨rfl, fun b w hH hb => exec_q1 hflK rfl hb⟩) ?_
      refine s_cons (by intro r0_; exact ⟨rfl, fun b w hH hb => exec_q1 hflK rfl hb⟩) ?_
      refine s_cons (by intro r0_; exact ⟨rfl, fun b w hH hb => exec_load rfl rfl (reads_one ty_string rfl) (hH.row 1 rfl) hb⟩) ?_
      refine s_cons (by intro r0_; exact ⟨rfl, fun b w hH hb => e_mget 2 mapTyF rfl (k := n) (r := none) (get_none hq) rfl rfl rfl hH hb⟩) ?_
      refine s_cons (by intro r0_; exact ⟨rfl, fun b w hH hb => exec_q1 hflK rfl hb⟩) ?_
      refine s_cons (by intro r0_; exact ⟨rfl, fun b w hH hb => exec_load rfl rfl (reads_one ty_s_uint8 rfl) (hH.row 1 rfl) hb⟩) ?_
      refine s_cons (by exact ⟨rfl, Acts.s (a_append8 0 sl_uint8 (by kernel_rfl) rfl (b) (fun w hH => hH.rd 4 rfl hX.rd) (by simp only [List.length_nil]; omega) rfl rfl rfl (List.nil_append _)) (fun _ => rfl)⟩) ?_
      exact s_nil
    intro u
    refine WL2.keep (env' := [(9, v), (11, .string (bs n)), (18, u)]) ⟨rfl, rfl, rfl, trivial⟩ ?_
    refine h_q hflK rfl ?_
    refine h_acts (post := fun _ => [Vec 5 1 encB u b, cell g1 68 #[.int .i64 0, .string (bs n), .slice A b.length c, .int .i64 0, .string (bs ([]))], MapT encKey encFil v (putM L n (u, b)), FilE L, X]) rfl rfl (a_mput 2 mapTyF rfl n (u, b) rfl rfl rfl rfl rfl rfl) ?_; rintro ⟨⟩
    refine h_nil (f_block ?_)
    exact f_fin0n  (fun w h => tells () rfl [2, 3, 0, 4] rfl h (files_new hq (h_.symm.trans (app_none hq)))) rfl
  · skip
    refine d_open 2 rfl (fil_open hq) (fun _ => rfl) ?_; rintro ⟨⟩
    have hle : q.2.2.length ≤ usedF (fsL L) := used_get hnd (by rw [getM_fsL, get_some hq]; rfl)
    refine d_parS 10 1 [⟨.quiet, [none], fun _ => v, []⟩, ⟨.quiet, [none], fun _ => .pointer (some ⟨g1, 1, none⟩), []⟩, ⟨.quiet, [none], fun _ => .string (bs n), [1]⟩, ⟨.quiet, [none], fun _ => v, []⟩, ⟨.quiet, [none], fun _ => .pointer (some ⟨g1, 1, none⟩), []⟩, ⟨.quiet, [none], fun _ => .string (bs n), [4]⟩, ⟨.quiet, [none], fun _ => q.2.1, [3, 5]⟩, ⟨.quiet, [none], fun _ => .pointer (some ⟨g1, 2, none⟩), []⟩, ⟨.quiet, [none], fun _ => .slice A b.length c, [7]⟩, ⟨.act 0, [some false], fun _ => undef, [6, 8]⟩] [(0, v), (3, .pointer (some ⟨g1, 0, none⟩))] (fun ρ => match ρ with | [r0] => [FilE (L.take q.1), selS r0 (fun u => Vec 5 1 encB u (q.2.2 ++ b)) (Vec 5 1 encB q.2.1 q.2.2), FilE (L.drop (q.1 + 1)), cell g1 68 #[.int .i64 0, .string (bs n), .slice A b.length c, .int .i64 0, .string (bs ([]))], MapT encKey encFil v L, X] | _ => []) (by kernel_rfl) (by kernel_rfl) ⟨rfl, rfl, trivial⟩ rfl ?_ ?_
    · skip
      refine s_cons (by intro r0_; exact ⟨rfl, fun b w hH hb => exec_q1 hflK rfl hb⟩) ?_
      refine s_cons (by intro r0_; exact ⟨rfl, fun b w hH hb => exec_q1 hflK rfl hb⟩) ?_
      refine s_cons (by intro r0_; exact ⟨rfl, fun b w hH hb => exec_load rfl rfl (reads_one ty_string rfl) (hH.row 3 rfl) hb⟩) ?_
      refine s_cons (by intro r0_; exact ⟨rfl, fun b w hH hb => exec_q1 hflK rfl hb⟩) ?_
      refine s_cons (by intro r0_; exact ⟨rfl, fun b w hH hb => exec_q1 hflK rfl hb⟩) ?_
      refine s_cons (by intro r0_; exact ⟨rfl, fun b w hH hb => exec_load rfl rfl (reads_one ty_string rfl) (hH.row 3 rfl) hb⟩) ?_
      refine s_cons (by intro r0_; exact ⟨rfl, fun b w hH hb => e_mget 4 mapTyF rfl (k := n) (r := some q.2) (get_some hq) rfl rfl rfl hH hb⟩) ?_
      refine s_cons (by intro r0_; exact ⟨rfl, fun b w hH hb => exec_q1 hflK rfl hb⟩) ?_
      refine s_cons (by intro r0_; exact ⟨rfl, fun b w hH hb => exec_load rfl rfl (reads_one ty_s_uint8 rfl) (hH.row 3 rfl) hb⟩) ?_
      refine s_cons (by exact ⟨rfl, Acts.s (a_append8 1 sl_uint8 (by kernel_rfl) rfl (b) (fun w hH => hH.rd 5 rfl hX.rd) (by omega) rfl rfl rfl rfl) (fun _ => rfl)⟩) ?_
      exact s_nil
    intro u
    refine WL2.keep (env' := [(9, v), (11, .string (bs n)), (18, u)]) ⟨rfl, rfl, rfl, trivial⟩ ?_
    refine h_q hflK rfl ?_
    refine h_acts (post := fun _ => [FilE (L.take q.1), Vec 5 1 encB u (q.2.2 ++ b), FilE (L.drop (q.1 + 1)), cell g1 68 #[.int .i64 0, .string (bs n), .slice A b.length c, .int .i64 0, .string (bs ([]))], MapT encKey encFil v (putM L n (u, q.2.2 ++ b)), X]) rfl rfl (a_mput 4 mapTyF rfl n (u, q.2.2 ++ b) rfl rfl rfl rfl rfl rfl) ?_; rintro ⟨⟩
    refine h_nil (f_block ?_)
    exact f_fin0n  (fun w h => tells () rfl [4, 0, 1, 2, 5] rfl h (files_put hq (h_.symm.trans (app_some hq)))) rfl

set_option maxRecDepth 100000 in
theorem do_del {X : Ass} {v : Value} {f f' : FS} {n : List UInt8} {A : Option Addr} {c : Nat} (h : doneF f (.del n) = f') : Does Try.prog 46 #[v, .agg #[.int .i64 3, .string (bs n), .slice A 0 c, .int .i64 0, .string (bs ([]))]] [FilesT v f, X] (fun (_ : Unit) => .tuple #[]) (fun (_ : Unit) => [FilesT v f', X]) := by
  have h_ := h
  refine d_ins (args := [v, .agg #[.int .i64 3, .string (bs n), .slice A 0 c, .int .i64 0, .string (bs ([]))]]) 49 Try.func46 rfl rfl rfl ?_; intro w rs
  refine d_open 0 rfl files_open (fun _ => rfl) ?_; rintro ⟨L, hL⟩
  subst hL
  refine d_reg ?_
  refine h_q hflK rfl ?_
  refine h_act (post := fun g1 => [cell g1 68 #[.int .i64 3, .string (bs n), .slice A 0 c, .int .i64 0, .string (bs ([]))], MapT encKey encFil v L, FilE L, X]) rfl (a_box (cs := #[.int .i64 3, .string (bs n), .slice A 0 c, .int .i64 0, .string (bs ([]))]) rfl rfl rfl) ?_; rintro g1
  refine h_done (d_reg ?_)
  refine h_q hflK rfl ?_
  refine h_val rfl (.int .i64 3) (fun b w hb hH => exec_load rfl rfl (reads_one ty_disk_kind rfl) (hH.row 0 rfl) hb) ?_
  refine h_done (d_block (d_reg ?_))
  refine h_q hflK rfl ?_
  refine h_val rfl (.bool false) (fun b w hb hH => exec_cmp rfl rfl rfl (cmp_eql_f (by decide)) hb) ?_
  refine h_q hflK rfl ?_
  refine h_done (d_else rfl (d_reg ?_))
  refine h_q hflK rfl ?_
  refine h_val rfl (.bool false) (fun b w hb hH => exec_cmp rfl rfl rfl (cmp_eql_f (by decide)) hb) ?_
  refine h_q hflK rfl ?_
  refine h_done (d_else rfl (d_reg ?_))
  refine h_q hflK rfl ?_
  refine h_val rfl (.bool false) (fun b w hb hH => exec_cmp rfl rfl rfl (cmp_eql_f (by decide)) hb) ?_
  refine h_q hflK rfl ?_
  refine h_done (d_else rfl (d_reg ?_))
  refine h_q hflK rfl ?_
  refine h_val rfl (.bool true) (fun b w hb hH => exec_cmp rfl rfl rfl (cmp_eql_t (by decide)) hb) ?_
  refine h_q hflK rfl ?_
  refine h_done (d_then rfl ?_)
  rcases hq : fnd n L 0 with _ | q
  · skip
    have h1_ := h_.symm.trans (del_fil.trans (by rw [delM_none hq]))
    refine d_reg1 ?_
    refine h_q hflK rfl ?_
    refine h_val rfl (.string (bs n)) (fun b w hb hH => exec_load rfl rfl (reads_one ty_string rfl) (hH.row 0 rfl) hb) ?_
    refine h_acts (post := fun _ => [cell g1 68 #[.int .i64 3, .string (bs n), .slice A 0 c, .int .i64 0, .string (bs ([]))], MapT encKey encFil v L, FilE L, X]) rfl rfl (a_mdel 1 mapTyF rfl n rfl rfl rfl (delM_none hq)) ?_; rintro ⟨⟩
    refine h_nil (f_block ?_)
    exact f_fin0n  (fun w h => tells () rfl [1, 2, 3] rfl h (files_tell h1_)) rfl
  · skip
    refine d_open 2 rfl (fil_open hq) (fun _ => rfl) ?_; rintro ⟨⟩
    refine d_reg1 ?_
    refine h_q hflK rfl ?_
    refine h_val rfl (.string (bs n)) (fun b w hb hH => exec_load rfl rfl (reads_one ty_string rfl) (hH.row 3 rfl) hb) ?_
    refine h_acts (post := fun _ => [FilE (L.take q.1), Vec 5 1 encB q.2.1 q.2.2, FilE (L.drop (q.1 + 1)), cell g1 68 #[.int .i64 3, .string (bs n), .slice A 0 c, .int .i64 0, .string (bs ([]))], MapT encKey encFil v (delM L n), X]) rfl rfl (a_mdel 4 mapTyF rfl n rfl rfl rfl rfl) ?_; rintro ⟨⟩
    refine h_nil (f_block ?_)
    exact f_fin0n  (fun w h => tells () rfl [4, 0, 2, 5] rfl h (files_gone hq (h_.symm.trans del_fil))) rfl

set_option maxRecDepth 100000 in
theorem do_cut {X : Ass} {v : Value} {f f' : FS} {n x : List UInt8} {s : Nat} {A : Option Addr} {c : Nat} (hx : getM f n = some x) (hs : s ≤ x.length) (h : doneF f (.cut n s) = f') : Does Try.prog 46 #[v, .agg #[.int .i64 1, .string (bs n), .slice A 0 c, .int .i64 (s : Int), .string (bs ([]))]] [FilesT v f, X] (fun (_ : Unit) => .tuple #[]) (fun (_ : Unit) => [FilesT v f', X]) := by
  have h_ := h
  refine d_ins (args := [v, .agg #[.int .i64 1, .string (bs n), .slice A 0 c, .int .i64 (s : Int), .string (bs ([]))]]) 49 Try.func46 rfl rfl rfl ?_; intro w rs
  refine d_open 0 rfl files_open (fun _ => rfl) ?_; rintro ⟨L, hL⟩
  subst hL
  obtain ⟨q, hq, hqx⟩ := fnd_of_fs hx
  subst hqx
  refine d_reg ?_
  refine h_q hflK rfl ?_
  refine h_act (post := fun g1 => [cell g1 68 #[.int .i64 1, .string (bs n), .slice A 0 c, .int .i64 (s : Int), .string (bs ([]))], MapT encKey encFil v L, FilE L, X]) rfl (a_box (cs := #[.int .i64 1, .string (bs n), .slice A 0 c, .int .i64 (s : Int), .string (bs ([]))]) rfl rfl rfl) ?_; rintro g1
  refine h_done (d_reg ?_)
  refine h_q hflK rfl ?_
  refine h_val rfl (.int .i64 1) (fun b w hb hH => exec_load rfl rfl (reads_one ty_disk_kind rfl) (hH.row 0 rfl) hb) ?_
  refine h_done (d_block (d_reg ?_))
  refine h_q hflK rfl ?_
  refine h_val rfl (.bool false) (fun b w hb hH => exec_cmp rfl rfl rfl (cmp_eql_f (by decide)) hb) ?_
  refine h_q hflK rfl ?_
  refine h_done (d_else rfl (d_reg ?_))
  refine h_q hflK rfl ?_
  refine h_val rfl (.bool true) (fun b w hb hH => exec_cmp rfl rfl rfl (cmp_eql_t (by decide)) hb) ?_
  refine h_q hflK rfl ?_
  refine h_done (d_then rfl ?_)
  refine d_open 2 rfl (fil_open hq) (fun _ => rfl) ?_; rintro ⟨⟩
  refine d_parS 10 0 [⟨.quiet, [], fun _ => v, []⟩, ⟨.quiet, [], fun _ => .pointer (some ⟨g1, 1, none⟩), []⟩, ⟨.quiet, [], fun _ => .string (bs n), [1]⟩, ⟨.quiet, [], fun _ => v, []⟩, ⟨.quiet, [], fun _ => .pointer (some ⟨g1, 1, none⟩), []⟩, ⟨.quiet, [], fun _ => .string (bs n), [4]⟩, ⟨.quiet, [], fun _ => q.2.1, [3, 5]⟩, ⟨.quiet, [], fun _ => .pointer (some ⟨g1, 3, none⟩), []⟩, ⟨.quiet, [], fun _ => .int .i64 (s : Int), [7]⟩, ⟨.quiet, [], fun _ => subv 1 q.2.1 0 s, [6, 8]⟩] [(0, v), (3, .pointer (some ⟨g1, 0, none⟩))] (fun _ => [FilE (L.take q.1), Vec 5 1 encB q.2.1 q.2.2, FilE (L.drop (q.1 + 1)), cell g1 68 #[.int .i64 1, .string (bs n), .slice A 0 c, .int .i64 (s : Int), .string (bs ([]))], MapT encKey encFil v L, X]) (by kernel_rfl) (by kernel_rfl) ⟨rfl, rfl, trivial⟩ rfl ?_ ?_
  · skip
    refine s_cons (by exact ⟨rfl, fun b w hH hb => exec_q1 hflK rfl hb⟩) ?_
    refine s_cons (by exact ⟨rfl, fun b w hH hb => exec_q1 hflK rfl hb⟩) ?_
    refine s_cons (by exact ⟨rfl, fun b w hH hb => exec_load rfl rfl (reads_one ty_string rfl) (hH.row 3 rfl) hb⟩) ?_
    refine s_cons (by exact ⟨rfl, fun b w hH hb => exec_q1 hflK rfl hb⟩) ?_
    refine s_cons (by exact ⟨rfl, fun b w hH hb => exec_q1 hflK rfl hb⟩) ?_
    refine s_cons (by exact ⟨rfl, fun b w hH hb => exec_load rfl rfl (reads_one ty_string rfl) (hH.row 3 rfl) hb⟩) ?_
    refine s_cons (by exact ⟨rfl, fun b w hH hb => e_mget 4 mapTyF rfl (k := n) (r := some q.2) (get_some hq) rfl rfl rfl hH hb⟩) ?_
    refine s_cons (by exact ⟨rfl, fun b w hH hb => exec_q1 hflK rfl hb⟩) ?_
    refine s_cons (by exact ⟨rfl, fun b w hH hb => exec_load rfl rfl (reads_one ty_int rfl) (hH.row 3 rfl) hb⟩) ?_
    refine s_cons (by exact ⟨rfl, fun b w hH hb => e_vsub_hi 1 (b := s) sl_uint8 rfl hs rfl rfl rfl hH hb⟩) ?_
    exact s_nil
  refine WL2.keep (env' := [(21, v), (23, .string (bs n)), (30, subv 1 q.2.1 0 s)]) ⟨rfl, rfl, rfl, trivial⟩ ?_
  refine h_q hflK rfl ?_
  refine h_acts (post := fun _ => [FilE (L.take q.1), Vec 5 1 encB q.2.1 q.2.2, FilE (L.drop (q.1 + 1)), cell g1 68 #[.int .i64 1, .string (bs n), .slice A 0 c, .int .i64 (s : Int), .string (bs ([]))], MapT encKey encFil v (putM L n (subv 1 q.2.1 0 s, q.2.2.take s)), X]) rfl rfl (a_mput 4 mapTyF rfl n (subv 1 q.2.1 0 s, q.2.2.take s) rfl rfl rfl rfl rfl rfl) ?_; rintro ⟨⟩
  refine h_nil (f_block ?_)
  exact f_fin0n  (fun w h => tells () rfl [4, 0, 1, 2, 5] rfl h (files_cut hq hs (h_.symm.trans (cut_fil hq)))) rfl

set_option maxRecDepth 100000 in
theorem do_ren {X : Ass} {v : Value} {f f' : FS} {n m_ x : List UInt8} {A : Option Addr} {c : Nat} (hx : getM f n = some x) (h : doneF f (.ren n m_) = f') : Does Try.prog 46 #[v, .agg #[.int .i64 2, .string (bs n), .slice A 0 c, .int .i64 0, .string (bs m_)]] [FilesT v f, X] (fun (_ : Unit) => .tuple #[]) (fun (_ : Unit) => [FilesT v f', X]) := by
  have h_ := h
  refine d_ins (args := [v, .agg #[.int .i64 2, .string (bs n), .slice A 0 c, .int .i64 0, .string (bs m_)]]) 49 Try.func46 rfl rfl rfl ?_; intro w rs
  refine d_open 0 rfl files_open (fun _ => rfl) ?_; rintro ⟨L, hL⟩
  subst hL
  obtain ⟨q, hq, hqx⟩ := fnd_of_fs hx
  subst hqx
  refine d_reg ?_
  refine h_q hflK rfl ?_
  refine h_act (post := fun g1 => [cell g1 68 #[.int .i64 2, .string (bs n), .slice A 0 c, .int .i64 0, .string (bs m_)], MapT encKey encFil v L, FilE L, X]) rfl (a_box (cs := #[.int .i64 2, .string (bs n), .slice A 0 c, .int .i64 0, .string (bs m_)]) rfl rfl rfl) ?_; rintro g1
  refine h_done (d_reg ?_)
  refine h_q hflK rfl ?_
  refine h_val rfl (.int .i64 2) (fun b w hb hH => exec_load rfl rfl (reads_one ty_disk_kind rfl) (hH.row 0 rfl) hb) ?_
  refine h_done (d_block (d_reg ?_))
  refine h_q hflK rfl ?_
  refine h_val rfl (.bool false) (fun b w hb hH => exec_cmp rfl rfl rfl (cmp_eql_f (by decide)) hb) ?_
  refine h_q hflK rfl ?_
  refine h_done (d_else rfl (d_reg ?_))
  refine h_q hflK rfl ?_
  refine h_val rfl (.bool false) (fun b w hb hH => exec_cmp rfl rfl rfl (cmp_eql_f (by decide)) hb) ?_
  refine h_q hflK rfl ?_
  refine h_done (d_else rfl (d_reg ?_))
  refine h_q hflK rfl ?_
  refine h_val rfl (.bool true) (fun b w hb hH => exec_cmp rfl rfl rfl (cmp_eql_t (by decide)) hb) ?_
  refine h_q hflK rfl ?_
  refine h_done (d_then rfl ?_)
  refine d_open 2 rfl (fil_open hq) (fun _ => rfl) ?_; rintro ⟨⟩
  refine d_reg ?_
  refine h_q hflK rfl ?_
  refine h_val rfl (.string (bs n)) (fun b w hb hH => exec_load rfl rfl (reads_one ty_string rfl) (hH.row 3 rfl) hb) ?_
  refine h_val rfl (q.2.1) (fun b w hb hH => e_mget 4 mapTyF rfl (k := n) (r := some q.2) (get_some hq) rfl rfl rfl hH hb) ?_
  refine h_q hflK rfl ?_
  refine h_done (d_reg ?_)
  refine h_q hflK rfl ?_
  refine h_val rfl (.string (bs n)) (fun b w hb hH => exec_load rfl rfl (reads_one ty_string rfl) (hH.row 3 rfl) hb) ?_
  refine h_acts (post := fun _ => [FilE (L.take q.1), Vec 5 1 encB q.2.1 q.2.2, FilE (L.drop (q.1 + 1)), cell g1 68 #[.int .i64 2, .string (bs n), .slice A 0 c, .int .i64 0, .string (bs m_)], MapT encKey encFil v (delM L n), X]) rfl rfl (a_mdel 4 mapTyF rfl n rfl rfl rfl rfl) ?_; rintro ⟨⟩
  refine h_done ?_
  refine d_close [0, 2] rfl (fil_del hq) rfl ?_
  rcases hq2 : fnd m_ (delM L n) 0 with _ | q2
  · skip
    refine d_reg1 ?_
    refine h_q hflK rfl ?_
    refine h_val rfl (.string (bs m_)) (fun b w hb hH => exec_load rfl rfl (reads_one ty_string rfl) (hH.row 2 rfl) hb) ?_
    refine h_q hflK rfl ?_
    refine h_acts (post := fun _ => [FilE (delM L n), Vec 5 1 encB q.2.1 q.2.2, cell g1 68 #[.int .i64 2, .string (bs n), .slice A 0 c, .int .i64 0, .string (bs m_)], MapT encKey encFil v (putM (delM L n) m_ (q.2.1, q.2.2)), X]) rfl rfl (a_mput 3 mapTyF rfl m_ (q.2.1, q.2.2) rfl rfl rfl rfl rfl rfl) ?_; rintro ⟨⟩
    refine h_nil (f_block ?_)
    exact f_fin0n  (fun w h => tells () rfl [3, 0, 1, 4] rfl h (files_new hq2 (h_.symm.trans (ren_fil hq)))) rfl
  · skip
    refine d_open 0 rfl (fil_open hq2) (fun _ => rfl) ?_; rintro ⟨⟩
    refine d_reg1 ?_
    refine h_q hflK rfl ?_
    refine h_val rfl (.string (bs m_)) (fun b w hb hH => exec_load rfl rfl (reads_one ty_string rfl) (hH.row 4 rfl) hb) ?_
    refine h_q hflK rfl ?_
    refine h_acts (post := fun _ => [FilE ((delM L n).take q2.1), Vec 5 1 encB q2.2.1 q2.2.2, FilE ((delM L n).drop (q2.1 + 1)), Vec 5 1 encB q.2.1 q.2.2, cell g1 68 #[.int .i64 2, .string (bs n), .slice A 0 c, .int .i64 0, .string (bs m_)], MapT encKey encFil v (putM (delM L n) m_ (q.2.1, q.2.2)), X]) rfl rfl (a_mput 5 mapTyF rfl m_ (q.2.1, q.2.2) rfl rfl rfl rfl rfl rfl) ?_; rintro ⟨⟩
    refine h_nil (f_block ?_)
    exact f_fin0n  (fun w h => tells () rfl [5, 0, 3, 2, 6] rfl h (files_put hq2 (h_.symm.trans (ren_fil hq)))) rfl

/-- an operation of any kind, done -/
theorem do_any {X : Ass} {v : Value} {f f' : FS} {x : OpV} (ho : OkO f x.o) (hX : Rd8 X x.v x.o.data) (hl : usedF f + x.o.size ≤ 4398046511104) (h : doneF f x.o = f') : Does Try.prog 46 #[v, .agg (encO x).toArray] [FilesT v f, X] (fun _ : Unit => .tuple #[]) (fun _ => [FilesT v f', X]) := by
  obtain ⟨o, A, c⟩ := x
  cases o with
  | app n b => exact do_app hX hl h
  | cut n s => obtain ⟨y, h1, h2⟩ := ho; exact do_cut h1 h2 h
  | ren a b => obtain ⟨⟨y, h1⟩, _⟩ := ho; exact do_ren h1 h
  | del n => exact do_del h
end Go.Proofs.Ytjcfimmcogkopaa.Sep
