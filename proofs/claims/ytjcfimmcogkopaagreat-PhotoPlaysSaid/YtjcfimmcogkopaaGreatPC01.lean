/-
  DskV · MapU · TyK · DskA
-/
import Derived.Test.YtjcfimmcogkopaaGreatPB01
import Derived.Test.YtjcfimmcogkopaaGreatPB02
import Derived.Test.YtjcfimmcogkopaaGreatPB04
set_option linter.unusedSimpArgs false
set_option linter.unusedVariables false
set_option maxRecDepth 100000
namespace Go.Proofs.YtjcfimmcogkopaaGreat.Sep
open Go.RowKit
open Go.Proofs.YtjcfimmcogkopaaGreat.Mem (Bh Cs Chg AA)
def OpD.data : OpD → List UInt8
  | .app _ b => b
  | _ => []
def OpD.kind : OpD → Int
  | .app .. => 0
  | .cut .. => 1
  | .ren .. => 2
  | .del _ => 3
def OpD.name : OpD → List UInt8
  | .app n _ => n
  | .cut n _ => n
  | .ren a _ => a
  | .del n => n
def OpD.cutS : OpD → Nat
  | .cut _ s => s
  | _ => 0
def OpD.to : OpD → List UInt8
  | .ren _ b => b
  | _ => []
structure OpV where
  o : OpD
  A : Option Addr
  c : Nat
def OpV.v (x : OpV) : Value := .slice x.A x.o.data.length x.c
def encO (x : OpV) : List Value := [.int .i64 x.o.kind, .string (bs x.o.name), x.v, .int .i64 (x.o.cutS : Int), .string (bs x.o.to)]
theorem Rb : EncOf 5 encO := ⟨fun _ => rfl, fun x v h => by unfold encO OpV.v at h; simp at h; rcases h with rfl | rfl | rfl | rfl | rfl <;> rfl⟩
instance : Inhabited OpV := ⟨⟨.del [], none, 0⟩⟩
def BQ (W : List OpV) : Ass := Dw (fun x : OpV => Ar 5 1 encB x.v x.o.data) W
def DS (W : List OpV) : List OpD := W.map (·.o)
theorem Rc {W : List OpV} {x : OpV} (h : x ∈ W) : CO (BQ W) x.v x.o.data := fun rs w h1 h2 => by
 obtain ⟨j, hj⟩ := List.getElem?_of_mem h
 obtain ⟨ys, h3, h4⟩ := Dw.at_ h1 h2 hj
 exact H1 h3 h4
def L2 (f : FS) : OpD → Prop
  | .app n _ => CI n = true
  | .cut n s => ∃ x, AS f n = some x ∧ s ≤ x.length
  | .ren a b => (∃ x, AS f a = some x) ∧ CI b = true
  | .del _ => True
def Fe : FS → List OpD → Prop
  | _, [] => True
  | f, o :: r => L2 f o ∧ Fe (AG f o) r
theorem Jk {f : FS} : Fe f [] := trivial
theorem JT : ∀ {l : List OpD} {f : FS} {o : OpD}, Fe f l → L2 (l.foldl AG f) o → Fe f (l ++ [o])
  | [], _, _, _, ho => ⟨ho, trivial⟩
  | _ :: r, _, _, h, ho => ⟨h.1, JT (l := r) h.2 ho⟩
theorem Fx : ∀ {l : List OpD} {f : FS} (i : Nat), Fe f l → Fe f (l.take i)
  | [], _, _, _ => by rw [List.take_nil]; trivial
  | _ :: _, _, 0, _ => trivial
  | _ :: r, _, i + 1, h => ⟨h.1, Fx (l := r) i h.2⟩
theorem Kz : ∀ {l : List OpD} {f : FS} {i : Nat} {o : OpD}, Fe f l → l[i]? = some o → L2 ((l.take i).foldl AG f) o
  | x :: r, f, 0, o, h, hi => by
    simp only [List.getElem?_cons_zero, Option.some.injEq] at hi
    subst hi
    exact h.1
  | x :: r, f, i + 1, o, h, hi => Kz (l := r) (i := i) h.2 (by simpa using hi)
theorem Lq {f g : FS} {o : OpD} (h : f.Perm g) (hf : (AO f).Nodup) (ho : L2 f o) : L2 g o := by
  cases o with
  | app n b => exact ho
  | cut n s => obtain ⟨x, h1, h2⟩ := ho; exact ⟨x, by rw [← En h hf]; exact h1, h2⟩
  | ren a b => obtain ⟨⟨x, h1⟩, h2⟩ := ho; exact ⟨⟨x, by rw [← En h hf]; exact h1⟩, h2⟩
  | del n => trivial
def Dt (f : FS) : Prop := ∀ k, k ∈ AO f → CI k = true
theorem Sh : Dt [] := fun k h => by cases h
theorem H4 {f : FS} {n x : List UInt8} (hf : (AO f).Nodup) (h : Dt f) (hn : CI n = true) : Dt (BF f n x) := fun k hk => by
  obtain ⟨p, hp, rfl⟩ := List.mem_map.1 hk
  rcases (Fo hf p).1 hp with rfl | ⟨h1, _⟩
  · exact hn
  · exact h _ (List.mem_map_of_mem h1)
theorem Mk {f : FS} {n : List UInt8} (hf : (AO f).Nodup) (h : Dt f) : Dt (BY f n) := fun k hk => by
 obtain ⟨p, hp, rfl⟩ := List.mem_map.1 hk
 exact h _ (List.mem_map_of_mem ((DB hf p).1 hp).1)
theorem PO {f : FS} {o : OpD} (hf : (AO f).Nodup) (h : Dt f) (ho : L2 f o) : Dt (AG f o) := by
  cases o with
  | app n b => exact H4 hf h ho
  | cut n s =>
    obtain ⟨x, h1, _⟩ := ho
    show Dt (match AS f n with | some x => BF f n (x.take s) | none => f)
    rw [h1]
    exact H4 hf h (h _ (List.mem_map.2 ⟨_, (Cz hf).1 h1, rfl⟩))
  | ren a b =>
    obtain ⟨⟨x, h1⟩, h2⟩ := ho
    show Dt (match AS f a with | some x => BF (BY f a) b x | none => f)
    rw [h1]
    exact H4 (B4 hf) (Mk hf h) h2
  | del n => exact Mk hf h
theorem JU : ∀ (l : List OpD) {f : FS}, (AO f).Nodup → Dt f → Fe f l → Dt (l.foldl AG f)
  | [], _, _, h, _ => h
  | o :: r, _, hf, h, ho => JU r (GD hf o) (PO hf h ho.1) ho.2
theorem Ol {f : FS} {k x : List UInt8} (hf : (AO f).Nodup) : AN (BF f k x) ≤ AN f + x.length := by
  cases h : AS f k with
  | none => rw [Jg h]; exact Nat.le_refl _
  | some y => have := GE (x := x) hf h; omega
theorem Ni {f : FS} (hf : (AO f).Nodup) {o : OpD} (ho : L2 f o) : AN (AG f o) ≤ AN f + o.size := by
  cases o with
  | app n b => rw [FX hf]; exact Nat.le_refl _
  | cut n s =>
    obtain ⟨x, h1, h2⟩ := ho
    show AN (match AS f n with | some x => BF f n (x.take s) | none => f) ≤ AN f + 0
    rw [h1]
    have := GE (x := x.take s) hf h1
    rw [List.length_take] at this
    show AN (BF f n (x.take s)) ≤ _
    omega
  | ren a b =>
    obtain ⟨⟨x, h1⟩, _⟩ := ho
    show AN (match AS f a with | some x => BF (BY f a) b x | none => f) ≤ AN f + 0
    rw [h1]
    have h2 := Gg hf h1
    have h3 := Ol (k := b) (x := x) (B4 (k := a) hf)
    show AN (BF (BY f a) b x) ≤ _
    omega
  | del n =>
    show AN (BY f n) ≤ _
    cases h : AS f n with
    | none => rw [Lf h]; exact Nat.le_add_right _ _
    | some x => have := Gg hf h; show _ ≤ AN f + 0; omega
theorem Ef : ∀ (l : List OpD) {f : FS}, (AO f).Nodup → Fe f l → AN (l.foldl AG f) ≤ AN f + (l.map OpD.size).sum
  | [], _, _, _ => by simp
  | o :: r, f, hf, ho => by
    have h1 := Ni hf ho.1
    have h2 := Ef r (GD hf o) ho.2
    rw [List.foldl_cons, List.map_cons, List.sum_cons]; omega
theorem H5 : ∀ (l : List OpD) (i : Nat), ((l.take i).map OpD.size).sum ≤ (l.map OpD.size).sum
  | [], _ => by simp
  | _ :: _, 0 => by simp
  | x :: r, i + 1 => by
    have := H5 r i
    simp only [List.take_succ_cons, List.map_cons, List.sum_cons]; omega
theorem Jl {f : FS} {k x : List UInt8} (hf : (AO f).Nodup) (h : AS f k = some x) : x.length ≤ AN f := by
 have := Gg hf h; omega
theorem Ml {f : FS} {k : List UInt8} (hf : (AO f).Nodup) : ((AS f k).getD []).length ≤ AN f := by
  cases h : AS f k with
  | none => exact Nat.zero_le _
  | some x => exact Jl hf h
theorem Om {κ ν : Type} [DecidableEq κ] {k : κ} {l : List (κ × ν)} (h : Fb k l 0 = none) : AS l k = none := by unfold AS; rw [h]; rfl
theorem FL {κ ν : Type} [DecidableEq κ] {k : κ} {l : List (κ × ν)} {q : Nat × ν} (h : Fb k l 0 = some q) : AS l k = some q.2 := by unfold AS; rw [h]; rfl
theorem TS {L : FilL} {n b : List UInt8} {u : Value} (h : Fb n L 0 = none) : AG (Cm L) (.app n b) = Cm (BF L n (u, b)) := by
 show BF (Cm L) n _ = _
 rw [Ep, Om h, Option.map_none, Option.getD_none, List.nil_append]
 exact Ji L n (u, b)
theorem TT {L : FilL} {n b : List UInt8} {u : Value} {q : Nat × PtT} (h : Fb n L 0 = some q) : AG (Cm L) (.app n b) = Cm (BF L n (u, q.2.2 ++ b)) := by
 show BF (Cm L) n _ = _
 rw [Ep, FL h, Option.map_some, Option.getD_some]
 exact Ji L n (u, q.2.2 ++ b)
theorem Re {L : FilL} {n : List UInt8} : AG (Cm L) (.del n) = Cm (BY L n) := Oe L n
theorem Mm {κ ν : Type} [DecidableEq κ] {k : κ} {l : List (κ × ν)} (h : Fb k l 0 = none) : BY l k = l := by unfold BY; rw [h]
theorem Rf {L : FilL} {k : List UInt8} {q : Nat × PtT} (h : Fb k L 0 = some q) : ∀ rs, Al [BA (L.take q.1), BA (L.drop (q.1 + 1))] rs → BA (BY L k) rs := fun rs hr => by
 obtain ⟨a, b, rfl, h1, h2⟩ := hr
 unfold BA BY
 rw [h]
 show Dw _ (L.eraseIdx q.1) _
 rw [List.eraseIdx_eq_take_drop_succ]
 unfold Dw
 rw [List.map_append]
 exact Al.app h1 (Al.one' h2)
theorem BR {v : Value} {f : FS} : ∀ rs, AC v f rs → (AO f).Nodup := fun rs ⟨L, h, h'⟩ => by
 obtain ⟨a, b, e, h1, _⟩ := h'
 rw [h, E6]
 exact BK.nodup _ h1
theorem GI {v : Value} {f : FS} {L : FilL} {os : List Ass} (h : f = Cm L) : ∀ rs, Al (BK encKey AR v L :: BA L :: os) rs → ∃ z, rs.Perm z ∧ Al (AC v f :: os) z := fun rs hr => by
 subst h
 obtain ⟨a, r, rfl, h1, b, r2, rfl, h2, h3⟩ := hr
 exact ⟨a ++ (b ++ r2), .refl _, a ++ b, r2, by simp, ⟨L, rfl, a, b, rfl, h1, Al.one h2⟩, h3⟩
theorem Mn {v u : Value} {f : FS} {L : FilL} {n y : List UInt8} {os : List Ass} (hq : Fb n L 0 = none) (h : f = Cm (BF L n (u, y))) : ∀ rs, Al (BK encKey AR v (BF L n (u, y)) :: BA L :: Ar 5 1 encB u y :: os) rs → ∃ z, rs.Perm z ∧ Al (AC v f :: os) z := fun rs hr => by
 obtain ⟨a, r, rfl, h1, b, r2, rfl, h2, c, r3, rfl, h3, h4⟩ := hr
 rw [show a ++ (b ++ (c ++ r3)) = a ++ ((b ++ c) ++ r3) by simp]
 exact GI h _ ⟨a, _, rfl, h1, b ++ c, r3, rfl, Q3 hq (u, y) _ ⟨b, c, rfl, h2, Al.one h3⟩, h4⟩
theorem JV {v u : Value} {f : FS} {L : FilL} {n y : List UInt8} {q : Nat × PtT} {os : List Ass} (hq : Fb n L 0 = some q) (h : f = Cm (BF L n (u, y))) : ∀ rs, Al (BK encKey AR v (BF L n (u, y)) :: BA (L.take q.1) :: Ar 5 1 encB u y :: BA (L.drop (q.1 + 1)) :: os) rs → ∃ z, rs.Perm z ∧ Al (AC v f :: os) z := fun rs hr => by
 obtain ⟨a, r, rfl, h1, b, r2, rfl, h2, c, r3, rfl, h3, e, r4, rfl, h4, h5⟩ := hr
 rw [show a ++ (b ++ (c ++ (e ++ r4))) = a ++ ((b ++ (c ++ e)) ++ r4) by simp]
 exact GI h _ ⟨a, _, rfl, h1, b ++ (c ++ e), r4, rfl, Vz hq (u, y) _ ⟨b, c ++ e, rfl, h2, c, e, rfl, h3, Al.one h4⟩, h5⟩
theorem PP {v : Value} {f : FS} {L : FilL} {n : List UInt8} {q : Nat × PtT} {os : List Ass} (hq : Fb n L 0 = some q) (h : f = Cm (BY L n)) : ∀ rs, Al (BK encKey AR v (BY L n) :: BA (L.take q.1) :: BA (L.drop (q.1 + 1)) :: os) rs → ∃ z, rs.Perm z ∧ Al (AC v f :: os) z := fun rs hr => by
 obtain ⟨a, r, rfl, h1, b, r2, rfl, h2, e, r4, rfl, h4, h5⟩ := hr
 rw [show a ++ (b ++ (e ++ r4)) = a ++ ((b ++ e) ++ r4) by simp]
 exact GI h _ ⟨a, _, rfl, h1, b ++ e, r4, rfl, Rf hq _ ⟨b, e, rfl, h2, Al.one h4⟩, h5⟩
theorem Lr {e : TypeId} {v : Value} {l : List UInt8} {k : Nat} (hk : k ≤ l.length) : ∀ rs, Al [Ar e 1 encB v l] rs → Ar e 1 encB (CB 1 v 0 k) (l.take k) rs := fun rs hr => by
  rcases Al.one' hr with ⟨h1, h2, h3⟩ | ⟨g, cap, cs, h1, h2, h3, h4, h5, h6⟩
  · subst h2; subst h1
    have : k = 0 := by simpa using hk
    subst this
    exact .inl ⟨by simp [CB], by simp, h3⟩
  · subst h1
    have hl : (l.take k).length = k := by rw [List.length_take]; omega
    have e1 : (⟨g, 0 + 0 * 1, none⟩ : Addr) = ⟨g, 0, none⟩ := rfl
    refine .inr ⟨g, cap, cs, ?_, by rw [hl]; omega, h3, h4, ?_, h6⟩
    · simp [CB, Addr.add, hl]
    · rw [hl]
      have h7 := congrArg (List.take (k * 1)) h5
      rw [List.take_take, Nat.min_eq_left (by omega)] at h7
      rw [h7]
      have h8 : flat encB l = flat encB (l.take k) ++ flat encB (l.drop k) := by rw [← I0, List.take_append_drop]
      rw [h8, List.take_append_of_le_length (by rw [DF Ey, hl]; omega), List.take_of_length_le (by rw [DF Ey, hl]; omega)]
theorem VH {L : FilL} {n : List UInt8} {s : Nat} {u : Value} {q : Nat × PtT} (h : Fb n L 0 = some q) : AG (Cm L) (.cut n s) = Cm (BF L n (u, q.2.2.take s)) := by
  show (match AS (Cm L) n with | some x => BF (Cm L) n (x.take s) | none => Cm L) = _
  rw [Ep, FL h]
  exact Ji L n (u, q.2.2.take s)
theorem Rg {L : FilL} {a b : List UInt8} {q : Nat × PtT} (h : Fb a L 0 = some q) : AG (Cm L) (.ren a b) = Cm (BF (BY L a) b (q.2.1, q.2.2)) := by
  show (match AS (Cm L) a with | some x => BF (BY (Cm L) a) b x | none => Cm L) = _
  rw [Ep, FL h, Oe]
  exact Ji (BY L a) b (q.2.1, q.2.2)
theorem Ls {κ ν : Type} [DecidableEq κ] {k : κ} {l : List (κ × ν)} {x : ν} (h : AS l k = some x) : ∃ q, Fb k l 0 = some q ∧ q.2 = x := by
 unfold AS at h
 exact Option.map_eq_some_iff.1 h
theorem Mo {L : FilL} {n x : List UInt8} (h : AS (Cm L) n = some x) : ∃ q, Fb n L 0 = some q ∧ q.2.2 = x := by
 rw [Ep] at h
 obtain ⟨r, h1, h2⟩ := Option.map_eq_some_iff.1 h
 obtain ⟨q, h3, h4⟩ := Ls h1
 exact ⟨q, h3, by rw [h4]; exact h2⟩
theorem Si {v : Value} {f : FS} {L : FilL} {n : List UInt8} {s : Nat} {q : Nat × PtT} {os : List Ass} (hq : Fb n L 0 = some q) (hs : s ≤ q.2.2.length) (h : f = Cm (BF L n (CB 1 q.2.1 0 s, q.2.2.take s))) : ∀ rs, Al (BK encKey AR v (BF L n (CB 1 q.2.1 0 s, q.2.2.take s)) :: BA (L.take q.1) :: Ar 5 1 encB q.2.1 q.2.2 :: BA (L.drop (q.1 + 1)) :: os) rs → ∃ z, rs.Perm z ∧ Al (AC v f :: os) z := fun rs hr => by
 obtain ⟨a, r, e1, h1, b, r2, e2, h2, c, r3, e3, h3, hx⟩ := hr
 exact JV hq h _ ⟨a, r, e1, h1, b, r2, e2, h2, c, r3, e3, Lr hs _ (Al.one h3), hx⟩
def Dn : Option Nat → Int
  | none => -1
  | some n => n
structure DskU (d : DiskD) where
  pv : Value
  sm : Value
  sh : Value
  W : List OpV
  g : FS
  hW : DS W = d.wait
  hg : d.down = false → g.Perm d.now
  hok : Fe d.syn d.wait
  hf : ∀ n, d.fuse = some n → n ≤ 9223372036854775807
  hr : 0 ≤ d.room ∧ d.room ≤ 1048576
  hk : Dt d.syn
def On : Bool → Value → FS → Ass
  | true, v, _ => fact (v = .map none)
  | false, v, f => AC v f
def Ao (p : Nat) (d : DiskD) : Ass := fun rs => ∃ x : DskU d, Al [cell p 70 #[.int .i64 d.room, .int .i64 (Dn d.fuse), .bool d.down, x.pv, x.sm, x.sh], Ar 103 5 encO x.pv x.W, BQ x.W, AC x.sm d.syn, On d.down x.sh x.g] rs
section
variable {p : Nat} {d : DiskD}
theorem Gi : ∀ rs, Ao p d rs → ∃ x : DskU d, Al [cell p 70 #[.int .i64 d.room, .int .i64 (Dn d.fuse), .bool d.down, x.pv, x.sm, x.sh], Ar 103 5 encO x.pv x.W, BQ x.W, AC x.sm d.syn, On d.down x.sh x.g] rs := fun _ h => h
theorem H6 (h : d.down = false) : ∀ rs, Ao p d rs → ∃ x : DskU d, Al [cell p 70 #[.int .i64 d.room, .int .i64 (Dn d.fuse), .bool false, x.pv, x.sm, x.sh], Ar 103 5 encO x.pv x.W, BQ x.W, AC x.sm d.syn, AC x.sh x.g] rs := fun rs ⟨x, hx⟩ => ⟨x, by rw [h] at hx; exact hx⟩
theorem Sj {q : Prop} {a b c e : Ass} {rs : List RowT} (h : Al [a, b, c, e, fact q] rs) : q ∧ Al [a, b, c, e] rs := by
 obtain ⟨_, _, rfl, h1, _, _, rfl, h2, _, _, rfl, h3, _, _, rfl, h4, _, _, rfl, ⟨rfl, h5⟩, rfl⟩ := h
 exact ⟨h5, _, _, rfl, h1, _, _, rfl, h2, _, _, rfl, h3, _, _, rfl, h4, rfl⟩
theorem Sk {q : Prop} {a b c e : Ass} {rs : List RowT} (h5 : q) (h : Al [a, b, c, e] rs) : Al [a, b, c, e, fact q] rs := by
 obtain ⟨_, _, rfl, h1, _, _, rfl, h2, _, _, rfl, h3, _, _, rfl, h4, rfl⟩ := h
 exact ⟨_, _, rfl, h1, _, _, rfl, h2, _, _, rfl, h3, _, _, rfl, h4, _, _, rfl, ⟨rfl, h5⟩, rfl⟩
theorem KA (h : d.down = true) : ∀ rs, Ao p d rs → ∃ x : DskU d, Al [cell p 70 #[.int .i64 d.room, .int .i64 (Dn d.fuse), .bool true, x.pv, x.sm, .map none], Ar 103 5 encO x.pv x.W, BQ x.W, AC x.sm d.syn] rs := fun rs ⟨x, hx⟩ => by
 rw [h] at hx
 obtain ⟨e, h1⟩ := Sj hx
 rw [e] at h1
 exact ⟨x, h1⟩
theorem Jm {os : List Ass} (x : DskU d) (h : d.down = true) (hs : x.sh = .map none) : ∀ rs, Al ([cell p 70 #[.int .i64 d.room, .int .i64 (Dn d.fuse), .bool true, x.pv, x.sm, .map none], Ar 103 5 encO x.pv x.W, BQ x.W, AC x.sm d.syn] ++ os) rs → ∃ z, rs.Perm z ∧ Al ([Ao p d] ++ os) z := fun rs hr => by
 obtain ⟨a, b, e, h1, h2⟩ := Al.split hr
 subst e
 refine ⟨a ++ b, .refl _, Al.app (Al.one ⟨x, ?_⟩) h2⟩
 rw [h]
 exact Sk hs (by rw [hs]; exact h1)
theorem Gj {os : List Ass} (x : DskU d) (h : d.down = false) : ∀ rs, Al ([cell p 70 #[.int .i64 d.room, .int .i64 (Dn d.fuse), .bool false, x.pv, x.sm, x.sh], Ar 103 5 encO x.pv x.W, BQ x.W, AC x.sm d.syn, AC x.sh x.g] ++ os) rs → ∃ z, rs.Perm z ∧ Al ([Ao p d] ++ os) z := fun rs hr => by
 obtain ⟨a, b, e, h1, h2⟩ := Al.split hr
 subst e
 refine ⟨a ++ b, .refl _, Al.app (Al.one ⟨x, ?_⟩) h2⟩
 rw [h]
 exact h1
theorem H7 {os : List Ass} (x : DskU d) : ∀ rs, Al ([cell p 70 #[.int .i64 d.room, .int .i64 (Dn d.fuse), .bool d.down, x.pv, x.sm, x.sh], Ar 103 5 encO x.pv x.W, BQ x.W, AC x.sm d.syn, On d.down x.sh x.g] ++ os) rs → ∃ z, rs.Perm z ∧ Al ([Ao p d] ++ os) z := fun rs hr => by
 obtain ⟨a, b, e, h1, h2⟩ := Al.split hr
 subst e
 exact ⟨a ++ b, .refl _, Al.app (Al.one ⟨x, h1⟩) h2⟩
end
theorem GJ {α : Type} {L : List α} {i : Nat} {b : α} (h : L[i]? = some b) : L.take i ++ [b] = L.take (i + 1) := by
 have hlt := (List.getElem?_eq_some_iff.1 h).1
 have hx := (List.getElem?_eq_some_iff.1 h).2
 rw [← hx, List.take_succ_eq_append_getElem hlt]
structure DskL (d : DiskD) where
  pv : Value
  sm : Value
  sh : Value
  W : List OpV
  L : FilL
  hW : DS W = d.wait
  hg : (Cm L).Perm d.now
  hok : Fe d.syn d.wait
  hf : ∀ n, d.fuse = some n → n ≤ 9223372036854775807
  hr : 0 ≤ d.room ∧ d.room ≤ 1048576
  hk : Dt d.syn
section
variable {p : Nat} {d : DiskD}
theorem D2 (h : d.down = false) : ∀ rs, Ao p d rs → ∃ y : DskL d, Al [cell p 70 #[.int .i64 d.room, .int .i64 (Dn d.fuse), .bool false, y.pv, y.sm, y.sh], Ar 103 5 encO y.pv y.W, BQ y.W, AC y.sm d.syn, BK encKey AR y.sh y.L, BA y.L] rs := fun rs hr => by
 obtain ⟨x, a1, _, rfl, h1, a2, _, rfl, h2, a3, _, rfl, h3, a4, _, rfl, h4, a5, _, rfl, ⟨L, hL, h5⟩, rfl⟩ := H6 h rs hr
 refine ⟨⟨x.pv, x.sm, x.sh, x.W, L, x.hW, hL ▸ x.hg h, x.hok, x.hf, x.hr, x.hk⟩, a1, _, rfl, h1, a2, _, rfl, h2, a3, _, rfl, h3, a4, a5, by simp, h4, h5⟩
theorem WW (x : DskU d) (h : d.down = false) : ∀ rs, Al [cell p 70 #[.int .i64 d.room, .int .i64 (Dn d.fuse), .bool false, x.pv, x.sm, x.sh], Ar 103 5 encO x.pv x.W, BQ x.W, AC x.sm d.syn, AC x.sh x.g] rs → Ao p d rs := fun rs hr => ⟨x, by rw [h]; exact hr⟩
theorem Jn (y : DskL d) (h : d.down = false) : ∀ rs, Al [cell p 70 #[.int .i64 d.room, .int .i64 (Dn d.fuse), .bool false, y.pv, y.sm, y.sh], Ar 103 5 encO y.pv y.W, BQ y.W, AC y.sm d.syn, BK encKey AR y.sh y.L, BA y.L] rs → Ao p d rs := fun rs hr => by
 obtain ⟨a1, _, rfl, h1, a2, _, rfl, h2, a3, _, rfl, h3, a4, a5, rfl, h4, h5⟩ := hr
 exact WW ⟨y.pv, y.sm, y.sh, y.W, Cm y.L, y.hW, fun _ => y.hg, y.hok, y.hf, y.hr, y.hk⟩ h _ ⟨a1, _, rfl, h1, a2, _, rfl, h2, a3, _, rfl, h3, a4, a5, rfl, h4, Al.one ⟨y.L, rfl, h5⟩⟩
theorem DT {os : List Ass} (y : DskL d) (h : d.down = false) : ∀ rs, Al ([cell p 70 #[.int .i64 d.room, .int .i64 (Dn d.fuse), .bool false, y.pv, y.sm, y.sh], Ar 103 5 encO y.pv y.W, BQ y.W, AC y.sm d.syn, BK encKey AR y.sh y.L, BA y.L] ++ os) rs → ∃ z, rs.Perm z ∧ Al ([Ao p d] ++ os) z := fun rs hr => by
 obtain ⟨a, b, e, h1, h2⟩ := Al.split hr
 subst e
 exact ⟨a ++ b, .refl _, Al.app (Al.one (Jn y h _ h1)) h2⟩
end
theorem TU {d : DiskD} {L : FilL} (hp : (Cm L).Perm d.now) (hn : (AO (Cm L)).Nodup) (n y : List UInt8) : Eo d n y = (decide ((AN (Cm L) : Int) + (y.length : Int) ≤ d.room) && !((AS L n).isNone && decide (64 ≤ L.length))) := by
 unfold Eo
 rw [← Dl hp, ← En hp hn, ← hp.length_eq, Ep]
 have h1 : (Cm L).length = L.length := by simp [Cm]
 rw [h1]
 cases AS L n <;> rfl
theorem Sl {d : DiskD} {L : FilL} {n y : List UInt8} (hp : (Cm L).Perm d.now) (hn : (AO (Cm L)).Nodup) (h : Eo d n y = false) : (d.room < (AN (Cm L) : Int) + (y.length : Int) ∧ AS L n = none) ∨ (d.room < (AN (Cm L) : Int) + (y.length : Int) ∧ ∃ r, AS L n = some r) ∨ ((AN (Cm L) : Int) + (y.length : Int) ≤ d.room ∧ AS L n = none ∧ 64 ≤ L.length) := by
  rw [TU hp hn] at h
  by_cases h1 : (AN (Cm L) : Int) + (y.length : Int) ≤ d.room
  · right; right
    cases h2 : AS L n with
    | none => rw [h2] at h; simp [h1] at h; exact ⟨h1, rfl, h⟩
    | some r => rw [h2] at h; simp [h1] at h
  · cases h2 : AS L n with
    | none => exact .inl ⟨by omega, rfl⟩
    | some r => exact .inr (.inl ⟨by omega, r, rfl⟩)
theorem VI {d : DiskD} {L : FilL} {n y : List UInt8} (hp : (Cm L).Perm d.now) (hn : (AO (Cm L)).Nodup) (h : Eo d n y = true) : (AN (Cm L) : Int) + (y.length : Int) ≤ d.room ∧ ((∃ r, AS L n = some r) ∨ (AS L n = none ∧ L.length < 64)) := by
  rw [TU hp hn, Bool.and_eq_true, decide_eq_true_eq] at h
  refine ⟨h.1, ?_⟩
  cases h2 : AS L n with
  | none => right; have := h.2; rw [h2] at this; simp at this; exact ⟨rfl, this⟩
  | some r => exact .inl ⟨r, rfl⟩
theorem JW {d : DiskD} {L : FilL} (hp : (Cm L).Perm d.now) (hn : (AO (Cm L)).Nodup) (n : List UInt8) : AS d.now n = (AS L n).map (·.2) := by rw [← En hp hn, Ep]
theorem Cl {v : Value} {L : FilL} : ∀ rs, BK encKey AR v L rs → (AO (Cm L)).Nodup := fun rs h => by rw [E6]; exact BK.nodup _ h
theorem TV {p : Nat} {room : Int} {sm sh : Value} (hr : 0 ≤ room ∧ room ≤ 1048576) : ∀ rs, Al [cell p 70 #[.int .i64 room, .int .i64 (-1), .bool false, .slice none 0 0, sm, sh], Ar 103 5 encO (.slice none 0 0) [], BQ [], BK encKey AR sm [], BA [], BK encKey AR sh [], BA []] rs → ∃ z, rs.Perm z ∧ Al [Ao p (Hc room)] z := fun rs hx => by
 obtain ⟨a1, _, rfl, h1, a2, _, rfl, h2, a3, _, rfl, h3, a4, _, rfl, h4, a5, a6, rfl, h5, h6⟩ := hx
 refine ⟨_, .refl _, Al.one ⟨⟨.slice none 0 0, sm, sh, [], [], rfl, fun _ => .refl _, Jk, (fun n h => by cases h), hr, Sh⟩, ?_⟩⟩
 refine ⟨a1, _, rfl, h1, a2, _, rfl, h2, a3, _, rfl, h3, a4 ++ a5, a6, by simp, ⟨[], rfl, a4, a5, rfl, h4, Al.one h5⟩, Al.one ⟨[], rfl, h6⟩⟩
theorem Sm {l : FilL} {j : Nat} {p : List UInt8 × PtT} (h : l[j]? = some p) : ((p.1, p.2.2) :: Cm (l.eraseIdx j)).Perm (Cm l) := by
 have hlt := (List.getElem?_eq_some_iff.1 h).1
 have hx := (List.getElem?_eq_some_iff.1 h).2
 have h1 : l = l.take j ++ p :: l.drop (j + 1) := by rw [← hx]; simp
 have h2 : (p :: l.eraseIdx j).Perm l := by
  rw [List.eraseIdx_eq_take_drop_succ]
  have h3 := (List.perm_middle (a := p) (l₁ := l.take j) (l₂ := l.drop (j + 1))).symm
  rw [← h1] at h3
  exact h3
 exact h2.map (fun p : List UInt8 × PtT => (p.1, p.2.2))
theorem PQ {done left L : FilL} {j : Nat} {p : List UInt8 × PtT} (hn : (AO (Cm L)).Nodup) (hp : (Cm done ++ Cm left).Perm (Cm L)) (hj : left[j]? = some p) : Fb p.1 done 0 = none := by
  have h1 : (AO (Cm done ++ Cm left)).Nodup := (CY hp).nodup_iff.2 hn
  have h2 : AO (Cm done ++ Cm left) = AO done ++ AO left := by rw [← E6 done, ← E6 left]; unfold AO; rw [List.map_append]
  rw [h2] at h1
  cases h : Fb p.1 done 0 with
  | none => rfl
  | some q =>
    exfalso
    have h3 := (DH h).2
    have h4 : p.1 ∈ AO done := List.mem_map.2 ⟨_, List.mem_of_getElem? h3, rfl⟩
    have h5 : p.1 ∈ AO left := List.mem_map.2 ⟨_, List.mem_of_getElem? hj, rfl⟩
    exact (List.nodup_append.1 h1).2.2 _ h4 _ h5 rfl
theorem Oo {done left L : FilL} {j : Nat} {p : List UInt8 × PtT} {u : Value} (hp : (Cm done ++ Cm left).Perm (Cm L)) (hj : left[j]? = some p) (hf : Fb p.1 done 0 = none) : (Cm (BF done p.1 (u, p.2.2)) ++ Cm (left.eraseIdx j)).Perm (Cm L) := by
 have h1 : BF done p.1 (u, p.2.2) = done ++ [(p.1, (u, p.2.2))] := by unfold BF; rw [hf]
 have h2 : Cm (done ++ [(p.1, (u, p.2.2))]) = Cm done ++ [(p.1, p.2.2)] := by simp [Cm]
 rw [h1, h2, List.append_assoc]
 exact ((Sm hj).append_left (Cm done)).trans hp
theorem Oq {v u : Value} {f : FS} {L M : FilL} (h : f = Cm L) : ∀ rs, Al [BK encKey AR v L, BA L, BK encKey AR u M, BA M] rs → ∃ z, rs.Perm z ∧ Al [AC v f, AC u (Cm M)] z := fun rs hr => by
 subst h
 obtain ⟨a, r, rfl, h1, b, r2, rfl, h2, h3⟩ := hr
 exact ⟨a ++ (b ++ r2), .refl _, a ++ b, r2, by simp, ⟨L, rfl, a, b, rfl, h1, Al.one h2⟩, Al.one ⟨M, rfl, h3⟩⟩
def Gk (f : FS) (o : OpD) (torn : Int) : FS := match o with
  | .app n b => if (torn % (b.length : Int)).toNat = 0 ∨ b = [] then f else AG f (.app n (b.take (torn % (b.length : Int)).toNat))
  | _ => f
theorem GK (d : DiskD) (keep torn : Int) : CJ d keep torn = match d.wait[Cw d keep]? with
  | some o => Gk ((d.wait.take (Cw d keep)).foldl AG d.syn) o torn
  | none => (d.wait.take (Cw d keep)).foldl AG d.syn := by
  unfold CJ Gk
  cases d.wait[Cw d keep]? with
  | none => rfl
  | some o => cases o <;> rfl
theorem TW {f : FS} {o : OpD} {torn : Int} (h : o.data = []) : Gk f o torn = f := by
  cases o with
  | app n b => unfold Gk; simp only; rw [if_pos (.inr h)]
  | cut n s => rfl
  | ren a b => rfl
  | del n => rfl
theorem JX {l : List OpD} {i : Nat} {o : OpD} (h : l[i]? = some o) (f : FS) : (l.take (i + 1)).foldl AG f = AG ((l.take i).foldl AG f) o := by
 rw [← GJ h, List.foldl_append]; rfl
theorem Es {l : List OpD} {i : Nat} {o : OpD} {f : FS} {N : Nat} (hn : (AO f).Nodup) (hok : Fe f l) (h : l[i]? = some o) (hs : AN f + (l.map OpD.size).sum ≤ N) : AN ((l.take i).foldl AG f) + o.size ≤ N := by
 have h1 := Ef (l.take i) hn (Fx i hok)
 have h2 : ((l.take (i + 1)).map OpD.size).sum = ((l.take i).map OpD.size).sum + o.size := by rw [← GJ h]; simp
 have h3 := H5 l (i + 1)
 omega
theorem PT {f : FS} {o : OpD} {torn : Int} (hf : (AO f).Nodup) (h : Dt f) (ho : L2 f o) : Dt (Gk f o torn) := by
  cases o with
  | app n b =>
    unfold Gk
    simp only
    split
    · exact h
    · exact H4 hf h ho
  | cut n s => exact h
  | ren a b => exact h
  | del n => exact h
theorem Lt {d : DiskD} {keep torn : Int} (hn : (AO d.syn).Nodup) (h : Dt d.syn) (ho : Fe d.syn d.wait) : Dt (CJ d keep torn) := by
  rw [GK]
  have h1 := JU _ hn h (Fx (Cw d keep) ho)
  cases hw : d.wait[Cw d keep]? with
  | none => exact h1
  | some o => exact PT (Ed _ hn) h1 (Kz ho hw)
theorem IH {d : DiskD} (h : d.fit) (hn : (AO d.syn).Nodup) (ho : Fe d.syn d.wait) : AN d.now ≤ 1099511627776 := Nat.le_trans (Ef d.wait hn ho) h.1
theorem Mp {d : DiskD} (hn : (AO d.syn).Nodup) (h : Dt d.syn) (ho : Fe d.syn d.wait) : Dt d.now := JU d.wait hn h ho
theorem Mq {d : DiskD} (hn : (AO d.syn).Nodup) : (AO d.now).Nodup := Ed d.wait hn
theorem KB {d : DiskD} (x : DskU d) : x.W.length = d.wait.length := by rw [← x.hW]; simp [DS]
theorem Nj {a m : Int} (hm : 0 < m) : a % m = if a.tmod m < 0 then a.tmod m + m else a.tmod m := by
  by_cases ha : 0 ≤ a
  · have h1 : a.tmod m = a % m := Int.tmod_eq_emod_of_nonneg ha
    have := Int.emod_nonneg a (show m ≠ 0 by omega)
    rw [h1, if_neg (by omega)]
  · have h1 := Int.tmod_eq_emod (a := a) (b := m)
    have h3 := Int.emod_nonneg a (show m ≠ 0 by omega)
    have h4 := Int.emod_lt_of_pos a hm
    by_cases hd : m ∣ a
    · have h5 : a % m = 0 := Int.emod_eq_zero_of_dvd hd
      have h6 : a.tmod m = 0 := by rw [h1, if_pos (.inr hd), h5]; simp
      rw [h5, h6]; simp
    · rw [if_neg (by simp [ha, hd])] at h1
      have h7 : (m.natAbs : Int) = m := by omega
      rw [h7] at h1
      have h8 : a % m ≠ 0 := fun e => hd (Int.dvd_of_emod_eq_zero e)
      rw [h1, if_pos (by omega)]; omega
end Go.Proofs.YtjcfimmcogkopaaGreat.Sep
namespace Go.Proofs.YtjcfimmcogkopaaGreat.Sep
open Go.RowKit
open Go.Proofs.YtjcfimmcogkopaaGreat.Mem (Bh Cs Chg AA)
section
variable {P : Program} {κ ν : Type} {kk : κ → Value} {vv : ν → Value} {B : Nat → Prop} {w0 w : World} {os : List Ass} {mt kt vt : TypeId} {n : Nat} {env : List (Nat × Value)} {Q : Exit → Act → World → Prop} {o : Oper} {act : Act}
theorem TX {r : Operand} {k : IntKind} {q : Int} (ht : P.underlying mt = some (.map kt vt)) (ho : o.op = .makeMap mt (some r)) (hr : evs env r = some (.int k q)) : Bk P Q n env B w0 os o (fun g : Nat => .map (some g)) (fun g => BK kk vv (.map (some g)) [] :: os) := fun act w hH hF K hK => by
 have hrun : (execOp act.eval o).run P w = .ok (.value (.map (some w.heap.size))) (w.alloc (.map #[] 0)) := by
  unfold execOp
  simp [ho, hF.evs hr, Instr.makeMap, run_underlying ht, asInt, asIntOf, newObj, Sem.run]
 obtain ⟨rs, h1, h2⟩ := hH
 exact FH (w0 := w) act hrun (hK w.heap.size _ ⟨_, ⟨[(w.heap.size, none, Fc #[] 0)], rs, rfl, ⟨w.heap.size, #[], 0, rfl, rfl, K8⟩, h1⟩, La h2 _ (DE.2 (heap_alloc_new w _))⟩)
theorem Sn {k k' : IntKind} {p q r : Int} {x y : Operand} {ats : Array TypeId} (ho : o.op = .call { callee := .builtin .max, args := #[x, y], argTypes := ats }) (hx : evs env x = some (.int k p)) (hy : evs env y = some (.int k' q)) (hr : (if q > p then q else p) = r) (hF : Fr n act env) : (execOp act.eval o).run P w = .ok (.value (.int k r)) w := by
 subst hr
 exact BV ho (vs := [.int k p, .int k' q]) (by simp [evl, hx, hy]) (fun cs => by simp [builtin, Builtin.max_, Builtin.max2]) hF
end
section
variable {P : Program} {κ : Type} [DecidableEq κ] {kk : κ → Value} {w : World} {mt kt vt : TypeId} {kd : TypeDesc} {z : Value} {n : Nat} {env : List (Nat × Value)} {o : Oper} {act : Act}
theorem VJ (hT : MapTy P mt kt vt kd kk z) {x y : Operand} (ho : o.op = .lookup mt x y false) {k : κ} (hx : evs env x = some (.map none)) (hy : evs env y = some (kk k)) (hF : Fr n act env) : (execOp act.eval o).run P w = .ok (.value z) w := by
 unfold execOp
 simp only [ho, hF.evs hx, hF.evs hy, Sem.run_bind, G9 hT, Result.andThen_ok, Sem.run_pure, Bool.false_eq_true, if_false]
theorem VK (hT : MapTy P mt kt vt kd kk z) {x y : Operand} (ho : o.op = .lookup mt x y true) {k : κ} (hx : evs env x = some (.map none)) (hy : evs env y = some (kk k)) (hF : Fr n act env) : (execOp act.eval o).run P w = .ok (.value (.tuple #[z, .bool false])) w := by
 unfold execOp
 simp only [ho, hF.evs hx, hF.evs hy, Sem.run_bind, G9 hT, Result.andThen_ok, Sem.run_pure, if_true]
end
end Go.Proofs.YtjcfimmcogkopaaGreat.Sep
namespace Go.Proofs.YtjcfimmcogkopaaGreat.Sep
open Go.RowKit
open Go.Proofs.YtjcfimmcogkopaaGreat.Mem (Bh Cs Chg AA)
def flK : List ((Nat × Nat) × Nat) := flS
theorem Am : KP Tryz.prog flK := Au
end Go.Proofs.YtjcfimmcogkopaaGreat.Sep
namespace Go.Proofs.YtjcfimmcogkopaaGreat.Sep
open Go.RowKit
open Go.Proofs.YtjcfimmcogkopaaGreat.Mem (Bh Cs Chg AA)
theorem Lu (w : World) (room : Int) (h : 0 ≤ room ∧ room ≤ 1048576) : Calls Tryz.prog 60 #[.int .i64 room] w fun e w' => e = .returned (.bool true) ∧ Below w.heap.size w w' := by
 refine Fj (args := [.int .i64 room]) 9 Tryz.func60 rfl rfl rfl (Ad (Ae Au rfl (Ab (Ad (Ae Au rfl (Aa rfl (.bool true) (fun b w hb hH => AZ rfl rfl rfl (B1 (by omega)) hb) (Ae Au rfl (Aa rfl (.bool true) (fun b w hb hH => AZ rfl rfl rfl (Dk (by omega)) hb) (Ae Au rfl (Ab (Ax ?_)))))))))))
 exact Aw (.tmp rfl) (fun w h => ⟨rfl, AA h.up⟩) rfl
theorem PU (w : World) (room : Int) (h : ¬ (0 ≤ room ∧ room ≤ 1048576)) : Calls Tryz.prog 60 #[.int .i64 room] w fun e w' => e = .returned (.bool false) ∧ Below w.heap.size w w' := by
 refine Fj (args := [.int .i64 room]) 9 Tryz.func60 rfl rfl rfl (Ad (Ae Au rfl (Ab ?_)))
 rcases Int.lt_or_le room 0 with h0 | h0
 refine Ad (Ae Au rfl (Aa rfl (.bool false) (fun b w hb hH => AZ rfl rfl rfl (C6 (by omega)) hb) (Ae Au rfl (Ab (Ax ?_)))))
 exact Aw (.tmp rfl) (fun w h => ⟨rfl, AA h.up⟩) rfl
 refine Ad (Ae Au rfl (Aa rfl (.bool true) (fun b w hb hH => AZ rfl rfl rfl (B1 (by omega)) hb) (Ae Au rfl (Aa rfl (.bool false) (fun b w hb hH => AZ rfl rfl rfl (DO (by omega)) hb) (Ae Au rfl (Ab (Ax ?_)))))))
 exact Aw (.tmp rfl) (fun w h => ⟨rfl, AA h.up⟩) rfl
theorem H0 (n : List UInt8) : CI n = true ↔ 1 ≤ n.length ∧ n.length ≤ 16 := by simp [CI]
theorem TY (n : List UInt8) : CI n = false ↔ ¬ (1 ≤ n.length ∧ n.length ≤ 16) := by rw [← H0]; simp
theorem GL (w : World) (n : List UInt8) (h : CI n = true) : Calls Tryz.prog 61 #[.string (bs n)] w fun e w' => e = .returned (.bool true) ∧ Below w.heap.size w w' := by
 have h := (H0 n).1 h
 refine Fj (args := [.string (bs n)]) 11 Tryz.func61 rfl rfl rfl (Ad (Ae Au rfl (Ab (Ad (Ae Au rfl (Aa rfl (.int .i64 (n.length : Int)) (fun b w hb hH => BV rfl rfl (fun cs => (fun w cs => Dc Tryz.underlying9 _ _ w cs) w cs) hb) (Aa rfl (.bool true) (fun b w hb hH => AZ rfl rfl rfl (B1 (by omega)) hb) (Ae Au rfl (Aa rfl (.int .i64 (n.length : Int)) (fun b w hb hH => BV rfl rfl (fun cs => (fun w cs => Dc Tryz.underlying9 _ _ w cs) w cs) hb) (Aa rfl (.bool true) (fun b w hb hH => AZ rfl rfl rfl (Dk (by omega)) hb) ?_))))))))))
 refine Ae Au rfl (Ab (Ax ?_))
 exact Aw (.tmp rfl) (fun w h => ⟨rfl, AA h.up⟩) rfl
theorem Lv (w : World) (n : List UInt8) (h : CI n = false) : Calls Tryz.prog 61 #[.string (bs n)] w fun e w' => e = .returned (.bool false) ∧ Below w.heap.size w w' := by
 have h := (TY n).1 h
 refine Fj (args := [.string (bs n)]) 11 Tryz.func61 rfl rfl rfl (Ad (Ae Au rfl (Ab ?_)))
 rcases Nat.lt_or_ge n.length 1 with h0 | h0
 refine Ad (Ae Au rfl (Aa rfl (.int .i64 (n.length : Int)) (fun b w hb hH => BV rfl rfl (fun cs => (fun w cs => Dc Tryz.underlying9 _ _ w cs) w cs) hb) (Aa rfl (.bool false) (fun b w hb hH => AZ rfl rfl rfl (C6 (by omega)) hb) (Ae Au rfl (Ab (Ax ?_))))))
 exact Aw (.tmp rfl) (fun w h => ⟨rfl, AA h.up⟩) rfl
 refine Ad (Ae Au rfl (Aa rfl (.int .i64 (n.length : Int)) (fun b w hb hH => BV rfl rfl (fun cs => (fun w cs => Dc Tryz.underlying9 _ _ w cs) w cs) hb) (Aa rfl (.bool true) (fun b w hb hH => AZ rfl rfl rfl (B1 (by omega)) hb) (Ae Au rfl (Aa rfl (.int .i64 (n.length : Int)) (fun b w hb hH => BV rfl rfl (fun cs => (fun w cs => Dc Tryz.underlying9 _ _ w cs) w cs) hb) (Aa rfl (.bool false) (fun b w hb hH => AZ rfl rfl rfl (DO (by omega)) hb) (Ae Au rfl (Ab (Ax ?_)))))))))
 exact Aw (.tmp rfl) (fun w h => ⟨rfl, AA h.up⟩) rfl
theorem Lw (w : World) (a m r : Int) (hm : 0 < m) (h1 : m ≤ 9223372036854775807) (hr : a % m = r) : Calls Tryz.prog 68 #[.int .i64 a, .int .i64 m] w fun e w' => e = .returned (.int .i64 r) ∧ Below w.heap.size w w' := by
 have he := Nj (a := a) hm
 have h2 := Int.emod_nonneg a (show m ≠ 0 by omega)
 have h3 := Int.emod_lt_of_pos a hm
 obtain ⟨t, ht⟩ : ∃ t, a.tmod m = t := ⟨_, rfl⟩
 rw [ht, hr] at he
 rw [hr] at h2 h3
 refine Fj (args := [.int .i64 a, .int .i64 m]) 14 Tryz.func68 rfl rfl rfl (Ad (Ae Au rfl (Ab (Ad (Ae Au rfl (Aa rfl (.int .i64 t) (fun b w hb hH => DR rfl rfl rfl (by omega) ht hb) (Ae Au rfl (Ab (Av ?_)))))))))
 rcases Int.lt_or_le t 0 with h0 | h0
 rw [if_pos h0] at he
 refine Ad (Ae Au rfl (Aa rfl (.bool true) (fun b w hb hH => AZ rfl rfl rfl (Bw (by omega)) hb) (Ab (AI rfl (Bp (Ae Au rfl (Aa rfl (.int .i64 r) (fun b w hb hH => AQ rfl rfl rfl rfl (by rw [IntWalk.i64_in _ (by omega)]; omega) hb) (Ae Au rfl (AV (AL (Ad (Ae Au rfl (Ab (Ax ?_))))))))))))))
 exact Aw (.tmp rfl) (fun w h => ⟨rfl, AA h.up⟩) rfl
 rw [if_neg (by omega)] at he
 subst he
 refine Ad (Ae Au rfl (Aa rfl (.bool false) (fun b w hb hH => AZ rfl rfl rfl (BS (by omega)) hb) (Ab (As rfl (AB (AL (Ad (Ae Au rfl (Ab (Ax ?_))))))))))
 exact Aw (.tmp rfl) (fun w h => ⟨rfl, AA h.up⟩) rfl
theorem Hs (v : Value) (l : FilL) (n : List UInt8) (r : Option PtT) (h : AS l n = r) : AX Tryz.prog 62 #[v, .string (bs n)] [BK encKey AR v l] (fun (_ : Unit) => .bool r.isSome) (fun (_ : Unit) => [BK encKey AR v l]) := by
 refine Bg (args := [v, .string (bs n)]) 14 Tryz.func62 rfl rfl rfl ?_; intro w rs
 refine Ad (Ae Am rfl (Ab (Ad (Ae Am rfl (Aa rfl (.tuple #[((r).map AR).getD (.slice none 0 0), .bool ((r).isSome)]) (fun b w hb hH => WP 0 Dz rfl (k := n) (r := r) h rfl rfl rfl hH hb) (Ae Am rfl (Ab (Ad (Ae Am rfl (Ab (Ax ?_)))))))))))
 exact Aw (.tmp rfl) (fun w h => AH () rfl [0] rfl h CK) rfl
theorem VL (n : List UInt8) : AX Tryz.prog 62 #[.map none, .string (bs n)] [] (fun (_ : Unit) => .bool false) (fun (_ : Unit) => []) := by
 refine Bg (args := [.map none, .string (bs n)]) 14 Tryz.func62 rfl rfl rfl ?_; intro w rs
 refine Ad (Ae Am rfl (Ab (Ad (Ae Am rfl (Aa rfl (.tuple #[.slice none 0 0, .bool false]) (fun b w hb hH => VK Dz rfl (k := n) rfl rfl hb) (Ae Am rfl (Ab (Ad (Ae Am rfl (Ab (Ax ?_)))))))))))
 exact Aw (.tmp rfl) (fun w h => AH () rfl [] rfl h CK) rfl
theorem Lx (p : Nat) (r1 r2 r3 sm fm pv : Value) (l : FilL) (hl : AN (Cm l) ≤ 1099511627776) : AX Tryz.prog 55 #[.pointer (some ⟨p, 0, none⟩)] [cell p 70 #[r1, r2, r3, pv, sm, fm], BK encKey AR fm l, BA l] (fun (_ : Unit) => .int .i64 ((AN (Cm l) : Nat) : Int)) (fun (_ : Unit) => [cell p 70 #[r1, r2, r3, pv, sm, fm], BK encKey AR fm l, BA l]) := by
 refine Bg (args := [.pointer (some ⟨p, 0, none⟩)]) 20 Tryz.func55 rfl rfl rfl ?_; intro w rs
 refine Ad (Ae Am rfl (Ab (Ad (Ae Am rfl (Ab (Av (Ad (Ae Am rfl (Aa rfl (.pointer (some ⟨p, 0, none⟩)) (fun b w hb hH => by exact BD rfl rfl hb) (Ae Am rfl (Aa rfl (fm) (fun b w hb hH => Ba rfl rfl (Bm AY rfl) (hH.row 0 rfl) hb) (Aj (post := fun g1 => [cell p 70 #[r1, r2, r3, pv, sm, fm], F6 encKey AR fm (.pointer (some ⟨g1, 0, none⟩)) l l none, BA l]) rfl (M4 1 Tryz.underlying68 rfl rfl rfl) ?_)))))))))))); rintro g1
 refine Ab (Bo (Dd (α := Nat × FilL × Option (List UInt8 × PtT)) (fun ⟨n, left, cur⟩ => [(2, .int .i64 0), (3, .int .i64 ((n : Nat) : Int)), (10, .pointer (some ⟨g1, 0, none⟩))]) (fun ⟨n, left, cur⟩ => [cell p 70 #[r1, r2, r3, pv, sm, fm], F6 encKey AR fm (.pointer (some ⟨g1, 0, none⟩)) l left cur, BA l]) (fun ⟨n, left, cur⟩ => n + AN (Cm left) = AN (Cm l) ∧ ∀ p, p ∈ left → p ∈ l) (fun ⟨n, left, cur⟩ => left.length) (0, l, none) ⟨Nat.zero_add _, fun _ h => h⟩ ⟨rfl, rfl, rfl, trivial⟩ rfl ?_))
 rintro ⟨n, left, cur⟩ hI
 refine BB.at_ (env' := [(2, .int .i64 0), (3, .int .i64 ((n : Nat) : Int)), (10, .pointer (some ⟨g1, 0, none⟩))]) (rs' := [cell p 70 #[r1, r2, r3, pv, sm, fm], F6 encKey AR fm (.pointer (some ⟨g1, 0, none⟩)) l left cur, BA l]) ⟨rfl, rfl, rfl, trivial⟩ rfl ?_
 have hI1 : n + AN (Cm left) = AN (Cm l) := hI.1
 rcases Classical.em (left = []) with hc | hc
 have hn : n = AN (Cm l) := by rw [hc] at hI1; simpa [Cm, AN] using hI1
 refine Ad (Ae Am rfl (Aa rfl (.tuple #[.bool false]) (fun b w hb hH => M5 1 rfl hc rfl rfl hH hb) (Ae Am rfl (Ab (Av (As rfl (CP (FP (FP (Br (AL (Be 1 rfl JN (fun _ => rfl) ?_)))))))))))); rintro ⟨⟩
 refine BB.leave [1] rfl rfl (Ad (Ae Am rfl (Ab (Ax ?_))))
 exact Aw (.tmp rfl) (fun w h => AH () (by rw [hn]) [1, 0, 2] rfl h CK) rfl
 refine Ad (Ae Am rfl (Aj (post := fun q : { q : Nat × List UInt8 × PtT // (left)[q.1]? = some q.2 } => [cell p 70 #[r1, r2, r3, pv, sm, fm], F6 encKey AR fm (.pointer (some ⟨g1, 0, none⟩)) l (left.eraseIdx q.1.1) (some (q.1.2.1, q.1.2.2)), BA l]) rfl (M6 1 rfl hc rfl rfl) ?_)); rintro q
 refine Ae Am rfl (Ab (Av (AI rfl (AB (AL (Bo ?_))))))
 have hqm : q.1.2 ∈ l := hI.2 _ (List.mem_of_getElem? q.2)
 have hqu : AN (Cm (left.eraseIdx q.1.1)) + q.1.2.2.2.length = AN (Cm left) := Lm q.2
 refine Ad (Ae Am rfl (Aa rfl (.tuple #[.string (bs q.1.2.1), q.1.2.2.1]) (fun b w hb hH => M7 1 rfl rfl rfl hH hb) (Ae Am rfl (Ab (Bp (Ae Am rfl (Aa rfl (.int .i64 (q.1.2.2.2.length : Int)) (fun b w hb hH => Bf ((hH.rd8 2 rfl (Ku hqm)).rd) Tryz.underlying32 rfl rfl hb) (Aa rfl (.int .i64 ((n + q.1.2.2.2.length : Nat) : Int)) (fun b w hb hH => AQ rfl rfl rfl rfl (by rw [IntWalk.i64_in _ (by omega)]; omega) hb) (Ae Am rfl (AV (BC ?_)))))))))))
 exact Cr (n + q.1.2.2.2.length, left.eraseIdx q.1.1, some (q.1.2.1, q.1.2.2)) 0 ⟨by omega, fun p hp => hI.2 p (List.mem_of_mem_eraseIdx hp)⟩ (show (left.eraseIdx q.1.1).length < left.length from IE q.2) ⟨rfl, rfl, rfl, trivial⟩ rfl
end Go.Proofs.YtjcfimmcogkopaaGreat.Sep
