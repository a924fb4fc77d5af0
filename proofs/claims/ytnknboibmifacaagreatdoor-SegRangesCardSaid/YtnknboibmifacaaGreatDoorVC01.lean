/-
  DskV · MapU · TyK · DskA · DskB
-/
import Derived.Test.YtnknboibmifacaaGreatDoorVB01
import Derived.Test.YtnknboibmifacaaGreatDoorVB02
import Derived.Test.YtnknboibmifacaaGreatDoorVB05
set_option linter.unusedSimpArgs false
set_option linter.unusedVariables false
set_option maxRecDepth 100000
namespace Go.Proofs.YtnknboibmifacaaGreatDoor.Sep
open Go.RowKit
open Go.Proofs.YtnknboibmifacaaGreatDoor.Mem (AR B3 Chg Av)
def OpD.data : OpD → List UInt8
  | .app _ b => b
  | _ => []
def OpD.kind : OpD → Int
  | .app .. => 0
  | .cut .. => 1
  | .ren .. => 2
  | .del _ => 3
def OpD.name : OpD → List UInt8
  | .app n _ => n
  | .cut n _ => n
  | .ren a _ => a
  | .del n => n
def OpD.cutS : OpD → Nat
  | .cut _ s => s
  | _ => 0
def OpD.to : OpD → List UInt8
  | .ren _ b => b
  | _ => []
structure OpV where
  o : OpD
  A : Option Addr
  c : Nat
def OpV.v (x : OpV) : Value := .slice x.A x.o.data.length x.c
def encO (x : OpV) : List Value := [.int .i64 x.o.kind, .string (bs x.o.name), x.v, .int .i64 (x.o.cutS : Int), .string (bs x.o.to)]
theorem Xu : EncOf 5 encO := ⟨fun _ => rfl, fun x v h => by unfold encO OpV.v at h; simp at h; rcases h with rfl | rfl | rfl | rfl | rfl <;> rfl⟩
instance : Inhabited OpV := ⟨⟨.del [], none, 0⟩⟩
def Cq (W : List OpV) : Ass := Bb (fun x : OpV => Ak 5 1 encB x.v x.o.data) W
def RB (W : List OpV) : List OpD := W.map (·.o)
def VH (f : FS) : OpD → Prop
  | .app n _ => DM n = true
  | .cut n s => ∃ x, Bq f n = some x ∧ s ≤ x.length
  | .ren a b => (∃ x, Bq f a = some x) ∧ DM b = true
  | .del _ => True
def LQ : FS → List OpD → Prop
  | _, [] => True
  | f, o :: r => VH f o ∧ LQ (CP f o) r
theorem Tc {f : FS} : LQ f [] := trivial
theorem Ma : ∀ {l : List OpD} {f : FS} {o : OpD}, LQ f l → VH (l.foldl CP f) o → LQ f (l ++ [o])
  | [], _, _, _, ho => ⟨ho, trivial⟩
  | _ :: r, _, _, h, ho => ⟨h.1, Ma (l := r) h.2 ho⟩
theorem Td {f g : FS} {o : OpD} (h : f.Perm g) (hf : (A6 f).Nodup) (ho : VH f o) : VH g o := by
  cases o with
  | app n b => exact ho
  | cut n s => obtain ⟨x, h1, h2⟩ := ho; exact ⟨x, by rw [← FA h hf]; exact h1, h2⟩
  | ren a b => obtain ⟨⟨x, h1⟩, h2⟩ := ho; exact ⟨⟨x, by rw [← FA h hf]; exact h1⟩, h2⟩
  | del n => trivial
def D2 (f : FS) : Prop := ∀ k, k ∈ A6 f → DM k = true
theorem RC : D2 [] := fun k h => by cases h
theorem Ju {f : FS} {n x : List UInt8} (hf : (A6 f).Nodup) (h : D2 f) (hn : DM n = true) : D2 (BM f n x) := fun k hk => by
  obtain ⟨p, hp, rfl⟩ := List.mem_map.1 hk
  rcases (Gj hf p).1 hp with rfl | ⟨h1, _⟩
  · exact hn
  · exact h _ (List.mem_map_of_mem h1)
theorem Mb {f : FS} {n : List UInt8} (hf : (A6 f).Nodup) (h : D2 f) : D2 (Cp f n) := fun k hk => by
 obtain ⟨p, hp, rfl⟩ := List.mem_map.1 hk
 exact h _ (List.mem_map_of_mem ((Gk hf p).1 hp).1)
theorem Pu {f : FS} {o : OpD} (hf : (A6 f).Nodup) (h : D2 f) (ho : VH f o) : D2 (CP f o) := by
  cases o with
  | app n b => exact Ju hf h ho
  | cut n s =>
    obtain ⟨x, h1, _⟩ := ho
    show D2 (match Bq f n with | some x => BM f n (x.take s) | none => f)
    rw [h1]
    exact Ju hf h (h _ (List.mem_map.2 ⟨_, (Cx hf).1 h1, rfl⟩))
  | ren a b =>
    obtain ⟨⟨x, h1⟩, h2⟩ := ho
    show D2 (match Bq f a with | some x => BM (Cp f a) b x | none => f)
    rw [h1]
    exact Ju (Dn hf) (Mb hf h) h2
  | del n => exact Mb hf h
theorem Mc : ∀ (l : List OpD) {f : FS}, (A6 f).Nodup → D2 f → LQ f l → D2 (l.foldl CP f)
  | [], _, _, h, _ => h
  | o :: r, _, hf, h, ho => Mc r (Ic hf o) (Pu hf h ho.1) ho.2
theorem NZ {f : FS} {k x : List UInt8} (hf : (A6 f).Nodup) : Be (BM f k x) ≤ Be f + x.length := by
  cases h : Bq f k with
  | none => rw [IW h]; exact Nat.le_refl _
  | some y => have := Gn (x := x) hf h; omega
theorem MR {f : FS} (hf : (A6 f).Nodup) {o : OpD} (ho : VH f o) : Be (CP f o) ≤ Be f + o.size := by
  cases o with
  | app n b => rw [NQ hf]; exact Nat.le_refl _
  | cut n s =>
    obtain ⟨x, h1, h2⟩ := ho
    show Be (match Bq f n with | some x => BM f n (x.take s) | none => f) ≤ Be f + 0
    rw [h1]
    have := Gn (x := x.take s) hf h1
    rw [List.length_take] at this
    show Be (BM f n (x.take s)) ≤ _
    omega
  | ren a b =>
    obtain ⟨⟨x, h1⟩, _⟩ := ho
    show Be (match Bq f a with | some x => BM (Cp f a) b x | none => f) ≤ Be f + 0
    rw [h1]
    have h2 := GY hf h1
    have h3 := NZ (k := b) (x := x) (Dn (k := a) hf)
    show Be (BM (Cp f a) b x) ≤ _
    omega
  | del n =>
    show Be (Cp f n) ≤ _
    cases h : Bq f n with
    | none => rw [S0 h]; exact Nat.le_add_right _ _
    | some x => have := GY hf h; show _ ≤ Be f + 0; omega
theorem JT : ∀ (l : List OpD) {f : FS}, (A6 f).Nodup → LQ f l → Be (l.foldl CP f) ≤ Be f + (l.map OpD.size).sum
  | [], _, _, _ => by simp
  | o :: r, f, hf, ho => by
    have h1 := MR hf ho.1
    have h2 := JT r (Ic hf o) ho.2
    rw [List.foldl_cons, List.map_cons, List.sum_cons]; omega
theorem N0 {f : FS} {k x : List UInt8} (hf : (A6 f).Nodup) (h : Bq f k = some x) : x.length ≤ Be f := by
 have := GY hf h; omega
theorem N1 {κ ν : Type} [DecidableEq κ] {k : κ} {l : List (κ × ν)} (h : Fg k l 0 = none) : Bq l k = none := by unfold Bq; rw [h]; rfl
theorem FD {κ ν : Type} [DecidableEq κ] {k : κ} {l : List (κ × ν)} {q : Nat × ν} (h : Fg k l 0 = some q) : Bq l k = some q.2 := by unfold Bq; rw [h]; rfl
theorem Te {L : FilL} {n b : List UInt8} {u : Value} (h : Fg n L 0 = none) : CP (CW L) (.app n b) = CW (BM L n (u, b)) := by
 show BM (CW L) n _ = _
 rw [Ej, N1 h, Option.map_none, Option.getD_none, List.nil_append]
 exact IY L n (u, b)
theorem Tf {L : FilL} {n b : List UInt8} {u : Value} {q : Nat × PtT} (h : Fg n L 0 = some q) : CP (CW L) (.app n b) = CW (BM L n (u, q.2.2 ++ b)) := by
 show BM (CW L) n _ = _
 rw [Ej, FD h, Option.map_some, Option.getD_some]
 exact IY L n (u, q.2.2 ++ b)
theorem QB {L : FilL} {n : List UInt8} : CP (CW L) (.del n) = CW (Cp L n) := NR L n
theorem Md {κ ν : Type} [DecidableEq κ] {k : κ} {l : List (κ × ν)} (h : Fg k l 0 = none) : Cp l k = l := by unfold Cp; rw [h]
theorem QC {L : FilL} {k : List UInt8} {q : Nat × PtT} (h : Fg k L 0 = some q) : ∀ rs, Al [BA (L.take q.1), BA (L.drop (q.1 + 1))] rs → BA (Cp L k) rs := fun rs hr => by
 obtain ⟨a, b, rfl, h1, h2⟩ := hr
 unfold BA Cp
 rw [h]
 show Bb _ (L.eraseIdx q.1) _
 rw [List.eraseIdx_eq_take_drop_succ]
 unfold Bb
 rw [List.map_append]
 exact Al.app h1 (Al.one' h2)
theorem BY {v : Value} {f : FS} : ∀ rs, AJ v f rs → (A6 f).Nodup := fun rs ⟨L, h, h'⟩ => by
 obtain ⟨a, b, e, h1, _⟩ := h'
 rw [h, FC]
 exact BG.nodup _ h1
theorem Gs {v : Value} {f : FS} {L : FilL} {os : List Ass} (h : f = CW L) : ∀ rs, Al (BG encKey AM v L :: BA L :: os) rs → ∃ z, rs.Perm z ∧ Al (AJ v f :: os) z := fun rs hr => by
 subst h
 obtain ⟨a, r, rfl, h1, b, r2, rfl, h2, h3⟩ := hr
 exact ⟨a ++ (b ++ r2), .refl _, a ++ b, r2, by simp, ⟨L, rfl, a, b, rfl, h1, Al.one h2⟩, h3⟩
theorem Me {v u : Value} {f : FS} {L : FilL} {n y : List UInt8} {os : List Ass} (hq : Fg n L 0 = none) (h : f = CW (BM L n (u, y))) : ∀ rs, Al (BG encKey AM v (BM L n (u, y)) :: BA L :: Ak 5 1 encB u y :: os) rs → ∃ z, rs.Perm z ∧ Al (AJ v f :: os) z := fun rs hr => by
 obtain ⟨a, r, rfl, h1, b, r2, rfl, h2, c, r3, rfl, h3, h4⟩ := hr
 rw [show a ++ (b ++ (c ++ r3)) = a ++ ((b ++ c) ++ r3) by simp]
 exact Gs h _ ⟨a, _, rfl, h1, b ++ c, r3, rfl, UI hq (u, y) _ ⟨b, c, rfl, h2, Al.one h3⟩, h4⟩
theorem Jv {v u : Value} {f : FS} {L : FilL} {n y : List UInt8} {q : Nat × PtT} {os : List Ass} (hq : Fg n L 0 = some q) (h : f = CW (BM L n (u, y))) : ∀ rs, Al (BG encKey AM v (BM L n (u, y)) :: BA (L.take q.1) :: Ak 5 1 encB u y :: BA (L.drop (q.1 + 1)) :: os) rs → ∃ z, rs.Perm z ∧ Al (AJ v f :: os) z := fun rs hr => by
 obtain ⟨a, r, rfl, h1, b, r2, rfl, h2, c, r3, rfl, h3, e, r4, rfl, h4, h5⟩ := hr
 rw [show a ++ (b ++ (c ++ (e ++ r4))) = a ++ ((b ++ (c ++ e)) ++ r4) by simp]
 exact Gs h _ ⟨a, _, rfl, h1, b ++ (c ++ e), r4, rfl, UH hq (u, y) _ ⟨b, c ++ e, rfl, h2, c, e, rfl, h3, Al.one h4⟩, h5⟩
theorem Pv {v : Value} {f : FS} {L : FilL} {n : List UInt8} {q : Nat × PtT} {os : List Ass} (hq : Fg n L 0 = some q) (h : f = CW (Cp L n)) : ∀ rs, Al (BG encKey AM v (Cp L n) :: BA (L.take q.1) :: BA (L.drop (q.1 + 1)) :: os) rs → ∃ z, rs.Perm z ∧ Al (AJ v f :: os) z := fun rs hr => by
 obtain ⟨a, r, rfl, h1, b, r2, rfl, h2, e, r4, rfl, h4, h5⟩ := hr
 rw [show a ++ (b ++ (e ++ r4)) = a ++ ((b ++ e) ++ r4) by simp]
 exact Gs h _ ⟨a, _, rfl, h1, b ++ e, r4, rfl, QC hq _ ⟨b, e, rfl, h2, Al.one h4⟩, h5⟩
theorem Pw {e : TypeId} {v : Value} {l : List UInt8} {k : Nat} (hk : k ≤ l.length) : ∀ rs, Al [Ak e 1 encB v l] rs → Ak e 1 encB (Ca 1 v 0 k) (l.take k) rs := fun rs hr => by
  rcases Al.one' hr with ⟨h1, h2, h3⟩ | ⟨g, cap, cs, h1, h2, h3, h4, h5, h6⟩
  · subst h2; subst h1
    have : k = 0 := by simpa using hk
    subst this
    exact .inl ⟨by simp [Ca], by simp, h3⟩
  · subst h1
    have hl : (l.take k).length = k := by rw [List.length_take]; omega
    have e1 : (⟨g, 0 + 0 * 1, none⟩ : Addr) = ⟨g, 0, none⟩ := rfl
    refine .inr ⟨g, cap, cs, ?_, by rw [hl]; omega, h3, h4, ?_, h6⟩
    · simp [Ca, Addr.add, hl]
    · rw [hl]
      have h7 := congrArg (List.take (k * 1)) h5
      rw [List.take_take, Nat.min_eq_left (by omega)] at h7
      rw [h7]
      have h8 : flat encB l = flat encB (l.take k) ++ flat encB (l.drop k) := by rw [← FX, List.take_append_drop]
      rw [h8, List.take_append_of_le_length (by rw [Dj OR, hl]; omega), List.take_of_length_le (by rw [Dj OR, hl]; omega)]
theorem UQ {L : FilL} {n : List UInt8} {s : Nat} {u : Value} {q : Nat × PtT} (h : Fg n L 0 = some q) : CP (CW L) (.cut n s) = CW (BM L n (u, q.2.2.take s)) := by
  show (match Bq (CW L) n with | some x => BM (CW L) n (x.take s) | none => CW L) = _
  rw [Ej, FD h]
  exact IY L n (u, q.2.2.take s)
theorem QD {L : FilL} {a b : List UInt8} {q : Nat × PtT} (h : Fg a L 0 = some q) : CP (CW L) (.ren a b) = CW (BM (Cp L a) b (q.2.1, q.2.2)) := by
  show (match Bq (CW L) a with | some x => BM (Cp (CW L) a) b x | none => CW L) = _
  rw [Ej, FD h, NR]
  exact IY (Cp L a) b (q.2.1, q.2.2)
theorem Px {κ ν : Type} [DecidableEq κ] {k : κ} {l : List (κ × ν)} {x : ν} (h : Bq l k = some x) : ∃ q, Fg k l 0 = some q ∧ q.2 = x := by
 unfold Bq at h
 exact Option.map_eq_some_iff.1 h
theorem Mf {L : FilL} {n x : List UInt8} (h : Bq (CW L) n = some x) : ∃ q, Fg n L 0 = some q ∧ q.2.2 = x := by
 rw [Ej] at h
 obtain ⟨r, h1, h2⟩ := Option.map_eq_some_iff.1 h
 obtain ⟨q, h3, h4⟩ := Px h1
 exact ⟨q, h3, by rw [h4]; exact h2⟩
theorem RD {v : Value} {f : FS} {L : FilL} {n : List UInt8} {s : Nat} {q : Nat × PtT} {os : List Ass} (hq : Fg n L 0 = some q) (hs : s ≤ q.2.2.length) (h : f = CW (BM L n (Ca 1 q.2.1 0 s, q.2.2.take s))) : ∀ rs, Al (BG encKey AM v (BM L n (Ca 1 q.2.1 0 s, q.2.2.take s)) :: BA (L.take q.1) :: Ak 5 1 encB q.2.1 q.2.2 :: BA (L.drop (q.1 + 1)) :: os) rs → ∃ z, rs.Perm z ∧ Al (AJ v f :: os) z := fun rs hr => by
 obtain ⟨a, r, e1, h1, b, r2, e2, h2, c, r3, e3, h3, hx⟩ := hr
 exact Jv hq h _ ⟨a, r, e1, h1, b, r2, e2, h2, c, r3, e3, Pw hs _ (Al.one h3), hx⟩
def Ek : Option Nat → Int
  | none => -1
  | some n => n
structure DskU (d : DiskD) where
  pv : Value
  sm : Value
  sh : Value
  W : List OpV
  g : FS
  hW : RB W = d.wait
  hg : d.down = false → g.Perm d.now
  hok : LQ d.syn d.wait
  hf : ∀ n, d.fuse = some n → n ≤ 9223372036854775807
  hr : 0 ≤ d.room ∧ d.room ≤ 1048576
  hk : D2 d.syn
def XD : Bool → Value → FS → Ass
  | true, v, _ => fact (v = .map none)
  | false, v, f => AJ v f
def Ag (p : Nat) (d : DiskD) : Ass := fun rs => ∃ x : DskU d, Al [cell p 84 #[.int .i64 d.room, .int .i64 (Ek d.fuse), .bool d.down, x.pv, x.sm, x.sh], Ak 127 5 encO x.pv x.W, Cq x.W, AJ x.sm d.syn, XD d.down x.sh x.g] rs
section
variable {p : Nat} {d : DiskD}
theorem I0 (h : d.down = false) : ∀ rs, Ag p d rs → ∃ x : DskU d, Al [cell p 84 #[.int .i64 d.room, .int .i64 (Ek d.fuse), .bool false, x.pv, x.sm, x.sh], Ak 127 5 encO x.pv x.W, Cq x.W, AJ x.sm d.syn, AJ x.sh x.g] rs := fun rs ⟨x, hx⟩ => ⟨x, by rw [h] at hx; exact hx⟩
theorem RE {q : Prop} {a b c e : Ass} {rs : List RowT} (h : Al [a, b, c, e, fact q] rs) : q ∧ Al [a, b, c, e] rs := by
 obtain ⟨_, _, rfl, h1, _, _, rfl, h2, _, _, rfl, h3, _, _, rfl, h4, _, _, rfl, ⟨rfl, h5⟩, rfl⟩ := h
 exact ⟨h5, _, _, rfl, h1, _, _, rfl, h2, _, _, rfl, h3, _, _, rfl, h4, rfl⟩
theorem RF {q : Prop} {a b c e : Ass} {rs : List RowT} (h5 : q) (h : Al [a, b, c, e] rs) : Al [a, b, c, e, fact q] rs := by
 obtain ⟨_, _, rfl, h1, _, _, rfl, h2, _, _, rfl, h3, _, _, rfl, h4, rfl⟩ := h
 exact ⟨_, _, rfl, h1, _, _, rfl, h2, _, _, rfl, h3, _, _, rfl, h4, _, _, rfl, ⟨rfl, h5⟩, rfl⟩
theorem QE (h : d.down = true) : ∀ rs, Ag p d rs → ∃ x : DskU d, Al [cell p 84 #[.int .i64 d.room, .int .i64 (Ek d.fuse), .bool true, x.pv, x.sm, .map none], Ak 127 5 encO x.pv x.W, Cq x.W, AJ x.sm d.syn] rs := fun rs ⟨x, hx⟩ => by
 rw [h] at hx
 obtain ⟨e, h1⟩ := RE hx
 rw [e] at h1
 exact ⟨x, h1⟩
theorem KX {os : List Ass} (x : DskU d) (h : d.down = true) (hs : x.sh = .map none) : ∀ rs, Al ([cell p 84 #[.int .i64 d.room, .int .i64 (Ek d.fuse), .bool true, x.pv, x.sm, .map none], Ak 127 5 encO x.pv x.W, Cq x.W, AJ x.sm d.syn] ++ os) rs → ∃ z, rs.Perm z ∧ Al ([Ag p d] ++ os) z := fun rs hr => by
 obtain ⟨a, b, e, h1, h2⟩ := Al.split hr
 subst e
 refine ⟨a ++ b, .refl _, Al.app (Al.one ⟨x, ?_⟩) h2⟩
 rw [h]
 exact RF hs (by rw [hs]; exact h1)
theorem KY {os : List Ass} (x : DskU d) (h : d.down = false) : ∀ rs, Al ([cell p 84 #[.int .i64 d.room, .int .i64 (Ek d.fuse), .bool false, x.pv, x.sm, x.sh], Ak 127 5 encO x.pv x.W, Cq x.W, AJ x.sm d.syn, AJ x.sh x.g] ++ os) rs → ∃ z, rs.Perm z ∧ Al ([Ag p d] ++ os) z := fun rs hr => by
 obtain ⟨a, b, e, h1, h2⟩ := Al.split hr
 subst e
 refine ⟨a ++ b, .refl _, Al.app (Al.one ⟨x, ?_⟩) h2⟩
 rw [h]
 exact h1
end
structure DskL (d : DiskD) where
  pv : Value
  sm : Value
  sh : Value
  W : List OpV
  L : FilL
  hW : RB W = d.wait
  hg : (CW L).Perm d.now
  hok : LQ d.syn d.wait
  hf : ∀ n, d.fuse = some n → n ≤ 9223372036854775807
  hr : 0 ≤ d.room ∧ d.room ≤ 1048576
  hk : D2 d.syn
section
variable {p : Nat} {d : DiskD}
theorem DW (h : d.down = false) : ∀ rs, Ag p d rs → ∃ y : DskL d, Al [cell p 84 #[.int .i64 d.room, .int .i64 (Ek d.fuse), .bool false, y.pv, y.sm, y.sh], Ak 127 5 encO y.pv y.W, Cq y.W, AJ y.sm d.syn, BG encKey AM y.sh y.L, BA y.L] rs := fun rs hr => by
 obtain ⟨x, a1, _, rfl, h1, a2, _, rfl, h2, a3, _, rfl, h3, a4, _, rfl, h4, a5, _, rfl, ⟨L, hL, h5⟩, rfl⟩ := I0 h rs hr
 refine ⟨⟨x.pv, x.sm, x.sh, x.W, L, x.hW, hL ▸ x.hg h, x.hok, x.hf, x.hr, x.hk⟩, a1, _, rfl, h1, a2, _, rfl, h2, a3, _, rfl, h3, a4, a5, by simp, h4, h5⟩
theorem Wj (x : DskU d) (h : d.down = false) : ∀ rs, Al [cell p 84 #[.int .i64 d.room, .int .i64 (Ek d.fuse), .bool false, x.pv, x.sm, x.sh], Ak 127 5 encO x.pv x.W, Cq x.W, AJ x.sm d.syn, AJ x.sh x.g] rs → Ag p d rs := fun rs hr => ⟨x, by rw [h]; exact hr⟩
theorem I1 (y : DskL d) (h : d.down = false) : ∀ rs, Al [cell p 84 #[.int .i64 d.room, .int .i64 (Ek d.fuse), .bool false, y.pv, y.sm, y.sh], Ak 127 5 encO y.pv y.W, Cq y.W, AJ y.sm d.syn, BG encKey AM y.sh y.L, BA y.L] rs → Ag p d rs := fun rs hr => by
 obtain ⟨a1, _, rfl, h1, a2, _, rfl, h2, a3, _, rfl, h3, a4, a5, rfl, h4, h5⟩ := hr
 exact Wj ⟨y.pv, y.sm, y.sh, y.W, CW y.L, y.hW, fun _ => y.hg, y.hok, y.hf, y.hr, y.hk⟩ h _ ⟨a1, _, rfl, h1, a2, _, rfl, h2, a3, _, rfl, h3, a4, a5, rfl, h4, Al.one ⟨y.L, rfl, h5⟩⟩
theorem Dp {os : List Ass} (y : DskL d) (h : d.down = false) : ∀ rs, Al ([cell p 84 #[.int .i64 d.room, .int .i64 (Ek d.fuse), .bool false, y.pv, y.sm, y.sh], Ak 127 5 encO y.pv y.W, Cq y.W, AJ y.sm d.syn, BG encKey AM y.sh y.L, BA y.L] ++ os) rs → ∃ z, rs.Perm z ∧ Al ([Ag p d] ++ os) z := fun rs hr => by
 obtain ⟨a, b, e, h1, h2⟩ := Al.split hr
 subst e
 exact ⟨a ++ b, .refl _, Al.app (Al.one (I1 y h _ h1)) h2⟩
end
theorem Tg {d : DiskD} {L : FilL} (hp : (CW L).Perm d.now) (hn : (A6 (CW L)).Nodup) (n y : List UInt8) : H4 d n y = (decide ((Be (CW L) : Int) + (y.length : Int) ≤ d.room) && !((Bq L n).isNone && decide (64 ≤ L.length))) := by
 unfold H4
 rw [← EF hp, ← FA hp hn, ← hp.length_eq, Ej]
 have h1 : (CW L).length = L.length := by simp [CW]
 rw [h1]
 cases Bq L n <;> rfl
theorem RG {d : DiskD} {L : FilL} {n y : List UInt8} (hp : (CW L).Perm d.now) (hn : (A6 (CW L)).Nodup) (h : H4 d n y = false) : (d.room < (Be (CW L) : Int) + (y.length : Int) ∧ Bq L n = none) ∨ (d.room < (Be (CW L) : Int) + (y.length : Int) ∧ ∃ r, Bq L n = some r) ∨ ((Be (CW L) : Int) + (y.length : Int) ≤ d.room ∧ Bq L n = none ∧ 64 ≤ L.length) := by
  rw [Tg hp hn] at h
  by_cases h1 : (Be (CW L) : Int) + (y.length : Int) ≤ d.room
  · right; right
    cases h2 : Bq L n with
    | none => rw [h2] at h; simp [h1] at h; exact ⟨h1, rfl, h⟩
    | some r => rw [h2] at h; simp [h1] at h
  · cases h2 : Bq L n with
    | none => exact .inl ⟨by omega, rfl⟩
    | some r => exact .inr (.inl ⟨by omega, r, rfl⟩)
theorem UR {d : DiskD} {L : FilL} {n y : List UInt8} (hp : (CW L).Perm d.now) (hn : (A6 (CW L)).Nodup) (h : H4 d n y = true) : (Be (CW L) : Int) + (y.length : Int) ≤ d.room ∧ ((∃ r, Bq L n = some r) ∨ (Bq L n = none ∧ L.length < 64)) := by
  rw [Tg hp hn, Bool.and_eq_true, decide_eq_true_eq] at h
  refine ⟨h.1, ?_⟩
  cases h2 : Bq L n with
  | none => right; have := h.2; rw [h2] at this; simp at this; exact ⟨rfl, this⟩
  | some r => exact .inl ⟨r, rfl⟩
theorem Ij {d : DiskD} {L : FilL} (hp : (CW L).Perm d.now) (hn : (A6 (CW L)).Nodup) (n : List UInt8) : Bq d.now n = (Bq L n).map (·.2) := by rw [← FA hp hn, Ej]
theorem B4 {v : Value} {L : FilL} : ∀ rs, BG encKey AM v L rs → (A6 (CW L)).Nodup := fun rs h => by rw [FC]; exact BG.nodup _ h
theorem Th {p : Nat} {room : Int} {sm sh : Value} (hr : 0 ≤ room ∧ room ≤ 1048576) : ∀ rs, Al [cell p 84 #[.int .i64 room, .int .i64 (-1), .bool false, .slice none 0 0, sm, sh], Ak 127 5 encO (.slice none 0 0) [], Cq [], BG encKey AM sm [], BA [], BG encKey AM sh [], BA []] rs → ∃ z, rs.Perm z ∧ Al [Ag p (G0 room)] z := fun rs hx => by
 obtain ⟨a1, _, rfl, h1, a2, _, rfl, h2, a3, _, rfl, h3, a4, _, rfl, h4, a5, a6, rfl, h5, h6⟩ := hx
 refine ⟨_, .refl _, Al.one ⟨⟨.slice none 0 0, sm, sh, [], [], rfl, fun _ => .refl _, Tc, (fun n h => by cases h), hr, RC⟩, ?_⟩⟩
 refine ⟨a1, _, rfl, h1, a2, _, rfl, h2, a3, _, rfl, h3, a4 ++ a5, a6, by simp, ⟨[], rfl, a4, a5, rfl, h4, Al.one h5⟩, Al.one ⟨[], rfl, h6⟩⟩
theorem MS {d : DiskD} (h : d.fit) (hn : (A6 d.syn).Nodup) (ho : LQ d.syn d.wait) : Be d.now ≤ 1099511627776 := Nat.le_trans (JT d.wait hn ho) h.1
theorem RH {d : DiskD} (hn : (A6 d.syn).Nodup) (h : D2 d.syn) (ho : LQ d.syn d.wait) : D2 d.now := Mc d.wait hn h ho
theorem RI {d : DiskD} (hn : (A6 d.syn).Nodup) : (A6 d.now).Nodup := L8 d.wait hn
theorem US {d : DiskD} (x : DskU d) : x.W.length = d.wait.length := by rw [← x.hW]; simp [RB]
end Go.Proofs.YtnknboibmifacaaGreatDoor.Sep
namespace Go.Proofs.YtnknboibmifacaaGreatDoor.Sep
open Go.RowKit
open Go.Proofs.YtnknboibmifacaaGreatDoor.Mem (AR B3 Chg Av)
section
variable {P : Program} {κ ν : Type} {kk : κ → Value} {vv : ν → Value} {B : Nat → Prop} {w0 w : World} {os : List Ass} {mt kt vt : TypeId} {n : Nat} {env : List (Nat × Value)} {Q : Exit → Act → World → Prop} {o : Oper} {act : Act}
end
section
variable {P : Program} {κ : Type} [DecidableEq κ] {kk : κ → Value} {w : World} {mt kt vt : TypeId} {kd : TypeDesc} {z : Value} {n : Nat} {env : List (Nat × Value)} {o : Oper} {act : Act}
theorem UT (hT : MapTy P mt kt vt kd kk z) {x y : Operand} (ho : o.op = .lookup mt x y false) {k : κ} (hx : evs env x = some (.map none)) (hy : evs env y = some (kk k)) (hF : Fr n act env) : (execOp act.eval o).run P w = .ok (.value z) w := by
 unfold execOp
 simp only [ho, hF.evs hx, hF.evs hy, Sem.run_bind, GV hT, Result.andThen_ok, Sem.run_pure, Bool.false_eq_true, if_false]
theorem UU (hT : MapTy P mt kt vt kd kk z) {x y : Operand} (ho : o.op = .lookup mt x y true) {k : κ} (hx : evs env x = some (.map none)) (hy : evs env y = some (kk k)) (hF : Fr n act env) : (execOp act.eval o).run P w = .ok (.value (.tuple #[z, .bool false])) w := by
 unfold execOp
 simp only [ho, hF.evs hx, hF.evs hy, Sem.run_bind, GV hT, Result.andThen_ok, Sem.run_pure, if_true]
end
end Go.Proofs.YtnknboibmifacaaGreatDoor.Sep
namespace Go.Proofs.YtnknboibmifacaaGreatDoor.Sep
open Go.RowKit
open Go.Proofs.YtnknboibmifacaaGreatDoor.Mem (AR B3 Chg Av)
def flK : List ((Nat × Nat) × Nat) := flS
theorem Ar : LK Tryz.prog flK := Ai
end Go.Proofs.YtnknboibmifacaaGreatDoor.Sep
namespace Go.Proofs.YtnknboibmifacaaGreatDoor.Sep
open Go.RowKit
open Go.Proofs.YtnknboibmifacaaGreatDoor.Mem (AR B3 Chg Av)
theorem Py (w : World) (room : Int) (h : 0 ≤ room ∧ room ≤ 1048576) : Calls Tryz.prog 39 #[.int .i64 room] w fun e w' => e = .returned (.bool true) ∧ Below w.heap.size w w' := by
 refine FW (args := [.int .i64 room]) 9 Tryz.func39 rfl rfl rfl ?_
 refine Ad ?_
 refine Af Ai rfl ?_
 refine Ab (Ad ?_)
 refine Af Ai rfl ?_
 refine Aa rfl (.bool true) (fun b w hb hH => AZ rfl rfl rfl (BX (by omega)) hb) ?_
 refine Af Ai rfl ?_
 refine Aa rfl (.bool true) (fun b w hb hH => AZ rfl rfl rfl (Cb (by omega)) hb) ?_
 refine Af Ai rfl ?_
 refine Ab (Az ?_)
 exact Ay (.tmp rfl) (fun w h => ⟨rfl, Av h.up⟩) rfl
theorem Ht (n : List UInt8) : DM n = true ↔ 1 ≤ n.length ∧ n.length ≤ 16 := by simp [DM]
theorem Ti (n : List UInt8) : DM n = false ↔ ¬ (1 ≤ n.length ∧ n.length ≤ 16) := by rw [← Ht]; simp
theorem KZ (w : World) (n : List UInt8) (h : DM n = true) : Calls Tryz.prog 112 #[.string (bs n)] w fun e w' => e = .returned (.bool true) ∧ Below w.heap.size w w' := by
 have h := (Ht n).1 h
 refine FW (args := [.string (bs n)]) 11 Tryz.func112 rfl rfl rfl ?_
 refine Ad ?_
 refine Af Ai rfl ?_
 refine Ab (Ad ?_)
 refine Af Ai rfl ?_
 refine Aa rfl (.int .i64 (n.length : Int)) (fun b w hb hH => Cf rfl rfl (fun cs => (fun w cs => Ew Tryz.underlying9 _ _ w cs) w cs) hb) ?_
 refine Aa rfl (.bool true) (fun b w hb hH => AZ rfl rfl rfl (BX (by omega)) hb) ?_
 refine Af Ai rfl ?_
 refine Aa rfl (.int .i64 (n.length : Int)) (fun b w hb hH => Cf rfl rfl (fun cs => (fun w cs => Ew Tryz.underlying9 _ _ w cs) w cs) hb) ?_
 refine Aa rfl (.bool true) (fun b w hb hH => AZ rfl rfl rfl (Cb (by omega)) hb) ?_
 refine Af Ai rfl ?_
 refine Ab (Az ?_)
 exact Ay (.tmp rfl) (fun w h => ⟨rfl, Av h.up⟩) rfl
theorem Pz (w : World) (n : List UInt8) (h : DM n = false) : Calls Tryz.prog 112 #[.string (bs n)] w fun e w' => e = .returned (.bool false) ∧ Below w.heap.size w w' := by
  have h := (Ti n).1 h
  refine FW (args := [.string (bs n)]) 11 Tryz.func112 rfl rfl rfl ?_
  refine Ad ?_
  refine Af Ai rfl ?_
  refine Ab ?_
  rcases Nat.lt_or_ge n.length 1 with h0 | h0
  · skip
    refine Ad ?_
    refine Af Ai rfl ?_
    refine Aa rfl (.int .i64 (n.length : Int)) (fun b w hb hH => Cf rfl rfl (fun cs => (fun w cs => Ew Tryz.underlying9 _ _ w cs) w cs) hb) ?_
    refine Aa rfl (.bool false) (fun b w hb hH => AZ rfl rfl rfl (CT (by omega)) hb) ?_
    refine Af Ai rfl ?_
    refine Ab (Az ?_)
    exact Ay (.tmp rfl) (fun w h => ⟨rfl, Av h.up⟩) rfl
  · skip
    refine Ad ?_
    refine Af Ai rfl ?_
    refine Aa rfl (.int .i64 (n.length : Int)) (fun b w hb hH => Cf rfl rfl (fun cs => (fun w cs => Ew Tryz.underlying9 _ _ w cs) w cs) hb) ?_
    refine Aa rfl (.bool true) (fun b w hb hH => AZ rfl rfl rfl (BX (by omega)) hb) ?_
    refine Af Ai rfl ?_
    refine Aa rfl (.int .i64 (n.length : Int)) (fun b w hb hH => Cf rfl rfl (fun cs => (fun w cs => Ew Tryz.underlying9 _ _ w cs) w cs) hb) ?_
    refine Aa rfl (.bool false) (fun b w hb hH => AZ rfl rfl rfl (Fe (by omega)) hb) ?_
    refine Af Ai rfl ?_
    refine Ab (Az ?_)
    exact Ay (.tmp rfl) (fun w h => ⟨rfl, Av h.up⟩) rfl
theorem Gz (v : Value) (l : FilL) (n : List UInt8) (r : Option PtT) (h : Bq l n = r) : AP Tryz.prog 103 #[v, .string (bs n)] [BG encKey AM v l] (fun (_ : Unit) => .bool r.isSome) (fun (_ : Unit) => [BG encKey AM v l]) := by
 refine Bj (args := [v, .string (bs n)]) 14 Tryz.func103 rfl rfl rfl ?_; intro w rs
 refine Ad ?_
 refine Af Ar rfl ?_
 refine Ab (Ad ?_)
 refine Af Ar rfl ?_
 refine Aa rfl (.tuple #[((r).map AM).getD (.slice none 0 0), .bool ((r).isSome)]) (fun b w hb hH => We 0 Dg rfl (k := n) (r := r) h rfl rfl rfl hH hb) ?_
 refine Af Ar rfl ?_
 refine Ab (Ad ?_)
 refine Af Ar rfl ?_
 refine Ab (Az ?_)
 exact Ay (.tmp rfl) (fun w h => AC () rfl [0] rfl h Ed) rfl
theorem UV (n : List UInt8) : AP Tryz.prog 103 #[.map none, .string (bs n)] [] (fun (_ : Unit) => .bool false) (fun (_ : Unit) => []) := by
 refine Bj (args := [.map none, .string (bs n)]) 14 Tryz.func103 rfl rfl rfl ?_; intro w rs
 refine Ad ?_
 refine Af Ar rfl ?_
 refine Ab (Ad ?_)
 refine Af Ar rfl ?_
 refine Aa rfl (.tuple #[.slice none 0 0, .bool false]) (fun b w hb hH => UU Dg rfl (k := n) rfl rfl hb) ?_
 refine Af Ar rfl ?_
 refine Ab (Ad ?_)
 refine Af Ar rfl ?_
 refine Ab (Az ?_)
 exact Ay (.tmp rfl) (fun w h => AC () rfl [] rfl h Ed) rfl
theorem K0 (p : Nat) (r1 r2 r3 sm fm pv : Value) (l : FilL) (hl : Be (CW l) ≤ 1099511627776) : AP Tryz.prog 113 #[.pointer (some ⟨p, 0, none⟩)] [cell p 84 #[r1, r2, r3, pv, sm, fm], BG encKey AM fm l, BA l] (fun (_ : Unit) => .int .i64 ((Be (CW l) : Nat) : Int)) (fun (_ : Unit) => [cell p 84 #[r1, r2, r3, pv, sm, fm], BG encKey AM fm l, BA l]) := by
  refine Bj (args := [.pointer (some ⟨p, 0, none⟩)]) 20 Tryz.func113 rfl rfl rfl ?_; intro w rs
  refine Ad ?_
  refine Af Ar rfl ?_
  refine Ab (Ad ?_)
  refine Af Ar rfl ?_
  refine Ab (An (Ad ?_))
  refine Af Ar rfl ?_
  refine Aa rfl (.pointer (some ⟨p, 0, none⟩)) (fun b w hb hH => by exact B8 rfl rfl hb) ?_
  refine Af Ar rfl ?_
  refine Aa rfl (fm) (fun b w hb hH => AY rfl rfl (Bi AX rfl) (hH.row 0 rfl) hb) ?_
  refine Am (post := fun g1 => [cell p 84 #[r1, r2, r3, pv, sm, fm], KK encKey AM fm (.pointer (some ⟨g1, 0, none⟩)) l l none, BA l]) rfl (UA 1 Tryz.underlying81 rfl rfl rfl) ?_; rintro g1
  refine Ab (AQ ?_)
  refine CY (α := Nat × FilL × Option (List UInt8 × PtT)) (fun ⟨n, left, cur⟩ => [(2, .int .i64 0), (3, .int .i64 ((n : Nat) : Int)), (10, .pointer (some ⟨g1, 0, none⟩))]) (fun ⟨n, left, cur⟩ => [cell p 84 #[r1, r2, r3, pv, sm, fm], KK encKey AM fm (.pointer (some ⟨g1, 0, none⟩)) l left cur, BA l]) (fun ⟨n, left, cur⟩ => n + Be (CW left) = Be (CW l) ∧ ∀ p, p ∈ left → p ∈ l) (fun ⟨n, left, cur⟩ => left.length) (0, l, none) ⟨Nat.zero_add _, fun _ h => h⟩ ⟨rfl, rfl, rfl, trivial⟩ rfl ?_
  rintro ⟨n, left, cur⟩ hI
  refine AN.at_ (env' := [(2, .int .i64 0), (3, .int .i64 ((n : Nat) : Int)), (10, .pointer (some ⟨g1, 0, none⟩))]) (rs' := [cell p 84 #[r1, r2, r3, pv, sm, fm], KK encKey AM fm (.pointer (some ⟨g1, 0, none⟩)) l left cur, BA l]) ⟨rfl, rfl, rfl, trivial⟩ rfl ?_
  have hI1 : n + Be (CW left) = Be (CW l) := hI.1
  rcases Classical.em (left = []) with hc | hc
  · skip
    have hn : n = Be (CW l) := by rw [hc] at hI1; simpa [CW, Be] using hI1
    refine Ad ?_
    refine Af Ar rfl ?_
    refine Aa rfl (.tuple #[.bool false]) (fun b w hb hH => UB 1 rfl hc rfl rfl hH hb) ?_
    refine Af Ar rfl ?_
    refine Ab (An (As rfl (C8 (Gx (Gx (Br (AB ?_)))))))
    refine A7 1 rfl Rl (fun _ => rfl) ?_; rintro ⟨⟩
    refine AN.leave [1] rfl rfl ?_
    refine Ad ?_
    refine Af Ar rfl ?_
    refine Ab (Az ?_)
    exact Ay (.tmp rfl) (fun w h => AC () (by rw [hn]) [1, 0, 2] rfl h Ed) rfl
  · skip
    refine Ad ?_
    refine Af Ar rfl ?_
    refine Am (post := fun q : { q : Nat × List UInt8 × PtT // (left)[q.1]? = some q.2 } => [cell p 84 #[r1, r2, r3, pv, sm, fm], KK encKey AM fm (.pointer (some ⟨g1, 0, none⟩)) l (left.eraseIdx q.1.1) (some (q.1.2.1, q.1.2.2)), BA l]) rfl (UC 1 rfl hc rfl rfl) ?_; rintro q
    refine Af Ar rfl ?_
    refine Ab (An (AI rfl (Aw (AB (AQ ?_)))))
    have hqm : q.1.2 ∈ l := hI.2 _ (List.mem_of_getElem? q.2)
    have hqu : Be (CW (left.eraseIdx q.1.1)) + q.1.2.2.2.length = Be (CW left) := Pk q.2
    refine Ad ?_
    refine Af Ar rfl ?_
    refine Aa rfl (.tuple #[.string (bs q.1.2.1), q.1.2.2.1]) (fun b w hb hH => UD 1 rfl rfl rfl hH hb) ?_
    refine Af Ar rfl ?_
    refine Ab (BJ ?_)
    refine Af Ar rfl ?_
    refine Aa rfl (.int .i64 (q.1.2.2.2.length : Int)) (fun b w hb hH => Bp ((hH.rd8 2 rfl (Kh hqm)).rd) Tryz.underlying30 rfl rfl hb) ?_
    refine Aa rfl (.int .i64 ((n + q.1.2.2.2.length : Nat) : Int)) (fun b w hb hH => AH rfl rfl rfl rfl (by rw [IntWalk.i64_in _ (by omega)]; omega) hb) ?_
    refine Af Ar rfl ?_
    refine AD (AW ?_)
    exact Cm (n + q.1.2.2.2.length, left.eraseIdx q.1.1, some (q.1.2.1, q.1.2.2)) 0 ⟨by omega, fun p hp => hI.2 p (List.mem_of_mem_eraseIdx hp)⟩ (show (left.eraseIdx q.1.1).length < left.length from Pj q.2) ⟨rfl, rfl, rfl, trivial⟩ rfl
end Go.Proofs.YtnknboibmifacaaGreatDoor.Sep
namespace Go.Proofs.YtnknboibmifacaaGreatDoor.Sep
open Go.RowKit
open Go.Proofs.YtnknboibmifacaaGreatDoor.Mem (AR B3 Chg Av)
theorem Wk {X : Ass} {v : Value} {f f' : FS} {n b : List UInt8} {A : Option Addr} {c : Nat} (hX : E3 X (.slice A b.length c) b) (hl : Be f + b.length ≤ 4398046511104) (h : CP f (.app n b) = f') : AP Tryz.prog 128 #[v, .agg #[.int .i64 0, .string (bs n), .slice A b.length c, .int .i64 0, .string (bs ([]))]] [AJ v f, X] (fun (_ : Unit) => .tuple #[]) (fun (_ : Unit) => [AJ v f', X]) := by
  have h_ := h
  refine Bj (args := [v, .agg #[.int .i64 0, .string (bs n), .slice A b.length c, .int .i64 0, .string (bs ([]))]]) 49 Tryz.func128 rfl rfl rfl ?_; intro w rs
  refine AN.fact 0 rfl BY ?_; rintro hnd
  refine A7 0 rfl Gr (fun _ => rfl) ?_; rintro ⟨L, hL⟩
  subst hL
  refine Ad ?_
  refine Af Ar rfl ?_
  refine Am (post := fun g1 => [cell g1 127 #[.int .i64 0, .string (bs n), .slice A b.length c, .int .i64 0, .string (bs ([]))], BG encKey AM v L, BA L, X]) rfl (CD (cs := #[.int .i64 0, .string (bs n), .slice A b.length c, .int .i64 0, .string (bs ([]))]) rfl rfl rfl) ?_; rintro g1
  refine Ab (Ad ?_)
  refine Af Ar rfl ?_
  refine Aa rfl (.int .i64 0) (fun b w hb hH => AY rfl rfl (Bi E8 rfl) (hH.row 0 rfl) hb) ?_
  refine Ab (AQ (Ad ?_))
  refine Af Ar rfl ?_
  refine Aa rfl (.bool true) (fun b w hb hH => AZ rfl rfl rfl (FI (by decide)) hb) ?_
  refine Af Ar rfl ?_
  refine Ab (AI rfl ?_)
  rcases hq : Fg n L 0 with _ | q
  · skip
    refine BN 5 1 encB ?_
    refine BV 10 1 [⟨.quiet, [none], fun _ => v, []⟩, ⟨.quiet, [none], fun _ => .pointer (some ⟨g1, 1, none⟩), []⟩, ⟨.quiet, [none], fun _ => .string (bs n), [1]⟩, ⟨.quiet, [none], fun _ => v, []⟩, ⟨.quiet, [none], fun _ => .pointer (some ⟨g1, 1, none⟩), []⟩, ⟨.quiet, [none], fun _ => .string (bs n), [4]⟩, ⟨.quiet, [none], fun _ => .slice none 0 0, [3, 5]⟩, ⟨.quiet, [none], fun _ => .pointer (some ⟨g1, 2, none⟩), []⟩, ⟨.quiet, [none], fun _ => .slice A b.length c, [7]⟩, ⟨.act 0, [some false], fun _ => undef, [6, 8]⟩] [(0, v), (3, .pointer (some ⟨g1, 0, none⟩))] (fun ρ => match ρ with | [r0] => [DR r0 (fun u => Ak 5 1 encB u b) (Ak 5 1 encB (.slice none 0 0) ([])), cell g1 127 #[.int .i64 0, .string (bs n), .slice A b.length c, .int .i64 0, .string (bs ([]))], BG encKey AM v L, BA L, X] | _ => []) (by kernel_rfl) (by kernel_rfl) ⟨rfl, rfl, trivial⟩ rfl ?_ ?_
    · skip
      refine Ac (by intro r0_; exact ⟨rfl, fun b w hH hb => Ah Ar rfl hb⟩) ?_
      refine Ac (by intro r0_; exact ⟨rfl, fun b w hH hb => Ah Ar rfl hb⟩) ?_
      refine Ac (by intro r0_; exact ⟨rfl, fun b w hH hb => AY rfl rfl (Bi CF rfl) (hH.row 1 rfl) hb⟩) ?_
      refine Ac (by intro r0_; exact ⟨rfl, fun b w hH hb => Ah Ar rfl hb⟩) ?_
      refine Ac (by intro r0_; exact ⟨rfl, fun b w hH hb => Ah Ar rfl hb⟩) ?_
      refine Ac (by intro r0_; exact ⟨rfl, fun b w hH hb => AY rfl rfl (Bi CF rfl) (hH.row 1 rfl) hb⟩) ?_
      refine Ac (by intro r0_; exact ⟨rfl, fun b w hH hb => GW 2 Dg rfl (k := n) (r := none) (N1 hq) rfl rfl rfl hH hb⟩) ?_
      refine Ac (by intro r0_; exact ⟨rfl, fun b w hH hb => Ah Ar rfl hb⟩) ?_
      refine Ac (by intro r0_; exact ⟨rfl, fun b w hH hb => AY rfl rfl (Bi CS rfl) (hH.row 1 rfl) hb⟩) ?_
      refine Ac (by exact ⟨rfl, Bm.s (F5 0 Bf (by kernel_rfl) rfl (b) (fun w hH => hH.rd 4 rfl hX.rd) (by simp only [List.length_nil]; omega) rfl rfl rfl (List.nil_append _)) (fun _ => rfl)⟩) ?_
      exact B7
    intro u
    refine BT.keep (env' := [(9, v), (11, .string (bs n)), (18, u)]) ⟨rfl, rfl, rfl, trivial⟩ ?_
    refine Af Ar rfl ?_
    refine AL (post := fun _ => [Ak 5 1 encB u b, cell g1 127 #[.int .i64 0, .string (bs n), .slice A b.length c, .int .i64 0, .string (bs ([]))], BG encKey AM v (BM L n (u, b)), BA L, X]) rfl rfl (KJ 2 Dg rfl n (u, b) rfl rfl rfl rfl rfl rfl) ?_; rintro ⟨⟩
    refine AD (AW ?_)
    exact Eb  (fun w h => AC () rfl [2, 3, 0, 4] rfl h (Me hq (h_.symm.trans (Te hq)))) rfl
  · skip
    refine A7 2 rfl (G7 hq) (fun _ => rfl) ?_; rintro ⟨⟩
    have hle : q.2.2.length ≤ Be (CW L) := N0 hnd (by rw [Ej, FD hq]; rfl)
    refine BV 10 1 [⟨.quiet, [none], fun _ => v, []⟩, ⟨.quiet, [none], fun _ => .pointer (some ⟨g1, 1, none⟩), []⟩, ⟨.quiet, [none], fun _ => .string (bs n), [1]⟩, ⟨.quiet, [none], fun _ => v, []⟩, ⟨.quiet, [none], fun _ => .pointer (some ⟨g1, 1, none⟩), []⟩, ⟨.quiet, [none], fun _ => .string (bs n), [4]⟩, ⟨.quiet, [none], fun _ => q.2.1, [3, 5]⟩, ⟨.quiet, [none], fun _ => .pointer (some ⟨g1, 2, none⟩), []⟩, ⟨.quiet, [none], fun _ => .slice A b.length c, [7]⟩, ⟨.act 0, [some false], fun _ => undef, [6, 8]⟩] [(0, v), (3, .pointer (some ⟨g1, 0, none⟩))] (fun ρ => match ρ with | [r0] => [BA (L.take q.1), DR r0 (fun u => Ak 5 1 encB u (q.2.2 ++ b)) (Ak 5 1 encB q.2.1 q.2.2), BA (L.drop (q.1 + 1)), cell g1 127 #[.int .i64 0, .string (bs n), .slice A b.length c, .int .i64 0, .string (bs ([]))], BG encKey AM v L, X] | _ => []) (by kernel_rfl) (by kernel_rfl) ⟨rfl, rfl, trivial⟩ rfl ?_ ?_
    · skip
      refine Ac (by intro r0_; exact ⟨rfl, fun b w hH hb => Ah Ar rfl hb⟩) ?_
      refine Ac (by intro r0_; exact ⟨rfl, fun b w hH hb => Ah Ar rfl hb⟩) ?_
      refine Ac (by intro r0_; exact ⟨rfl, fun b w hH hb => AY rfl rfl (Bi CF rfl) (hH.row 3 rfl) hb⟩) ?_
      refine Ac (by intro r0_; exact ⟨rfl, fun b w hH hb => Ah Ar rfl hb⟩) ?_
      refine Ac (by intro r0_; exact ⟨rfl, fun b w hH hb => Ah Ar rfl hb⟩) ?_
      refine Ac (by intro r0_; exact ⟨rfl, fun b w hH hb => AY rfl rfl (Bi CF rfl) (hH.row 3 rfl) hb⟩) ?_
      refine Ac (by intro r0_; exact ⟨rfl, fun b w hH hb => GW 4 Dg rfl (k := n) (r := some q.2) (FD hq) rfl rfl rfl hH hb⟩) ?_
      refine Ac (by intro r0_; exact ⟨rfl, fun b w hH hb => Ah Ar rfl hb⟩) ?_
      refine Ac (by intro r0_; exact ⟨rfl, fun b w hH hb => AY rfl rfl (Bi CS rfl) (hH.row 3 rfl) hb⟩) ?_
      refine Ac (by exact ⟨rfl, Bm.s (F5 1 Bf (by kernel_rfl) rfl (b) (fun w hH => hH.rd 5 rfl hX.rd) (by omega) rfl rfl rfl rfl) (fun _ => rfl)⟩) ?_
      exact B7
    intro u
    refine BT.keep (env' := [(9, v), (11, .string (bs n)), (18, u)]) ⟨rfl, rfl, rfl, trivial⟩ ?_
    refine Af Ar rfl ?_
    refine AL (post := fun _ => [BA (L.take q.1), Ak 5 1 encB u (q.2.2 ++ b), BA (L.drop (q.1 + 1)), cell g1 127 #[.int .i64 0, .string (bs n), .slice A b.length c, .int .i64 0, .string (bs ([]))], BG encKey AM v (BM L n (u, q.2.2 ++ b)), X]) rfl rfl (KJ 4 Dg rfl n (u, q.2.2 ++ b) rfl rfl rfl rfl rfl rfl) ?_; rintro ⟨⟩
    refine AD (AW ?_)
    exact Eb  (fun w h => AC () rfl [4, 0, 1, 2, 5] rfl h (Jv hq (h_.symm.trans (Tf hq)))) rfl
theorem Wl {X : Ass} {v : Value} {f f' : FS} {n : List UInt8} {A : Option Addr} {c : Nat} (h : CP f (.del n) = f') : AP Tryz.prog 128 #[v, .agg #[.int .i64 3, .string (bs n), .slice A 0 c, .int .i64 0, .string (bs ([]))]] [AJ v f, X] (fun (_ : Unit) => .tuple #[]) (fun (_ : Unit) => [AJ v f', X]) := by
  have h_ := h
  refine Bj (args := [v, .agg #[.int .i64 3, .string (bs n), .slice A 0 c, .int .i64 0, .string (bs ([]))]]) 49 Tryz.func128 rfl rfl rfl ?_; intro w rs
  refine A7 0 rfl Gr (fun _ => rfl) ?_; rintro ⟨L, hL⟩
  subst hL
  refine Ad ?_
  refine Af Ar rfl ?_
  refine Am (post := fun g1 => [cell g1 127 #[.int .i64 3, .string (bs n), .slice A 0 c, .int .i64 0, .string (bs ([]))], BG encKey AM v L, BA L, X]) rfl (CD (cs := #[.int .i64 3, .string (bs n), .slice A 0 c, .int .i64 0, .string (bs ([]))]) rfl rfl rfl) ?_; rintro g1
  refine Ab (Ad ?_)
  refine Af Ar rfl ?_
  refine Aa rfl (.int .i64 3) (fun b w hb hH => AY rfl rfl (Bi E8 rfl) (hH.row 0 rfl) hb) ?_
  refine Ab (AQ (Ad ?_))
  refine Af Ar rfl ?_
  refine Aa rfl (.bool false) (fun b w hb hH => AZ rfl rfl rfl (EK (by decide)) hb) ?_
  refine Af Ar rfl ?_
  refine Ab (As rfl (Ad ?_))
  refine Af Ar rfl ?_
  refine Aa rfl (.bool false) (fun b w hb hH => AZ rfl rfl rfl (EK (by decide)) hb) ?_
  refine Af Ar rfl ?_
  refine Ab (As rfl (Ad ?_))
  refine Af Ar rfl ?_
  refine Aa rfl (.bool false) (fun b w hb hH => AZ rfl rfl rfl (EK (by decide)) hb) ?_
  refine Af Ar rfl ?_
  refine Ab (As rfl (Ad ?_))
  refine Af Ar rfl ?_
  refine Aa rfl (.bool true) (fun b w hb hH => AZ rfl rfl rfl (FI (by decide)) hb) ?_
  refine Af Ar rfl ?_
  refine Ab (AI rfl ?_)
  rcases hq : Fg n L 0 with _ | q
  · skip
    have h1_ := h_.symm.trans (QB.trans (by rw [Md hq]))
    refine BJ ?_
    refine Af Ar rfl ?_
    refine Aa rfl (.string (bs n)) (fun b w hb hH => AY rfl rfl (Bi CF rfl) (hH.row 0 rfl) hb) ?_
    refine AL (post := fun _ => [cell g1 127 #[.int .i64 3, .string (bs n), .slice A 0 c, .int .i64 0, .string (bs ([]))], BG encKey AM v L, BA L, X]) rfl rfl (Pc 1 Dg rfl n rfl rfl rfl (Md hq)) ?_; rintro ⟨⟩
    refine AD (AW ?_)
    exact Eb  (fun w h => AC () rfl [1, 2, 3] rfl h (Gs h1_)) rfl
  · skip
    refine A7 2 rfl (G7 hq) (fun _ => rfl) ?_; rintro ⟨⟩
    refine BJ ?_
    refine Af Ar rfl ?_
    refine Aa rfl (.string (bs n)) (fun b w hb hH => AY rfl rfl (Bi CF rfl) (hH.row 3 rfl) hb) ?_
    refine AL (post := fun _ => [BA (L.take q.1), Ak 5 1 encB q.2.1 q.2.2, BA (L.drop (q.1 + 1)), cell g1 127 #[.int .i64 3, .string (bs n), .slice A 0 c, .int .i64 0, .string (bs ([]))], BG encKey AM v (Cp L n), X]) rfl rfl (Pc 4 Dg rfl n rfl rfl rfl rfl) ?_; rintro ⟨⟩
    refine AD (AW ?_)
    exact Eb  (fun w h => AC () rfl [4, 0, 2, 5] rfl h (Pv hq (h_.symm.trans QB))) rfl
theorem Wm {X : Ass} {v : Value} {f f' : FS} {n x : List UInt8} {s : Nat} {A : Option Addr} {c : Nat} (hx : Bq f n = some x) (hs : s ≤ x.length) (h : CP f (.cut n s) = f') : AP Tryz.prog 128 #[v, .agg #[.int .i64 1, .string (bs n), .slice A 0 c, .int .i64 (s : Int), .string (bs ([]))]] [AJ v f, X] (fun (_ : Unit) => .tuple #[]) (fun (_ : Unit) => [AJ v f', X]) := by
  have h_ := h
  refine Bj (args := [v, .agg #[.int .i64 1, .string (bs n), .slice A 0 c, .int .i64 (s : Int), .string (bs ([]))]]) 49 Tryz.func128 rfl rfl rfl ?_; intro w rs
  refine A7 0 rfl Gr (fun _ => rfl) ?_; rintro ⟨L, hL⟩
  subst hL
  obtain ⟨q, hq, hqx⟩ := Mf hx
  subst hqx
  refine Ad ?_
  refine Af Ar rfl ?_
  refine Am (post := fun g1 => [cell g1 127 #[.int .i64 1, .string (bs n), .slice A 0 c, .int .i64 (s : Int), .string (bs ([]))], BG encKey AM v L, BA L, X]) rfl (CD (cs := #[.int .i64 1, .string (bs n), .slice A 0 c, .int .i64 (s : Int), .string (bs ([]))]) rfl rfl rfl) ?_; rintro g1
  refine Ab (Ad ?_)
  refine Af Ar rfl ?_
  refine Aa rfl (.int .i64 1) (fun b w hb hH => AY rfl rfl (Bi E8 rfl) (hH.row 0 rfl) hb) ?_
  refine Ab (AQ (Ad ?_))
  refine Af Ar rfl ?_
  refine Aa rfl (.bool false) (fun b w hb hH => AZ rfl rfl rfl (EK (by decide)) hb) ?_
  refine Af Ar rfl ?_
  refine Ab (As rfl (Ad ?_))
  refine Af Ar rfl ?_
  refine Aa rfl (.bool true) (fun b w hb hH => AZ rfl rfl rfl (FI (by decide)) hb) ?_
  refine Af Ar rfl ?_
  refine Ab (AI rfl ?_)
  refine A7 2 rfl (G7 hq) (fun _ => rfl) ?_; rintro ⟨⟩
  refine BV 10 0 [⟨.quiet, [], fun _ => v, []⟩, ⟨.quiet, [], fun _ => .pointer (some ⟨g1, 1, none⟩), []⟩, ⟨.quiet, [], fun _ => .string (bs n), [1]⟩, ⟨.quiet, [], fun _ => v, []⟩, ⟨.quiet, [], fun _ => .pointer (some ⟨g1, 1, none⟩), []⟩, ⟨.quiet, [], fun _ => .string (bs n), [4]⟩, ⟨.quiet, [], fun _ => q.2.1, [3, 5]⟩, ⟨.quiet, [], fun _ => .pointer (some ⟨g1, 3, none⟩), []⟩, ⟨.quiet, [], fun _ => .int .i64 (s : Int), [7]⟩, ⟨.quiet, [], fun _ => Ca 1 q.2.1 0 s, [6, 8]⟩] [(0, v), (3, .pointer (some ⟨g1, 0, none⟩))] (fun _ => [BA (L.take q.1), Ak 5 1 encB q.2.1 q.2.2, BA (L.drop (q.1 + 1)), cell g1 127 #[.int .i64 1, .string (bs n), .slice A 0 c, .int .i64 (s : Int), .string (bs ([]))], BG encKey AM v L, X]) (by kernel_rfl) (by kernel_rfl) ⟨rfl, rfl, trivial⟩ rfl ?_ ?_
  · skip
    refine Ac (by exact ⟨rfl, fun b w hH hb => Ah Ar rfl hb⟩) ?_
    refine Ac (by exact ⟨rfl, fun b w hH hb => Ah Ar rfl hb⟩) ?_
    refine Ac (by exact ⟨rfl, fun b w hH hb => AY rfl rfl (Bi CF rfl) (hH.row 3 rfl) hb⟩) ?_
    refine Ac (by exact ⟨rfl, fun b w hH hb => Ah Ar rfl hb⟩) ?_
    refine Ac (by exact ⟨rfl, fun b w hH hb => Ah Ar rfl hb⟩) ?_
    refine Ac (by exact ⟨rfl, fun b w hH hb => AY rfl rfl (Bi CF rfl) (hH.row 3 rfl) hb⟩) ?_
    refine Ac (by exact ⟨rfl, fun b w hH hb => GW 4 Dg rfl (k := n) (r := some q.2) (FD hq) rfl rfl rfl hH hb⟩) ?_
    refine Ac (by exact ⟨rfl, fun b w hH hb => Ah Ar rfl hb⟩) ?_
    refine Ac (by exact ⟨rfl, fun b w hH hb => AY rfl rfl (Bi Bh rfl) (hH.row 3 rfl) hb⟩) ?_
    refine Ac (by exact ⟨rfl, fun b w hH hb => Q9 1 (b := s) Bf rfl hs rfl rfl rfl hH hb⟩) ?_
    exact B7
  refine BT.keep (env' := [(21, v), (23, .string (bs n)), (30, Ca 1 q.2.1 0 s)]) ⟨rfl, rfl, rfl, trivial⟩ ?_
  refine Af Ar rfl ?_
  refine AL (post := fun _ => [BA (L.take q.1), Ak 5 1 encB q.2.1 q.2.2, BA (L.drop (q.1 + 1)), cell g1 127 #[.int .i64 1, .string (bs n), .slice A 0 c, .int .i64 (s : Int), .string (bs ([]))], BG encKey AM v (BM L n (Ca 1 q.2.1 0 s, q.2.2.take s)), X]) rfl rfl (KJ 4 Dg rfl n (Ca 1 q.2.1 0 s, q.2.2.take s) rfl rfl rfl rfl rfl rfl) ?_; rintro ⟨⟩
  refine AD (AW ?_)
  exact Eb  (fun w h => AC () rfl [4, 0, 1, 2, 5] rfl h (RD hq hs (h_.symm.trans (UQ hq)))) rfl
theorem Wn {X : Ass} {v : Value} {f f' : FS} {n m_ x : List UInt8} {A : Option Addr} {c : Nat} (hx : Bq f n = some x) (h : CP f (.ren n m_) = f') : AP Tryz.prog 128 #[v, .agg #[.int .i64 2, .string (bs n), .slice A 0 c, .int .i64 0, .string (bs m_)]] [AJ v f, X] (fun (_ : Unit) => .tuple #[]) (fun (_ : Unit) => [AJ v f', X]) := by
  have h_ := h
  refine Bj (args := [v, .agg #[.int .i64 2, .string (bs n), .slice A 0 c, .int .i64 0, .string (bs m_)]]) 49 Tryz.func128 rfl rfl rfl ?_; intro w rs
  refine A7 0 rfl Gr (fun _ => rfl) ?_; rintro ⟨L, hL⟩
  subst hL
  obtain ⟨q, hq, hqx⟩ := Mf hx
  subst hqx
  refine Ad ?_
  refine Af Ar rfl ?_
  refine Am (post := fun g1 => [cell g1 127 #[.int .i64 2, .string (bs n), .slice A 0 c, .int .i64 0, .string (bs m_)], BG encKey AM v L, BA L, X]) rfl (CD (cs := #[.int .i64 2, .string (bs n), .slice A 0 c, .int .i64 0, .string (bs m_)]) rfl rfl rfl) ?_; rintro g1
  refine Ab (Ad ?_)
  refine Af Ar rfl ?_
  refine Aa rfl (.int .i64 2) (fun b w hb hH => AY rfl rfl (Bi E8 rfl) (hH.row 0 rfl) hb) ?_
  refine Ab (AQ (Ad ?_))
  refine Af Ar rfl ?_
  refine Aa rfl (.bool false) (fun b w hb hH => AZ rfl rfl rfl (EK (by decide)) hb) ?_
  refine Af Ar rfl ?_
  refine Ab (As rfl (Ad ?_))
  refine Af Ar rfl ?_
  refine Aa rfl (.bool false) (fun b w hb hH => AZ rfl rfl rfl (EK (by decide)) hb) ?_
  refine Af Ar rfl ?_
  refine Ab (As rfl (Ad ?_))
  refine Af Ar rfl ?_
  refine Aa rfl (.bool true) (fun b w hb hH => AZ rfl rfl rfl (FI (by decide)) hb) ?_
  refine Af Ar rfl ?_
  refine Ab (AI rfl ?_)
  refine A7 2 rfl (G7 hq) (fun _ => rfl) ?_; rintro ⟨⟩
  refine Ad ?_
  refine Af Ar rfl ?_
  refine Aa rfl (.string (bs n)) (fun b w hb hH => AY rfl rfl (Bi CF rfl) (hH.row 3 rfl) hb) ?_
  refine Aa rfl (q.2.1) (fun b w hb hH => GW 4 Dg rfl (k := n) (r := some q.2) (FD hq) rfl rfl rfl hH hb) ?_
  refine Af Ar rfl ?_
  refine Ab (Ad ?_)
  refine Af Ar rfl ?_
  refine Aa rfl (.string (bs n)) (fun b w hb hH => AY rfl rfl (Bi CF rfl) (hH.row 3 rfl) hb) ?_
  refine AL (post := fun _ => [BA (L.take q.1), Ak 5 1 encB q.2.1 q.2.2, BA (L.drop (q.1 + 1)), cell g1 127 #[.int .i64 2, .string (bs n), .slice A 0 c, .int .i64 0, .string (bs m_)], BG encKey AM v (Cp L n), X]) rfl rfl (Pc 4 Dg rfl n rfl rfl rfl rfl) ?_; rintro ⟨⟩
  refine Ab ?_
  refine Bg [0, 2] rfl (QC hq) rfl ?_
  rcases hq2 : Fg m_ (Cp L n) 0 with _ | q2
  · skip
    refine BJ ?_
    refine Af Ar rfl ?_
    refine Aa rfl (.string (bs m_)) (fun b w hb hH => AY rfl rfl (Bi CF rfl) (hH.row 2 rfl) hb) ?_
    refine Af Ar rfl ?_
    refine AL (post := fun _ => [BA (Cp L n), Ak 5 1 encB q.2.1 q.2.2, cell g1 127 #[.int .i64 2, .string (bs n), .slice A 0 c, .int .i64 0, .string (bs m_)], BG encKey AM v (BM (Cp L n) m_ (q.2.1, q.2.2)), X]) rfl rfl (KJ 3 Dg rfl m_ (q.2.1, q.2.2) rfl rfl rfl rfl rfl rfl) ?_; rintro ⟨⟩
    refine AD (AW ?_)
    exact Eb  (fun w h => AC () rfl [3, 0, 1, 4] rfl h (Me hq2 (h_.symm.trans (QD hq)))) rfl
  · skip
    refine A7 0 rfl (G7 hq2) (fun _ => rfl) ?_; rintro ⟨⟩
    refine BJ ?_
    refine Af Ar rfl ?_
    refine Aa rfl (.string (bs m_)) (fun b w hb hH => AY rfl rfl (Bi CF rfl) (hH.row 4 rfl) hb) ?_
    refine Af Ar rfl ?_
    refine AL (post := fun _ => [BA ((Cp L n).take q2.1), Ak 5 1 encB q2.2.1 q2.2.2, BA ((Cp L n).drop (q2.1 + 1)), Ak 5 1 encB q.2.1 q.2.2, cell g1 127 #[.int .i64 2, .string (bs n), .slice A 0 c, .int .i64 0, .string (bs m_)], BG encKey AM v (BM (Cp L n) m_ (q.2.1, q.2.2)), X]) rfl rfl (KJ 5 Dg rfl m_ (q.2.1, q.2.2) rfl rfl rfl rfl rfl rfl) ?_; rintro ⟨⟩
    refine AD (AW ?_)
    exact Eb  (fun w h => AC () rfl [5, 0, 3, 2, 6] rfl h (Jv hq2 (h_.symm.trans (QD hq)))) rfl
theorem Wo {X : Ass} {v : Value} {f f' : FS} {x : OpV} (ho : VH f x.o) (hX : E3 X x.v x.o.data) (hl : Be f + x.o.size ≤ 4398046511104) (h : CP f x.o = f') : AP Tryz.prog 128 #[v, .agg (encO x).toArray] [AJ v f, X] (fun _ : Unit => .tuple #[]) (fun _ => [AJ v f', X]) := by
  obtain ⟨o, A, c⟩ := x
  cases o with
  | app n b => exact Wk hX hl h
  | cut n s => obtain ⟨y, h1, h2⟩ := ho; exact Wm h1 h2 h
  | ren a b => obtain ⟨⟨y, h1⟩, _⟩ := ho; exact Wn h1 h
  | del n => exact Wl h
end Go.Proofs.YtnknboibmifacaaGreatDoor.Sep
