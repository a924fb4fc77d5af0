/-
  DskV · MapU · TyK · DskA · DskB
-/
import Derived.Test.YtnknboibmifacaaGreatYB01
import Derived.Test.YtnknboibmifacaaGreatYB02
import Derived.Test.YtnknboibmifacaaGreatYB03
set_option linter.unusedSimpArgs false
set_option linter.unusedVariables false
set_option maxRecDepth 100000
namespace Go.Proofs.YtnknboibmifacaaGreat.Sep
open Go.RowKit
open Go.Proofs.YtnknboibmifacaaGreat.Mem (Bd Cj Chg AF)
def OpD.data : OpD → List UInt8
  | .app _ b => b
  | _ => []
def OpD.kind : OpD → Int
  | .app .. => 0
  | .cut .. => 1
  | .ren .. => 2
  | .del _ => 3
def OpD.name : OpD → List UInt8
  | .app n _ => n
  | .cut n _ => n
  | .ren a _ => a
  | .del n => n
def OpD.cutS : OpD → Nat
  | .cut _ s => s
  | _ => 0
def OpD.to : OpD → List UInt8
  | .ren _ b => b
  | _ => []
structure OpV where
  o : OpD
  A : Option Addr
  c : Nat
def OpV.v (x : OpV) : Value := .slice x.A x.o.data.length x.c
def encO (x : OpV) : List Value := [.int .i64 x.o.kind, .string (bs x.o.name), x.v, .int .i64 (x.o.cutS : Int), .string (bs x.o.to)]
theorem P4 : EncOf 5 encO := ⟨fun _ => rfl, fun x v h => by unfold encO OpV.v at h; simp at h; rcases h with rfl | rfl | rfl | rfl | rfl <;> rfl⟩
instance : Inhabited OpV := ⟨⟨.del [], none, 0⟩⟩
def BF (W : List OpV) : Ass := DE (fun x : OpV => Ao 5 1 encB x.v x.o.data) W
def DF (W : List OpV) : List OpD := W.map (·.o)
theorem P5 {W : List OpV} {x : OpV} (h : x ∈ W) : Cw (BF W) x.v x.o.data := fun rs w h1 h2 => by
 obtain ⟨j, hj⟩ := List.getElem?_of_mem h
 obtain ⟨ys, h3, h4⟩ := DE.at_ h1 h2 hj
 exact G7 h3 h4
def Ly (f : FS) : OpD → Prop
  | .app n _ => CA n = true
  | .cut n s => ∃ x, AL f n = some x ∧ s ≤ x.length
  | .ren a b => (∃ x, AL f a = some x) ∧ CA b = true
  | .del _ => True
def Fe : FS → List OpD → Prop
  | _, [] => True
  | f, o :: r => Ly f o ∧ Fe (AW f o) r
theorem IJ {f : FS} : Fe f [] := trivial
theorem Jk : ∀ {l : List OpD} {f : FS} {o : OpD}, Fe f l → Ly (l.foldl AW f) o → Fe f (l ++ [o])
  | [], _, _, _, ho => ⟨ho, trivial⟩
  | _ :: r, _, _, h, ho => ⟨h.1, Jk (l := r) h.2 ho⟩
theorem FH : ∀ {l : List OpD} {f : FS} (i : Nat), Fe f l → Fe f (l.take i)
  | [], _, _, _ => by rw [List.take_nil]; trivial
  | _ :: _, _, 0, _ => trivial
  | _ :: r, _, i + 1, h => ⟨h.1, FH (l := r) i h.2⟩
theorem Mw : ∀ {l : List OpD} {f : FS} {i : Nat} {o : OpD}, Fe f l → l[i]? = some o → Ly ((l.take i).foldl AW f) o
  | x :: r, f, 0, o, h, hi => by
    simp only [List.getElem?_cons_zero, Option.some.injEq] at hi
    subst hi
    exact h.1
  | x :: r, f, i + 1, o, h, hi => Mw (l := r) (i := i) h.2 (by simpa using hi)
theorem Nr {f g : FS} {o : OpD} (h : f.Perm g) (hf : (AI f).Nodup) (ho : Ly f o) : Ly g o := by
  cases o with
  | app n b => exact ho
  | cut n s => obtain ⟨x, h1, h2⟩ := ho; exact ⟨x, by rw [← D9 h hf]; exact h1, h2⟩
  | ren a b => obtain ⟨⟨x, h1⟩, h2⟩ := ho; exact ⟨⟨x, by rw [← D9 h hf]; exact h1⟩, h2⟩
  | del n => trivial
def C4 (f : FS) : Prop := ∀ k, k ∈ AI f → CA k = true
theorem Q7 : C4 [] := fun k h => by cases h
theorem Ha {f : FS} {n x : List UInt8} (hf : (AI f).Nodup) (h : C4 f) (hn : CA n = true) : C4 (Bz f n x) := fun k hk => by
  obtain ⟨p, hp, rfl⟩ := List.mem_map.1 hk
  rcases (EW hf p).1 hp with rfl | ⟨h1, _⟩
  · exact hn
  · exact h _ (List.mem_map_of_mem h1)
theorem Lz {f : FS} {n : List UInt8} (hf : (AI f).Nodup) (h : C4 f) : C4 (BS f n) := fun k hk => by
 obtain ⟨p, hp, rfl⟩ := List.mem_map.1 hk
 exact h _ (List.mem_map_of_mem ((Dh hf p).1 hp).1)
theorem OS {f : FS} {o : OpD} (hf : (AI f).Nodup) (h : C4 f) (ho : Ly f o) : C4 (AW f o) := by
  cases o with
  | app n b => exact Ha hf h ho
  | cut n s =>
    obtain ⟨x, h1, _⟩ := ho
    show C4 (match AL f n with | some x => Bz f n (x.take s) | none => f)
    rw [h1]
    exact Ha hf h (h _ (List.mem_map.2 ⟨_, (B3 hf).1 h1, rfl⟩))
  | ren a b =>
    obtain ⟨⟨x, h1⟩, h2⟩ := ho
    show C4 (match AL f a with | some x => Bz (BS f a) b x | none => f)
    rw [h1]
    exact Ha (B9 hf) (Lz hf h) h2
  | del n => exact Lz hf h
theorem Jl : ∀ (l : List OpD) {f : FS}, (AI f).Nodup → C4 f → Fe f l → C4 (l.foldl AW f)
  | [], _, _, h, _ => h
  | o :: r, _, hf, h, ho => Jl r (FW hf o) (OS hf h ho.1) ho.2
theorem Ns {f : FS} {k x : List UInt8} (hf : (AI f).Nodup) : AE (Bz f k x) ≤ AE f + x.length := by
  cases h : AL f k with
  | none => rw [IF h]; exact Nat.le_refl _
  | some y => have := FX (x := x) hf h; omega
theorem Mx {f : FS} (hf : (AI f).Nodup) {o : OpD} (ho : Ly f o) : AE (AW f o) ≤ AE f + o.size := by
  cases o with
  | app n b => rw [Gz hf]; exact Nat.le_refl _
  | cut n s =>
    obtain ⟨x, h1, h2⟩ := ho
    show AE (match AL f n with | some x => Bz f n (x.take s) | none => f) ≤ AE f + 0
    rw [h1]
    have := FX (x := x.take s) hf h1
    rw [List.length_take] at this
    show AE (Bz f n (x.take s)) ≤ _
    omega
  | ren a b =>
    obtain ⟨⟨x, h1⟩, _⟩ := ho
    show AE (match AL f a with | some x => Bz (BS f a) b x | none => f) ≤ AE f + 0
    rw [h1]
    have h2 := FF hf h1
    have h3 := Ns (k := b) (x := x) (B9 (k := a) hf)
    show AE (Bz (BS f a) b x) ≤ _
    omega
  | del n =>
    show AE (BS f n) ≤ _
    cases h : AL f n with
    | none => rw [KC h]; exact Nat.le_add_right _ _
    | some x => have := FF hf h; show _ ≤ AE f + 0; omega
theorem ED : ∀ (l : List OpD) {f : FS}, (AI f).Nodup → Fe f l → AE (l.foldl AW f) ≤ AE f + (l.map OpD.size).sum
  | [], _, _, _ => by simp
  | o :: r, f, hf, ho => by
    have h1 := Mx hf ho.1
    have h2 := ED r (FW hf o) ho.2
    rw [List.foldl_cons, List.map_cons, List.sum_cons]; omega
theorem Jm : ∀ (l : List OpD) (i : Nat), ((l.take i).map OpD.size).sum ≤ (l.map OpD.size).sum
  | [], _ => by simp
  | _ :: _, 0 => by simp
  | x :: r, i + 1 => by
    have := Jm r i
    simp only [List.take_succ_cons, List.map_cons, List.sum_cons]; omega
theorem IK {f : FS} {k x : List UInt8} (hf : (AI f).Nodup) (h : AL f k = some x) : x.length ≤ AE f := by
 have := FF hf h; omega
theorem LA {f : FS} {k : List UInt8} (hf : (AI f).Nodup) : ((AL f k).getD []).length ≤ AE f := by
  cases h : AL f k with
  | none => exact Nat.zero_le _
  | some x => exact IK hf h
theorem Nt {κ ν : Type} [DecidableEq κ] {k : κ} {l : List (κ × ν)} (h : EJ k l 0 = none) : AL l k = none := by unfold AL; rw [h]; rfl
theorem Ff {κ ν : Type} [DecidableEq κ] {k : κ} {l : List (κ × ν)} {q : Nat × ν} (h : EJ k l 0 = some q) : AL l k = some q.2 := by unfold AL; rw [h]; rfl
theorem Sy {L : FilL} {n b : List UInt8} {u : Value} (h : EJ n L 0 = none) : AW (B6 L) (.app n b) = B6 (Bz L n (u, b)) := by
 show Bz (B6 L) n _ = _
 rw [Ea, Nt h, Option.map_none, Option.getD_none, List.nil_append]
 exact II L n (u, b)
theorem Sz {L : FilL} {n b : List UInt8} {u : Value} {q : Nat × PtT} (h : EJ n L 0 = some q) : AW (B6 L) (.app n b) = B6 (Bz L n (u, q.2.2 ++ b)) := by
 show Bz (B6 L) n _ = _
 rw [Ea, Ff h, Option.map_some, Option.getD_some]
 exact II L n (u, q.2.2 ++ b)
theorem P6 {L : FilL} {n : List UInt8} : AW (B6 L) (.del n) = B6 (BS L n) := Nn L n
theorem LB {κ ν : Type} [DecidableEq κ] {k : κ} {l : List (κ × ν)} (h : EJ k l 0 = none) : BS l k = l := by unfold BS; rw [h]
theorem P7 {L : FilL} {k : List UInt8} {q : Nat × PtT} (h : EJ k L 0 = some q) : ∀ rs, Al [Bn (L.take q.1), Bn (L.drop (q.1 + 1))] rs → Bn (BS L k) rs := fun rs hr => by
 obtain ⟨a, b, rfl, h1, h2⟩ := hr
 unfold Bn BS
 rw [h]
 show DE _ (L.eraseIdx q.1) _
 rw [List.eraseIdx_eq_take_drop_succ]
 unfold DE
 rw [List.map_append]
 exact Al.app h1 (Al.one' h2)
theorem Bx {v : Value} {f : FS} : ∀ rs, Av v f rs → (AI f).Nodup := fun rs ⟨L, h, h'⟩ => by
 obtain ⟨a, b, e, h1, _⟩ := h'
 rw [h, DN]
 exact By.nodup _ h1
theorem F0 {v : Value} {f : FS} {L : FilL} {os : List Ass} (h : f = B6 L) : ∀ rs, Al (By encKey AH v L :: Bn L :: os) rs → ∃ z, rs.Perm z ∧ Al (Av v f :: os) z := fun rs hr => by
 subst h
 obtain ⟨a, r, rfl, h1, b, r2, rfl, h2, h3⟩ := hr
 exact ⟨a ++ (b ++ r2), .refl _, a ++ b, r2, by simp, ⟨L, rfl, a, b, rfl, h1, Al.one h2⟩, h3⟩
theorem LC {v u : Value} {f : FS} {L : FilL} {n y : List UInt8} {os : List Ass} (hq : EJ n L 0 = none) (h : f = B6 (Bz L n (u, y))) : ∀ rs, Al (By encKey AH v (Bz L n (u, y)) :: Bn L :: Ao 5 1 encB u y :: os) rs → ∃ z, rs.Perm z ∧ Al (Av v f :: os) z := fun rs hr => by
 obtain ⟨a, r, rfl, h1, b, r2, rfl, h2, c, r3, rfl, h3, h4⟩ := hr
 rw [show a ++ (b ++ (c ++ r3)) = a ++ ((b ++ c) ++ r3) by simp]
 exact F0 h _ ⟨a, _, rfl, h1, b ++ c, r3, rfl, PW hq (u, y) _ ⟨b, c, rfl, h2, Al.one h3⟩, h4⟩
theorem Jn {v u : Value} {f : FS} {L : FilL} {n y : List UInt8} {q : Nat × PtT} {os : List Ass} (hq : EJ n L 0 = some q) (h : f = B6 (Bz L n (u, y))) : ∀ rs, Al (By encKey AH v (Bz L n (u, y)) :: Bn (L.take q.1) :: Ao 5 1 encB u y :: Bn (L.drop (q.1 + 1)) :: os) rs → ∃ z, rs.Perm z ∧ Al (Av v f :: os) z := fun rs hr => by
 obtain ⟨a, r, rfl, h1, b, r2, rfl, h2, c, r3, rfl, h3, e, r4, rfl, h4, h5⟩ := hr
 rw [show a ++ (b ++ (c ++ (e ++ r4))) = a ++ ((b ++ (c ++ e)) ++ r4) by simp]
 exact F0 h _ ⟨a, _, rfl, h1, b ++ (c ++ e), r4, rfl, T5 hq (u, y) _ ⟨b, c ++ e, rfl, h2, c, e, rfl, h3, Al.one h4⟩, h5⟩
theorem OT {v : Value} {f : FS} {L : FilL} {n : List UInt8} {q : Nat × PtT} {os : List Ass} (hq : EJ n L 0 = some q) (h : f = B6 (BS L n)) : ∀ rs, Al (By encKey AH v (BS L n) :: Bn (L.take q.1) :: Bn (L.drop (q.1 + 1)) :: os) rs → ∃ z, rs.Perm z ∧ Al (Av v f :: os) z := fun rs hr => by
 obtain ⟨a, r, rfl, h1, b, r2, rfl, h2, e, r4, rfl, h4, h5⟩ := hr
 rw [show a ++ (b ++ (e ++ r4)) = a ++ ((b ++ e) ++ r4) by simp]
 exact F0 h _ ⟨a, _, rfl, h1, b ++ e, r4, rfl, P7 hq _ ⟨b, e, rfl, h2, Al.one h4⟩, h5⟩
theorem KN {e : TypeId} {v : Value} {l : List UInt8} {k : Nat} (hk : k ≤ l.length) : ∀ rs, Al [Ao e 1 encB v l] rs → Ao e 1 encB (Ci 1 v 0 k) (l.take k) rs := fun rs hr => by
  rcases Al.one' hr with ⟨h1, h2, h3⟩ | ⟨g, cap, cs, h1, h2, h3, h4, h5, h6⟩
  · subst h2; subst h1
    have : k = 0 := by simpa using hk
    subst this
    exact .inl ⟨by simp [Ci], by simp, h3⟩
  · subst h1
    have hl : (l.take k).length = k := by rw [List.length_take]; omega
    have e1 : (⟨g, 0 + 0 * 1, none⟩ : Addr) = ⟨g, 0, none⟩ := rfl
    refine .inr ⟨g, cap, cs, ?_, by rw [hl]; omega, h3, h4, ?_, h6⟩
    · simp [Ci, Addr.add, hl]
    · rw [hl]
      have h7 := congrArg (List.take (k * 1)) h5
      rw [List.take_take, Nat.min_eq_left (by omega)] at h7
      rw [h7]
      have h8 : flat encB l = flat encB (l.take k) ++ flat encB (l.drop k) := by rw [← Iq, List.take_append_drop]
      rw [h8, List.take_append_of_le_length (by rw [Dl EI, hl]; omega), List.take_of_length_le (by rw [Dl EI, hl]; omega)]
theorem Ub {L : FilL} {n : List UInt8} {s : Nat} {u : Value} {q : Nat × PtT} (h : EJ n L 0 = some q) : AW (B6 L) (.cut n s) = B6 (Bz L n (u, q.2.2.take s)) := by
  show (match AL (B6 L) n with | some x => Bz (B6 L) n (x.take s) | none => B6 L) = _
  rw [Ea, Ff h]
  exact II L n (u, q.2.2.take s)
theorem P8 {L : FilL} {a b : List UInt8} {q : Nat × PtT} (h : EJ a L 0 = some q) : AW (B6 L) (.ren a b) = B6 (Bz (BS L a) b (q.2.1, q.2.2)) := by
  show (match AL (B6 L) a with | some x => Bz (BS (B6 L) a) b x | none => B6 L) = _
  rw [Ea, Ff h, Nn]
  exact II (BS L a) b (q.2.1, q.2.2)
theorem KO {κ ν : Type} [DecidableEq κ] {k : κ} {l : List (κ × ν)} {x : ν} (h : AL l k = some x) : ∃ q, EJ k l 0 = some q ∧ q.2 = x := by
 unfold AL at h
 exact Option.map_eq_some_iff.1 h
theorem LD {L : FilL} {n x : List UInt8} (h : AL (B6 L) n = some x) : ∃ q, EJ n L 0 = some q ∧ q.2.2 = x := by
 rw [Ea] at h
 obtain ⟨r, h1, h2⟩ := Option.map_eq_some_iff.1 h
 obtain ⟨q, h3, h4⟩ := KO h1
 exact ⟨q, h3, by rw [h4]; exact h2⟩
theorem Q8 {v : Value} {f : FS} {L : FilL} {n : List UInt8} {s : Nat} {q : Nat × PtT} {os : List Ass} (hq : EJ n L 0 = some q) (hs : s ≤ q.2.2.length) (h : f = B6 (Bz L n (Ci 1 q.2.1 0 s, q.2.2.take s))) : ∀ rs, Al (By encKey AH v (Bz L n (Ci 1 q.2.1 0 s, q.2.2.take s)) :: Bn (L.take q.1) :: Ao 5 1 encB q.2.1 q.2.2 :: Bn (L.drop (q.1 + 1)) :: os) rs → ∃ z, rs.Perm z ∧ Al (Av v f :: os) z := fun rs hr => by
 obtain ⟨a, r, e1, h1, b, r2, e2, h2, c, r3, e3, h3, hx⟩ := hr
 exact Jn hq h _ ⟨a, r, e1, h1, b, r2, e2, h2, c, r3, e3, KN hs _ (Al.one h3), hx⟩
def CV : Option Nat → Int
  | none => -1
  | some n => n
structure DskU (d : DiskD) where
  pv : Value
  sm : Value
  sh : Value
  W : List OpV
  g : FS
  hW : DF W = d.wait
  hg : d.down = false → g.Perm d.now
  hok : Fe d.syn d.wait
  hf : ∀ n, d.fuse = some n → n ≤ 9223372036854775807
  hr : 0 ≤ d.room ∧ d.room ≤ 1048576
  hk : C4 d.syn
def OU : Bool → Value → FS → Ass
  | true, v, _ => fact (v = .map none)
  | false, v, f => Av v f
def Ap (p : Nat) (d : DiskD) : Ass := fun rs => ∃ x : DskU d, Al [cell p 67 #[.int .i64 d.room, .int .i64 (CV d.fuse), .bool d.down, x.pv, x.sm, x.sh], Ao 99 5 encO x.pv x.W, BF x.W, Av x.sm d.syn, OU d.down x.sh x.g] rs
section
variable {p : Nat} {d : DiskD}
theorem Jo : ∀ rs, Ap p d rs → ∃ x : DskU d, Al [cell p 67 #[.int .i64 d.room, .int .i64 (CV d.fuse), .bool d.down, x.pv, x.sm, x.sh], Ao 99 5 encO x.pv x.W, BF x.W, Av x.sm d.syn, OU d.down x.sh x.g] rs := fun _ h => h
theorem Hb (h : d.down = false) : ∀ rs, Ap p d rs → ∃ x : DskU d, Al [cell p 67 #[.int .i64 d.room, .int .i64 (CV d.fuse), .bool false, x.pv, x.sm, x.sh], Ao 99 5 encO x.pv x.W, BF x.W, Av x.sm d.syn, Av x.sh x.g] rs := fun rs ⟨x, hx⟩ => ⟨x, by rw [h] at hx; exact hx⟩
theorem Q9 {q : Prop} {a b c e : Ass} {rs : List RowT} (h : Al [a, b, c, e, fact q] rs) : q ∧ Al [a, b, c, e] rs := by
 obtain ⟨_, _, rfl, h1, _, _, rfl, h2, _, _, rfl, h3, _, _, rfl, h4, _, _, rfl, ⟨rfl, h5⟩, rfl⟩ := h
 exact ⟨h5, _, _, rfl, h1, _, _, rfl, h2, _, _, rfl, h3, _, _, rfl, h4, rfl⟩
theorem Ra {q : Prop} {a b c e : Ass} {rs : List RowT} (h5 : q) (h : Al [a, b, c, e] rs) : Al [a, b, c, e, fact q] rs := by
 obtain ⟨_, _, rfl, h1, _, _, rfl, h2, _, _, rfl, h3, _, _, rfl, h4, rfl⟩ := h
 exact ⟨_, _, rfl, h1, _, _, rfl, h2, _, _, rfl, h3, _, _, rfl, h4, _, _, rfl, ⟨rfl, h5⟩, rfl⟩
theorem J3 (h : d.down = true) : ∀ rs, Ap p d rs → ∃ x : DskU d, Al [cell p 67 #[.int .i64 d.room, .int .i64 (CV d.fuse), .bool true, x.pv, x.sm, .map none], Ao 99 5 encO x.pv x.W, BF x.W, Av x.sm d.syn] rs := fun rs ⟨x, hx⟩ => by
 rw [h] at hx
 obtain ⟨e, h1⟩ := Q9 hx
 rw [e] at h1
 exact ⟨x, h1⟩
theorem IL {os : List Ass} (x : DskU d) (h : d.down = true) (hs : x.sh = .map none) : ∀ rs, Al ([cell p 67 #[.int .i64 d.room, .int .i64 (CV d.fuse), .bool true, x.pv, x.sm, .map none], Ao 99 5 encO x.pv x.W, BF x.W, Av x.sm d.syn] ++ os) rs → ∃ z, rs.Perm z ∧ Al ([Ap p d] ++ os) z := fun rs hr => by
 obtain ⟨a, b, e, h1, h2⟩ := Al.split hr
 subst e
 refine ⟨a ++ b, .refl _, Al.app (Al.one ⟨x, ?_⟩) h2⟩
 rw [h]
 exact Ra hs (by rw [hs]; exact h1)
theorem FI {os : List Ass} (x : DskU d) (h : d.down = false) : ∀ rs, Al ([cell p 67 #[.int .i64 d.room, .int .i64 (CV d.fuse), .bool false, x.pv, x.sm, x.sh], Ao 99 5 encO x.pv x.W, BF x.W, Av x.sm d.syn, Av x.sh x.g] ++ os) rs → ∃ z, rs.Perm z ∧ Al ([Ap p d] ++ os) z := fun rs hr => by
 obtain ⟨a, b, e, h1, h2⟩ := Al.split hr
 subst e
 refine ⟨a ++ b, .refl _, Al.app (Al.one ⟨x, ?_⟩) h2⟩
 rw [h]
 exact h1
theorem LE {os : List Ass} (x : DskU d) : ∀ rs, Al ([cell p 67 #[.int .i64 d.room, .int .i64 (CV d.fuse), .bool d.down, x.pv, x.sm, x.sh], Ao 99 5 encO x.pv x.W, BF x.W, Av x.sm d.syn, OU d.down x.sh x.g] ++ os) rs → ∃ z, rs.Perm z ∧ Al ([Ap p d] ++ os) z := fun rs hr => by
 obtain ⟨a, b, e, h1, h2⟩ := Al.split hr
 subst e
 exact ⟨a ++ b, .refl _, Al.app (Al.one ⟨x, h1⟩) h2⟩
end
theorem F1 {α : Type} {L : List α} {i : Nat} {b : α} (h : L[i]? = some b) : L.take i ++ [b] = L.take (i + 1) := by
 have hlt := (List.getElem?_eq_some_iff.1 h).1
 have hx := (List.getElem?_eq_some_iff.1 h).2
 rw [← hx, List.take_succ_eq_append_getElem hlt]
structure DskL (d : DiskD) where
  pv : Value
  sm : Value
  sh : Value
  W : List OpV
  L : FilL
  hW : DF W = d.wait
  hg : (B6 L).Perm d.now
  hok : Fe d.syn d.wait
  hf : ∀ n, d.fuse = some n → n ≤ 9223372036854775807
  hr : 0 ≤ d.room ∧ d.room ≤ 1048576
  hk : C4 d.syn
section
variable {p : Nat} {d : DiskD}
theorem CW (h : d.down = false) : ∀ rs, Ap p d rs → ∃ y : DskL d, Al [cell p 67 #[.int .i64 d.room, .int .i64 (CV d.fuse), .bool false, y.pv, y.sm, y.sh], Ao 99 5 encO y.pv y.W, BF y.W, Av y.sm d.syn, By encKey AH y.sh y.L, Bn y.L] rs := fun rs hr => by
 obtain ⟨x, a1, _, rfl, h1, a2, _, rfl, h2, a3, _, rfl, h3, a4, _, rfl, h4, a5, _, rfl, ⟨L, hL, h5⟩, rfl⟩ := Hb h rs hr
 refine ⟨⟨x.pv, x.sm, x.sh, x.W, L, x.hW, hL ▸ x.hg h, x.hok, x.hf, x.hr, x.hk⟩, a1, _, rfl, h1, a2, _, rfl, h2, a3, _, rfl, h3, a4, a5, by simp, h4, h5⟩
theorem Vb (x : DskU d) (h : d.down = false) : ∀ rs, Al [cell p 67 #[.int .i64 d.room, .int .i64 (CV d.fuse), .bool false, x.pv, x.sm, x.sh], Ao 99 5 encO x.pv x.W, BF x.W, Av x.sm d.syn, Av x.sh x.g] rs → Ap p d rs := fun rs hr => ⟨x, by rw [h]; exact hr⟩
theorem Hc (y : DskL d) (h : d.down = false) : ∀ rs, Al [cell p 67 #[.int .i64 d.room, .int .i64 (CV d.fuse), .bool false, y.pv, y.sm, y.sh], Ao 99 5 encO y.pv y.W, BF y.W, Av y.sm d.syn, By encKey AH y.sh y.L, Bn y.L] rs → Ap p d rs := fun rs hr => by
 obtain ⟨a1, _, rfl, h1, a2, _, rfl, h2, a3, _, rfl, h3, a4, a5, rfl, h4, h5⟩ := hr
 exact Vb ⟨y.pv, y.sm, y.sh, y.W, B6 y.L, y.hW, fun _ => y.hg, y.hok, y.hf, y.hr, y.hk⟩ h _ ⟨a1, _, rfl, h1, a2, _, rfl, h2, a3, _, rfl, h3, a4, a5, rfl, h4, Al.one ⟨y.L, rfl, h5⟩⟩
theorem CG {os : List Ass} (y : DskL d) (h : d.down = false) : ∀ rs, Al ([cell p 67 #[.int .i64 d.room, .int .i64 (CV d.fuse), .bool false, y.pv, y.sm, y.sh], Ao 99 5 encO y.pv y.W, BF y.W, Av y.sm d.syn, By encKey AH y.sh y.L, Bn y.L] ++ os) rs → ∃ z, rs.Perm z ∧ Al ([Ap p d] ++ os) z := fun rs hr => by
 obtain ⟨a, b, e, h1, h2⟩ := Al.split hr
 subst e
 exact ⟨a ++ b, .refl _, Al.app (Al.one (Hc y h _ h1)) h2⟩
end
theorem SA {d : DiskD} {L : FilL} (hp : (B6 L).Perm d.now) (hn : (AI (B6 L)).Nodup) (n y : List UInt8) : EC d n y = (decide ((AE (B6 L) : Int) + (y.length : Int) ≤ d.room) && !((AL L n).isNone && decide (64 ≤ L.length))) := by
 unfold EC
 rw [← C9 hp, ← D9 hp hn, ← hp.length_eq, Ea]
 have h1 : (B6 L).length = L.length := by simp [B6]
 rw [h1]
 cases AL L n <;> rfl
theorem Rb {d : DiskD} {L : FilL} {n y : List UInt8} (hp : (B6 L).Perm d.now) (hn : (AI (B6 L)).Nodup) (h : EC d n y = false) : (d.room < (AE (B6 L) : Int) + (y.length : Int) ∧ AL L n = none) ∨ (d.room < (AE (B6 L) : Int) + (y.length : Int) ∧ ∃ r, AL L n = some r) ∨ ((AE (B6 L) : Int) + (y.length : Int) ≤ d.room ∧ AL L n = none ∧ 64 ≤ L.length) := by
  rw [SA hp hn] at h
  by_cases h1 : (AE (B6 L) : Int) + (y.length : Int) ≤ d.room
  · right; right
    cases h2 : AL L n with
    | none => rw [h2] at h; simp [h1] at h; exact ⟨h1, rfl, h⟩
    | some r => rw [h2] at h; simp [h1] at h
  · cases h2 : AL L n with
    | none => exact .inl ⟨by omega, rfl⟩
    | some r => exact .inr (.inl ⟨by omega, r, rfl⟩)
theorem Uc {d : DiskD} {L : FilL} {n y : List UInt8} (hp : (B6 L).Perm d.now) (hn : (AI (B6 L)).Nodup) (h : EC d n y = true) : (AE (B6 L) : Int) + (y.length : Int) ≤ d.room ∧ ((∃ r, AL L n = some r) ∨ (AL L n = none ∧ L.length < 64)) := by
  rw [SA hp hn, Bool.and_eq_true, decide_eq_true_eq] at h
  refine ⟨h.1, ?_⟩
  cases h2 : AL L n with
  | none => right; have := h.2; rw [h2] at this; simp at this; exact ⟨rfl, this⟩
  | some r => exact .inl ⟨r, rfl⟩
theorem F2 {d : DiskD} {L : FilL} (hp : (B6 L).Perm d.now) (hn : (AI (B6 L)).Nodup) (n : List UInt8) : AL d.now n = (AL L n).map (·.2) := by rw [← D9 hp hn, Ea]
theorem BK {v : Value} {L : FilL} : ∀ rs, By encKey AH v L rs → (AI (B6 L)).Nodup := fun rs h => by rw [DN]; exact By.nodup _ h
theorem SB {p : Nat} {room : Int} {sm sh : Value} (hr : 0 ≤ room ∧ room ≤ 1048576) : ∀ rs, Al [cell p 67 #[.int .i64 room, .int .i64 (-1), .bool false, .slice none 0 0, sm, sh], Ao 99 5 encO (.slice none 0 0) [], BF [], By encKey AH sm [], Bn [], By encKey AH sh [], Bn []] rs → ∃ z, rs.Perm z ∧ Al [Ap p (HU room)] z := fun rs hx => by
 obtain ⟨a1, _, rfl, h1, a2, _, rfl, h2, a3, _, rfl, h3, a4, _, rfl, h4, a5, a6, rfl, h5, h6⟩ := hx
 refine ⟨_, .refl _, Al.one ⟨⟨.slice none 0 0, sm, sh, [], [], rfl, fun _ => .refl _, IJ, (fun n h => by cases h), hr, Q7⟩, ?_⟩⟩
 refine ⟨a1, _, rfl, h1, a2, _, rfl, h2, a3, _, rfl, h3, a4 ++ a5, a6, by simp, ⟨[], rfl, a4, a5, rfl, h4, Al.one h5⟩, Al.one ⟨[], rfl, h6⟩⟩
theorem Rc {l : FilL} {j : Nat} {p : List UInt8 × PtT} (h : l[j]? = some p) : ((p.1, p.2.2) :: B6 (l.eraseIdx j)).Perm (B6 l) := by
 have hlt := (List.getElem?_eq_some_iff.1 h).1
 have hx := (List.getElem?_eq_some_iff.1 h).2
 have h1 : l = l.take j ++ p :: l.drop (j + 1) := by rw [← hx]; simp
 have h2 : (p :: l.eraseIdx j).Perm l := by
  rw [List.eraseIdx_eq_take_drop_succ]
  have h3 := (List.perm_middle (a := p) (l₁ := l.take j) (l₂ := l.drop (j + 1))).symm
  rw [← h1] at h3
  exact h3
 exact h2.map (fun p : List UInt8 × PtT => (p.1, p.2.2))
theorem OV {done left L : FilL} {j : Nat} {p : List UInt8 × PtT} (hn : (AI (B6 L)).Nodup) (hp : (B6 done ++ B6 left).Perm (B6 L)) (hj : left[j]? = some p) : EJ p.1 done 0 = none := by
  have h1 : (AI (B6 done ++ B6 left)).Nodup := (CD hp).nodup_iff.2 hn
  have h2 : AI (B6 done ++ B6 left) = AI done ++ AI left := by rw [← DN done, ← DN left]; unfold AI; rw [List.map_append]
  rw [h2] at h1
  cases h : EJ p.1 done 0 with
  | none => rfl
  | some q =>
    exfalso
    have h3 := (Dn h).2
    have h4 : p.1 ∈ AI done := List.mem_map.2 ⟨_, List.mem_of_getElem? h3, rfl⟩
    have h5 : p.1 ∈ AI left := List.mem_map.2 ⟨_, List.mem_of_getElem? hj, rfl⟩
    exact (List.nodup_append.1 h1).2.2 _ h4 _ h5 rfl
theorem Nu {done left L : FilL} {j : Nat} {p : List UInt8 × PtT} {u : Value} (hp : (B6 done ++ B6 left).Perm (B6 L)) (hj : left[j]? = some p) (hf : EJ p.1 done 0 = none) : (B6 (Bz done p.1 (u, p.2.2)) ++ B6 (left.eraseIdx j)).Perm (B6 L) := by
 have h1 : Bz done p.1 (u, p.2.2) = done ++ [(p.1, (u, p.2.2))] := by unfold Bz; rw [hf]
 have h2 : B6 (done ++ [(p.1, (u, p.2.2))]) = B6 done ++ [(p.1, p.2.2)] := by simp [B6]
 rw [h1, h2, List.append_assoc]
 exact ((Rc hj).append_left (B6 done)).trans hp
theorem Nv {v u : Value} {f : FS} {L M : FilL} (h : f = B6 L) : ∀ rs, Al [By encKey AH v L, Bn L, By encKey AH u M, Bn M] rs → ∃ z, rs.Perm z ∧ Al [Av v f, Av u (B6 M)] z := fun rs hr => by
 subst h
 obtain ⟨a, r, rfl, h1, b, r2, rfl, h2, h3⟩ := hr
 exact ⟨a ++ (b ++ r2), .refl _, a ++ b, r2, by simp, ⟨L, rfl, a, b, rfl, h1, Al.one h2⟩, Al.one ⟨M, rfl, h3⟩⟩
def Gf (f : FS) (o : OpD) (torn : Int) : FS := match o with
  | .app n b => if (torn % (b.length : Int)).toNat = 0 ∨ b = [] then f else AW f (.app n (b.take (torn % (b.length : Int)).toNat))
  | _ => f
theorem H6 (d : DiskD) (keep torn : Int) : Do d keep torn = match d.wait[DD d keep]? with
  | some o => Gf ((d.wait.take (DD d keep)).foldl AW d.syn) o torn
  | none => (d.wait.take (DD d keep)).foldl AW d.syn := by
  unfold Do Gf
  cases d.wait[DD d keep]? with
  | none => rfl
  | some o => cases o <;> rfl
theorem SC {f : FS} {o : OpD} {torn : Int} (h : o.data = []) : Gf f o torn = f := by
  cases o with
  | app n b => unfold Gf; simp only; rw [if_pos (.inr h)]
  | cut n s => rfl
  | ren a b => rfl
  | del n => rfl
theorem Re {l : List OpD} {i : Nat} {o : OpD} (h : l[i]? = some o) (f : FS) : (l.take (i + 1)).foldl AW f = AW ((l.take i).foldl AW f) o := by
 rw [← F1 h, List.foldl_append]; rfl
theorem IM {l : List OpD} {i : Nat} {o : OpD} {f : FS} {N : Nat} (hn : (AI f).Nodup) (hok : Fe f l) (h : l[i]? = some o) (hs : AE f + (l.map OpD.size).sum ≤ N) : AE ((l.take i).foldl AW f) + o.size ≤ N := by
 have h1 := ED (l.take i) hn (FH i hok)
 have h2 : ((l.take (i + 1)).map OpD.size).sum = ((l.take i).map OpD.size).sum + o.size := by rw [← F1 h]; simp
 have h3 := Jm l (i + 1)
 omega
theorem OW {f : FS} {o : OpD} {torn : Int} (hf : (AI f).Nodup) (h : C4 f) (ho : Ly f o) : C4 (Gf f o torn) := by
  cases o with
  | app n b =>
    unfold Gf
    simp only
    split
    · exact h
    · exact Ha hf h ho
  | cut n s => exact h
  | ren a b => exact h
  | del n => exact h
theorem KP {d : DiskD} {keep torn : Int} (hn : (AI d.syn).Nodup) (h : C4 d.syn) (ho : Fe d.syn d.wait) : C4 (Do d keep torn) := by
  rw [H6]
  have h1 := Jl _ hn h (FH (DD d keep) ho)
  cases hw : d.wait[DD d keep]? with
  | none => exact h1
  | some o => exact OW (FE _ hn) h1 (Mw ho hw)
theorem H7 {d : DiskD} (h : d.fit) (hn : (AI d.syn).Nodup) (ho : Fe d.syn d.wait) : AE d.now ≤ 1099511627776 := Nat.le_trans (ED d.wait hn ho) h.1
theorem LF {d : DiskD} (hn : (AI d.syn).Nodup) (h : C4 d.syn) (ho : Fe d.syn d.wait) : C4 d.now := Jl d.wait hn h ho
theorem LG {d : DiskD} (hn : (AI d.syn).Nodup) : (AI d.now).Nodup := FE d.wait hn
theorem J4 {d : DiskD} (x : DskU d) : x.W.length = d.wait.length := by rw [← x.hW]; simp [DF]
theorem My {a m : Int} (hm : 0 < m) : a % m = if a.tmod m < 0 then a.tmod m + m else a.tmod m := by
  by_cases ha : 0 ≤ a
  · have h1 : a.tmod m = a % m := Int.tmod_eq_emod_of_nonneg ha
    have := Int.emod_nonneg a (show m ≠ 0 by omega)
    rw [h1, if_neg (by omega)]
  · have h1 := Int.tmod_eq_emod (a := a) (b := m)
    have h3 := Int.emod_nonneg a (show m ≠ 0 by omega)
    have h4 := Int.emod_lt_of_pos a hm
    by_cases hd : m ∣ a
    · have h5 : a % m = 0 := Int.emod_eq_zero_of_dvd hd
      have h6 : a.tmod m = 0 := by rw [h1, if_pos (.inr hd), h5]; simp
      rw [h5, h6]; simp
    · rw [if_neg (by simp [ha, hd])] at h1
      have h7 : (m.natAbs : Int) = m := by omega
      rw [h7] at h1
      have h8 : a % m ≠ 0 := fun e => hd (Int.dvd_of_emod_eq_zero e)
      rw [h1, if_pos (by omega)]; omega
end Go.Proofs.YtnknboibmifacaaGreat.Sep
namespace Go.Proofs.YtnknboibmifacaaGreat.Sep
open Go.RowKit
open Go.Proofs.YtnknboibmifacaaGreat.Mem (Bd Cj Chg AF)
section
variable {P : Program} {κ ν : Type} {kk : κ → Value} {vv : ν → Value} {B : Nat → Prop} {w0 w : World} {os : List Ass} {mt kt vt : TypeId} {n : Nat} {env : List (Nat × Value)} {Q : Exit → Act → World → Prop} {o : Oper} {act : Act}
theorem SD {r : Operand} {k : IntKind} {q : Int} (ht : P.underlying mt = some (.map kt vt)) (ho : o.op = .makeMap mt (some r)) (hr : evs env r = some (.int k q)) : Br P Q n env B w0 os o (fun g : Nat => .map (some g)) (fun g => By kk vv (.map (some g)) [] :: os) := fun act w hH hF K hK => by
 have hrun : (execOp act.eval o).run P w = .ok (.value (.map (some w.heap.size))) (w.alloc (.map #[] 0)) := by
  unfold execOp
  simp [ho, hF.evs hr, Instr.makeMap, run_underlying ht, asInt, asIntOf, newObj, Sem.run]
 obtain ⟨rs, h1, h2⟩ := hH
 exact E9 (w0 := w) act hrun (hK w.heap.size _ ⟨_, ⟨[(w.heap.size, none, E7 #[] 0)], rs, rfl, ⟨w.heap.size, #[], 0, rfl, rfl, Kw⟩, h1⟩, Ky h2 _ (Dk.2 (heap_alloc_new w _))⟩)
end
section
variable {P : Program} {κ : Type} [DecidableEq κ] {kk : κ → Value} {w : World} {mt kt vt : TypeId} {kd : TypeDesc} {z : Value} {n : Nat} {env : List (Nat × Value)} {o : Oper} {act : Act}
theorem Ud (hT : MapTy P mt kt vt kd kk z) {x y : Operand} (ho : o.op = .lookup mt x y false) {k : κ} (hx : evs env x = some (.map none)) (hy : evs env y = some (kk k)) (hF : Fr n act env) : (execOp act.eval o).run P w = .ok (.value z) w := by
 unfold execOp
 simp only [ho, hF.evs hx, hF.evs hy, Sem.run_bind, Gw hT, Result.andThen_ok, Sem.run_pure, Bool.false_eq_true, if_false]
theorem Ue (hT : MapTy P mt kt vt kd kk z) {x y : Operand} (ho : o.op = .lookup mt x y true) {k : κ} (hx : evs env x = some (.map none)) (hy : evs env y = some (kk k)) (hF : Fr n act env) : (execOp act.eval o).run P w = .ok (.value (.tuple #[z, .bool false])) w := by
 unfold execOp
 simp only [ho, hF.evs hx, hF.evs hy, Sem.run_bind, Gw hT, Result.andThen_ok, Sem.run_pure, if_true]
end
end Go.Proofs.YtnknboibmifacaaGreat.Sep
namespace Go.Proofs.YtnknboibmifacaaGreat.Sep
open Go.RowKit
open Go.Proofs.YtnknboibmifacaaGreat.Mem (Bd Cj Chg AF)
def flK : List ((Nat × Nat) × Nat) := flS
theorem Aj : I2 Tryz.prog flK := As
end Go.Proofs.YtnknboibmifacaaGreat.Sep
namespace Go.Proofs.YtnknboibmifacaaGreat.Sep
open Go.RowKit
open Go.Proofs.YtnknboibmifacaaGreat.Mem (Bd Cj Chg AF)
theorem OX (w : World) (room : Int) (h : 0 ≤ room ∧ room ≤ 1048576) : Calls Tryz.prog 55 #[.int .i64 room] w fun e w' => e = .returned (.bool true) ∧ Below w.heap.size w w' := by
 refine In (args := [.int .i64 room]) 9 Tryz.func55 rfl rfl rfl ?_
 refine Ad ?_
 refine Af As rfl ?_
 refine Ab (Ad ?_)
 refine Af As rfl ?_
 refine Ac rfl (.bool true) (fun b w hb hH => Bh rfl rfl rfl (Cs (by omega)) hb) ?_
 refine Af As rfl ?_
 refine Ac rfl (.bool true) (fun b w hb hH => Bh rfl rfl rfl (Ep (by omega)) hb) ?_
 refine Af As rfl ?_
 refine Ab (Az ?_)
 exact Ay (.tmp rfl) (fun w h => ⟨rfl, AF h.up⟩) rfl
theorem G6 (n : List UInt8) : CA n = true ↔ 1 ≤ n.length ∧ n.length ≤ 16 := by simp [CA]
theorem SE (n : List UInt8) : CA n = false ↔ ¬ (1 ≤ n.length ∧ n.length ≤ 16) := by rw [← G6]; simp
theorem F3 (w : World) (n : List UInt8) (h : CA n = true) : Calls Tryz.prog 56 #[.string (bs n)] w fun e w' => e = .returned (.bool true) ∧ Below w.heap.size w w' := by
 have h := (G6 n).1 h
 refine In (args := [.string (bs n)]) 11 Tryz.func56 rfl rfl rfl ?_
 refine Ad ?_
 refine Af As rfl ?_
 refine Ab (Ad ?_)
 refine Af As rfl ?_
 refine Ac rfl (.int .i64 (n.length : Int)) (fun b w hb hH => BW rfl rfl (fun cs => (fun w cs => CK Tryz.underlying9 _ _ w cs) w cs) hb) ?_
 refine Ac rfl (.bool true) (fun b w hb hH => Bh rfl rfl rfl (Cs (by omega)) hb) ?_
 refine Af As rfl ?_
 refine Ac rfl (.int .i64 (n.length : Int)) (fun b w hb hH => BW rfl rfl (fun cs => (fun w cs => CK Tryz.underlying9 _ _ w cs) w cs) hb) ?_
 refine Ac rfl (.bool true) (fun b w hb hH => Bh rfl rfl rfl (Ep (by omega)) hb) ?_
 refine Af As rfl ?_
 refine Ab (Az ?_)
 exact Ay (.tmp rfl) (fun w h => ⟨rfl, AF h.up⟩) rfl
theorem KQ (w : World) (n : List UInt8) (h : CA n = false) : Calls Tryz.prog 56 #[.string (bs n)] w fun e w' => e = .returned (.bool false) ∧ Below w.heap.size w w' := by
  have h := (SE n).1 h
  refine In (args := [.string (bs n)]) 11 Tryz.func56 rfl rfl rfl ?_
  refine Ad ?_
  refine Af As rfl ?_
  refine Ab ?_
  rcases Nat.lt_or_ge n.length 1 with h0 | h0
  · skip
    refine Ad ?_
    refine Af As rfl ?_
    refine Ac rfl (.int .i64 (n.length : Int)) (fun b w hb hH => BW rfl rfl (fun cs => (fun w cs => CK Tryz.underlying9 _ _ w cs) w cs) hb) ?_
    refine Ac rfl (.bool false) (fun b w hb hH => Bh rfl rfl rfl (DX (by omega)) hb) ?_
    refine Af As rfl ?_
    refine Ab (Az ?_)
    exact Ay (.tmp rfl) (fun w h => ⟨rfl, AF h.up⟩) rfl
  · skip
    refine Ad ?_
    refine Af As rfl ?_
    refine Ac rfl (.int .i64 (n.length : Int)) (fun b w hb hH => BW rfl rfl (fun cs => (fun w cs => CK Tryz.underlying9 _ _ w cs) w cs) hb) ?_
    refine Ac rfl (.bool true) (fun b w hb hH => Bh rfl rfl rfl (Cs (by omega)) hb) ?_
    refine Af As rfl ?_
    refine Ac rfl (.int .i64 (n.length : Int)) (fun b w hb hH => BW rfl rfl (fun cs => (fun w cs => CK Tryz.underlying9 _ _ w cs) w cs) hb) ?_
    refine Ac rfl (.bool false) (fun b w hb hH => Bh rfl rfl rfl (G4 (by omega)) hb) ?_
    refine Af As rfl ?_
    refine Ab (Az ?_)
    exact Ay (.tmp rfl) (fun w h => ⟨rfl, AF h.up⟩) rfl
theorem KR (w : World) (a m r : Int) (hm : 0 < m) (h1 : m ≤ 9223372036854775807) (hr : a % m = r) : Calls Tryz.prog 63 #[.int .i64 a, .int .i64 m] w fun e w' => e = .returned (.int .i64 r) ∧ Below w.heap.size w w' := by
  have he := My (a := a) hm
  have h2 := Int.emod_nonneg a (show m ≠ 0 by omega)
  have h3 := Int.emod_lt_of_pos a hm
  obtain ⟨t, ht⟩ : ∃ t, a.tmod m = t := ⟨_, rfl⟩
  rw [ht, hr] at he
  rw [hr] at h2 h3
  refine In (args := [.int .i64 a, .int .i64 m]) 14 Tryz.func63 rfl rfl rfl ?_
  refine Ad ?_
  refine Af As rfl ?_
  refine Ab (Ad ?_)
  refine Af As rfl ?_
  refine Ac rfl (.int .i64 t) (fun b w hb hH => Jh rfl rfl rfl (by omega) ht hb) ?_
  refine Af As rfl ?_
  refine Ab (Aq ?_)
  rcases Int.lt_or_le t 0 with h0 | h0
  · skip
    rw [if_pos h0] at he
    refine Ad ?_
    refine Af As rfl ?_
    refine Ac rfl (.bool true) (fun b w hb hH => Bh rfl rfl rfl (Bl (by omega)) hb) ?_
    refine Ab (AD rfl (BI ?_))
    refine Af As rfl ?_
    refine Ac rfl (.int .i64 r) (fun b w hb hH => AK rfl rfl rfl rfl (by rw [IntWalk.i64_in _ (by omega)]; omega) hb) ?_
    refine Af As rfl ?_
    refine AP (AG (Ad ?_))
    refine Af As rfl ?_
    refine Ab (Az ?_)
    exact Ay (.tmp rfl) (fun w h => ⟨rfl, AF h.up⟩) rfl
  · skip
    rw [if_neg (by omega)] at he
    subst he
    refine Ad ?_
    refine Af As rfl ?_
    refine Ac rfl (.bool false) (fun b w hb hH => Bh rfl rfl rfl (Bu (by omega)) hb) ?_
    refine Ab (Au rfl (Ax (AG (Ad ?_))))
    refine Af As rfl ?_
    refine Ab (Az ?_)
    exact Ay (.tmp rfl) (fun w h => ⟨rfl, AF h.up⟩) rfl
theorem Fp (v : Value) (l : FilL) (n : List UInt8) (r : Option PtT) (h : AL l n = r) : AS Tryz.prog 57 #[v, .string (bs n)] [By encKey AH v l] (fun (_ : Unit) => .bool r.isSome) (fun (_ : Unit) => [By encKey AH v l]) := by
 refine A6 (args := [v, .string (bs n)]) 14 Tryz.func57 rfl rfl rfl ?_; intro w rs
 refine Ad ?_
 refine Af Aj rfl ?_
 refine Ab (Ad ?_)
 refine Af Aj rfl ?_
 refine Ac rfl (.tuple #[((r).map AH).getD (.slice none 0 0), .bool ((r).isSome)]) (fun b w hb hH => U6 0 CU rfl (k := n) (r := r) h rfl rfl rfl hH hb) ?_
 refine Af Aj rfl ?_
 refine Ab (Ad ?_)
 refine Af Aj rfl ?_
 refine Ab (Az ?_)
 exact Ay (.tmp rfl) (fun w h => AB () rfl [0] rfl h Cz) rfl
theorem Uf (n : List UInt8) : AS Tryz.prog 57 #[.map none, .string (bs n)] [] (fun (_ : Unit) => .bool false) (fun (_ : Unit) => []) := by
 refine A6 (args := [.map none, .string (bs n)]) 14 Tryz.func57 rfl rfl rfl ?_; intro w rs
 refine Ad ?_
 refine Af Aj rfl ?_
 refine Ab (Ad ?_)
 refine Af Aj rfl ?_
 refine Ac rfl (.tuple #[.slice none 0 0, .bool false]) (fun b w hb hH => Ue CU rfl (k := n) rfl rfl hb) ?_
 refine Af Aj rfl ?_
 refine Ab (Ad ?_)
 refine Af Aj rfl ?_
 refine Ab (Az ?_)
 exact Ay (.tmp rfl) (fun w h => AB () rfl [] rfl h Cz) rfl
theorem KS (p : Nat) (r1 r2 r3 sm fm pv : Value) (l : FilL) (hl : AE (B6 l) ≤ 1099511627776) : AS Tryz.prog 50 #[.pointer (some ⟨p, 0, none⟩)] [cell p 67 #[r1, r2, r3, pv, sm, fm], By encKey AH fm l, Bn l] (fun (_ : Unit) => .int .i64 ((AE (B6 l) : Nat) : Int)) (fun (_ : Unit) => [cell p 67 #[r1, r2, r3, pv, sm, fm], By encKey AH fm l, Bn l]) := by
  refine A6 (args := [.pointer (some ⟨p, 0, none⟩)]) 20 Tryz.func50 rfl rfl rfl ?_; intro w rs
  refine Ad ?_
  refine Af Aj rfl ?_
  refine Ab (Ad ?_)
  refine Af Aj rfl ?_
  refine Ab (Aq (Ad ?_))
  refine Af Aj rfl ?_
  refine Ac rfl (.pointer (some ⟨p, 0, none⟩)) (fun b w hb hH => by exact BO rfl rfl hb) ?_
  refine Af Aj rfl ?_
  refine Ac rfl (fm) (fun b w hb hH => Bg rfl rfl (Bt AJ rfl) (hH.row 0 rfl) hb) ?_
  refine Ai (post := fun g1 => [cell p 67 #[r1, r2, r3, pv, sm, fm], Fy encKey AH fm (.pointer (some ⟨g1, 0, none⟩)) l l none, Bn l]) rfl (Mm 1 Tryz.underlying65 rfl rfl rfl) ?_; rintro g1
  refine Ab (AX ?_)
  refine CE (α := Nat × FilL × Option (List UInt8 × PtT)) (fun ⟨n, left, cur⟩ => [(2, .int .i64 0), (3, .int .i64 ((n : Nat) : Int)), (10, .pointer (some ⟨g1, 0, none⟩))]) (fun ⟨n, left, cur⟩ => [cell p 67 #[r1, r2, r3, pv, sm, fm], Fy encKey AH fm (.pointer (some ⟨g1, 0, none⟩)) l left cur, Bn l]) (fun ⟨n, left, cur⟩ => n + AE (B6 left) = AE (B6 l) ∧ ∀ p, p ∈ left → p ∈ l) (fun ⟨n, left, cur⟩ => left.length) (0, l, none) ⟨Nat.zero_add _, fun _ h => h⟩ ⟨rfl, rfl, rfl, trivial⟩ rfl ?_
  rintro ⟨n, left, cur⟩ hI
  refine Bo.at_ (env' := [(2, .int .i64 0), (3, .int .i64 ((n : Nat) : Int)), (10, .pointer (some ⟨g1, 0, none⟩))]) (rs' := [cell p 67 #[r1, r2, r3, pv, sm, fm], Fy encKey AH fm (.pointer (some ⟨g1, 0, none⟩)) l left cur, Bn l]) ⟨rfl, rfl, rfl, trivial⟩ rfl ?_
  have hI1 : n + AE (B6 left) = AE (B6 l) := hI.1
  rcases Classical.em (left = []) with hc | hc
  · skip
    have hn : n = AE (B6 l) := by rw [hc] at hI1; simpa [B6, AE] using hI1
    refine Ad ?_
    refine Af Aj rfl ?_
    refine Ac rfl (.tuple #[.bool false]) (fun b w hb hH => Mn 1 rfl hc rfl rfl hH hb) ?_
    refine Af Aj rfl ?_
    refine Ab (Aq (Au rfl (Cu (EO (EO (Bc (AG ?_)))))))
    refine AY 1 rfl Jf (fun _ => rfl) ?_; rintro ⟨⟩
    refine Bo.leave [1] rfl rfl ?_
    refine Ad ?_
    refine Af Aj rfl ?_
    refine Ab (Az ?_)
    exact Ay (.tmp rfl) (fun w h => AB () (by rw [hn]) [1, 0, 2] rfl h Cz) rfl
  · skip
    refine Ad ?_
    refine Af Aj rfl ?_
    refine Ai (post := fun q : { q : Nat × List UInt8 × PtT // (left)[q.1]? = some q.2 } => [cell p 67 #[r1, r2, r3, pv, sm, fm], Fy encKey AH fm (.pointer (some ⟨g1, 0, none⟩)) l (left.eraseIdx q.1.1) (some (q.1.2.1, q.1.2.2)), Bn l]) rfl (Mo 1 rfl hc rfl rfl) ?_; rintro q
    refine Af Aj rfl ?_
    refine Ab (Aq (AD rfl (Ax (AG (AX ?_)))))
    have hqm : q.1.2 ∈ l := hI.2 _ (List.mem_of_getElem? q.2)
    have hqu : AE (B6 (left.eraseIdx q.1.1)) + q.1.2.2.2.length = AE (B6 left) := KL q.2
    refine Ad ?_
    refine Af Aj rfl ?_
    refine Ac rfl (.tuple #[.string (bs q.1.2.1), q.1.2.2.1]) (fun b w hb hH => Mp 1 rfl rfl rfl hH hb) ?_
    refine Af Aj rfl ?_
    refine Ab (BI ?_)
    refine Af Aj rfl ?_
    refine Ac rfl (.int .i64 (q.1.2.2.2.length : Int)) (fun b w hb hH => AQ ((hH.rd8 2 rfl (G9 hqm)).rd) Tryz.underlying48 rfl rfl hb) ?_
    refine Ac rfl (.int .i64 ((n + q.1.2.2.2.length : Nat) : Int)) (fun b w hb hH => AK rfl rfl rfl rfl (by rw [IntWalk.i64_in _ (by omega)]; omega) hb) ?_
    refine Af Aj rfl ?_
    refine AP (BJ ?_)
    exact Cr (n + q.1.2.2.2.length, left.eraseIdx q.1.1, some (q.1.2.1, q.1.2.2)) 0 ⟨by omega, fun p hp => hI.2 p (List.mem_of_mem_eraseIdx hp)⟩ (show (left.eraseIdx q.1.1).length < left.length from H4 q.2) ⟨rfl, rfl, rfl, trivial⟩ rfl
end Go.Proofs.YtnknboibmifacaaGreat.Sep
namespace Go.Proofs.YtnknboibmifacaaGreat.Sep
open Go.RowKit
open Go.Proofs.YtnknboibmifacaaGreat.Mem (Bd Cj Chg AF)
theorem SF {X : Ass} {v : Value} {f f' : FS} {n b : List UInt8} {A : Option Addr} {c : Nat} (hX : Cw X (.slice A b.length c) b) (hl : AE f + b.length ≤ 4398046511104) (h : AW f (.app n b) = f') : AS Tryz.prog 68 #[v, .agg #[.int .i64 0, .string (bs n), .slice A b.length c, .int .i64 0, .string (bs ([]))]] [Av v f, X] (fun (_ : Unit) => .tuple #[]) (fun (_ : Unit) => [Av v f', X]) := by
  have h_ := h
  refine A6 (args := [v, .agg #[.int .i64 0, .string (bs n), .slice A b.length c, .int .i64 0, .string (bs ([]))]]) 49 Tryz.func68 rfl rfl rfl ?_; intro w rs
  refine Bo.fact 0 rfl Bx ?_; rintro hnd
  refine AY 0 rfl Fd (fun _ => rfl) ?_; rintro ⟨L, hL⟩
  subst hL
  refine Ad ?_
  refine Af Aj rfl ?_
  refine Ai (post := fun g1 => [cell g1 99 #[.int .i64 0, .string (bs n), .slice A b.length c, .int .i64 0, .string (bs ([]))], By encKey AH v L, Bn L, X]) rfl (CZ (cs := #[.int .i64 0, .string (bs n), .slice A b.length c, .int .i64 0, .string (bs ([]))]) rfl rfl rfl) ?_; rintro g1
  refine Ab (Ad ?_)
  refine Af Aj rfl ?_
  refine Ac rfl (.int .i64 0) (fun b w hb hH => Bg rfl rfl (Bt EX rfl) (hH.row 0 rfl) hb) ?_
  refine Ab (AX (Ad ?_))
  refine Af Aj rfl ?_
  refine Ac rfl (.bool true) (fun b w hb hH => Bh rfl rfl rfl (Ks (by decide)) hb) ?_
  refine Af Aj rfl ?_
  refine Ab (AD rfl ?_)
  rcases hq : EJ n L 0 with _ | q
  · skip
    refine BZ 5 1 encB ?_
    refine BM 10 1 [⟨.quiet, [none], fun _ => v, []⟩, ⟨.quiet, [none], fun _ => .pointer (some ⟨g1, 1, none⟩), []⟩, ⟨.quiet, [none], fun _ => .string (bs n), [1]⟩, ⟨.quiet, [none], fun _ => v, []⟩, ⟨.quiet, [none], fun _ => .pointer (some ⟨g1, 1, none⟩), []⟩, ⟨.quiet, [none], fun _ => .string (bs n), [4]⟩, ⟨.quiet, [none], fun _ => .slice none 0 0, [3, 5]⟩, ⟨.quiet, [none], fun _ => .pointer (some ⟨g1, 2, none⟩), []⟩, ⟨.quiet, [none], fun _ => .slice A b.length c, [7]⟩, ⟨.act 0, [some false], fun _ => undef, [6, 8]⟩] [(0, v), (3, .pointer (some ⟨g1, 0, none⟩))] (fun ρ => match ρ with | [r0] => [CP r0 (fun u => Ao 5 1 encB u b) (Ao 5 1 encB (.slice none 0 0) ([])), cell g1 99 #[.int .i64 0, .string (bs n), .slice A b.length c, .int .i64 0, .string (bs ([]))], By encKey AH v L, Bn L, X] | _ => []) (by kernel_rfl) (by kernel_rfl) ⟨rfl, rfl, trivial⟩ rfl ?_ ?_
    · skip
      refine Aa (by intro r0_; exact ⟨rfl, fun b w hH hb => Ae Aj rfl hb⟩) ?_
      refine Aa (by intro r0_; exact ⟨rfl, fun b w hH hb => Ae Aj rfl hb⟩) ?_
      refine Aa (by intro r0_; exact ⟨rfl, fun b w hH hb => Bg rfl rfl (Bt AR rfl) (hH.row 1 rfl) hb⟩) ?_
      refine Aa (by intro r0_; exact ⟨rfl, fun b w hH hb => Ae Aj rfl hb⟩) ?_
      refine Aa (by intro r0_; exact ⟨rfl, fun b w hH hb => Ae Aj rfl hb⟩) ?_
      refine Aa (by intro r0_; exact ⟨rfl, fun b w hH hb => Bg rfl rfl (Bt AR rfl) (hH.row 1 rfl) hb⟩) ?_
      refine Aa (by intro r0_; exact ⟨rfl, fun b w hH hb => Gx 2 CU rfl (k := n) (r := none) (Nt hq) rfl rfl rfl hH hb⟩) ?_
      refine Aa (by intro r0_; exact ⟨rfl, fun b w hH hb => Ae Aj rfl hb⟩) ?_
      refine Aa (by intro r0_; exact ⟨rfl, fun b w hH hb => Bg rfl rfl (Bt C3 rfl) (hH.row 1 rfl) hb⟩) ?_
      refine Aa (by exact ⟨rfl, Br.s (Ca 0 AC (by kernel_rfl) rfl (b) (fun w hH => hH.rd 4 rfl hX.rd) (by simp only [List.length_nil]; omega) rfl rfl rfl (List.nil_append _)) (fun _ => rfl)⟩) ?_
      exact B7
    intro u
    refine Ch.keep (env' := [(9, v), (11, .string (bs n)), (18, u)]) ⟨rfl, rfl, rfl, trivial⟩ ?_
    refine Af Aj rfl ?_
    refine AT (post := fun _ => [Ao 5 1 encB u b, cell g1 99 #[.int .i64 0, .string (bs n), .slice A b.length c, .int .i64 0, .string (bs ([]))], By encKey AH v (Bz L n (u, b)), Bn L, X]) rfl rfl (Je 2 CU rfl n (u, b) rfl rfl rfl rfl rfl rfl) ?_; rintro ⟨⟩
    refine AP (BJ ?_)
    exact DP  (fun w h => AB () rfl [2, 3, 0, 4] rfl h (LC hq (h_.symm.trans (Sy hq)))) rfl
  · skip
    refine AY 2 rfl (GA hq) (fun _ => rfl) ?_; rintro ⟨⟩
    have hle : q.2.2.length ≤ AE (B6 L) := IK hnd (by rw [Ea, Ff hq]; rfl)
    refine BM 10 1 [⟨.quiet, [none], fun _ => v, []⟩, ⟨.quiet, [none], fun _ => .pointer (some ⟨g1, 1, none⟩), []⟩, ⟨.quiet, [none], fun _ => .string (bs n), [1]⟩, ⟨.quiet, [none], fun _ => v, []⟩, ⟨.quiet, [none], fun _ => .pointer (some ⟨g1, 1, none⟩), []⟩, ⟨.quiet, [none], fun _ => .string (bs n), [4]⟩, ⟨.quiet, [none], fun _ => q.2.1, [3, 5]⟩, ⟨.quiet, [none], fun _ => .pointer (some ⟨g1, 2, none⟩), []⟩, ⟨.quiet, [none], fun _ => .slice A b.length c, [7]⟩, ⟨.act 0, [some false], fun _ => undef, [6, 8]⟩] [(0, v), (3, .pointer (some ⟨g1, 0, none⟩))] (fun ρ => match ρ with | [r0] => [Bn (L.take q.1), CP r0 (fun u => Ao 5 1 encB u (q.2.2 ++ b)) (Ao 5 1 encB q.2.1 q.2.2), Bn (L.drop (q.1 + 1)), cell g1 99 #[.int .i64 0, .string (bs n), .slice A b.length c, .int .i64 0, .string (bs ([]))], By encKey AH v L, X] | _ => []) (by kernel_rfl) (by kernel_rfl) ⟨rfl, rfl, trivial⟩ rfl ?_ ?_
    · skip
      refine Aa (by intro r0_; exact ⟨rfl, fun b w hH hb => Ae Aj rfl hb⟩) ?_
      refine Aa (by intro r0_; exact ⟨rfl, fun b w hH hb => Ae Aj rfl hb⟩) ?_
      refine Aa (by intro r0_; exact ⟨rfl, fun b w hH hb => Bg rfl rfl (Bt AR rfl) (hH.row 3 rfl) hb⟩) ?_
      refine Aa (by intro r0_; exact ⟨rfl, fun b w hH hb => Ae Aj rfl hb⟩) ?_
      refine Aa (by intro r0_; exact ⟨rfl, fun b w hH hb => Ae Aj rfl hb⟩) ?_
      refine Aa (by intro r0_; exact ⟨rfl, fun b w hH hb => Bg rfl rfl (Bt AR rfl) (hH.row 3 rfl) hb⟩) ?_
      refine Aa (by intro r0_; exact ⟨rfl, fun b w hH hb => Gx 4 CU rfl (k := n) (r := some q.2) (Ff hq) rfl rfl rfl hH hb⟩) ?_
      refine Aa (by intro r0_; exact ⟨rfl, fun b w hH hb => Ae Aj rfl hb⟩) ?_
      refine Aa (by intro r0_; exact ⟨rfl, fun b w hH hb => Bg rfl rfl (Bt C3 rfl) (hH.row 3 rfl) hb⟩) ?_
      refine Aa (by exact ⟨rfl, Br.s (Ca 1 AC (by kernel_rfl) rfl (b) (fun w hH => hH.rd 5 rfl hX.rd) (by omega) rfl rfl rfl rfl) (fun _ => rfl)⟩) ?_
      exact B7
    intro u
    refine Ch.keep (env' := [(9, v), (11, .string (bs n)), (18, u)]) ⟨rfl, rfl, rfl, trivial⟩ ?_
    refine Af Aj rfl ?_
    refine AT (post := fun _ => [Bn (L.take q.1), Ao 5 1 encB u (q.2.2 ++ b), Bn (L.drop (q.1 + 1)), cell g1 99 #[.int .i64 0, .string (bs n), .slice A b.length c, .int .i64 0, .string (bs ([]))], By encKey AH v (Bz L n (u, q.2.2 ++ b)), X]) rfl rfl (Je 4 CU rfl n (u, q.2.2 ++ b) rfl rfl rfl rfl rfl rfl) ?_; rintro ⟨⟩
    refine AP (BJ ?_)
    exact DP  (fun w h => AB () rfl [4, 0, 1, 2, 5] rfl h (Jn hq (h_.symm.trans (Sz hq)))) rfl
theorem Vc {X : Ass} {v : Value} {f f' : FS} {n : List UInt8} {A : Option Addr} {c : Nat} (h : AW f (.del n) = f') : AS Tryz.prog 68 #[v, .agg #[.int .i64 3, .string (bs n), .slice A 0 c, .int .i64 0, .string (bs ([]))]] [Av v f, X] (fun (_ : Unit) => .tuple #[]) (fun (_ : Unit) => [Av v f', X]) := by
  have h_ := h
  refine A6 (args := [v, .agg #[.int .i64 3, .string (bs n), .slice A 0 c, .int .i64 0, .string (bs ([]))]]) 49 Tryz.func68 rfl rfl rfl ?_; intro w rs
  refine AY 0 rfl Fd (fun _ => rfl) ?_; rintro ⟨L, hL⟩
  subst hL
  refine Ad ?_
  refine Af Aj rfl ?_
  refine Ai (post := fun g1 => [cell g1 99 #[.int .i64 3, .string (bs n), .slice A 0 c, .int .i64 0, .string (bs ([]))], By encKey AH v L, Bn L, X]) rfl (CZ (cs := #[.int .i64 3, .string (bs n), .slice A 0 c, .int .i64 0, .string (bs ([]))]) rfl rfl rfl) ?_; rintro g1
  refine Ab (Ad ?_)
  refine Af Aj rfl ?_
  refine Ac rfl (.int .i64 3) (fun b w hb hH => Bg rfl rfl (Bt EX rfl) (hH.row 0 rfl) hb) ?_
  refine Ab (AX (Ad ?_))
  refine Af Aj rfl ?_
  refine Ac rfl (.bool false) (fun b w hb hH => Bh rfl rfl rfl (Le (by decide)) hb) ?_
  refine Af Aj rfl ?_
  refine Ab (Au rfl (Ad ?_))
  refine Af Aj rfl ?_
  refine Ac rfl (.bool false) (fun b w hb hH => Bh rfl rfl rfl (Le (by decide)) hb) ?_
  refine Af Aj rfl ?_
  refine Ab (Au rfl (Ad ?_))
  refine Af Aj rfl ?_
  refine Ac rfl (.bool false) (fun b w hb hH => Bh rfl rfl rfl (Le (by decide)) hb) ?_
  refine Af Aj rfl ?_
  refine Ab (Au rfl (Ad ?_))
  refine Af Aj rfl ?_
  refine Ac rfl (.bool true) (fun b w hb hH => Bh rfl rfl rfl (Ks (by decide)) hb) ?_
  refine Af Aj rfl ?_
  refine Ab (AD rfl ?_)
  rcases hq : EJ n L 0 with _ | q
  · skip
    have h1_ := h_.symm.trans (P6.trans (by rw [LB hq]))
    refine BI ?_
    refine Af Aj rfl ?_
    refine Ac rfl (.string (bs n)) (fun b w hb hH => Bg rfl rfl (Bt AR rfl) (hH.row 0 rfl) hb) ?_
    refine AT (post := fun _ => [cell g1 99 #[.int .i64 3, .string (bs n), .slice A 0 c, .int .i64 0, .string (bs ([]))], By encKey AH v L, Bn L, X]) rfl rfl (OA 1 CU rfl n rfl rfl rfl (LB hq)) ?_; rintro ⟨⟩
    refine AP (BJ ?_)
    exact DP  (fun w h => AB () rfl [1, 2, 3] rfl h (F0 h1_)) rfl
  · skip
    refine AY 2 rfl (GA hq) (fun _ => rfl) ?_; rintro ⟨⟩
    refine BI ?_
    refine Af Aj rfl ?_
    refine Ac rfl (.string (bs n)) (fun b w hb hH => Bg rfl rfl (Bt AR rfl) (hH.row 3 rfl) hb) ?_
    refine AT (post := fun _ => [Bn (L.take q.1), Ao 5 1 encB q.2.1 q.2.2, Bn (L.drop (q.1 + 1)), cell g1 99 #[.int .i64 3, .string (bs n), .slice A 0 c, .int .i64 0, .string (bs ([]))], By encKey AH v (BS L n), X]) rfl rfl (OA 4 CU rfl n rfl rfl rfl rfl) ?_; rintro ⟨⟩
    refine AP (BJ ?_)
    exact DP  (fun w h => AB () rfl [4, 0, 2, 5] rfl h (OT hq (h_.symm.trans P6))) rfl
theorem Vd {X : Ass} {v : Value} {f f' : FS} {n x : List UInt8} {s : Nat} {A : Option Addr} {c : Nat} (hx : AL f n = some x) (hs : s ≤ x.length) (h : AW f (.cut n s) = f') : AS Tryz.prog 68 #[v, .agg #[.int .i64 1, .string (bs n), .slice A 0 c, .int .i64 (s : Int), .string (bs ([]))]] [Av v f, X] (fun (_ : Unit) => .tuple #[]) (fun (_ : Unit) => [Av v f', X]) := by
  have h_ := h
  refine A6 (args := [v, .agg #[.int .i64 1, .string (bs n), .slice A 0 c, .int .i64 (s : Int), .string (bs ([]))]]) 49 Tryz.func68 rfl rfl rfl ?_; intro w rs
  refine AY 0 rfl Fd (fun _ => rfl) ?_; rintro ⟨L, hL⟩
  subst hL
  obtain ⟨q, hq, hqx⟩ := LD hx
  subst hqx
  refine Ad ?_
  refine Af Aj rfl ?_
  refine Ai (post := fun g1 => [cell g1 99 #[.int .i64 1, .string (bs n), .slice A 0 c, .int .i64 (s : Int), .string (bs ([]))], By encKey AH v L, Bn L, X]) rfl (CZ (cs := #[.int .i64 1, .string (bs n), .slice A 0 c, .int .i64 (s : Int), .string (bs ([]))]) rfl rfl rfl) ?_; rintro g1
  refine Ab (Ad ?_)
  refine Af Aj rfl ?_
  refine Ac rfl (.int .i64 1) (fun b w hb hH => Bg rfl rfl (Bt EX rfl) (hH.row 0 rfl) hb) ?_
  refine Ab (AX (Ad ?_))
  refine Af Aj rfl ?_
  refine Ac rfl (.bool false) (fun b w hb hH => Bh rfl rfl rfl (Le (by decide)) hb) ?_
  refine Af Aj rfl ?_
  refine Ab (Au rfl (Ad ?_))
  refine Af Aj rfl ?_
  refine Ac rfl (.bool true) (fun b w hb hH => Bh rfl rfl rfl (Ks (by decide)) hb) ?_
  refine Af Aj rfl ?_
  refine Ab (AD rfl ?_)
  refine AY 2 rfl (GA hq) (fun _ => rfl) ?_; rintro ⟨⟩
  refine BM 10 0 [⟨.quiet, [], fun _ => v, []⟩, ⟨.quiet, [], fun _ => .pointer (some ⟨g1, 1, none⟩), []⟩, ⟨.quiet, [], fun _ => .string (bs n), [1]⟩, ⟨.quiet, [], fun _ => v, []⟩, ⟨.quiet, [], fun _ => .pointer (some ⟨g1, 1, none⟩), []⟩, ⟨.quiet, [], fun _ => .string (bs n), [4]⟩, ⟨.quiet, [], fun _ => q.2.1, [3, 5]⟩, ⟨.quiet, [], fun _ => .pointer (some ⟨g1, 3, none⟩), []⟩, ⟨.quiet, [], fun _ => .int .i64 (s : Int), [7]⟩, ⟨.quiet, [], fun _ => Ci 1 q.2.1 0 s, [6, 8]⟩] [(0, v), (3, .pointer (some ⟨g1, 0, none⟩))] (fun _ => [Bn (L.take q.1), Ao 5 1 encB q.2.1 q.2.2, Bn (L.drop (q.1 + 1)), cell g1 99 #[.int .i64 1, .string (bs n), .slice A 0 c, .int .i64 (s : Int), .string (bs ([]))], By encKey AH v L, X]) (by kernel_rfl) (by kernel_rfl) ⟨rfl, rfl, trivial⟩ rfl ?_ ?_
  · skip
    refine Aa (by exact ⟨rfl, fun b w hH hb => Ae Aj rfl hb⟩) ?_
    refine Aa (by exact ⟨rfl, fun b w hH hb => Ae Aj rfl hb⟩) ?_
    refine Aa (by exact ⟨rfl, fun b w hH hb => Bg rfl rfl (Bt AR rfl) (hH.row 3 rfl) hb⟩) ?_
    refine Aa (by exact ⟨rfl, fun b w hH hb => Ae Aj rfl hb⟩) ?_
    refine Aa (by exact ⟨rfl, fun b w hH hb => Ae Aj rfl hb⟩) ?_
    refine Aa (by exact ⟨rfl, fun b w hH hb => Bg rfl rfl (Bt AR rfl) (hH.row 3 rfl) hb⟩) ?_
    refine Aa (by exact ⟨rfl, fun b w hH hb => Gx 4 CU rfl (k := n) (r := some q.2) (Ff hq) rfl rfl rfl hH hb⟩) ?_
    refine Aa (by exact ⟨rfl, fun b w hH hb => Ae Aj rfl hb⟩) ?_
    refine Aa (by exact ⟨rfl, fun b w hH hb => Bg rfl rfl (Bt Bj rfl) (hH.row 3 rfl) hb⟩) ?_
    refine Aa (by exact ⟨rfl, fun b w hH hb => G2 1 (b := s) AC rfl hs rfl rfl rfl hH hb⟩) ?_
    exact B7
  refine Ch.keep (env' := [(21, v), (23, .string (bs n)), (30, Ci 1 q.2.1 0 s)]) ⟨rfl, rfl, rfl, trivial⟩ ?_
  refine Af Aj rfl ?_
  refine AT (post := fun _ => [Bn (L.take q.1), Ao 5 1 encB q.2.1 q.2.2, Bn (L.drop (q.1 + 1)), cell g1 99 #[.int .i64 1, .string (bs n), .slice A 0 c, .int .i64 (s : Int), .string (bs ([]))], By encKey AH v (Bz L n (Ci 1 q.2.1 0 s, q.2.2.take s)), X]) rfl rfl (Je 4 CU rfl n (Ci 1 q.2.1 0 s, q.2.2.take s) rfl rfl rfl rfl rfl rfl) ?_; rintro ⟨⟩
  refine AP (BJ ?_)
  exact DP  (fun w h => AB () rfl [4, 0, 1, 2, 5] rfl h (Q8 hq hs (h_.symm.trans (Ub hq)))) rfl
theorem Ve {X : Ass} {v : Value} {f f' : FS} {n m_ x : List UInt8} {A : Option Addr} {c : Nat} (hx : AL f n = some x) (h : AW f (.ren n m_) = f') : AS Tryz.prog 68 #[v, .agg #[.int .i64 2, .string (bs n), .slice A 0 c, .int .i64 0, .string (bs m_)]] [Av v f, X] (fun (_ : Unit) => .tuple #[]) (fun (_ : Unit) => [Av v f', X]) := by
  have h_ := h
  refine A6 (args := [v, .agg #[.int .i64 2, .string (bs n), .slice A 0 c, .int .i64 0, .string (bs m_)]]) 49 Tryz.func68 rfl rfl rfl ?_; intro w rs
  refine AY 0 rfl Fd (fun _ => rfl) ?_; rintro ⟨L, hL⟩
  subst hL
  obtain ⟨q, hq, hqx⟩ := LD hx
  subst hqx
  refine Ad ?_
  refine Af Aj rfl ?_
  refine Ai (post := fun g1 => [cell g1 99 #[.int .i64 2, .string (bs n), .slice A 0 c, .int .i64 0, .string (bs m_)], By encKey AH v L, Bn L, X]) rfl (CZ (cs := #[.int .i64 2, .string (bs n), .slice A 0 c, .int .i64 0, .string (bs m_)]) rfl rfl rfl) ?_; rintro g1
  refine Ab (Ad ?_)
  refine Af Aj rfl ?_
  refine Ac rfl (.int .i64 2) (fun b w hb hH => Bg rfl rfl (Bt EX rfl) (hH.row 0 rfl) hb) ?_
  refine Ab (AX (Ad ?_))
  refine Af Aj rfl ?_
  refine Ac rfl (.bool false) (fun b w hb hH => Bh rfl rfl rfl (Le (by decide)) hb) ?_
  refine Af Aj rfl ?_
  refine Ab (Au rfl (Ad ?_))
  refine Af Aj rfl ?_
  refine Ac rfl (.bool false) (fun b w hb hH => Bh rfl rfl rfl (Le (by decide)) hb) ?_
  refine Af Aj rfl ?_
  refine Ab (Au rfl (Ad ?_))
  refine Af Aj rfl ?_
  refine Ac rfl (.bool true) (fun b w hb hH => Bh rfl rfl rfl (Ks (by decide)) hb) ?_
  refine Af Aj rfl ?_
  refine Ab (AD rfl ?_)
  refine AY 2 rfl (GA hq) (fun _ => rfl) ?_; rintro ⟨⟩
  refine Ad ?_
  refine Af Aj rfl ?_
  refine Ac rfl (.string (bs n)) (fun b w hb hH => Bg rfl rfl (Bt AR rfl) (hH.row 3 rfl) hb) ?_
  refine Ac rfl (q.2.1) (fun b w hb hH => Gx 4 CU rfl (k := n) (r := some q.2) (Ff hq) rfl rfl rfl hH hb) ?_
  refine Af Aj rfl ?_
  refine Ab (Ad ?_)
  refine Af Aj rfl ?_
  refine Ac rfl (.string (bs n)) (fun b w hb hH => Bg rfl rfl (Bt AR rfl) (hH.row 3 rfl) hb) ?_
  refine AT (post := fun _ => [Bn (L.take q.1), Ao 5 1 encB q.2.1 q.2.2, Bn (L.drop (q.1 + 1)), cell g1 99 #[.int .i64 2, .string (bs n), .slice A 0 c, .int .i64 0, .string (bs m_)], By encKey AH v (BS L n), X]) rfl rfl (OA 4 CU rfl n rfl rfl rfl rfl) ?_; rintro ⟨⟩
  refine Ab ?_
  refine Bf [0, 2] rfl (P7 hq) rfl ?_
  rcases hq2 : EJ m_ (BS L n) 0 with _ | q2
  · skip
    refine BI ?_
    refine Af Aj rfl ?_
    refine Ac rfl (.string (bs m_)) (fun b w hb hH => Bg rfl rfl (Bt AR rfl) (hH.row 2 rfl) hb) ?_
    refine Af Aj rfl ?_
    refine AT (post := fun _ => [Bn (BS L n), Ao 5 1 encB q.2.1 q.2.2, cell g1 99 #[.int .i64 2, .string (bs n), .slice A 0 c, .int .i64 0, .string (bs m_)], By encKey AH v (Bz (BS L n) m_ (q.2.1, q.2.2)), X]) rfl rfl (Je 3 CU rfl m_ (q.2.1, q.2.2) rfl rfl rfl rfl rfl rfl) ?_; rintro ⟨⟩
    refine AP (BJ ?_)
    exact DP  (fun w h => AB () rfl [3, 0, 1, 4] rfl h (LC hq2 (h_.symm.trans (P8 hq)))) rfl
  · skip
    refine AY 0 rfl (GA hq2) (fun _ => rfl) ?_; rintro ⟨⟩
    refine BI ?_
    refine Af Aj rfl ?_
    refine Ac rfl (.string (bs m_)) (fun b w hb hH => Bg rfl rfl (Bt AR rfl) (hH.row 4 rfl) hb) ?_
    refine Af Aj rfl ?_
    refine AT (post := fun _ => [Bn ((BS L n).take q2.1), Ao 5 1 encB q2.2.1 q2.2.2, Bn ((BS L n).drop (q2.1 + 1)), Ao 5 1 encB q.2.1 q.2.2, cell g1 99 #[.int .i64 2, .string (bs n), .slice A 0 c, .int .i64 0, .string (bs m_)], By encKey AH v (Bz (BS L n) m_ (q.2.1, q.2.2)), X]) rfl rfl (Je 5 CU rfl m_ (q.2.1, q.2.2) rfl rfl rfl rfl rfl rfl) ?_; rintro ⟨⟩
    refine AP (BJ ?_)
    exact DP  (fun w h => AB () rfl [5, 0, 3, 2, 6] rfl h (Jn hq2 (h_.symm.trans (P8 hq)))) rfl
theorem SG {X : Ass} {v : Value} {f f' : FS} {x : OpV} (ho : Ly f x.o) (hX : Cw X x.v x.o.data) (hl : AE f + x.o.size ≤ 4398046511104) (h : AW f x.o = f') : AS Tryz.prog 68 #[v, .agg (encO x).toArray] [Av v f, X] (fun _ : Unit => .tuple #[]) (fun _ => [Av v f', X]) := by
  obtain ⟨o, A, c⟩ := x
  cases o with
  | app n b => exact SF hX hl h
  | cut n s => obtain ⟨y, h1, h2⟩ := ho; exact Vd h1 h2 h
  | ren a b => obtain ⟨⟨y, h1⟩, _⟩ := ho; exact Ve h1 h
  | del n => exact Vc h
end Go.Proofs.YtnknboibmifacaaGreat.Sep
