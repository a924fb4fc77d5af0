/-
  DskV · MapU · TyK · DskA · DskB
-/
import Derived.Test.YtjcfimmcogkopaaGreatYB01
import Derived.Test.YtjcfimmcogkopaaGreatYB02
import Derived.Test.YtjcfimmcogkopaaGreatYB04
set_option linter.unusedSimpArgs false
set_option linter.unusedVariables false
set_option maxRecDepth 100000
namespace Go.Proofs.YtjcfimmcogkopaaGreat.Sep
open Go.RowKit
open Go.Proofs.YtjcfimmcogkopaaGreat.Mem (AZ Ci Chg Au)
def OpD.data : OpD → List UInt8
  | .app _ b => b
  | _ => []
def OpD.kind : OpD → Int
  | .app .. => 0
  | .cut .. => 1
  | .ren .. => 2
  | .del _ => 3
def OpD.name : OpD → List UInt8
  | .app n _ => n
  | .cut n _ => n
  | .ren a _ => a
  | .del n => n
def OpD.cutS : OpD → Nat
  | .cut _ s => s
  | _ => 0
def OpD.to : OpD → List UInt8
  | .ren _ b => b
  | _ => []
structure OpV where
  o : OpD
  A : Option Addr
  c : Nat
def OpV.v (x : OpV) : Value := .slice x.A x.o.data.length x.c
def encO (x : OpV) : List Value := [.int .i64 x.o.kind, .string (bs x.o.name), x.v, .int .i64 (x.o.cutS : Int), .string (bs x.o.to)]
theorem QM : EncOf 5 encO := ⟨fun _ => rfl, fun x v h => by unfold encO OpV.v at h; simp at h; rcases h with rfl | rfl | rfl | rfl | rfl <;> rfl⟩
instance : Inhabited OpV := ⟨⟨.del [], none, 0⟩⟩
def BI (W : List OpV) : Ass := De (fun x : OpV => Ap 5 1 encB x.v x.o.data) W
def DE (W : List OpV) : List OpD := W.map (·.o)
theorem QN {W : List OpV} {x : OpV} (h : x ∈ W) : Cu (BI W) x.v x.o.data := fun rs w h1 h2 => by
 obtain ⟨j, hj⟩ := List.getElem?_of_mem h
 obtain ⟨ys, h3, h4⟩ := De.at_ h1 h2 hj
 exact G7 h3 h4
def MM (f : FS) : OpD → Prop
  | .app n _ => Cv n = true
  | .cut n s => ∃ x, AL f n = some x ∧ s ≤ x.length
  | .ren a b => (∃ x, AL f a = some x) ∧ Cv b = true
  | .del _ => True
def Fe : FS → List OpD → Prop
  | _, [] => True
  | f, o :: r => MM f o ∧ Fe (AP f o) r
theorem IJ {f : FS} : Fe f [] := trivial
theorem Jj : ∀ {l : List OpD} {f : FS} {o : OpD}, Fe f l → MM (l.foldl AP f) o → Fe f (l ++ [o])
  | [], _, _, _, ho => ⟨ho, trivial⟩
  | _ :: r, _, _, h, ho => ⟨h.1, Jj (l := r) h.2 ho⟩
theorem FH : ∀ {l : List OpD} {f : FS} (i : Nat), Fe f l → Fe f (l.take i)
  | [], _, _, _ => by rw [List.take_nil]; trivial
  | _ :: _, _, 0, _ => trivial
  | _ :: r, _, i + 1, h => ⟨h.1, FH (l := r) i h.2⟩
theorem MN : ∀ {l : List OpD} {f : FS} {i : Nat} {o : OpD}, Fe f l → l[i]? = some o → MM ((l.take i).foldl AP f) o
  | x :: r, f, 0, o, h, hi => by
    simp only [List.getElem?_cons_zero, Option.some.injEq] at hi
    subst hi
    exact h.1
  | x :: r, f, i + 1, o, h, hi => MN (l := r) (i := i) h.2 (by simpa using hi)
theorem NW {f g : FS} {o : OpD} (h : f.Perm g) (hf : (AH f).Nodup) (ho : MM f o) : MM g o := by
  cases o with
  | app n b => exact ho
  | cut n s => obtain ⟨x, h1, h2⟩ := ho; exact ⟨x, by rw [← D7 h hf]; exact h1, h2⟩
  | ren a b => obtain ⟨⟨x, h1⟩, h2⟩ := ho; exact ⟨⟨x, by rw [← D7 h hf]; exact h1⟩, h2⟩
  | del n => trivial
def Dc (f : FS) : Prop := ∀ k, k ∈ AH f → Cv k = true
theorem RJ : Dc [] := fun k h => by cases h
theorem Hb {f : FS} {n x : List UInt8} (hf : (AH f).Nodup) (h : Dc f) (hn : Cv n = true) : Dc (Bx f n x) := fun k hk => by
  obtain ⟨p, hp, rfl⟩ := List.mem_map.1 hk
  rcases (ET hf p).1 hp with rfl | ⟨h1, _⟩
  · exact hn
  · exact h _ (List.mem_map_of_mem h1)
theorem LG {f : FS} {n : List UInt8} (hf : (AH f).Nodup) (h : Dc f) : Dc (BR f n) := fun k hk => by
 obtain ⟨p, hp, rfl⟩ := List.mem_map.1 hk
 exact h _ (List.mem_map_of_mem ((Dn hf p).1 hp).1)
theorem Pm {f : FS} {o : OpD} (hf : (AH f).Nodup) (h : Dc f) (ho : MM f o) : Dc (AP f o) := by
  cases o with
  | app n b => exact Hb hf h ho
  | cut n s =>
    obtain ⟨x, h1, _⟩ := ho
    show Dc (match AL f n with | some x => Bx f n (x.take s) | none => f)
    rw [h1]
    exact Hb hf h (h _ (List.mem_map.2 ⟨_, (Cn hf).1 h1, rfl⟩))
  | ren a b =>
    obtain ⟨⟨x, h1⟩, h2⟩ := ho
    show Dc (match AL f a with | some x => Bx (BR f a) b x | none => f)
    rw [h1]
    exact Hb (BW hf) (LG hf h) h2
  | del n => exact LG hf h
theorem Jk : ∀ (l : List OpD) {f : FS}, (AH f).Nodup → Dc f → Fe f l → Dc (l.foldl AP f)
  | [], _, _, h, _ => h
  | o :: r, _, hf, h, ho => Jk r (F0 hf o) (Pm hf h ho.1) ho.2
theorem NX {f : FS} {k x : List UInt8} (hf : (AH f).Nodup) : AF (Bx f k x) ≤ AF f + x.length := by
  cases h : AL f k with
  | none => rw [IE h]; exact Nat.le_refl _
  | some y => have := F1 (x := x) hf h; omega
theorem MO {f : FS} (hf : (AH f).Nodup) {o : OpD} (ho : MM f o) : AF (AP f o) ≤ AF f + o.size := by
  cases o with
  | app n b => rw [GA hf]; exact Nat.le_refl _
  | cut n s =>
    obtain ⟨x, h1, h2⟩ := ho
    show AF (match AL f n with | some x => Bx f n (x.take s) | none => f) ≤ AF f + 0
    rw [h1]
    have := F1 (x := x.take s) hf h1
    rw [List.length_take] at this
    show AF (Bx f n (x.take s)) ≤ _
    omega
  | ren a b =>
    obtain ⟨⟨x, h1⟩, _⟩ := ho
    show AF (match AL f a with | some x => Bx (BR f a) b x | none => f) ≤ AF f + 0
    rw [h1]
    have h2 := FF hf h1
    have h3 := NX (k := b) (x := x) (BW (k := a) hf)
    show AF (Bx (BR f a) b x) ≤ _
    omega
  | del n =>
    show AF (BR f n) ≤ _
    cases h : AL f n with
    | none => rw [KC h]; exact Nat.le_add_right _ _
    | some x => have := FF hf h; show _ ≤ AF f + 0; omega
theorem EB : ∀ (l : List OpD) {f : FS}, (AH f).Nodup → Fe f l → AF (l.foldl AP f) ≤ AF f + (l.map OpD.size).sum
  | [], _, _, _ => by simp
  | o :: r, f, hf, ho => by
    have h1 := MO hf ho.1
    have h2 := EB r (F0 hf o) ho.2
    rw [List.foldl_cons, List.map_cons, List.sum_cons]; omega
theorem Jl : ∀ (l : List OpD) (i : Nat), ((l.take i).map OpD.size).sum ≤ (l.map OpD.size).sum
  | [], _ => by simp
  | _ :: _, 0 => by simp
  | x :: r, i + 1 => by
    have := Jl r i
    simp only [List.take_succ_cons, List.map_cons, List.sum_cons]; omega
theorem IK {f : FS} {k x : List UInt8} (hf : (AH f).Nodup) (h : AL f k = some x) : x.length ≤ AF f := by
 have := FF hf h; omega
theorem LH {f : FS} {k : List UInt8} (hf : (AH f).Nodup) : ((AL f k).getD []).length ≤ AF f := by
  cases h : AL f k with
  | none => exact Nat.zero_le _
  | some x => exact IK hf h
theorem NY {κ ν : Type} [DecidableEq κ] {k : κ} {l : List (κ × ν)} (h : EG k l 0 = none) : AL l k = none := by unfold AL; rw [h]; rfl
theorem Ff {κ ν : Type} [DecidableEq κ] {k : κ} {l : List (κ × ν)} {q : Nat × ν} (h : EG k l 0 = some q) : AL l k = some q.2 := by unfold AL; rw [h]; rfl
theorem Tb {L : FilL} {n b : List UInt8} {u : Value} (h : EG n L 0 = none) : AP (Cd L) (.app n b) = Cd (Bx L n (u, b)) := by
 show Bx (Cd L) n _ = _
 rw [D9, NY h, Option.map_none, Option.getD_none, List.nil_append]
 exact IH L n (u, b)
theorem Tc {L : FilL} {n b : List UInt8} {u : Value} {q : Nat × PtT} (h : EG n L 0 = some q) : AP (Cd L) (.app n b) = Cd (Bx L n (u, q.2.2 ++ b)) := by
 show Bx (Cd L) n _ = _
 rw [D9, Ff h, Option.map_some, Option.getD_some]
 exact IH L n (u, q.2.2 ++ b)
theorem QO {L : FilL} {n : List UInt8} : AP (Cd L) (.del n) = Cd (BR L n) := NP L n
theorem LI {κ ν : Type} [DecidableEq κ] {k : κ} {l : List (κ × ν)} (h : EG k l 0 = none) : BR l k = l := by unfold BR; rw [h]
theorem QP {L : FilL} {k : List UInt8} {q : Nat × PtT} (h : EG k L 0 = some q) : ∀ rs, Ak [Bp (L.take q.1), Bp (L.drop (q.1 + 1))] rs → Bp (BR L k) rs := fun rs hr => by
 obtain ⟨a, b, rfl, h1, h2⟩ := hr
 unfold Bp BR
 rw [h]
 show De _ (L.eraseIdx q.1) _
 rw [List.eraseIdx_eq_take_drop_succ]
 unfold De
 rw [List.map_append]
 exact Ak.app h1 (Ak.one' h2)
theorem BG {v : Value} {f : FS} : ∀ rs, Ax v f rs → (AH f).Nodup := fun rs ⟨L, h, h'⟩ => by
 obtain ⟨a, b, e, h1, _⟩ := h'
 rw [h, Ez]
 exact BB.nodup _ h1
theorem F4 {v : Value} {f : FS} {L : FilL} {os : List Ass} (h : f = Cd L) : ∀ rs, Ak (BB encKey AJ v L :: Bp L :: os) rs → ∃ z, rs.Perm z ∧ Ak (Ax v f :: os) z := fun rs hr => by
 subst h
 obtain ⟨a, r, rfl, h1, b, r2, rfl, h2, h3⟩ := hr
 exact ⟨a ++ (b ++ r2), .refl _, a ++ b, r2, by simp, ⟨L, rfl, a, b, rfl, h1, Ak.one h2⟩, h3⟩
theorem LJ {v u : Value} {f : FS} {L : FilL} {n y : List UInt8} {os : List Ass} (hq : EG n L 0 = none) (h : f = Cd (Bx L n (u, y))) : ∀ rs, Ak (BB encKey AJ v (Bx L n (u, y)) :: Bp L :: Ap 5 1 encB u y :: os) rs → ∃ z, rs.Perm z ∧ Ak (Ax v f :: os) z := fun rs hr => by
 obtain ⟨a, r, rfl, h1, b, r2, rfl, h2, c, r3, rfl, h3, h4⟩ := hr
 rw [show a ++ (b ++ (c ++ r3)) = a ++ ((b ++ c) ++ r3) by simp]
 exact F4 h _ ⟨a, _, rfl, h1, b ++ c, r3, rfl, QE hq (u, y) _ ⟨b, c, rfl, h2, Ak.one h3⟩, h4⟩
theorem Jm {v u : Value} {f : FS} {L : FilL} {n y : List UInt8} {q : Nat × PtT} {os : List Ass} (hq : EG n L 0 = some q) (h : f = Cd (Bx L n (u, y))) : ∀ rs, Ak (BB encKey AJ v (Bx L n (u, y)) :: Bp (L.take q.1) :: Ap 5 1 encB u y :: Bp (L.drop (q.1 + 1)) :: os) rs → ∃ z, rs.Perm z ∧ Ak (Ax v f :: os) z := fun rs hr => by
 obtain ⟨a, r, rfl, h1, b, r2, rfl, h2, c, r3, rfl, h3, e, r4, rfl, h4, h5⟩ := hr
 rw [show a ++ (b ++ (c ++ (e ++ r4))) = a ++ ((b ++ (c ++ e)) ++ r4) by simp]
 exact F4 h _ ⟨a, _, rfl, h1, b ++ (c ++ e), r4, rfl, UH hq (u, y) _ ⟨b, c ++ e, rfl, h2, c, e, rfl, h3, Ak.one h4⟩, h5⟩
theorem Pn {v : Value} {f : FS} {L : FilL} {n : List UInt8} {q : Nat × PtT} {os : List Ass} (hq : EG n L 0 = some q) (h : f = Cd (BR L n)) : ∀ rs, Ak (BB encKey AJ v (BR L n) :: Bp (L.take q.1) :: Bp (L.drop (q.1 + 1)) :: os) rs → ∃ z, rs.Perm z ∧ Ak (Ax v f :: os) z := fun rs hr => by
 obtain ⟨a, r, rfl, h1, b, r2, rfl, h2, e, r4, rfl, h4, h5⟩ := hr
 rw [show a ++ (b ++ (e ++ r4)) = a ++ ((b ++ e) ++ r4) by simp]
 exact F4 h _ ⟨a, _, rfl, h1, b ++ e, r4, rfl, QP hq _ ⟨b, e, rfl, h2, Ak.one h4⟩, h5⟩
theorem KP {e : TypeId} {v : Value} {l : List UInt8} {k : Nat} (hk : k ≤ l.length) : ∀ rs, Ak [Ap e 1 encB v l] rs → Ap e 1 encB (Cp 1 v 0 k) (l.take k) rs := fun rs hr => by
  rcases Ak.one' hr with ⟨h1, h2, h3⟩ | ⟨g, cap, cs, h1, h2, h3, h4, h5, h6⟩
  · subst h2; subst h1
    have : k = 0 := by simpa using hk
    subst this
    exact .inl ⟨by simp [Cp], by simp, h3⟩
  · subst h1
    have hl : (l.take k).length = k := by rw [List.length_take]; omega
    have e1 : (⟨g, 0 + 0 * 1, none⟩ : Addr) = ⟨g, 0, none⟩ := rfl
    refine .inr ⟨g, cap, cs, ?_, by rw [hl]; omega, h3, h4, ?_, h6⟩
    · simp [Cp, Addr.add, hl]
    · rw [hl]
      have h7 := congrArg (List.take (k * 1)) h5
      rw [List.take_take, Nat.min_eq_left (by omega)] at h7
      rw [h7]
      have h8 : flat encB l = flat encB (l.take k) ++ flat encB (l.drop k) := by rw [← Io, List.take_append_drop]
      rw [h8, List.take_append_of_le_length (by rw [D3 EK, hl]; omega), List.take_of_length_le (by rw [D3 EK, hl]; omega)]
theorem UO {L : FilL} {n : List UInt8} {s : Nat} {u : Value} {q : Nat × PtT} (h : EG n L 0 = some q) : AP (Cd L) (.cut n s) = Cd (Bx L n (u, q.2.2.take s)) := by
  show (match AL (Cd L) n with | some x => Bx (Cd L) n (x.take s) | none => Cd L) = _
  rw [D9, Ff h]
  exact IH L n (u, q.2.2.take s)
theorem QQ {L : FilL} {a b : List UInt8} {q : Nat × PtT} (h : EG a L 0 = some q) : AP (Cd L) (.ren a b) = Cd (Bx (BR L a) b (q.2.1, q.2.2)) := by
  show (match AL (Cd L) a with | some x => Bx (BR (Cd L) a) b x | none => Cd L) = _
  rw [D9, Ff h, NP]
  exact IH (BR L a) b (q.2.1, q.2.2)
theorem KQ {κ ν : Type} [DecidableEq κ] {k : κ} {l : List (κ × ν)} {x : ν} (h : AL l k = some x) : ∃ q, EG k l 0 = some q ∧ q.2 = x := by
 unfold AL at h
 exact Option.map_eq_some_iff.1 h
theorem LK {L : FilL} {n x : List UInt8} (h : AL (Cd L) n = some x) : ∃ q, EG n L 0 = some q ∧ q.2.2 = x := by
 rw [D9] at h
 obtain ⟨r, h1, h2⟩ := Option.map_eq_some_iff.1 h
 obtain ⟨q, h3, h4⟩ := KQ h1
 exact ⟨q, h3, by rw [h4]; exact h2⟩
theorem RK {v : Value} {f : FS} {L : FilL} {n : List UInt8} {s : Nat} {q : Nat × PtT} {os : List Ass} (hq : EG n L 0 = some q) (hs : s ≤ q.2.2.length) (h : f = Cd (Bx L n (Cp 1 q.2.1 0 s, q.2.2.take s))) : ∀ rs, Ak (BB encKey AJ v (Bx L n (Cp 1 q.2.1 0 s, q.2.2.take s)) :: Bp (L.take q.1) :: Ap 5 1 encB q.2.1 q.2.2 :: Bp (L.drop (q.1 + 1)) :: os) rs → ∃ z, rs.Perm z ∧ Ak (Ax v f :: os) z := fun rs hr => by
 obtain ⟨a, r, e1, h1, b, r2, e2, h2, c, r3, e3, h3, hx⟩ := hr
 exact Jm hq h _ ⟨a, r, e1, h1, b, r2, e2, h2, c, r3, e3, KP hs _ (Ak.one h3), hx⟩
def C7 : Option Nat → Int
  | none => -1
  | some n => n
structure DskU (d : DiskD) where
  pv : Value
  sm : Value
  sh : Value
  W : List OpV
  g : FS
  hW : DE W = d.wait
  hg : d.down = false → g.Perm d.now
  hok : Fe d.syn d.wait
  hf : ∀ n, d.fuse = some n → n ≤ 9223372036854775807
  hr : 0 ≤ d.room ∧ d.room ≤ 1048576
  hk : Dc d.syn
def Po : Bool → Value → FS → Ass
  | true, v, _ => fact (v = .map none)
  | false, v, f => Ax v f
def Ao (p : Nat) (d : DiskD) : Ass := fun rs => ∃ x : DskU d, Ak [cell p 70 #[.int .i64 d.room, .int .i64 (C7 d.fuse), .bool d.down, x.pv, x.sm, x.sh], Ap 103 5 encO x.pv x.W, BI x.W, Ax x.sm d.syn, Po d.down x.sh x.g] rs
section
variable {p : Nat} {d : DiskD}
theorem Jn : ∀ rs, Ao p d rs → ∃ x : DskU d, Ak [cell p 70 #[.int .i64 d.room, .int .i64 (C7 d.fuse), .bool d.down, x.pv, x.sm, x.sh], Ap 103 5 encO x.pv x.W, BI x.W, Ax x.sm d.syn, Po d.down x.sh x.g] rs := fun _ h => h
theorem Hc (h : d.down = false) : ∀ rs, Ao p d rs → ∃ x : DskU d, Ak [cell p 70 #[.int .i64 d.room, .int .i64 (C7 d.fuse), .bool false, x.pv, x.sm, x.sh], Ap 103 5 encO x.pv x.W, BI x.W, Ax x.sm d.syn, Ax x.sh x.g] rs := fun rs ⟨x, hx⟩ => ⟨x, by rw [h] at hx; exact hx⟩
theorem RL {q : Prop} {a b c e : Ass} {rs : List RowT} (h : Ak [a, b, c, e, fact q] rs) : q ∧ Ak [a, b, c, e] rs := by
 obtain ⟨_, _, rfl, h1, _, _, rfl, h2, _, _, rfl, h3, _, _, rfl, h4, _, _, rfl, ⟨rfl, h5⟩, rfl⟩ := h
 exact ⟨h5, _, _, rfl, h1, _, _, rfl, h2, _, _, rfl, h3, _, _, rfl, h4, rfl⟩
theorem RM {q : Prop} {a b c e : Ass} {rs : List RowT} (h5 : q) (h : Ak [a, b, c, e] rs) : Ak [a, b, c, e, fact q] rs := by
 obtain ⟨_, _, rfl, h1, _, _, rfl, h2, _, _, rfl, h3, _, _, rfl, h4, rfl⟩ := h
 exact ⟨_, _, rfl, h1, _, _, rfl, h2, _, _, rfl, h3, _, _, rfl, h4, _, _, rfl, ⟨rfl, h5⟩, rfl⟩
theorem J5 (h : d.down = true) : ∀ rs, Ao p d rs → ∃ x : DskU d, Ak [cell p 70 #[.int .i64 d.room, .int .i64 (C7 d.fuse), .bool true, x.pv, x.sm, .map none], Ap 103 5 encO x.pv x.W, BI x.W, Ax x.sm d.syn] rs := fun rs ⟨x, hx⟩ => by
 rw [h] at hx
 obtain ⟨e, h1⟩ := RL hx
 rw [e] at h1
 exact ⟨x, h1⟩
theorem IL {os : List Ass} (x : DskU d) (h : d.down = true) (hs : x.sh = .map none) : ∀ rs, Ak ([cell p 70 #[.int .i64 d.room, .int .i64 (C7 d.fuse), .bool true, x.pv, x.sm, .map none], Ap 103 5 encO x.pv x.W, BI x.W, Ax x.sm d.syn] ++ os) rs → ∃ z, rs.Perm z ∧ Ak ([Ao p d] ++ os) z := fun rs hr => by
 obtain ⟨a, b, e, h1, h2⟩ := Ak.split hr
 subst e
 refine ⟨a ++ b, .refl _, Ak.app (Ak.one ⟨x, ?_⟩) h2⟩
 rw [h]
 exact RM hs (by rw [hs]; exact h1)
theorem FI {os : List Ass} (x : DskU d) (h : d.down = false) : ∀ rs, Ak ([cell p 70 #[.int .i64 d.room, .int .i64 (C7 d.fuse), .bool false, x.pv, x.sm, x.sh], Ap 103 5 encO x.pv x.W, BI x.W, Ax x.sm d.syn, Ax x.sh x.g] ++ os) rs → ∃ z, rs.Perm z ∧ Ak ([Ao p d] ++ os) z := fun rs hr => by
 obtain ⟨a, b, e, h1, h2⟩ := Ak.split hr
 subst e
 refine ⟨a ++ b, .refl _, Ak.app (Ak.one ⟨x, ?_⟩) h2⟩
 rw [h]
 exact h1
theorem LL {os : List Ass} (x : DskU d) : ∀ rs, Ak ([cell p 70 #[.int .i64 d.room, .int .i64 (C7 d.fuse), .bool d.down, x.pv, x.sm, x.sh], Ap 103 5 encO x.pv x.W, BI x.W, Ax x.sm d.syn, Po d.down x.sh x.g] ++ os) rs → ∃ z, rs.Perm z ∧ Ak ([Ao p d] ++ os) z := fun rs hr => by
 obtain ⟨a, b, e, h1, h2⟩ := Ak.split hr
 subst e
 exact ⟨a ++ b, .refl _, Ak.app (Ak.one ⟨x, h1⟩) h2⟩
end
theorem F5 {α : Type} {L : List α} {i : Nat} {b : α} (h : L[i]? = some b) : L.take i ++ [b] = L.take (i + 1) := by
 have hlt := (List.getElem?_eq_some_iff.1 h).1
 have hx := (List.getElem?_eq_some_iff.1 h).2
 rw [← hx, List.take_succ_eq_append_getElem hlt]
structure DskL (d : DiskD) where
  pv : Value
  sm : Value
  sh : Value
  W : List OpV
  L : FilL
  hW : DE W = d.wait
  hg : (Cd L).Perm d.now
  hok : Fe d.syn d.wait
  hf : ∀ n, d.fuse = some n → n ≤ 9223372036854775807
  hr : 0 ≤ d.room ∧ d.room ≤ 1048576
  hk : Dc d.syn
section
variable {p : Nat} {d : DiskD}
theorem DJ (h : d.down = false) : ∀ rs, Ao p d rs → ∃ y : DskL d, Ak [cell p 70 #[.int .i64 d.room, .int .i64 (C7 d.fuse), .bool false, y.pv, y.sm, y.sh], Ap 103 5 encO y.pv y.W, BI y.W, Ax y.sm d.syn, BB encKey AJ y.sh y.L, Bp y.L] rs := fun rs hr => by
 obtain ⟨x, a1, _, rfl, h1, a2, _, rfl, h2, a3, _, rfl, h3, a4, _, rfl, h4, a5, _, rfl, ⟨L, hL, h5⟩, rfl⟩ := Hc h rs hr
 refine ⟨⟨x.pv, x.sm, x.sh, x.W, L, x.hW, hL ▸ x.hg h, x.hok, x.hf, x.hr, x.hk⟩, a1, _, rfl, h1, a2, _, rfl, h2, a3, _, rfl, h3, a4, a5, by simp, h4, h5⟩
theorem VX (x : DskU d) (h : d.down = false) : ∀ rs, Ak [cell p 70 #[.int .i64 d.room, .int .i64 (C7 d.fuse), .bool false, x.pv, x.sm, x.sh], Ap 103 5 encO x.pv x.W, BI x.W, Ax x.sm d.syn, Ax x.sh x.g] rs → Ao p d rs := fun rs hr => ⟨x, by rw [h]; exact hr⟩
theorem IM (y : DskL d) (h : d.down = false) : ∀ rs, Ak [cell p 70 #[.int .i64 d.room, .int .i64 (C7 d.fuse), .bool false, y.pv, y.sm, y.sh], Ap 103 5 encO y.pv y.W, BI y.W, Ax y.sm d.syn, BB encKey AJ y.sh y.L, Bp y.L] rs → Ao p d rs := fun rs hr => by
 obtain ⟨a1, _, rfl, h1, a2, _, rfl, h2, a3, _, rfl, h3, a4, a5, rfl, h4, h5⟩ := hr
 exact VX ⟨y.pv, y.sm, y.sh, y.W, Cd y.L, y.hW, fun _ => y.hg, y.hok, y.hf, y.hr, y.hk⟩ h _ ⟨a1, _, rfl, h1, a2, _, rfl, h2, a3, _, rfl, h3, a4, a5, rfl, h4, Ak.one ⟨y.L, rfl, h5⟩⟩
theorem DB {os : List Ass} (y : DskL d) (h : d.down = false) : ∀ rs, Ak ([cell p 70 #[.int .i64 d.room, .int .i64 (C7 d.fuse), .bool false, y.pv, y.sm, y.sh], Ap 103 5 encO y.pv y.W, BI y.W, Ax y.sm d.syn, BB encKey AJ y.sh y.L, Bp y.L] ++ os) rs → ∃ z, rs.Perm z ∧ Ak ([Ao p d] ++ os) z := fun rs hr => by
 obtain ⟨a, b, e, h1, h2⟩ := Ak.split hr
 subst e
 exact ⟨a ++ b, .refl _, Ak.app (Ak.one (IM y h _ h1)) h2⟩
end
theorem Td {d : DiskD} {L : FilL} (hp : (Cd L).Perm d.now) (hn : (AH (Cd L)).Nodup) (n y : List UInt8) : D8 d n y = (decide ((AF (Cd L) : Int) + (y.length : Int) ≤ d.room) && !((AL L n).isNone && decide (64 ≤ L.length))) := by
 unfold D8
 rw [← Dj hp, ← D7 hp hn, ← hp.length_eq, D9]
 have h1 : (Cd L).length = L.length := by simp [Cd]
 rw [h1]
 cases AL L n <;> rfl
theorem RN {d : DiskD} {L : FilL} {n y : List UInt8} (hp : (Cd L).Perm d.now) (hn : (AH (Cd L)).Nodup) (h : D8 d n y = false) : (d.room < (AF (Cd L) : Int) + (y.length : Int) ∧ AL L n = none) ∨ (d.room < (AF (Cd L) : Int) + (y.length : Int) ∧ ∃ r, AL L n = some r) ∨ ((AF (Cd L) : Int) + (y.length : Int) ≤ d.room ∧ AL L n = none ∧ 64 ≤ L.length) := by
  rw [Td hp hn] at h
  by_cases h1 : (AF (Cd L) : Int) + (y.length : Int) ≤ d.room
  · right; right
    cases h2 : AL L n with
    | none => rw [h2] at h; simp [h1] at h; exact ⟨h1, rfl, h⟩
    | some r => rw [h2] at h; simp [h1] at h
  · cases h2 : AL L n with
    | none => exact .inl ⟨by omega, rfl⟩
    | some r => exact .inr (.inl ⟨by omega, r, rfl⟩)
theorem UP {d : DiskD} {L : FilL} {n y : List UInt8} (hp : (Cd L).Perm d.now) (hn : (AH (Cd L)).Nodup) (h : D8 d n y = true) : (AF (Cd L) : Int) + (y.length : Int) ≤ d.room ∧ ((∃ r, AL L n = some r) ∨ (AL L n = none ∧ L.length < 64)) := by
  rw [Td hp hn, Bool.and_eq_true, decide_eq_true_eq] at h
  refine ⟨h.1, ?_⟩
  cases h2 : AL L n with
  | none => right; have := h.2; rw [h2] at this; simp at this; exact ⟨rfl, this⟩
  | some r => exact .inl ⟨r, rfl⟩
theorem Jo {d : DiskD} {L : FilL} (hp : (Cd L).Perm d.now) (hn : (AH (Cd L)).Nodup) (n : List UInt8) : AL d.now n = (AL L n).map (·.2) := by rw [← D7 hp hn, D9]
theorem Cb {v : Value} {L : FilL} : ∀ rs, BB encKey AJ v L rs → (AH (Cd L)).Nodup := fun rs h => by rw [Ez]; exact BB.nodup _ h
theorem Te {p : Nat} {room : Int} {sm sh : Value} (hr : 0 ≤ room ∧ room ≤ 1048576) : ∀ rs, Ak [cell p 70 #[.int .i64 room, .int .i64 (-1), .bool false, .slice none 0 0, sm, sh], Ap 103 5 encO (.slice none 0 0) [], BI [], BB encKey AJ sm [], Bp [], BB encKey AJ sh [], Bp []] rs → ∃ z, rs.Perm z ∧ Ak [Ao p (HK room)] z := fun rs hx => by
 obtain ⟨a1, _, rfl, h1, a2, _, rfl, h2, a3, _, rfl, h3, a4, _, rfl, h4, a5, a6, rfl, h5, h6⟩ := hx
 refine ⟨_, .refl _, Ak.one ⟨⟨.slice none 0 0, sm, sh, [], [], rfl, fun _ => .refl _, IJ, (fun n h => by cases h), hr, RJ⟩, ?_⟩⟩
 refine ⟨a1, _, rfl, h1, a2, _, rfl, h2, a3, _, rfl, h3, a4 ++ a5, a6, by simp, ⟨[], rfl, a4, a5, rfl, h4, Ak.one h5⟩, Ak.one ⟨[], rfl, h6⟩⟩
theorem RO {l : FilL} {j : Nat} {p : List UInt8 × PtT} (h : l[j]? = some p) : ((p.1, p.2.2) :: Cd (l.eraseIdx j)).Perm (Cd l) := by
 have hlt := (List.getElem?_eq_some_iff.1 h).1
 have hx := (List.getElem?_eq_some_iff.1 h).2
 have h1 : l = l.take j ++ p :: l.drop (j + 1) := by rw [← hx]; simp
 have h2 : (p :: l.eraseIdx j).Perm l := by
  rw [List.eraseIdx_eq_take_drop_succ]
  have h3 := (List.perm_middle (a := p) (l₁ := l.take j) (l₂ := l.drop (j + 1))).symm
  rw [← h1] at h3
  exact h3
 exact h2.map (fun p : List UInt8 × PtT => (p.1, p.2.2))
theorem Pp {done left L : FilL} {j : Nat} {p : List UInt8 × PtT} (hn : (AH (Cd L)).Nodup) (hp : (Cd done ++ Cd left).Perm (Cd L)) (hj : left[j]? = some p) : EG p.1 done 0 = none := by
  have h1 : (AH (Cd done ++ Cd left)).Nodup := (CD hp).nodup_iff.2 hn
  have h2 : AH (Cd done ++ Cd left) = AH done ++ AH left := by rw [← Ez done, ← Ez left]; unfold AH; rw [List.map_append]
  rw [h2] at h1
  cases h : EG p.1 done 0 with
  | none => rfl
  | some q =>
    exfalso
    have h3 := (Dt h).2
    have h4 : p.1 ∈ AH done := List.mem_map.2 ⟨_, List.mem_of_getElem? h3, rfl⟩
    have h5 : p.1 ∈ AH left := List.mem_map.2 ⟨_, List.mem_of_getElem? hj, rfl⟩
    exact (List.nodup_append.1 h1).2.2 _ h4 _ h5 rfl
theorem NZ {done left L : FilL} {j : Nat} {p : List UInt8 × PtT} {u : Value} (hp : (Cd done ++ Cd left).Perm (Cd L)) (hj : left[j]? = some p) (hf : EG p.1 done 0 = none) : (Cd (Bx done p.1 (u, p.2.2)) ++ Cd (left.eraseIdx j)).Perm (Cd L) := by
 have h1 : Bx done p.1 (u, p.2.2) = done ++ [(p.1, (u, p.2.2))] := by unfold Bx; rw [hf]
 have h2 : Cd (done ++ [(p.1, (u, p.2.2))]) = Cd done ++ [(p.1, p.2.2)] := by simp [Cd]
 rw [h1, h2, List.append_assoc]
 exact ((RO hj).append_left (Cd done)).trans hp
theorem N0 {v u : Value} {f : FS} {L M : FilL} (h : f = Cd L) : ∀ rs, Ak [BB encKey AJ v L, Bp L, BB encKey AJ u M, Bp M] rs → ∃ z, rs.Perm z ∧ Ak [Ax v f, Ax u (Cd M)] z := fun rs hr => by
 subst h
 obtain ⟨a, r, rfl, h1, b, r2, rfl, h2, h3⟩ := hr
 exact ⟨a ++ (b ++ r2), .refl _, a ++ b, r2, by simp, ⟨L, rfl, a, b, rfl, h1, Ak.one h2⟩, Ak.one ⟨M, rfl, h3⟩⟩
def Gd (f : FS) (o : OpD) (torn : Int) : FS := match o with
  | .app n b => if (torn % (b.length : Int)).toNat = 0 ∨ b = [] then f else AP f (.app n (b.take (torn % (b.length : Int)).toNat))
  | _ => f
theorem H4 (d : DiskD) (keep torn : Int) : C3 d keep torn = match d.wait[Df d keep]? with
  | some o => Gd ((d.wait.take (Df d keep)).foldl AP d.syn) o torn
  | none => (d.wait.take (Df d keep)).foldl AP d.syn := by
  unfold C3 Gd
  cases d.wait[Df d keep]? with
  | none => rfl
  | some o => cases o <;> rfl
theorem Tf {f : FS} {o : OpD} {torn : Int} (h : o.data = []) : Gd f o torn = f := by
  cases o with
  | app n b => unfold Gd; simp only; rw [if_pos (.inr h)]
  | cut n s => rfl
  | ren a b => rfl
  | del n => rfl
theorem RP {l : List OpD} {i : Nat} {o : OpD} (h : l[i]? = some o) (f : FS) : (l.take (i + 1)).foldl AP f = AP ((l.take i).foldl AP f) o := by
 rw [← F5 h, List.foldl_append]; rfl
theorem IN {l : List OpD} {i : Nat} {o : OpD} {f : FS} {N : Nat} (hn : (AH f).Nodup) (hok : Fe f l) (h : l[i]? = some o) (hs : AF f + (l.map OpD.size).sum ≤ N) : AF ((l.take i).foldl AP f) + o.size ≤ N := by
 have h1 := EB (l.take i) hn (FH i hok)
 have h2 : ((l.take (i + 1)).map OpD.size).sum = ((l.take i).map OpD.size).sum + o.size := by rw [← F5 h]; simp
 have h3 := Jl l (i + 1)
 omega
theorem Pq {f : FS} {o : OpD} {torn : Int} (hf : (AH f).Nodup) (h : Dc f) (ho : MM f o) : Dc (Gd f o torn) := by
  cases o with
  | app n b =>
    unfold Gd
    simp only
    split
    · exact h
    · exact Hb hf h ho
  | cut n s => exact h
  | ren a b => exact h
  | del n => exact h
theorem KR {d : DiskD} {keep torn : Int} (hn : (AH d.syn).Nodup) (h : Dc d.syn) (ho : Fe d.syn d.wait) : Dc (C3 d keep torn) := by
  rw [H4]
  have h1 := Jk _ hn h (FH (Df d keep) ho)
  cases hw : d.wait[Df d keep]? with
  | none => exact h1
  | some o => exact Pq (E0 _ hn) h1 (MN ho hw)
theorem H5 {d : DiskD} (h : d.fit) (hn : (AH d.syn).Nodup) (ho : Fe d.syn d.wait) : AF d.now ≤ 1099511627776 := Nat.le_trans (EB d.wait hn ho) h.1
theorem LM {d : DiskD} (hn : (AH d.syn).Nodup) (h : Dc d.syn) (ho : Fe d.syn d.wait) : Dc d.now := Jk d.wait hn h ho
theorem LN {d : DiskD} (hn : (AH d.syn).Nodup) : (AH d.now).Nodup := E0 d.wait hn
theorem J6 {d : DiskD} (x : DskU d) : x.W.length = d.wait.length := by rw [← x.hW]; simp [DE]
theorem MP {a m : Int} (hm : 0 < m) : a % m = if a.tmod m < 0 then a.tmod m + m else a.tmod m := by
  by_cases ha : 0 ≤ a
  · have h1 : a.tmod m = a % m := Int.tmod_eq_emod_of_nonneg ha
    have := Int.emod_nonneg a (show m ≠ 0 by omega)
    rw [h1, if_neg (by omega)]
  · have h1 := Int.tmod_eq_emod (a := a) (b := m)
    have h3 := Int.emod_nonneg a (show m ≠ 0 by omega)
    have h4 := Int.emod_lt_of_pos a hm
    by_cases hd : m ∣ a
    · have h5 : a % m = 0 := Int.emod_eq_zero_of_dvd hd
      have h6 : a.tmod m = 0 := by rw [h1, if_pos (.inr hd), h5]; simp
      rw [h5, h6]; simp
    · rw [if_neg (by simp [ha, hd])] at h1
      have h7 : (m.natAbs : Int) = m := by omega
      rw [h7] at h1
      have h8 : a % m ≠ 0 := fun e => hd (Int.dvd_of_emod_eq_zero e)
      rw [h1, if_pos (by omega)]; omega
end Go.Proofs.YtjcfimmcogkopaaGreat.Sep
namespace Go.Proofs.YtjcfimmcogkopaaGreat.Sep
open Go.RowKit
open Go.Proofs.YtjcfimmcogkopaaGreat.Mem (AZ Ci Chg Au)
section
variable {P : Program} {κ ν : Type} {kk : κ → Value} {vv : ν → Value} {B : Nat → Prop} {w0 w : World} {os : List Ass} {mt kt vt : TypeId} {n : Nat} {env : List (Nat × Value)} {Q : Exit → Act → World → Prop} {o : Oper} {act : Act}
theorem Tg {r : Operand} {k : IntKind} {q : Int} (ht : P.underlying mt = some (.map kt vt)) (ho : o.op = .makeMap mt (some r)) (hr : evs env r = some (.int k q)) : Bq P Q n env B w0 os o (fun g : Nat => .map (some g)) (fun g => BB kk vv (.map (some g)) [] :: os) := fun act w hH hF K hK => by
 have hrun : (execOp act.eval o).run P w = .ok (.value (.map (some w.heap.size))) (w.alloc (.map #[] 0)) := by
  unfold execOp
  simp [ho, hF.evs hr, Instr.makeMap, run_underlying ht, asInt, asIntOf, newObj, Sem.run]
 obtain ⟨rs, h1, h2⟩ := hH
 exact E8 (w0 := w) act hrun (hK w.heap.size _ ⟨_, ⟨[(w.heap.size, none, EH #[] 0)], rs, rfl, ⟨w.heap.size, #[], 0, rfl, rfl, Kv⟩, h1⟩, Kx h2 _ (Dq.2 (heap_alloc_new w _))⟩)
end
section
variable {P : Program} {κ : Type} [DecidableEq κ] {kk : κ → Value} {w : World} {mt kt vt : TypeId} {kd : TypeDesc} {z : Value} {n : Nat} {env : List (Nat × Value)} {o : Oper} {act : Act}
theorem UQ (hT : MapTy P mt kt vt kd kk z) {x y : Operand} (ho : o.op = .lookup mt x y false) {k : κ} (hx : evs env x = some (.map none)) (hy : evs env y = some (kk k)) (hF : Fr n act env) : (execOp act.eval o).run P w = .ok (.value z) w := by
 unfold execOp
 simp only [ho, hF.evs hx, hF.evs hy, Sem.run_bind, Gx hT, Result.andThen_ok, Sem.run_pure, Bool.false_eq_true, if_false]
theorem UR (hT : MapTy P mt kt vt kd kk z) {x y : Operand} (ho : o.op = .lookup mt x y true) {k : κ} (hx : evs env x = some (.map none)) (hy : evs env y = some (kk k)) (hF : Fr n act env) : (execOp act.eval o).run P w = .ok (.value (.tuple #[z, .bool false])) w := by
 unfold execOp
 simp only [ho, hF.evs hx, hF.evs hy, Sem.run_bind, Gx hT, Result.andThen_ok, Sem.run_pure, if_true]
end
end Go.Proofs.YtjcfimmcogkopaaGreat.Sep
namespace Go.Proofs.YtjcfimmcogkopaaGreat.Sep
open Go.RowKit
open Go.Proofs.YtjcfimmcogkopaaGreat.Mem (AZ Ci Chg Au)
def flK : List ((Nat × Nat) × Nat) := flS
theorem Al : Ke Tryz.prog flK := An
end Go.Proofs.YtjcfimmcogkopaaGreat.Sep
namespace Go.Proofs.YtjcfimmcogkopaaGreat.Sep
open Go.RowKit
open Go.Proofs.YtjcfimmcogkopaaGreat.Mem (AZ Ci Chg Au)
theorem Pr (w : World) (room : Int) (h : 0 ≤ room ∧ room ≤ 1048576) : Calls Tryz.prog 60 #[.int .i64 room] w fun e w' => e = .returned (.bool true) ∧ Below w.heap.size w w' := by
 refine Fz (args := [.int .i64 room]) 9 Tryz.func60 rfl rfl rfl (Ad (Af An rfl (Ab (Ad (Af An rfl (Ac rfl (.bool true) (fun b w hb hH => Bc rfl rfl rfl (B5 (by omega)) hb) (Af An rfl (Ac rfl (.bool true) (fun b w hb hH => Bc rfl rfl rfl (C2 (by omega)) hb) (Af An rfl (Ab (Av ?_)))))))))))
 exact As (.tmp rfl) (fun w h => ⟨rfl, Au h.up⟩) rfl
theorem G5 (n : List UInt8) : Cv n = true ↔ 1 ≤ n.length ∧ n.length ≤ 16 := by simp [Cv]
theorem Th (n : List UInt8) : Cv n = false ↔ ¬ (1 ≤ n.length ∧ n.length ≤ 16) := by rw [← G5]; simp
theorem F6 (w : World) (n : List UInt8) (h : Cv n = true) : Calls Tryz.prog 61 #[.string (bs n)] w fun e w' => e = .returned (.bool true) ∧ Below w.heap.size w w' := by
 have h := (G5 n).1 h
 refine Fz (args := [.string (bs n)]) 11 Tryz.func61 rfl rfl rfl (Ad (Af An rfl (Ab (Ad (Af An rfl (Ac rfl (.int .i64 (n.length : Int)) (fun b w hb hH => BT rfl rfl (fun cs => (fun w cs => CS Tryz.underlying9 _ _ w cs) w cs) hb) (Ac rfl (.bool true) (fun b w hb hH => Bc rfl rfl rfl (B5 (by omega)) hb) (Af An rfl (Ac rfl (.int .i64 (n.length : Int)) (fun b w hb hH => BT rfl rfl (fun cs => (fun w cs => CS Tryz.underlying9 _ _ w cs) w cs) hb) (Ac rfl (.bool true) (fun b w hb hH => Bc rfl rfl rfl (C2 (by omega)) hb) ?_))))))))))
 refine Af An rfl (Ab (Av ?_))
 exact As (.tmp rfl) (fun w h => ⟨rfl, Au h.up⟩) rfl
theorem KS (w : World) (n : List UInt8) (h : Cv n = false) : Calls Tryz.prog 61 #[.string (bs n)] w fun e w' => e = .returned (.bool false) ∧ Below w.heap.size w w' := by
 have h := (Th n).1 h
 refine Fz (args := [.string (bs n)]) 11 Tryz.func61 rfl rfl rfl (Ad (Af An rfl (Ab ?_)))
 rcases Nat.lt_or_ge n.length 1 with h0 | h0
 refine Ad (Af An rfl (Ac rfl (.int .i64 (n.length : Int)) (fun b w hb hH => BT rfl rfl (fun cs => (fun w cs => CS Tryz.underlying9 _ _ w cs) w cs) hb) (Ac rfl (.bool false) (fun b w hb hH => Bc rfl rfl rfl (Di (by omega)) hb) (Af An rfl (Ab (Av ?_))))))
 exact As (.tmp rfl) (fun w h => ⟨rfl, Au h.up⟩) rfl
 refine Ad (Af An rfl (Ac rfl (.int .i64 (n.length : Int)) (fun b w hb hH => BT rfl rfl (fun cs => (fun w cs => CS Tryz.underlying9 _ _ w cs) w cs) hb) (Ac rfl (.bool true) (fun b w hb hH => Bc rfl rfl rfl (B5 (by omega)) hb) (Af An rfl (Ac rfl (.int .i64 (n.length : Int)) (fun b w hb hH => BT rfl rfl (fun cs => (fun w cs => CS Tryz.underlying9 _ _ w cs) w cs) hb) (Ac rfl (.bool false) (fun b w hb hH => Bc rfl rfl rfl (DS (by omega)) hb) (Af An rfl (Ab (Av ?_)))))))))
 exact As (.tmp rfl) (fun w h => ⟨rfl, Au h.up⟩) rfl
theorem KT (w : World) (a m r : Int) (hm : 0 < m) (h1 : m ≤ 9223372036854775807) (hr : a % m = r) : Calls Tryz.prog 68 #[.int .i64 a, .int .i64 m] w fun e w' => e = .returned (.int .i64 r) ∧ Below w.heap.size w w' := by
 have he := MP (a := a) hm
 have h2 := Int.emod_nonneg a (show m ≠ 0 by omega)
 have h3 := Int.emod_lt_of_pos a hm
 obtain ⟨t, ht⟩ : ∃ t, a.tmod m = t := ⟨_, rfl⟩
 rw [ht, hr] at he
 rw [hr] at h2 h3
 refine Fz (args := [.int .i64 a, .int .i64 m]) 14 Tryz.func68 rfl rfl rfl (Ad (Af An rfl (Ab (Ad (Af An rfl (Ac rfl (.int .i64 t) (fun b w hb hH => DT rfl rfl rfl (by omega) ht hb) (Af An rfl (Ab (Aq ?_)))))))))
 rcases Int.lt_or_le t 0 with h0 | h0
 rw [if_pos h0] at he
 refine Ad (Af An rfl (Ac rfl (.bool true) (fun b w hb hH => Bc rfl rfl rfl (BN (by omega)) hb) (Ab (AI rfl (BV (Af An rfl (Ac rfl (.int .i64 r) (fun b w hb hH => AS rfl rfl rfl rfl (by rw [IntWalk.i64_in _ (by omega)]; omega) hb) (Af An rfl (Bi (AO (Ad (Af An rfl (Ab (Av ?_))))))))))))))
 exact As (.tmp rfl) (fun w h => ⟨rfl, Au h.up⟩) rfl
 rw [if_neg (by omega)] at he
 subst he
 refine Ad (Af An rfl (Ac rfl (.bool false) (fun b w hb hH => Bc rfl rfl rfl (B9 (by omega)) hb) (Ab (Aw rfl (AC (AO (Ad (Af An rfl (Ab (Av ?_))))))))))
 exact As (.tmp rfl) (fun w h => ⟨rfl, Au h.up⟩) rfl
theorem GO (v : Value) (l : FilL) (n : List UInt8) (r : Option PtT) (h : AL l n = r) : AW Tryz.prog 62 #[v, .string (bs n)] [BB encKey AJ v l] (fun (_ : Unit) => .bool r.isSome) (fun (_ : Unit) => [BB encKey AJ v l]) := by
 refine Be (args := [v, .string (bs n)]) 14 Tryz.func62 rfl rfl rfl ?_; intro w rs
 refine Ad (Af Al rfl (Ab (Ad (Af Al rfl (Ac rfl (.tuple #[((r).map AJ).getD (.slice none 0 0), .bool ((r).isSome)]) (fun b w hb hH => VQ 0 Dk rfl (k := n) (r := r) h rfl rfl rfl hH hb) (Af Al rfl (Ab (Ad (Af Al rfl (Ab (Av ?_)))))))))))
 exact As (.tmp rfl) (fun w h => AG () rfl [0] rfl h CV) rfl
theorem US (n : List UInt8) : AW Tryz.prog 62 #[.map none, .string (bs n)] [] (fun (_ : Unit) => .bool false) (fun (_ : Unit) => []) := by
 refine Be (args := [.map none, .string (bs n)]) 14 Tryz.func62 rfl rfl rfl ?_; intro w rs
 refine Ad (Af Al rfl (Ab (Ad (Af Al rfl (Ac rfl (.tuple #[.slice none 0 0, .bool false]) (fun b w hb hH => UR Dk rfl (k := n) rfl rfl hb) (Af Al rfl (Ab (Ad (Af Al rfl (Ab (Av ?_)))))))))))
 exact As (.tmp rfl) (fun w h => AG () rfl [] rfl h CV) rfl
theorem KU (p : Nat) (r1 r2 r3 sm fm pv : Value) (l : FilL) (hl : AF (Cd l) ≤ 1099511627776) : AW Tryz.prog 55 #[.pointer (some ⟨p, 0, none⟩)] [cell p 70 #[r1, r2, r3, pv, sm, fm], BB encKey AJ fm l, Bp l] (fun (_ : Unit) => .int .i64 ((AF (Cd l) : Nat) : Int)) (fun (_ : Unit) => [cell p 70 #[r1, r2, r3, pv, sm, fm], BB encKey AJ fm l, Bp l]) := by
 refine Be (args := [.pointer (some ⟨p, 0, none⟩)]) 20 Tryz.func55 rfl rfl rfl ?_; intro w rs
 refine Ad (Af Al rfl (Ab (Ad (Af Al rfl (Ab (Aq (Ad (Af Al rfl (Ac rfl (.pointer (some ⟨p, 0, none⟩)) (fun b w hb hH => by exact BQ rfl rfl hb) (Af Al rfl (Ac rfl (fm) (fun b w hb hH => Bb rfl rfl (Bn AT rfl) (hH.row 0 rfl) hb) (Aj (post := fun g1 => [cell p 70 #[r1, r2, r3, pv, sm, fm], Fv encKey AJ fm (.pointer (some ⟨g1, 0, none⟩)) l l none, Bp l]) rfl (My 1 Tryz.underlying68 rfl rfl rfl) ?_)))))))))))); rintro g1
 refine Ab (Bm (C9 (α := Nat × FilL × Option (List UInt8 × PtT)) (fun ⟨n, left, cur⟩ => [(2, .int .i64 0), (3, .int .i64 ((n : Nat) : Int)), (10, .pointer (some ⟨g1, 0, none⟩))]) (fun ⟨n, left, cur⟩ => [cell p 70 #[r1, r2, r3, pv, sm, fm], Fv encKey AJ fm (.pointer (some ⟨g1, 0, none⟩)) l left cur, Bp l]) (fun ⟨n, left, cur⟩ => n + AF (Cd left) = AF (Cd l) ∧ ∀ p, p ∈ left → p ∈ l) (fun ⟨n, left, cur⟩ => left.length) (0, l, none) ⟨Nat.zero_add _, fun _ h => h⟩ ⟨rfl, rfl, rfl, trivial⟩ rfl ?_))
 rintro ⟨n, left, cur⟩ hI
 refine Bv.at_ (env' := [(2, .int .i64 0), (3, .int .i64 ((n : Nat) : Int)), (10, .pointer (some ⟨g1, 0, none⟩))]) (rs' := [cell p 70 #[r1, r2, r3, pv, sm, fm], Fv encKey AJ fm (.pointer (some ⟨g1, 0, none⟩)) l left cur, Bp l]) ⟨rfl, rfl, rfl, trivial⟩ rfl ?_
 have hI1 : n + AF (Cd left) = AF (Cd l) := hI.1
 rcases Classical.em (left = []) with hc | hc
 have hn : n = AF (Cd l) := by rw [hc] at hI1; simpa [Cd, AF] using hI1
 refine Ad (Af Al rfl (Ac rfl (.tuple #[.bool false]) (fun b w hb hH => Mz 1 rfl hc rfl rfl hH hb) (Af Al rfl (Ab (Aq (Aw rfl (CQ (FR (FR (Br (AO (Bd 1 rfl Je (fun _ => rfl) ?_)))))))))))); rintro ⟨⟩
 refine Bv.leave [1] rfl rfl (Ad (Af Al rfl (Ab (Av ?_))))
 exact As (.tmp rfl) (fun w h => AG () (by rw [hn]) [1, 0, 2] rfl h CV) rfl
 refine Ad (Af Al rfl (Aj (post := fun q : { q : Nat × List UInt8 × PtT // (left)[q.1]? = some q.2 } => [cell p 70 #[r1, r2, r3, pv, sm, fm], Fv encKey AJ fm (.pointer (some ⟨g1, 0, none⟩)) l (left.eraseIdx q.1.1) (some (q.1.2.1, q.1.2.2)), Bp l]) rfl (MA 1 rfl hc rfl rfl) ?_)); rintro q
 refine Af Al rfl (Ab (Aq (AI rfl (AC (AO (Bm ?_))))))
 have hqm : q.1.2 ∈ l := hI.2 _ (List.mem_of_getElem? q.2)
 have hqu : AF (Cd (left.eraseIdx q.1.1)) + q.1.2.2.2.length = AF (Cd left) := KK q.2
 refine Ad (Af Al rfl (Ac rfl (.tuple #[.string (bs q.1.2.1), q.1.2.2.1]) (fun b w hb hH => MB 1 rfl rfl rfl hH hb) (Af Al rfl (Ab (BV (Af Al rfl (Ac rfl (.int .i64 (q.1.2.2.2.length : Int)) (fun b w hb hH => AY ((hH.rd8 2 rfl (J0 hqm)).rd) Tryz.underlying32 rfl rfl hb) (Ac rfl (.int .i64 ((n + q.1.2.2.2.length : Nat) : Int)) (fun b w hb hH => AS rfl rfl rfl rfl (by rw [IntWalk.i64_in _ (by omega)]; omega) hb) (Af Al rfl (Bi (B3 ?_)))))))))))
 exact CM (n + q.1.2.2.2.length, left.eraseIdx q.1.1, some (q.1.2.1, q.1.2.2)) 0 ⟨by omega, fun p hp => hI.2 p (List.mem_of_mem_eraseIdx hp)⟩ (show (left.eraseIdx q.1.1).length < left.length from H1 q.2) ⟨rfl, rfl, rfl, trivial⟩ rfl
end Go.Proofs.YtjcfimmcogkopaaGreat.Sep
namespace Go.Proofs.YtjcfimmcogkopaaGreat.Sep
open Go.RowKit
open Go.Proofs.YtjcfimmcogkopaaGreat.Mem (AZ Ci Chg Au)
theorem Ti {X : Ass} {v : Value} {f f' : FS} {n b : List UInt8} {A : Option Addr} {c : Nat} (hX : Cu X (.slice A b.length c) b) (hl : AF f + b.length ≤ 4398046511104) (h : AP f (.app n b) = f') : AW Tryz.prog 73 #[v, .agg #[.int .i64 0, .string (bs n), .slice A b.length c, .int .i64 0, .string (bs ([]))]] [Ax v f, X] (fun (_ : Unit) => .tuple #[]) (fun (_ : Unit) => [Ax v f', X]) := by
  have h_ := h
  refine Be (args := [v, .agg #[.int .i64 0, .string (bs n), .slice A b.length c, .int .i64 0, .string (bs ([]))]]) 49 Tryz.func73 rfl rfl rfl ?_; intro w rs
  refine Bv.fact 0 rfl BG ?_; rintro hnd
  refine Bd 0 rfl Fb (fun _ => rfl) ?_; rintro ⟨L, hL⟩
  subst hL
  refine Ad (Af Al rfl (Aj (post := fun g1 => [cell g1 103 #[.int .i64 0, .string (bs n), .slice A b.length c, .int .i64 0, .string (bs ([]))], BB encKey AJ v L, Bp L, X]) rfl (CU (cs := #[.int .i64 0, .string (bs n), .slice A b.length c, .int .i64 0, .string (bs ([]))]) rfl rfl rfl) ?_)); rintro g1
  refine Ab (Ad (Af Al rfl (Ac rfl (.int .i64 0) (fun b w hb hH => Bb rfl rfl (Bn EV rfl) (hH.row 0 rfl) hb) (Ab (Bm (Ad (Af Al rfl (Ac rfl (.bool true) (fun b w hb hH => Bc rfl rfl rfl (JV (by decide)) hb) (Af Al rfl (Ab (AI rfl ?_)))))))))))
  rcases hq : EG n L 0 with _ | q
  refine BY 5 1 encB ?_
  refine BK 10 1 [⟨.quiet, [none], fun _ => v, []⟩, ⟨.quiet, [none], fun _ => .pointer (some ⟨g1, 1, none⟩), []⟩, ⟨.quiet, [none], fun _ => .string (bs n), [1]⟩, ⟨.quiet, [none], fun _ => v, []⟩, ⟨.quiet, [none], fun _ => .pointer (some ⟨g1, 1, none⟩), []⟩, ⟨.quiet, [none], fun _ => .string (bs n), [4]⟩, ⟨.quiet, [none], fun _ => .slice none 0 0, [3, 5]⟩, ⟨.quiet, [none], fun _ => .pointer (some ⟨g1, 2, none⟩), []⟩, ⟨.quiet, [none], fun _ => .slice A b.length c, [7]⟩, ⟨.act 0, [some false], fun _ => undef, [6, 8]⟩] [(0, v), (3, .pointer (some ⟨g1, 0, none⟩))] (fun ρ => match ρ with | [r0] => [CJ r0 (fun u => Ap 5 1 encB u b) (Ap 5 1 encB (.slice none 0 0) ([])), cell g1 103 #[.int .i64 0, .string (bs n), .slice A b.length c, .int .i64 0, .string (bs ([]))], BB encKey AJ v L, Bp L, X] | _ => []) (by kernel_rfl) (by kernel_rfl) ⟨rfl, rfl, trivial⟩ rfl ?_ ?_
  refine Aa (by intro r0_; exact ⟨rfl, fun b w hH hb => Ae Al rfl hb⟩) (Aa (by intro r0_; exact ⟨rfl, fun b w hH hb => Ae Al rfl hb⟩) (Aa (by intro r0_; exact ⟨rfl, fun b w hH hb => Bb rfl rfl (Bn AX rfl) (hH.row 1 rfl) hb⟩) (Aa (by intro r0_; exact ⟨rfl, fun b w hH hb => Ae Al rfl hb⟩) (Aa (by intro r0_; exact ⟨rfl, fun b w hH hb => Ae Al rfl hb⟩) (Aa (by intro r0_; exact ⟨rfl, fun b w hH hb => Bb rfl rfl (Bn AX rfl) (hH.row 1 rfl) hb⟩) (Aa (by intro r0_; exact ⟨rfl, fun b w hH hb => Jc 2 Dk rfl (k := n) (r := none) (NY hq) rfl rfl rfl hH hb⟩) (Aa (by intro r0_; exact ⟨rfl, fun b w hH hb => Ae Al rfl hb⟩) (Aa (by intro r0_; exact ⟨rfl, fun b w hH hb => Bb rfl rfl (Bn Cy rfl) (hH.row 1 rfl) hb⟩) (Aa (by exact ⟨rfl, Bq.s (Co 0 AE (by kernel_rfl) rfl (b) (fun w hH => hH.rd 4 rfl hX.rd) (by simp only [List.length_nil]; omega) rfl rfl rfl (List.nil_append _)) (fun _ => rfl)⟩) ?_)))))))))
  exact Cf
  intro u
  refine Ce.keep (env' := [(9, v), (11, .string (bs n)), (18, u)]) ⟨rfl, rfl, rfl, trivial⟩ (Af Al rfl (AU (post := fun _ => [Ap 5 1 encB u b, cell g1 103 #[.int .i64 0, .string (bs n), .slice A b.length c, .int .i64 0, .string (bs ([]))], BB encKey AJ v (Bx L n (u, b)), Bp L, X]) rfl rfl (Jd 2 Dk rfl n (u, b) rfl rfl rfl rfl rfl rfl) ?_)); rintro ⟨⟩
  refine Bi (B3 ?_)
  exact DM  (fun w h => AG () rfl [2, 3, 0, 4] rfl h (LJ hq (h_.symm.trans (Tb hq)))) rfl
  refine Bd 2 rfl (GM hq) (fun _ => rfl) ?_; rintro ⟨⟩
  have hle : q.2.2.length ≤ AF (Cd L) := IK hnd (by rw [D9, Ff hq]; rfl)
  refine BK 10 1 [⟨.quiet, [none], fun _ => v, []⟩, ⟨.quiet, [none], fun _ => .pointer (some ⟨g1, 1, none⟩), []⟩, ⟨.quiet, [none], fun _ => .string (bs n), [1]⟩, ⟨.quiet, [none], fun _ => v, []⟩, ⟨.quiet, [none], fun _ => .pointer (some ⟨g1, 1, none⟩), []⟩, ⟨.quiet, [none], fun _ => .string (bs n), [4]⟩, ⟨.quiet, [none], fun _ => q.2.1, [3, 5]⟩, ⟨.quiet, [none], fun _ => .pointer (some ⟨g1, 2, none⟩), []⟩, ⟨.quiet, [none], fun _ => .slice A b.length c, [7]⟩, ⟨.act 0, [some false], fun _ => undef, [6, 8]⟩] [(0, v), (3, .pointer (some ⟨g1, 0, none⟩))] (fun ρ => match ρ with | [r0] => [Bp (L.take q.1), CJ r0 (fun u => Ap 5 1 encB u (q.2.2 ++ b)) (Ap 5 1 encB q.2.1 q.2.2), Bp (L.drop (q.1 + 1)), cell g1 103 #[.int .i64 0, .string (bs n), .slice A b.length c, .int .i64 0, .string (bs ([]))], BB encKey AJ v L, X] | _ => []) (by kernel_rfl) (by kernel_rfl) ⟨rfl, rfl, trivial⟩ rfl ?_ ?_
  refine Aa (by intro r0_; exact ⟨rfl, fun b w hH hb => Ae Al rfl hb⟩) (Aa (by intro r0_; exact ⟨rfl, fun b w hH hb => Ae Al rfl hb⟩) (Aa (by intro r0_; exact ⟨rfl, fun b w hH hb => Bb rfl rfl (Bn AX rfl) (hH.row 3 rfl) hb⟩) (Aa (by intro r0_; exact ⟨rfl, fun b w hH hb => Ae Al rfl hb⟩) (Aa (by intro r0_; exact ⟨rfl, fun b w hH hb => Ae Al rfl hb⟩) (Aa (by intro r0_; exact ⟨rfl, fun b w hH hb => Bb rfl rfl (Bn AX rfl) (hH.row 3 rfl) hb⟩) (Aa (by intro r0_; exact ⟨rfl, fun b w hH hb => Jc 4 Dk rfl (k := n) (r := some q.2) (Ff hq) rfl rfl rfl hH hb⟩) (Aa (by intro r0_; exact ⟨rfl, fun b w hH hb => Ae Al rfl hb⟩) (Aa (by intro r0_; exact ⟨rfl, fun b w hH hb => Bb rfl rfl (Bn Cy rfl) (hH.row 3 rfl) hb⟩) (Aa (by exact ⟨rfl, Bq.s (Co 1 AE (by kernel_rfl) rfl (b) (fun w hH => hH.rd 5 rfl hX.rd) (by omega) rfl rfl rfl rfl) (fun _ => rfl)⟩) ?_)))))))))
  exact Cf
  intro u
  refine Ce.keep (env' := [(9, v), (11, .string (bs n)), (18, u)]) ⟨rfl, rfl, rfl, trivial⟩ (Af Al rfl (AU (post := fun _ => [Bp (L.take q.1), Ap 5 1 encB u (q.2.2 ++ b), Bp (L.drop (q.1 + 1)), cell g1 103 #[.int .i64 0, .string (bs n), .slice A b.length c, .int .i64 0, .string (bs ([]))], BB encKey AJ v (Bx L n (u, q.2.2 ++ b)), X]) rfl rfl (Jd 4 Dk rfl n (u, q.2.2 ++ b) rfl rfl rfl rfl rfl rfl) ?_)); rintro ⟨⟩
  refine Bi (B3 ?_)
  exact DM  (fun w h => AG () rfl [4, 0, 1, 2, 5] rfl h (Jm hq (h_.symm.trans (Tc hq)))) rfl
theorem VY {X : Ass} {v : Value} {f f' : FS} {n : List UInt8} {A : Option Addr} {c : Nat} (h : AP f (.del n) = f') : AW Tryz.prog 73 #[v, .agg #[.int .i64 3, .string (bs n), .slice A 0 c, .int .i64 0, .string (bs ([]))]] [Ax v f, X] (fun (_ : Unit) => .tuple #[]) (fun (_ : Unit) => [Ax v f', X]) := by
 have h_ := h
 refine Be (args := [v, .agg #[.int .i64 3, .string (bs n), .slice A 0 c, .int .i64 0, .string (bs ([]))]]) 49 Tryz.func73 rfl rfl rfl ?_; intro w rs
 refine Bd 0 rfl Fb (fun _ => rfl) ?_; rintro ⟨L, hL⟩
 subst hL
 refine Ad (Af Al rfl (Aj (post := fun g1 => [cell g1 103 #[.int .i64 3, .string (bs n), .slice A 0 c, .int .i64 0, .string (bs ([]))], BB encKey AJ v L, Bp L, X]) rfl (CU (cs := #[.int .i64 3, .string (bs n), .slice A 0 c, .int .i64 0, .string (bs ([]))]) rfl rfl rfl) ?_)); rintro g1
 refine Ab (Ad (Af Al rfl (Ac rfl (.int .i64 3) (fun b w hb hH => Bb rfl rfl (Bn EV rfl) (hH.row 0 rfl) hb) (Ab (Bm (Ad (Af Al rfl (Ac rfl (.bool false) (fun b w hb hH => Bc rfl rfl rfl (JR (by decide)) hb) (Af Al rfl (Ab (Aw rfl (Ad (Af Al rfl (Ac rfl (.bool false) (fun b w hb hH => Bc rfl rfl rfl (JR (by decide)) hb) ?_))))))))))))))
 refine Af Al rfl (Ab (Aw rfl (Ad (Af Al rfl (Ac rfl (.bool false) (fun b w hb hH => Bc rfl rfl rfl (JR (by decide)) hb) (Af Al rfl (Ab (Aw rfl (Ad (Af Al rfl (Ac rfl (.bool true) (fun b w hb hH => Bc rfl rfl rfl (JV (by decide)) hb) (Af Al rfl (Ab (AI rfl ?_))))))))))))))
 rcases hq : EG n L 0 with _ | q
 have h1_ := h_.symm.trans (QO.trans (by rw [LI hq]))
 refine BV (Af Al rfl (Ac rfl (.string (bs n)) (fun b w hb hH => Bb rfl rfl (Bn AX rfl) (hH.row 0 rfl) hb) (AU (post := fun _ => [cell g1 103 #[.int .i64 3, .string (bs n), .slice A 0 c, .int .i64 0, .string (bs ([]))], BB encKey AJ v L, Bp L, X]) rfl rfl (O6 1 Dk rfl n rfl rfl rfl (LI hq)) ?_))); rintro ⟨⟩
 refine Bi (B3 ?_)
 exact DM  (fun w h => AG () rfl [1, 2, 3] rfl h (F4 h1_)) rfl
 refine Bd 2 rfl (GM hq) (fun _ => rfl) ?_; rintro ⟨⟩
 refine BV (Af Al rfl (Ac rfl (.string (bs n)) (fun b w hb hH => Bb rfl rfl (Bn AX rfl) (hH.row 3 rfl) hb) (AU (post := fun _ => [Bp (L.take q.1), Ap 5 1 encB q.2.1 q.2.2, Bp (L.drop (q.1 + 1)), cell g1 103 #[.int .i64 3, .string (bs n), .slice A 0 c, .int .i64 0, .string (bs ([]))], BB encKey AJ v (BR L n), X]) rfl rfl (O6 4 Dk rfl n rfl rfl rfl rfl) ?_))); rintro ⟨⟩
 refine Bi (B3 ?_)
 exact DM  (fun w h => AG () rfl [4, 0, 2, 5] rfl h (Pn hq (h_.symm.trans QO))) rfl
theorem VZ {X : Ass} {v : Value} {f f' : FS} {n x : List UInt8} {s : Nat} {A : Option Addr} {c : Nat} (hx : AL f n = some x) (hs : s ≤ x.length) (h : AP f (.cut n s) = f') : AW Tryz.prog 73 #[v, .agg #[.int .i64 1, .string (bs n), .slice A 0 c, .int .i64 (s : Int), .string (bs ([]))]] [Ax v f, X] (fun (_ : Unit) => .tuple #[]) (fun (_ : Unit) => [Ax v f', X]) := by
 have h_ := h
 refine Be (args := [v, .agg #[.int .i64 1, .string (bs n), .slice A 0 c, .int .i64 (s : Int), .string (bs ([]))]]) 49 Tryz.func73 rfl rfl rfl ?_; intro w rs
 refine Bd 0 rfl Fb (fun _ => rfl) ?_; rintro ⟨L, hL⟩
 subst hL
 obtain ⟨q, hq, hqx⟩ := LK hx
 subst hqx
 refine Ad (Af Al rfl (Aj (post := fun g1 => [cell g1 103 #[.int .i64 1, .string (bs n), .slice A 0 c, .int .i64 (s : Int), .string (bs ([]))], BB encKey AJ v L, Bp L, X]) rfl (CU (cs := #[.int .i64 1, .string (bs n), .slice A 0 c, .int .i64 (s : Int), .string (bs ([]))]) rfl rfl rfl) ?_)); rintro g1
 refine Ab (Ad (Af Al rfl (Ac rfl (.int .i64 1) (fun b w hb hH => Bb rfl rfl (Bn EV rfl) (hH.row 0 rfl) hb) (Ab (Bm (Ad (Af Al rfl (Ac rfl (.bool false) (fun b w hb hH => Bc rfl rfl rfl (JR (by decide)) hb) (Af Al rfl (Ab (Aw rfl (Ad (Af Al rfl (Ac rfl (.bool true) (fun b w hb hH => Bc rfl rfl rfl (JV (by decide)) hb) ?_))))))))))))))
 refine Af Al rfl (Ab (AI rfl (Bd 2 rfl (GM hq) (fun _ => rfl) ?_))); rintro ⟨⟩
 refine BK 10 0 [⟨.quiet, [], fun _ => v, []⟩, ⟨.quiet, [], fun _ => .pointer (some ⟨g1, 1, none⟩), []⟩, ⟨.quiet, [], fun _ => .string (bs n), [1]⟩, ⟨.quiet, [], fun _ => v, []⟩, ⟨.quiet, [], fun _ => .pointer (some ⟨g1, 1, none⟩), []⟩, ⟨.quiet, [], fun _ => .string (bs n), [4]⟩, ⟨.quiet, [], fun _ => q.2.1, [3, 5]⟩, ⟨.quiet, [], fun _ => .pointer (some ⟨g1, 3, none⟩), []⟩, ⟨.quiet, [], fun _ => .int .i64 (s : Int), [7]⟩, ⟨.quiet, [], fun _ => Cp 1 q.2.1 0 s, [6, 8]⟩] [(0, v), (3, .pointer (some ⟨g1, 0, none⟩))] (fun _ => [Bp (L.take q.1), Ap 5 1 encB q.2.1 q.2.2, Bp (L.drop (q.1 + 1)), cell g1 103 #[.int .i64 1, .string (bs n), .slice A 0 c, .int .i64 (s : Int), .string (bs ([]))], BB encKey AJ v L, X]) (by kernel_rfl) (by kernel_rfl) ⟨rfl, rfl, trivial⟩ rfl ?_ ?_
 refine Aa (by exact ⟨rfl, fun b w hH hb => Ae Al rfl hb⟩) (Aa (by exact ⟨rfl, fun b w hH hb => Ae Al rfl hb⟩) (Aa (by exact ⟨rfl, fun b w hH hb => Bb rfl rfl (Bn AX rfl) (hH.row 3 rfl) hb⟩) (Aa (by exact ⟨rfl, fun b w hH hb => Ae Al rfl hb⟩) (Aa (by exact ⟨rfl, fun b w hH hb => Ae Al rfl hb⟩) (Aa (by exact ⟨rfl, fun b w hH hb => Bb rfl rfl (Bn AX rfl) (hH.row 3 rfl) hb⟩) (Aa (by exact ⟨rfl, fun b w hH hb => Jc 4 Dk rfl (k := n) (r := some q.2) (Ff hq) rfl rfl rfl hH hb⟩) (Aa (by exact ⟨rfl, fun b w hH hb => Ae Al rfl hb⟩) (Aa (by exact ⟨rfl, fun b w hH hb => Bb rfl rfl (Bn Bt rfl) (hH.row 3 rfl) hb⟩) (Aa (by exact ⟨rfl, fun b w hH hb => G2 1 (b := s) AE rfl hs rfl rfl rfl hH hb⟩) ?_)))))))))
 exact Cf
 refine Ce.keep (env' := [(21, v), (23, .string (bs n)), (30, Cp 1 q.2.1 0 s)]) ⟨rfl, rfl, rfl, trivial⟩ (Af Al rfl (AU (post := fun _ => [Bp (L.take q.1), Ap 5 1 encB q.2.1 q.2.2, Bp (L.drop (q.1 + 1)), cell g1 103 #[.int .i64 1, .string (bs n), .slice A 0 c, .int .i64 (s : Int), .string (bs ([]))], BB encKey AJ v (Bx L n (Cp 1 q.2.1 0 s, q.2.2.take s)), X]) rfl rfl (Jd 4 Dk rfl n (Cp 1 q.2.1 0 s, q.2.2.take s) rfl rfl rfl rfl rfl rfl) ?_)); rintro ⟨⟩
 refine Bi (B3 ?_)
 exact DM  (fun w h => AG () rfl [4, 0, 1, 2, 5] rfl h (RK hq hs (h_.symm.trans (UO hq)))) rfl
theorem V1 {X : Ass} {v : Value} {f f' : FS} {n m_ x : List UInt8} {A : Option Addr} {c : Nat} (hx : AL f n = some x) (h : AP f (.ren n m_) = f') : AW Tryz.prog 73 #[v, .agg #[.int .i64 2, .string (bs n), .slice A 0 c, .int .i64 0, .string (bs m_)]] [Ax v f, X] (fun (_ : Unit) => .tuple #[]) (fun (_ : Unit) => [Ax v f', X]) := by
 have h_ := h
 refine Be (args := [v, .agg #[.int .i64 2, .string (bs n), .slice A 0 c, .int .i64 0, .string (bs m_)]]) 49 Tryz.func73 rfl rfl rfl ?_; intro w rs
 refine Bd 0 rfl Fb (fun _ => rfl) ?_; rintro ⟨L, hL⟩
 subst hL
 obtain ⟨q, hq, hqx⟩ := LK hx
 subst hqx
 refine Ad (Af Al rfl (Aj (post := fun g1 => [cell g1 103 #[.int .i64 2, .string (bs n), .slice A 0 c, .int .i64 0, .string (bs m_)], BB encKey AJ v L, Bp L, X]) rfl (CU (cs := #[.int .i64 2, .string (bs n), .slice A 0 c, .int .i64 0, .string (bs m_)]) rfl rfl rfl) ?_)); rintro g1
 refine Ab (Ad (Af Al rfl (Ac rfl (.int .i64 2) (fun b w hb hH => Bb rfl rfl (Bn EV rfl) (hH.row 0 rfl) hb) (Ab (Bm (Ad (Af Al rfl (Ac rfl (.bool false) (fun b w hb hH => Bc rfl rfl rfl (JR (by decide)) hb) (Af Al rfl (Ab (Aw rfl (Ad (Af Al rfl (Ac rfl (.bool false) (fun b w hb hH => Bc rfl rfl rfl (JR (by decide)) hb) ?_))))))))))))))
 refine Af Al rfl (Ab (Aw rfl (Ad (Af Al rfl (Ac rfl (.bool true) (fun b w hb hH => Bc rfl rfl rfl (JV (by decide)) hb) (Af Al rfl (Ab (AI rfl (Bd 2 rfl (GM hq) (fun _ => rfl) ?_))))))))); rintro ⟨⟩
 refine Ad (Af Al rfl (Ac rfl (.string (bs n)) (fun b w hb hH => Bb rfl rfl (Bn AX rfl) (hH.row 3 rfl) hb) (Ac rfl (q.2.1) (fun b w hb hH => Jc 4 Dk rfl (k := n) (r := some q.2) (Ff hq) rfl rfl rfl hH hb) (Af Al rfl (Ab (Ad (Af Al rfl (Ac rfl (.string (bs n)) (fun b w hb hH => Bb rfl rfl (Bn AX rfl) (hH.row 3 rfl) hb) (AU (post := fun _ => [Bp (L.take q.1), Ap 5 1 encB q.2.1 q.2.2, Bp (L.drop (q.1 + 1)), cell g1 103 #[.int .i64 2, .string (bs n), .slice A 0 c, .int .i64 0, .string (bs m_)], BB encKey AJ v (BR L n), X]) rfl rfl (O6 4 Dk rfl n rfl rfl rfl rfl) ?_))))))))); rintro ⟨⟩
 refine Ab (Bk [0, 2] rfl (QP hq) rfl ?_)
 rcases hq2 : EG m_ (BR L n) 0 with _ | q2
 refine BV (Af Al rfl (Ac rfl (.string (bs m_)) (fun b w hb hH => Bb rfl rfl (Bn AX rfl) (hH.row 2 rfl) hb) (Af Al rfl (AU (post := fun _ => [Bp (BR L n), Ap 5 1 encB q.2.1 q.2.2, cell g1 103 #[.int .i64 2, .string (bs n), .slice A 0 c, .int .i64 0, .string (bs m_)], BB encKey AJ v (Bx (BR L n) m_ (q.2.1, q.2.2)), X]) rfl rfl (Jd 3 Dk rfl m_ (q.2.1, q.2.2) rfl rfl rfl rfl rfl rfl) ?_)))); rintro ⟨⟩
 refine Bi (B3 ?_)
 exact DM  (fun w h => AG () rfl [3, 0, 1, 4] rfl h (LJ hq2 (h_.symm.trans (QQ hq)))) rfl
 refine Bd 0 rfl (GM hq2) (fun _ => rfl) ?_; rintro ⟨⟩
 refine BV (Af Al rfl (Ac rfl (.string (bs m_)) (fun b w hb hH => Bb rfl rfl (Bn AX rfl) (hH.row 4 rfl) hb) (Af Al rfl (AU (post := fun _ => [Bp ((BR L n).take q2.1), Ap 5 1 encB q2.2.1 q2.2.2, Bp ((BR L n).drop (q2.1 + 1)), Ap 5 1 encB q.2.1 q.2.2, cell g1 103 #[.int .i64 2, .string (bs n), .slice A 0 c, .int .i64 0, .string (bs m_)], BB encKey AJ v (Bx (BR L n) m_ (q.2.1, q.2.2)), X]) rfl rfl (Jd 5 Dk rfl m_ (q.2.1, q.2.2) rfl rfl rfl rfl rfl rfl) ?_)))); rintro ⟨⟩
 refine Bi (B3 ?_)
 exact DM  (fun w h => AG () rfl [5, 0, 3, 2, 6] rfl h (Jm hq2 (h_.symm.trans (QQ hq)))) rfl
theorem Tj {X : Ass} {v : Value} {f f' : FS} {x : OpV} (ho : MM f x.o) (hX : Cu X x.v x.o.data) (hl : AF f + x.o.size ≤ 4398046511104) (h : AP f x.o = f') : AW Tryz.prog 73 #[v, .agg (encO x).toArray] [Ax v f, X] (fun _ : Unit => .tuple #[]) (fun _ => [Ax v f', X]) := by
  obtain ⟨o, A, c⟩ := x
  cases o with
  | app n b => exact Ti hX hl h
  | cut n s => obtain ⟨y, h1, h2⟩ := ho; exact VZ h1 h2 h
  | ren a b => obtain ⟨⟨y, h1⟩, _⟩ := ho; exact V1 h1 h
  | del n => exact VY h
end Go.Proofs.YtjcfimmcogkopaaGreat.Sep
