/-
  DskV · MapU · TyK · DskA · DskB
-/
import Derived.Test.YtjcfimmcogkopaaGreatDoorWB01
import Derived.Test.YtjcfimmcogkopaaGreatDoorWB02
import Derived.Test.YtjcfimmcogkopaaGreatDoorWB05
set_option linter.unusedSimpArgs false
set_option linter.unusedVariables false
set_option maxRecDepth 100000
namespace Go.Proofs.YtjcfimmcogkopaaGreatDoor.Sep
open Go.RowKit
open Go.Proofs.YtjcfimmcogkopaaGreatDoor.Mem (Bb Ci Chg Aw)
def OpD.data : OpD → List UInt8
  | .app _ b => b
  | _ => []
def OpD.kind : OpD → Int
  | .app .. => 0
  | .cut .. => 1
  | .ren .. => 2
  | .del _ => 3
def OpD.name : OpD → List UInt8
  | .app n _ => n
  | .cut n _ => n
  | .ren a _ => a
  | .del n => n
def OpD.cutS : OpD → Nat
  | .cut _ s => s
  | _ => 0
def OpD.to : OpD → List UInt8
  | .ren _ b => b
  | _ => []
structure OpV where
  o : OpD
  A : Option Addr
  c : Nat
def OpV.v (x : OpV) : Value := .slice x.A x.o.data.length x.c
def encO (x : OpV) : List Value := [.int .i64 x.o.kind, .string (bs x.o.name), x.v, .int .i64 (x.o.cutS : Int), .string (bs x.o.to)]
theorem Rv : EncOf 5 encO := ⟨fun _ => rfl, fun x v h => by unfold encO OpV.v at h; simp at h; rcases h with rfl | rfl | rfl | rfl | rfl <;> rfl⟩
instance : Inhabited OpV := ⟨⟨.del [], none, 0⟩⟩
def BW (W : List OpV) : Ass := AY (fun x : OpV => Aj 5 1 encB x.v x.o.data) W
def EJ (W : List OpV) : List OpD := W.map (·.o)
theorem Rw {W : List OpV} {x : OpV} (h : x ∈ W) : EN (BW W) x.v x.o.data := fun rs w h1 h2 => by
 obtain ⟨j, hj⟩ := List.getElem?_of_mem h
 obtain ⟨ys, h3, h4⟩ := AY.at_ h1 h2 hj
 exact In h3 h4
def Vh (f : FS) : OpD → Prop
  | .app n _ => D9 n = true
  | .cut n s => ∃ x, Bw f n = some x ∧ s ≤ x.length
  | .ren a b => (∃ x, Bw f a = some x) ∧ D9 b = true
  | .del _ => True
def Ha : FS → List OpD → Prop
  | _, [] => True
  | f, o :: r => Vh f o ∧ Ha (BJ f o) r
theorem JH {f : FS} : Ha f [] := trivial
theorem MZ : ∀ {l : List OpD} {f : FS} {o : OpD}, Ha f l → Vh (l.foldl BJ f) o → Ha f (l ++ [o])
  | [], _, _, _, ho => ⟨ho, trivial⟩
  | _ :: r, _, _, h, ho => ⟨h.1, MZ (l := r) h.2 ho⟩
theorem Gw : ∀ {l : List OpD} {f : FS} (i : Nat), Ha f l → Ha f (l.take i)
  | [], _, _, _ => by rw [List.take_nil]; trivial
  | _ :: _, _, 0, _ => trivial
  | _ :: r, _, i + 1, h => ⟨h.1, Gw (l := r) i h.2⟩
theorem NI : ∀ {l : List OpD} {f : FS} {i : Nat} {o : OpD}, Ha f l → l[i]? = some o → Vh ((l.take i).foldl BJ f) o
  | x :: r, f, 0, o, h, hi => by
    simp only [List.getElem?_cons_zero, Option.some.injEq] at hi
    subst hi
    exact h.1
  | x :: r, f, i + 1, o, h, hi => NI (l := r) (i := i) h.2 (by simpa using hi)
theorem T6 {f g : FS} {o : OpD} (h : f.Perm g) (hf : (AW f).Nodup) (ho : Vh f o) : Vh g o := by
  cases o with
  | app n b => exact ho
  | cut n s => obtain ⟨x, h1, h2⟩ := ho; exact ⟨x, by rw [← FY h hf]; exact h1, h2⟩
  | ren a b => obtain ⟨⟨x, h1⟩, h2⟩ := ho; exact ⟨⟨x, by rw [← FY h hf]; exact h1⟩, h2⟩
  | del n => trivial
def DC (f : FS) : Prop := ∀ k, k ∈ AW f → D9 k = true
theorem Sw : DC [] := fun k h => by cases h
theorem Is {f : FS} {n x : List UInt8} (hf : (AW f).Nodup) (h : DC f) (hn : D9 n = true) : DC (BM f n x) := fun k hk => by
  obtain ⟨p, hp, rfl⟩ := List.mem_map.1 hk
  rcases (GN hf p).1 hp with rfl | ⟨h1, _⟩
  · exact hn
  · exact h _ (List.mem_map_of_mem h1)
theorem M2 {f : FS} {n : List UInt8} (hf : (AW f).Nodup) (h : DC f) : DC (CO f n) := fun k hk => by
 obtain ⟨p, hp, rfl⟩ := List.mem_map.1 hk
 exact h _ (List.mem_map_of_mem ((GO hf p).1 hp).1)
theorem Qf {f : FS} {o : OpD} (hf : (AW f).Nodup) (h : DC f) (ho : Vh f o) : DC (BJ f o) := by
  cases o with
  | app n b => exact Is hf h ho
  | cut n s =>
    obtain ⟨x, h1, _⟩ := ho
    show DC (match Bw f n with | some x => BM f n (x.take s) | none => f)
    rw [h1]
    exact Is hf h (h _ (List.mem_map.2 ⟨_, (Cc hf).1 h1, rfl⟩))
  | ren a b =>
    obtain ⟨⟨x, h1⟩, h2⟩ := ho
    show DC (match Bw f a with | some x => BM (CO f a) b x | none => f)
    rw [h1]
    exact Is (DH hf) (M2 hf h) h2
  | del n => exact M2 hf h
theorem Ki : ∀ (l : List OpD) {f : FS}, (AW f).Nodup → DC f → Ha f l → DC (l.foldl BJ f)
  | [], _, _, h, _ => h
  | o :: r, _, hf, h, ho => Ki r (IX hf o) (Qf hf h ho.1) ho.2
theorem OP {f : FS} {k x : List UInt8} (hf : (AW f).Nodup) : AT (BM f k x) ≤ AT f + x.length := by
  cases h : Bw f k with
  | none => rw [JC h]; exact Nat.le_refl _
  | some y => have := GR (x := x) hf h; omega
theorem NJ {f : FS} (hf : (AW f).Nodup) {o : OpD} (ho : Vh f o) : AT (BJ f o) ≤ AT f + o.size := by
  cases o with
  | app n b => rw [KG hf]; exact Nat.le_refl _
  | cut n s =>
    obtain ⟨x, h1, h2⟩ := ho
    show AT (match Bw f n with | some x => BM f n (x.take s) | none => f) ≤ AT f + 0
    rw [h1]
    have := GR (x := x.take s) hf h1
    rw [List.length_take] at this
    show AT (BM f n (x.take s)) ≤ _
    omega
  | ren a b =>
    obtain ⟨⟨x, h1⟩, _⟩ := ho
    show AT (match Bw f a with | some x => BM (CO f a) b x | none => f) ≤ AT f + 0
    rw [h1]
    have h2 := Hu hf h1
    have h3 := OP (k := b) (x := x) (DH (k := a) hf)
    show AT (BM (CO f a) b x) ≤ _
    omega
  | del n =>
    show AT (CO f n) ≤ _
    cases h : Bw f n with
    | none => rw [TV h]; exact Nat.le_add_right _ _
    | some x => have := Hu hf h; show _ ≤ AT f + 0; omega
theorem Gf : ∀ (l : List OpD) {f : FS}, (AW f).Nodup → Ha f l → AT (l.foldl BJ f) ≤ AT f + (l.map OpD.size).sum
  | [], _, _, _ => by simp
  | o :: r, f, hf, ho => by
    have h1 := NJ hf ho.1
    have h2 := Gf r (IX hf o) ho.2
    rw [List.foldl_cons, List.map_cons, List.sum_cons]; omega
theorem Kj : ∀ (l : List OpD) (i : Nat), ((l.take i).map OpD.size).sum ≤ (l.map OpD.size).sum
  | [], _ => by simp
  | _ :: _, 0 => by simp
  | x :: r, i + 1 => by
    have := Kj r i
    simp only [List.take_succ_cons, List.map_cons, List.sum_cons]; omega
theorem LX {f : FS} {k x : List UInt8} (hf : (AW f).Nodup) (h : Bw f k = some x) : x.length ≤ AT f := by
 have := Hu hf h; omega
theorem OQ {κ ν : Type} [DecidableEq κ] {k : κ} {l : List (κ × ν)} (h : Fj k l 0 = none) : Bw l k = none := by unfold Bw; rw [h]; rfl
theorem F4 {κ ν : Type} [DecidableEq κ] {k : κ} {l : List (κ × ν)} {q : Nat × ν} (h : Fj k l 0 = some q) : Bw l k = some q.2 := by unfold Bw; rw [h]; rfl
theorem T7 {L : FilL} {n b : List UInt8} {u : Value} (h : Fj n L 0 = none) : BJ (Cs L) (.app n b) = Cs (BM L n (u, b)) := by
 show BM (Cs L) n _ = _
 rw [EI, OQ h, Option.map_none, Option.getD_none, List.nil_append]
 exact JF L n (u, b)
theorem T8 {L : FilL} {n b : List UInt8} {u : Value} {q : Nat × PtT} (h : Fj n L 0 = some q) : BJ (Cs L) (.app n b) = Cs (BM L n (u, q.2.2 ++ b)) := by
 show BM (Cs L) n _ = _
 rw [EI, F4 h, Option.map_some, Option.getD_some]
 exact JF L n (u, q.2.2 ++ b)
theorem Rx {L : FilL} {n : List UInt8} : BJ (Cs L) (.del n) = Cs (CO L n) := OI L n
theorem M4 {κ ν : Type} [DecidableEq κ] {k : κ} {l : List (κ × ν)} (h : Fj k l 0 = none) : CO l k = l := by unfold CO; rw [h]
theorem Ry {L : FilL} {k : List UInt8} {q : Nat × PtT} (h : Fj k L 0 = some q) : ∀ rs, Am [Bx (L.take q.1), Bx (L.drop (q.1 + 1))] rs → Bx (CO L k) rs := fun rs hr => by
 obtain ⟨a, b, rfl, h1, h2⟩ := hr
 unfold Bx CO
 rw [h]
 show AY _ (L.eraseIdx q.1) _
 rw [List.eraseIdx_eq_take_drop_succ]
 unfold AY
 rw [List.map_append]
 exact Am.app h1 (Am.one' h2)
theorem BO {v : Value} {f : FS} : ∀ rs, Az v f rs → (AW f).Nodup := fun rs ⟨L, h, h'⟩ => by
 obtain ⟨a, b, e, h1, _⟩ := h'
 rw [h, EH]
 exact BF.nodup _ h1
theorem GV {v : Value} {f : FS} {L : FilL} {os : List Ass} (h : f = Cs L) : ∀ rs, Am (BF encKey AI v L :: Bx L :: os) rs → ∃ z, rs.Perm z ∧ Am (Az v f :: os) z := fun rs hr => by
 subst h
 obtain ⟨a, r, rfl, h1, b, r2, rfl, h2, h3⟩ := hr
 exact ⟨a ++ (b ++ r2), .refl _, a ++ b, r2, by simp, ⟨L, rfl, a, b, rfl, h1, Am.one h2⟩, h3⟩
theorem M5 {v u : Value} {f : FS} {L : FilL} {n y : List UInt8} {os : List Ass} (hq : Fj n L 0 = none) (h : f = Cs (BM L n (u, y))) : ∀ rs, Am (BF encKey AI v (BM L n (u, y)) :: Bx L :: Aj 5 1 encB u y :: os) rs → ∃ z, rs.Perm z ∧ Am (Az v f :: os) z := fun rs hr => by
 obtain ⟨a, r, rfl, h1, b, r2, rfl, h2, c, r3, rfl, h3, h4⟩ := hr
 rw [show a ++ (b ++ (c ++ r3)) = a ++ ((b ++ c) ++ r3) by simp]
 exact GV h _ ⟨a, _, rfl, h1, b ++ c, r3, rfl, Rp hq (u, y) _ ⟨b, c, rfl, h2, Am.one h3⟩, h4⟩
theorem Kk {v u : Value} {f : FS} {L : FilL} {n y : List UInt8} {q : Nat × PtT} {os : List Ass} (hq : Fj n L 0 = some q) (h : f = Cs (BM L n (u, y))) : ∀ rs, Am (BF encKey AI v (BM L n (u, y)) :: Bx (L.take q.1) :: Aj 5 1 encB u y :: Bx (L.drop (q.1 + 1)) :: os) rs → ∃ z, rs.Perm z ∧ Am (Az v f :: os) z := fun rs hr => by
 obtain ⟨a, r, rfl, h1, b, r2, rfl, h2, c, r3, rfl, h3, e, r4, rfl, h4, h5⟩ := hr
 rw [show a ++ (b ++ (c ++ (e ++ r4))) = a ++ ((b ++ (c ++ e)) ++ r4) by simp]
 exact GV h _ ⟨a, _, rfl, h1, b ++ (c ++ e), r4, rfl, Vz hq (u, y) _ ⟨b, c ++ e, rfl, h2, c, e, rfl, h3, Am.one h4⟩, h5⟩
theorem Qg {v : Value} {f : FS} {L : FilL} {n : List UInt8} {q : Nat × PtT} {os : List Ass} (hq : Fj n L 0 = some q) (h : f = Cs (CO L n)) : ∀ rs, Am (BF encKey AI v (CO L n) :: Bx (L.take q.1) :: Bx (L.drop (q.1 + 1)) :: os) rs → ∃ z, rs.Perm z ∧ Am (Az v f :: os) z := fun rs hr => by
 obtain ⟨a, r, rfl, h1, b, r2, rfl, h2, e, r4, rfl, h4, h5⟩ := hr
 rw [show a ++ (b ++ (e ++ r4)) = a ++ ((b ++ e) ++ r4) by simp]
 exact GV h _ ⟨a, _, rfl, h1, b ++ e, r4, rfl, Ry hq _ ⟨b, e, rfl, h2, Am.one h4⟩, h5⟩
theorem Qh {e : TypeId} {v : Value} {l : List UInt8} {k : Nat} (hk : k ≤ l.length) : ∀ rs, Am [Aj e 1 encB v l] rs → Aj e 1 encB (Cu 1 v 0 k) (l.take k) rs := fun rs hr => by
  rcases Am.one' hr with ⟨h1, h2, h3⟩ | ⟨g, cap, cs, h1, h2, h3, h4, h5, h6⟩
  · subst h2; subst h1
    have : k = 0 := by simpa using hk
    subst this
    exact .inl ⟨by simp [Cu], by simp, h3⟩
  · subst h1
    have hl : (l.take k).length = k := by rw [List.length_take]; omega
    have e1 : (⟨g, 0 + 0 * 1, none⟩ : Addr) = ⟨g, 0, none⟩ := rfl
    refine .inr ⟨g, cap, cs, ?_, by rw [hl]; omega, h3, h4, ?_, h6⟩
    · simp [Cu, Addr.add, hl]
    · rw [hl]
      have h7 := congrArg (List.take (k * 1)) h5
      rw [List.take_take, Nat.min_eq_left (by omega)] at h7
      rw [h7]
      have h8 : flat encB l = flat encB (l.take k) ++ flat encB (l.drop k) := by rw [← Hl, List.take_append_drop]
      rw [h8, List.take_append_of_le_length (by rw [DU PD, hl]; omega), List.take_of_length_le (by rw [DU PD, hl]; omega)]
theorem VH {L : FilL} {n : List UInt8} {s : Nat} {u : Value} {q : Nat × PtT} (h : Fj n L 0 = some q) : BJ (Cs L) (.cut n s) = Cs (BM L n (u, q.2.2.take s)) := by
  show (match Bw (Cs L) n with | some x => BM (Cs L) n (x.take s) | none => Cs L) = _
  rw [EI, F4 h]
  exact JF L n (u, q.2.2.take s)
theorem Rz {L : FilL} {a b : List UInt8} {q : Nat × PtT} (h : Fj a L 0 = some q) : BJ (Cs L) (.ren a b) = Cs (BM (CO L a) b (q.2.1, q.2.2)) := by
  show (match Bw (Cs L) a with | some x => BM (CO (Cs L) a) b x | none => Cs L) = _
  rw [EI, F4 h, OI]
  exact JF (CO L a) b (q.2.1, q.2.2)
theorem Qi {κ ν : Type} [DecidableEq κ] {k : κ} {l : List (κ × ν)} {x : ν} (h : Bw l k = some x) : ∃ q, Fj k l 0 = some q ∧ q.2 = x := by
 unfold Bw at h
 exact Option.map_eq_some_iff.1 h
theorem M6 {L : FilL} {n x : List UInt8} (h : Bw (Cs L) n = some x) : ∃ q, Fj n L 0 = some q ∧ q.2.2 = x := by
 rw [EI] at h
 obtain ⟨r, h1, h2⟩ := Option.map_eq_some_iff.1 h
 obtain ⟨q, h3, h4⟩ := Qi h1
 exact ⟨q, h3, by rw [h4]; exact h2⟩
theorem Sx {v : Value} {f : FS} {L : FilL} {n : List UInt8} {s : Nat} {q : Nat × PtT} {os : List Ass} (hq : Fj n L 0 = some q) (hs : s ≤ q.2.2.length) (h : f = Cs (BM L n (Cu 1 q.2.1 0 s, q.2.2.take s))) : ∀ rs, Am (BF encKey AI v (BM L n (Cu 1 q.2.1 0 s, q.2.2.take s)) :: Bx (L.take q.1) :: Aj 5 1 encB q.2.1 q.2.2 :: Bx (L.drop (q.1 + 1)) :: os) rs → ∃ z, rs.Perm z ∧ Am (Az v f :: os) z := fun rs hr => by
 obtain ⟨a, r, e1, h1, b, r2, e2, h2, c, r3, e3, h3, hx⟩ := hr
 exact Kk hq h _ ⟨a, r, e1, h1, b, r2, e2, h2, c, r3, e3, Qh hs _ (Am.one h3), hx⟩
def D2 : Option Nat → Int
  | none => -1
  | some n => n
structure DskU (d : DiskD) where
  pv : Value
  sm : Value
  sh : Value
  W : List OpV
  g : FS
  hW : EJ W = d.wait
  hg : d.down = false → g.Perm d.now
  hok : Ha d.syn d.wait
  hf : ∀ n, d.fuse = some n → n ≤ 9223372036854775807
  hr : 0 ≤ d.room ∧ d.room ≤ 1048576
  hk : DC d.syn
def RA : Bool → Value → FS → Ass
  | true, v, _ => fact (v = .map none)
  | false, v, f => Az v f
def Ag (p : Nat) (d : DiskD) : Ass := fun rs => ∃ x : DskU d, Am [cell p 101 #[.int .i64 d.room, .int .i64 (D2 d.fuse), .bool d.down, x.pv, x.sm, x.sh], Aj 106 5 encO x.pv x.W, BW x.W, Az x.sm d.syn, RA d.down x.sh x.g] rs
section
variable {p : Nat} {d : DiskD}
theorem Sy : ∀ rs, Ag p d rs → ∃ x : DskU d, Am [cell p 101 #[.int .i64 d.room, .int .i64 (D2 d.fuse), .bool d.down, x.pv, x.sm, x.sh], Aj 106 5 encO x.pv x.W, BW x.W, Az x.sm d.syn, RA d.down x.sh x.g] rs := fun _ h => h
theorem It (h : d.down = false) : ∀ rs, Ag p d rs → ∃ x : DskU d, Am [cell p 101 #[.int .i64 d.room, .int .i64 (D2 d.fuse), .bool false, x.pv, x.sm, x.sh], Aj 106 5 encO x.pv x.W, BW x.W, Az x.sm d.syn, Az x.sh x.g] rs := fun rs ⟨x, hx⟩ => ⟨x, by rw [h] at hx; exact hx⟩
theorem Sz {q : Prop} {a b c e : Ass} {rs : List RowT} (h : Am [a, b, c, e, fact q] rs) : q ∧ Am [a, b, c, e] rs := by
 obtain ⟨_, _, rfl, h1, _, _, rfl, h2, _, _, rfl, h3, _, _, rfl, h4, _, _, rfl, ⟨rfl, h5⟩, rfl⟩ := h
 exact ⟨h5, _, _, rfl, h1, _, _, rfl, h2, _, _, rfl, h3, _, _, rfl, h4, rfl⟩
theorem SA {q : Prop} {a b c e : Ass} {rs : List RowT} (h5 : q) (h : Am [a, b, c, e] rs) : Am [a, b, c, e, fact q] rs := by
 obtain ⟨_, _, rfl, h1, _, _, rfl, h2, _, _, rfl, h3, _, _, rfl, h4, rfl⟩ := h
 exact ⟨_, _, rfl, h1, _, _, rfl, h2, _, _, rfl, h3, _, _, rfl, h4, _, _, rfl, ⟨rfl, h5⟩, rfl⟩
theorem RB (h : d.down = true) : ∀ rs, Ag p d rs → ∃ x : DskU d, Am [cell p 101 #[.int .i64 d.room, .int .i64 (D2 d.fuse), .bool true, x.pv, x.sm, .map none], Aj 106 5 encO x.pv x.W, BW x.W, Az x.sm d.syn] rs := fun rs ⟨x, hx⟩ => by
 rw [h] at hx
 obtain ⟨e, h1⟩ := Sz hx
 rw [e] at h1
 exact ⟨x, h1⟩
theorem LY {os : List Ass} (x : DskU d) (h : d.down = true) (hs : x.sh = .map none) : ∀ rs, Am ([cell p 101 #[.int .i64 d.room, .int .i64 (D2 d.fuse), .bool true, x.pv, x.sm, .map none], Aj 106 5 encO x.pv x.W, BW x.W, Az x.sm d.syn] ++ os) rs → ∃ z, rs.Perm z ∧ Am ([Ag p d] ++ os) z := fun rs hr => by
 obtain ⟨a, b, e, h1, h2⟩ := Am.split hr
 subst e
 refine ⟨a ++ b, .refl _, Am.app (Am.one ⟨x, ?_⟩) h2⟩
 rw [h]
 exact SA hs (by rw [hs]; exact h1)
theorem Gx {os : List Ass} (x : DskU d) (h : d.down = false) : ∀ rs, Am ([cell p 101 #[.int .i64 d.room, .int .i64 (D2 d.fuse), .bool false, x.pv, x.sm, x.sh], Aj 106 5 encO x.pv x.W, BW x.W, Az x.sm d.syn, Az x.sh x.g] ++ os) rs → ∃ z, rs.Perm z ∧ Am ([Ag p d] ++ os) z := fun rs hr => by
 obtain ⟨a, b, e, h1, h2⟩ := Am.split hr
 subst e
 refine ⟨a ++ b, .refl _, Am.app (Am.one ⟨x, ?_⟩) h2⟩
 rw [h]
 exact h1
end
theorem LZ {α : Type} {L : List α} {i : Nat} {b : α} (h : L[i]? = some b) : L.take i ++ [b] = L.take (i + 1) := by
 have hlt := (List.getElem?_eq_some_iff.1 h).1
 have hx := (List.getElem?_eq_some_iff.1 h).2
 rw [← hx, List.take_succ_eq_append_getElem hlt]
structure DskL (d : DiskD) where
  pv : Value
  sm : Value
  sh : Value
  W : List OpV
  L : FilL
  hW : EJ W = d.wait
  hg : (Cs L).Perm d.now
  hok : Ha d.syn d.wait
  hf : ∀ n, d.fuse = some n → n ≤ 9223372036854775807
  hr : 0 ≤ d.room ∧ d.room ≤ 1048576
  hk : DC d.syn
section
variable {p : Nat} {d : DiskD}
theorem Eh (h : d.down = false) : ∀ rs, Ag p d rs → ∃ y : DskL d, Am [cell p 101 #[.int .i64 d.room, .int .i64 (D2 d.fuse), .bool false, y.pv, y.sm, y.sh], Aj 106 5 encO y.pv y.W, BW y.W, Az y.sm d.syn, BF encKey AI y.sh y.L, Bx y.L] rs := fun rs hr => by
 obtain ⟨x, a1, _, rfl, h1, a2, _, rfl, h2, a3, _, rfl, h3, a4, _, rfl, h4, a5, _, rfl, ⟨L, hL, h5⟩, rfl⟩ := It h rs hr
 refine ⟨⟨x.pv, x.sm, x.sh, x.W, L, x.hW, hL ▸ x.hg h, x.hok, x.hf, x.hr, x.hk⟩, a1, _, rfl, h1, a2, _, rfl, h2, a3, _, rfl, h3, a4, a5, by simp, h4, h5⟩
theorem Xa (x : DskU d) (h : d.down = false) : ∀ rs, Am [cell p 101 #[.int .i64 d.room, .int .i64 (D2 d.fuse), .bool false, x.pv, x.sm, x.sh], Aj 106 5 encO x.pv x.W, BW x.W, Az x.sm d.syn, Az x.sh x.g] rs → Ag p d rs := fun rs hr => ⟨x, by rw [h]; exact hr⟩
theorem JI (y : DskL d) (h : d.down = false) : ∀ rs, Am [cell p 101 #[.int .i64 d.room, .int .i64 (D2 d.fuse), .bool false, y.pv, y.sm, y.sh], Aj 106 5 encO y.pv y.W, BW y.W, Az y.sm d.syn, BF encKey AI y.sh y.L, Bx y.L] rs → Ag p d rs := fun rs hr => by
 obtain ⟨a1, _, rfl, h1, a2, _, rfl, h2, a3, _, rfl, h3, a4, a5, rfl, h4, h5⟩ := hr
 exact Xa ⟨y.pv, y.sm, y.sh, y.W, Cs y.L, y.hW, fun _ => y.hg, y.hok, y.hf, y.hr, y.hk⟩ h _ ⟨a1, _, rfl, h1, a2, _, rfl, h2, a3, _, rfl, h3, a4, a5, rfl, h4, Am.one ⟨y.L, rfl, h5⟩⟩
theorem DI {os : List Ass} (y : DskL d) (h : d.down = false) : ∀ rs, Am ([cell p 101 #[.int .i64 d.room, .int .i64 (D2 d.fuse), .bool false, y.pv, y.sm, y.sh], Aj 106 5 encO y.pv y.W, BW y.W, Az y.sm d.syn, BF encKey AI y.sh y.L, Bx y.L] ++ os) rs → ∃ z, rs.Perm z ∧ Am ([Ag p d] ++ os) z := fun rs hr => by
 obtain ⟨a, b, e, h1, h2⟩ := Am.split hr
 subst e
 exact ⟨a ++ b, .refl _, Am.app (Am.one (JI y h _ h1)) h2⟩
end
theorem T9 {d : DiskD} {L : FilL} (hp : (Cs L).Perm d.now) (hn : (AW (Cs L)).Nodup) (n y : List UInt8) : IL d n y = (decide ((AT (Cs L) : Int) + (y.length : Int) ≤ d.room) && !((Bw L n).isNone && decide (64 ≤ L.length))) := by
 unfold IL
 rw [← E2 hp, ← FY hp hn, ← hp.length_eq, EI]
 have h1 : (Cs L).length = L.length := by simp [Cs]
 rw [h1]
 cases Bw L n <;> rfl
theorem SB {d : DiskD} {L : FilL} {n y : List UInt8} (hp : (Cs L).Perm d.now) (hn : (AW (Cs L)).Nodup) (h : IL d n y = false) : (d.room < (AT (Cs L) : Int) + (y.length : Int) ∧ Bw L n = none) ∨ (d.room < (AT (Cs L) : Int) + (y.length : Int) ∧ ∃ r, Bw L n = some r) ∨ ((AT (Cs L) : Int) + (y.length : Int) ≤ d.room ∧ Bw L n = none ∧ 64 ≤ L.length) := by
  rw [T9 hp hn] at h
  by_cases h1 : (AT (Cs L) : Int) + (y.length : Int) ≤ d.room
  · right; right
    cases h2 : Bw L n with
    | none => rw [h2] at h; simp [h1] at h; exact ⟨h1, rfl, h⟩
    | some r => rw [h2] at h; simp [h1] at h
  · cases h2 : Bw L n with
    | none => exact .inl ⟨by omega, rfl⟩
    | some r => exact .inr (.inl ⟨by omega, r, rfl⟩)
theorem VI {d : DiskD} {L : FilL} {n y : List UInt8} (hp : (Cs L).Perm d.now) (hn : (AW (Cs L)).Nodup) (h : IL d n y = true) : (AT (Cs L) : Int) + (y.length : Int) ≤ d.room ∧ ((∃ r, Bw L n = some r) ∨ (Bw L n = none ∧ L.length < 64)) := by
  rw [T9 hp hn, Bool.and_eq_true, decide_eq_true_eq] at h
  refine ⟨h.1, ?_⟩
  cases h2 : Bw L n with
  | none => right; have := h.2; rw [h2] at this; simp at this; exact ⟨rfl, this⟩
  | some r => exact .inl ⟨r, rfl⟩
theorem I4 {d : DiskD} {L : FilL} (hp : (Cs L).Perm d.now) (hn : (AW (Cs L)).Nodup) (n : List UInt8) : Bw d.now n = (Bw L n).map (·.2) := by rw [← FY hp hn, EI]
theorem Ck {v : Value} {L : FilL} : ∀ rs, BF encKey AI v L rs → (AW (Cs L)).Nodup := fun rs h => by rw [EH]; exact BF.nodup _ h
theorem Ua {p : Nat} {room : Int} {sm sh : Value} (hr : 0 ≤ room ∧ room ≤ 1048576) : ∀ rs, Am [cell p 101 #[.int .i64 room, .int .i64 (-1), .bool false, .slice none 0 0, sm, sh], Aj 106 5 encO (.slice none 0 0) [], BW [], BF encKey AI sm [], Bx [], BF encKey AI sh [], Bx []] rs → ∃ z, rs.Perm z ∧ Am [Ag p (Hv room)] z := fun rs hx => by
 obtain ⟨a1, _, rfl, h1, a2, _, rfl, h2, a3, _, rfl, h3, a4, _, rfl, h4, a5, a6, rfl, h5, h6⟩ := hx
 refine ⟨_, .refl _, Am.one ⟨⟨.slice none 0 0, sm, sh, [], [], rfl, fun _ => .refl _, JH, (fun n h => by cases h), hr, Sw⟩, ?_⟩⟩
 refine ⟨a1, _, rfl, h1, a2, _, rfl, h2, a3, _, rfl, h3, a4 ++ a5, a6, by simp, ⟨[], rfl, a4, a5, rfl, h4, Am.one h5⟩, Am.one ⟨[], rfl, h6⟩⟩
theorem SC {l : FilL} {j : Nat} {p : List UInt8 × PtT} (h : l[j]? = some p) : ((p.1, p.2.2) :: Cs (l.eraseIdx j)).Perm (Cs l) := by
 have hlt := (List.getElem?_eq_some_iff.1 h).1
 have hx := (List.getElem?_eq_some_iff.1 h).2
 have h1 : l = l.take j ++ p :: l.drop (j + 1) := by rw [← hx]; simp
 have h2 : (p :: l.eraseIdx j).Perm l := by
  rw [List.eraseIdx_eq_take_drop_succ]
  have h3 := (List.perm_middle (a := p) (l₁ := l.take j) (l₂ := l.drop (j + 1))).symm
  rw [← h1] at h3
  exact h3
 exact h2.map (fun p : List UInt8 × PtT => (p.1, p.2.2))
theorem Qj {done left L : FilL} {j : Nat} {p : List UInt8 × PtT} (hn : (AW (Cs L)).Nodup) (hp : (Cs done ++ Cs left).Perm (Cs L)) (hj : left[j]? = some p) : Fj p.1 done 0 = none := by
  have h1 : (AW (Cs done ++ Cs left)).Nodup := (Ep hp).nodup_iff.2 hn
  have h2 : AW (Cs done ++ Cs left) = AW done ++ AW left := by rw [← EH done, ← EH left]; unfold AW; rw [List.map_append]
  rw [h2] at h1
  cases h : Fj p.1 done 0 with
  | none => rfl
  | some q =>
    exfalso
    have h3 := (Eg h).2
    have h4 : p.1 ∈ AW done := List.mem_map.2 ⟨_, List.mem_of_getElem? h3, rfl⟩
    have h5 : p.1 ∈ AW left := List.mem_map.2 ⟨_, List.mem_of_getElem? hj, rfl⟩
    exact (List.nodup_append.1 h1).2.2 _ h4 _ h5 rfl
theorem OR {done left L : FilL} {j : Nat} {p : List UInt8 × PtT} {u : Value} (hp : (Cs done ++ Cs left).Perm (Cs L)) (hj : left[j]? = some p) (hf : Fj p.1 done 0 = none) : (Cs (BM done p.1 (u, p.2.2)) ++ Cs (left.eraseIdx j)).Perm (Cs L) := by
 have h1 : BM done p.1 (u, p.2.2) = done ++ [(p.1, (u, p.2.2))] := by unfold BM; rw [hf]
 have h2 : Cs (done ++ [(p.1, (u, p.2.2))]) = Cs done ++ [(p.1, p.2.2)] := by simp [Cs]
 rw [h1, h2, List.append_assoc]
 exact ((SC hj).append_left (Cs done)).trans hp
theorem OS {v u : Value} {f : FS} {L M : FilL} (h : f = Cs L) : ∀ rs, Am [BF encKey AI v L, Bx L, BF encKey AI u M, Bx M] rs → ∃ z, rs.Perm z ∧ Am [Az v f, Az u (Cs M)] z := fun rs hr => by
 subst h
 obtain ⟨a, r, rfl, h1, b, r2, rfl, h2, h3⟩ := hr
 exact ⟨a ++ (b ++ r2), .refl _, a ++ b, r2, by simp, ⟨L, rfl, a, b, rfl, h1, Am.one h2⟩, Am.one ⟨M, rfl, h3⟩⟩
def Gy (f : FS) (o : OpD) (torn : Int) : FS := match o with
  | .app n b => if (torn % (b.length : Int)).toNat = 0 ∨ b = [] then f else BJ f (.app n (b.take (torn % (b.length : Int)).toNat))
  | _ => f
theorem GW (d : DiskD) (keep torn : Int) : Ds d keep torn = match d.wait[Dr d keep]? with
  | some o => Gy ((d.wait.take (Dr d keep)).foldl BJ d.syn) o torn
  | none => (d.wait.take (Dr d keep)).foldl BJ d.syn := by
  unfold Ds Gy
  cases d.wait[Dr d keep]? with
  | none => rfl
  | some o => cases o <;> rfl
theorem Ub {f : FS} {o : OpD} {torn : Int} (h : o.data = []) : Gy f o torn = f := by
  cases o with
  | app n b => unfold Gy; simp only; rw [if_pos (.inr h)]
  | cut n s => rfl
  | ren a b => rfl
  | del n => rfl
theorem SD {l : List OpD} {i : Nat} {o : OpD} (h : l[i]? = some o) (f : FS) : (l.take (i + 1)).foldl BJ f = BJ ((l.take i).foldl BJ f) o := by
 rw [← LZ h, List.foldl_append]; rfl
theorem JJ {l : List OpD} {i : Nat} {o : OpD} {f : FS} {N : Nat} (hn : (AW f).Nodup) (hok : Ha f l) (h : l[i]? = some o) (hs : AT f + (l.map OpD.size).sum ≤ N) : AT ((l.take i).foldl BJ f) + o.size ≤ N := by
 have h1 := Gf (l.take i) hn (Gw i hok)
 have h2 : ((l.take (i + 1)).map OpD.size).sum = ((l.take i).map OpD.size).sum + o.size := by rw [← LZ h]; simp
 have h3 := Kj l (i + 1)
 omega
theorem Qk {f : FS} {o : OpD} {torn : Int} (hf : (AW f).Nodup) (h : DC f) (ho : Vh f o) : DC (Gy f o torn) := by
  cases o with
  | app n b =>
    unfold Gy
    simp only
    split
    · exact h
    · exact Is hf h ho
  | cut n s => exact h
  | ren a b => exact h
  | del n => exact h
theorem L4 {d : DiskD} {keep torn : Int} (hn : (AW d.syn).Nodup) (h : DC d.syn) (ho : Ha d.syn d.wait) : DC (Ds d keep torn) := by
  rw [GW]
  have h1 := Ki _ hn h (Gw (Dr d keep) ho)
  cases hw : d.wait[Dr d keep]? with
  | none => exact h1
  | some o => exact Qk (Iq _ hn) h1 (NI ho hw)
theorem NK {d : DiskD} (h : d.fit) (hn : (AW d.syn).Nodup) (ho : Ha d.syn d.wait) : AT d.now ≤ 1099511627776 := Nat.le_trans (Gf d.wait hn ho) h.1
theorem M7 {d : DiskD} (hn : (AW d.syn).Nodup) (h : DC d.syn) (ho : Ha d.syn d.wait) : DC d.now := Ki d.wait hn h ho
theorem SE {d : DiskD} (hn : (AW d.syn).Nodup) : (AW d.now).Nodup := Iq d.wait hn
theorem NL {d : DiskD} (x : DskU d) : x.W.length = d.wait.length := by rw [← x.hW]; simp [EJ]
theorem NM {a m : Int} (hm : 0 < m) : a % m = if a.tmod m < 0 then a.tmod m + m else a.tmod m := by
  by_cases ha : 0 ≤ a
  · have h1 : a.tmod m = a % m := Int.tmod_eq_emod_of_nonneg ha
    have := Int.emod_nonneg a (show m ≠ 0 by omega)
    rw [h1, if_neg (by omega)]
  · have h1 := Int.tmod_eq_emod (a := a) (b := m)
    have h3 := Int.emod_nonneg a (show m ≠ 0 by omega)
    have h4 := Int.emod_lt_of_pos a hm
    by_cases hd : m ∣ a
    · have h5 : a % m = 0 := Int.emod_eq_zero_of_dvd hd
      have h6 : a.tmod m = 0 := by rw [h1, if_pos (.inr hd), h5]; simp
      rw [h5, h6]; simp
    · rw [if_neg (by simp [ha, hd])] at h1
      have h7 : (m.natAbs : Int) = m := by omega
      rw [h7] at h1
      have h8 : a % m ≠ 0 := fun e => hd (Int.dvd_of_emod_eq_zero e)
      rw [h1, if_pos (by omega)]; omega
end Go.Proofs.YtjcfimmcogkopaaGreatDoor.Sep
namespace Go.Proofs.YtjcfimmcogkopaaGreatDoor.Sep
open Go.RowKit
open Go.Proofs.YtjcfimmcogkopaaGreatDoor.Mem (Bb Ci Chg Aw)
section
variable {P : Program} {κ ν : Type} {kk : κ → Value} {vv : ν → Value} {B : Nat → Prop} {w0 w : World} {os : List Ass} {mt kt vt : TypeId} {n : Nat} {env : List (Nat × Value)} {Q : Exit → Act → World → Prop} {o : Oper} {act : Act}
theorem Uc {r : Operand} {k : IntKind} {q : Int} (ht : P.underlying mt = some (.map kt vt)) (ho : o.op = .makeMap mt (some r)) (hr : evs env r = some (.int k q)) : Bt P Q n env B w0 os o (fun g : Nat => .map (some g)) (fun g => BF kk vv (.map (some g)) [] :: os) := fun act w hH hF K hK => by
 have hrun : (execOp act.eval o).run P w = .ok (.value (.map (some w.heap.size))) (w.alloc (.map #[] 0)) := by
  unfold execOp
  simp [ho, hF.evs hr, Instr.makeMap, run_underlying ht, asInt, asIntOf, newObj, Sem.run]
 obtain ⟨rs, h1, h2⟩ := hH
 exact FN (w0 := w) act hrun (hK w.heap.size _ ⟨_, ⟨[(w.heap.size, none, Fu #[] 0)], rs, rfl, ⟨w.heap.size, #[], 0, rfl, rfl, LD⟩, h1⟩, LF h2 _ (DS.2 (heap_alloc_new w _))⟩)
end
section
variable {P : Program} {κ : Type} [DecidableEq κ] {kk : κ → Value} {w : World} {mt kt vt : TypeId} {kd : TypeDesc} {z : Value} {n : Nat} {env : List (Nat × Value)} {o : Oper} {act : Act}
theorem VJ (hT : MapTy P mt kt vt kd kk z) {x y : Operand} (ho : o.op = .lookup mt x y false) {k : κ} (hx : evs env x = some (.map none)) (hy : evs env y = some (kk k)) (hF : Fr n act env) : (execOp act.eval o).run P w = .ok (.value z) w := by
 unfold execOp
 simp only [ho, hF.evs hx, hF.evs hy, Sem.run_bind, Hq hT, Result.andThen_ok, Sem.run_pure, Bool.false_eq_true, if_false]
theorem VK (hT : MapTy P mt kt vt kd kk z) {x y : Operand} (ho : o.op = .lookup mt x y true) {k : κ} (hx : evs env x = some (.map none)) (hy : evs env y = some (kk k)) (hF : Fr n act env) : (execOp act.eval o).run P w = .ok (.value (.tuple #[z, .bool false])) w := by
 unfold execOp
 simp only [ho, hF.evs hx, hF.evs hy, Sem.run_bind, Hq hT, Result.andThen_ok, Sem.run_pure, if_true]
end
end Go.Proofs.YtjcfimmcogkopaaGreatDoor.Sep
namespace Go.Proofs.YtjcfimmcogkopaaGreatDoor.Sep
open Go.RowKit
open Go.Proofs.YtjcfimmcogkopaaGreatDoor.Mem (Bb Ci Chg Aw)
def flK : List ((Nat × Nat) × Nat) := flS
theorem Aq : Og Tryz.prog flK := Ak
end Go.Proofs.YtjcfimmcogkopaaGreatDoor.Sep
namespace Go.Proofs.YtjcfimmcogkopaaGreatDoor.Sep
open Go.RowKit
open Go.Proofs.YtjcfimmcogkopaaGreatDoor.Mem (Bb Ci Chg Aw)
theorem Ql (w : World) (room : Int) (h : 0 ≤ room ∧ room ≤ 1048576) : Calls Tryz.prog 65 #[.int .i64 room] w fun e w' => e = .returned (.bool true) ∧ Below w.heap.size w w' := by
 refine Gi (args := [.int .i64 room]) 9 Tryz.func65 rfl rfl rfl (Ad (Af Ak rfl (Ab (Ad (Af Ak rfl (Aa rfl (.bool true) (fun b w hb hH => A5 rfl rfl rfl (Cb (by omega)) hb) (Af Ak rfl (Aa rfl (.bool true) (fun b w hb hH => A5 rfl rfl rfl (CA (by omega)) hb) (Af Ak rfl (Ab (AB ?_)))))))))))
 exact AA (.tmp rfl) (fun w h => ⟨rfl, Aw h.up⟩) rfl
theorem Il (n : List UInt8) : D9 n = true ↔ 1 ≤ n.length ∧ n.length ≤ 16 := by simp [D9]
theorem Ud (n : List UInt8) : D9 n = false ↔ ¬ (1 ≤ n.length ∧ n.length ≤ 16) := by rw [← Il]; simp
theorem L5 (w : World) (n : List UInt8) (h : D9 n = true) : Calls Tryz.prog 74 #[.string (bs n)] w fun e w' => e = .returned (.bool true) ∧ Below w.heap.size w w' := by
 have h := (Il n).1 h
 refine Gi (args := [.string (bs n)]) 11 Tryz.func74 rfl rfl rfl (Ad (Af Ak rfl (Ab (Ad (Af Ak rfl (Aa rfl (.int .i64 (n.length : Int)) (fun b w hb hH => CH rfl rfl (fun cs => (fun w cs => EV Tryz.underlying9 _ _ w cs) w cs) hb) (Aa rfl (.bool true) (fun b w hb hH => A5 rfl rfl rfl (Cb (by omega)) hb) (Af Ak rfl (Aa rfl (.int .i64 (n.length : Int)) (fun b w hb hH => CH rfl rfl (fun cs => (fun w cs => EV Tryz.underlying9 _ _ w cs) w cs) hb) (Aa rfl (.bool true) (fun b w hb hH => A5 rfl rfl rfl (CA (by omega)) hb) ?_))))))))))
 refine Af Ak rfl (Ab (AB ?_))
 exact AA (.tmp rfl) (fun w h => ⟨rfl, Aw h.up⟩) rfl
theorem Qm (w : World) (n : List UInt8) (h : D9 n = false) : Calls Tryz.prog 74 #[.string (bs n)] w fun e w' => e = .returned (.bool false) ∧ Below w.heap.size w w' := by
 have h := (Ud n).1 h
 refine Gi (args := [.string (bs n)]) 11 Tryz.func74 rfl rfl rfl (Ad (Af Ak rfl (Ab ?_)))
 rcases Nat.lt_or_ge n.length 1 with h0 | h0
 refine Ad (Af Ak rfl (Aa rfl (.int .i64 (n.length : Int)) (fun b w hb hH => CH rfl rfl (fun cs => (fun w cs => EV Tryz.underlying9 _ _ w cs) w cs) hb) (Aa rfl (.bool false) (fun b w hb hH => A5 rfl rfl rfl (De (by omega)) hb) (Af Ak rfl (Ab (AB ?_))))))
 exact AA (.tmp rfl) (fun w h => ⟨rfl, Aw h.up⟩) rfl
 refine Ad (Af Ak rfl (Aa rfl (.int .i64 (n.length : Int)) (fun b w hb hH => CH rfl rfl (fun cs => (fun w cs => EV Tryz.underlying9 _ _ w cs) w cs) hb) (Aa rfl (.bool true) (fun b w hb hH => A5 rfl rfl rfl (Cb (by omega)) hb) (Af Ak rfl (Aa rfl (.int .i64 (n.length : Int)) (fun b w hb hH => CH rfl rfl (fun cs => (fun w cs => EV Tryz.underlying9 _ _ w cs) w cs) hb) (Aa rfl (.bool false) (fun b w hb hH => A5 rfl rfl rfl (Gq (by omega)) hb) (Af Ak rfl (Ab (AB ?_)))))))))
 exact AA (.tmp rfl) (fun w h => ⟨rfl, Aw h.up⟩) rfl
theorem L6 (w : World) (a m r : Int) (hm : 0 < m) (h1 : m ≤ 9223372036854775807) (hr : a % m = r) : Calls Tryz.prog 54 #[.int .i64 a, .int .i64 m] w fun e w' => e = .returned (.int .i64 r) ∧ Below w.heap.size w w' := by
 have he := NM (a := a) hm
 have h2 := Int.emod_nonneg a (show m ≠ 0 by omega)
 have h3 := Int.emod_lt_of_pos a hm
 obtain ⟨t, ht⟩ : ∃ t, a.tmod m = t := ⟨_, rfl⟩
 rw [ht, hr] at he
 rw [hr] at h2 h3
 refine Gi (args := [.int .i64 a, .int .i64 m]) 14 Tryz.func54 rfl rfl rfl (Ad (Af Ak rfl (Ab (Ad (Af Ak rfl (Aa rfl (.int .i64 t) (fun b w hb hH => Gu rfl rfl rfl (by omega) ht hb) (Af Ak rfl (Ab (Ar ?_)))))))))
 rcases Int.lt_or_le t 0 with h0 | h0
 rw [if_pos h0] at he
 refine Ad (Af Ak rfl (Aa rfl (.bool true) (fun b w hb hH => A5 rfl rfl rfl (BY (by omega)) hb) (Ab (AE rfl (BB (Af Ak rfl (Aa rfl (.int .i64 r) (fun b w hb hH => AJ rfl rfl rfl rfl (by rw [IntWalk.i64_in _ (by omega)]; omega) hb) (Af Ak rfl (AG (AC (Ad (Af Ak rfl (Ab (AB ?_))))))))))))))
 exact AA (.tmp rfl) (fun w h => ⟨rfl, Aw h.up⟩) rfl
 rw [if_neg (by omega)] at he
 subst he
 refine Ad (Af Ak rfl (Aa rfl (.bool false) (fun b w hb hH => A5 rfl rfl rfl (BI (by omega)) hb) (Ab (Au rfl (Av (AC (Ad (Af Ak rfl (Ab (AB ?_))))))))))
 exact AA (.tmp rfl) (fun w h => ⟨rfl, Aw h.up⟩) rfl
theorem G4 (v : Value) (l : FilL) (n : List UInt8) (r : Option PtT) (h : Bw l n = r) : AV Tryz.prog 75 #[v, .string (bs n)] [BF encKey AI v l] (fun (_ : Unit) => .bool r.isSome) (fun (_ : Unit) => [BF encKey AI v l]) := by
 refine Bo (args := [v, .string (bs n)]) 14 Tryz.func75 rfl rfl rfl ?_; intro w rs
 refine Ad (Af Aq rfl (Ab (Ad (Af Aq rfl (Aa rfl (.tuple #[((r).map AI).getD (.slice none 0 0), .bool ((r).isSome)]) (fun b w hb hH => W5 0 Dx rfl (k := n) (r := r) h rfl rfl rfl hH hb) (Af Aq rfl (Ab (Ad (Af Aq rfl (Ab (AB ?_)))))))))))
 exact AA (.tmp rfl) (fun w h => AH () rfl [0] rfl h El) rfl
theorem VL (n : List UInt8) : AV Tryz.prog 75 #[.map none, .string (bs n)] [] (fun (_ : Unit) => .bool false) (fun (_ : Unit) => []) := by
 refine Bo (args := [.map none, .string (bs n)]) 14 Tryz.func75 rfl rfl rfl ?_; intro w rs
 refine Ad (Af Aq rfl (Ab (Ad (Af Aq rfl (Aa rfl (.tuple #[.slice none 0 0, .bool false]) (fun b w hb hH => VK Dx rfl (k := n) rfl rfl hb) (Af Aq rfl (Ab (Ad (Af Aq rfl (Ab (AB ?_)))))))))))
 exact AA (.tmp rfl) (fun w h => AH () rfl [] rfl h El) rfl
theorem L7 (p : Nat) (r1 r2 r3 sm fm pv : Value) (l : FilL) (hl : AT (Cs l) ≤ 1099511627776) : AV Tryz.prog 76 #[.pointer (some ⟨p, 0, none⟩)] [cell p 101 #[r1, r2, r3, pv, sm, fm], BF encKey AI fm l, Bx l] (fun (_ : Unit) => .int .i64 ((AT (Cs l) : Nat) : Int)) (fun (_ : Unit) => [cell p 101 #[r1, r2, r3, pv, sm, fm], BF encKey AI fm l, Bx l]) := by
 refine Bo (args := [.pointer (some ⟨p, 0, none⟩)]) 20 Tryz.func76 rfl rfl rfl ?_; intro w rs
 refine Ad (Af Aq rfl (Ab (Ad (Af Aq rfl (Ab (Ar (Ad (Af Aq rfl (Aa rfl (.pointer (some ⟨p, 0, none⟩)) (fun b w hb hH => by exact B4 rfl rfl hb) (Af Aq rfl (Aa rfl (fm) (fun b w hb hH => Ba rfl rfl (Bl AO rfl) (hH.row 0 rfl) hb) (Al (post := fun g1 => [cell p 101 #[r1, r2, r3, pv, sm, fm], Hs encKey AI fm (.pointer (some ⟨g1, 0, none⟩)) l l none, Bx l]) rfl (Rh 1 Tryz.underlying99 rfl rfl rfl) ?_)))))))))))); rintro g1
 refine Ab (AK (CC (α := Nat × FilL × Option (List UInt8 × PtT)) (fun ⟨n, left, cur⟩ => [(2, .int .i64 0), (3, .int .i64 ((n : Nat) : Int)), (10, .pointer (some ⟨g1, 0, none⟩))]) (fun ⟨n, left, cur⟩ => [cell p 101 #[r1, r2, r3, pv, sm, fm], Hs encKey AI fm (.pointer (some ⟨g1, 0, none⟩)) l left cur, Bx l]) (fun ⟨n, left, cur⟩ => n + AT (Cs left) = AT (Cs l) ∧ ∀ p, p ∈ left → p ∈ l) (fun ⟨n, left, cur⟩ => left.length) (0, l, none) ⟨Nat.zero_add _, fun _ h => h⟩ ⟨rfl, rfl, rfl, trivial⟩ rfl ?_))
 rintro ⟨n, left, cur⟩ hI
 refine AL.at_ (env' := [(2, .int .i64 0), (3, .int .i64 ((n : Nat) : Int)), (10, .pointer (some ⟨g1, 0, none⟩))]) (rs' := [cell p 101 #[r1, r2, r3, pv, sm, fm], Hs encKey AI fm (.pointer (some ⟨g1, 0, none⟩)) l left cur, Bx l]) ⟨rfl, rfl, rfl, trivial⟩ rfl ?_
 have hI1 : n + AT (Cs left) = AT (Cs l) := hI.1
 rcases Classical.em (left = []) with hc | hc
 have hn : n = AT (Cs l) := by rw [hc] at hI1; simpa [Cs, AT] using hI1
 refine Ad (Af Aq rfl (Aa rfl (.tuple #[.bool false]) (fun b w hb hH => Ri 1 rfl hc rfl rfl hH hb) (Af Aq rfl (Ab (Ar (Au rfl (CJ (Fq (Fq (Bg (AC (AX 1 rfl MR (fun _ => rfl) ?_)))))))))))); rintro ⟨⟩
 refine AL.leave [1] rfl rfl (Ad (Af Aq rfl (Ab (AB ?_))))
 exact AA (.tmp rfl) (fun w h => AH () (by rw [hn]) [1, 0, 2] rfl h El) rfl
 refine Ad (Af Aq rfl (Al (post := fun q : { q : Nat × List UInt8 × PtT // (left)[q.1]? = some q.2 } => [cell p 101 #[r1, r2, r3, pv, sm, fm], Hs encKey AI fm (.pointer (some ⟨g1, 0, none⟩)) l (left.eraseIdx q.1.1) (some (q.1.2.1, q.1.2.2)), Bx l]) rfl (Rj 1 rfl hc rfl rfl) ?_)); rintro q
 refine Af Aq rfl (Ab (Ar (AE rfl (Av (AC (AK ?_))))))
 have hqm : q.1.2 ∈ l := hI.2 _ (List.mem_of_getElem? q.2)
 have hqu : AT (Cs (left.eraseIdx q.1.1)) + q.1.2.2.2.length = AT (Cs left) := P5 q.2
 refine Ad (Af Aq rfl (Aa rfl (.tuple #[.string (bs q.1.2.1), q.1.2.2.1]) (fun b w hb hH => Rk 1 rfl rfl rfl hH hb) (Af Aq rfl (Ab (BB (Af Aq rfl (Aa rfl (.int .i64 (q.1.2.2.2.length : Int)) (fun b w hb hH => Be ((hH.rd8 2 rfl (JE hqm)).rd) Tryz.underlying49 rfl rfl hb) (Aa rfl (.int .i64 ((n + q.1.2.2.2.length : Nat) : Int)) (fun b w hb hH => AJ rfl rfl rfl rfl (by rw [IntWalk.i64_in _ (by omega)]; omega) hb) (Af Aq rfl (AG (A6 ?_)))))))))))
 exact B6 (n + q.1.2.2.2.length, left.eraseIdx q.1.1, some (q.1.2.1, q.1.2.2)) 0 ⟨by omega, fun p hp => hI.2 p (List.mem_of_mem_eraseIdx hp)⟩ (show (left.eraseIdx q.1.1).length < left.length from LT q.2) ⟨rfl, rfl, rfl, trivial⟩ rfl
end Go.Proofs.YtjcfimmcogkopaaGreatDoor.Sep
namespace Go.Proofs.YtjcfimmcogkopaaGreatDoor.Sep
open Go.RowKit
open Go.Proofs.YtjcfimmcogkopaaGreatDoor.Mem (Bb Ci Chg Aw)
theorem Ue {X : Ass} {v : Value} {f f' : FS} {n b : List UInt8} {A : Option Addr} {c : Nat} (hX : EN X (.slice A b.length c) b) (hl : AT f + b.length ≤ 4398046511104) (h : BJ f (.app n b) = f') : AV Tryz.prog 106 #[v, .agg #[.int .i64 0, .string (bs n), .slice A b.length c, .int .i64 0, .string (bs ([]))]] [Az v f, X] (fun (_ : Unit) => .tuple #[]) (fun (_ : Unit) => [Az v f', X]) := by
  have h_ := h
  refine Bo (args := [v, .agg #[.int .i64 0, .string (bs n), .slice A b.length c, .int .i64 0, .string (bs ([]))]]) 49 Tryz.func106 rfl rfl rfl ?_; intro w rs
  refine AL.fact 0 rfl BO ?_; rintro hnd
  refine AX 0 rfl F3 (fun _ => rfl) ?_; rintro ⟨L, hL⟩
  subst hL
  refine Ad (Af Aq rfl (Al (post := fun g1 => [cell g1 106 #[.int .i64 0, .string (bs n), .slice A b.length c, .int .i64 0, .string (bs ([]))], BF encKey AI v L, Bx L, X]) rfl (CW (cs := #[.int .i64 0, .string (bs n), .slice A b.length c, .int .i64 0, .string (bs ([]))]) rfl rfl rfl) ?_)); rintro g1
  refine Ab (Ad (Af Aq rfl (Aa rfl (.int .i64 0) (fun b w hb hH => Ba rfl rfl (Bl Fy rfl) (hH.row 0 rfl) hb) (Ab (AK (Ad (Af Aq rfl (Aa rfl (.bool true) (fun b w hb hH => A5 rfl rfl rfl (Fw (by decide)) hb) (Af Aq rfl (Ab (AE rfl ?_)))))))))))
  rcases hq : Fj n L 0 with _ | q
  refine BK 5 1 encB ?_
  refine BV 10 1 [⟨.quiet, [none], fun _ => v, []⟩, ⟨.quiet, [none], fun _ => .pointer (some ⟨g1, 1, none⟩), []⟩, ⟨.quiet, [none], fun _ => .string (bs n), [1]⟩, ⟨.quiet, [none], fun _ => v, []⟩, ⟨.quiet, [none], fun _ => .pointer (some ⟨g1, 1, none⟩), []⟩, ⟨.quiet, [none], fun _ => .string (bs n), [4]⟩, ⟨.quiet, [none], fun _ => .slice none 0 0, [3, 5]⟩, ⟨.quiet, [none], fun _ => .pointer (some ⟨g1, 2, none⟩), []⟩, ⟨.quiet, [none], fun _ => .slice A b.length c, [7]⟩, ⟨.act 0, [some false], fun _ => undef, [6, 8]⟩] [(0, v), (3, .pointer (some ⟨g1, 0, none⟩))] (fun ρ => match ρ with | [r0] => [DT r0 (fun u => Aj 5 1 encB u b) (Aj 5 1 encB (.slice none 0 0) ([])), cell g1 106 #[.int .i64 0, .string (bs n), .slice A b.length c, .int .i64 0, .string (bs ([]))], BF encKey AI v L, Bx L, X] | _ => []) (by kernel_rfl) (by kernel_rfl) ⟨rfl, rfl, trivial⟩ rfl ?_ ?_
  refine Ac (by intro r0_; exact ⟨rfl, fun b w hH hb => Ah Aq rfl hb⟩) (Ac (by intro r0_; exact ⟨rfl, fun b w hH hb => Ah Aq rfl hb⟩) (Ac (by intro r0_; exact ⟨rfl, fun b w hH hb => Ba rfl rfl (Bl CR rfl) (hH.row 1 rfl) hb⟩) (Ac (by intro r0_; exact ⟨rfl, fun b w hH hb => Ah Aq rfl hb⟩) (Ac (by intro r0_; exact ⟨rfl, fun b w hH hb => Ah Aq rfl hb⟩) (Ac (by intro r0_; exact ⟨rfl, fun b w hH hb => Ba rfl rfl (Bl CR rfl) (hH.row 1 rfl) hb⟩) (Ac (by intro r0_; exact ⟨rfl, fun b w hH hb => Hr 2 Dx rfl (k := n) (r := none) (OQ hq) rfl rfl rfl hH hb⟩) (Ac (by intro r0_; exact ⟨rfl, fun b w hH hb => Ah Aq rfl hb⟩) (Ac (by intro r0_; exact ⟨rfl, fun b w hH hb => Ba rfl rfl (Bl CI rfl) (hH.row 1 rfl) hb⟩) (Ac (by exact ⟨rfl, Bt.s (FE 0 Bh (by kernel_rfl) rfl (b) (fun w hH => hH.rd 4 rfl hX.rd) (by simp only [List.length_nil]; omega) rfl rfl rfl (List.nil_append _)) (fun _ => rfl)⟩) ?_)))))))))
  exact B9
  intro u
  refine BU.keep (env' := [(9, v), (11, .string (bs n)), (18, u)]) ⟨rfl, rfl, rfl, trivial⟩ (Af Aq rfl (AR (post := fun _ => [Aj 5 1 encB u b, cell g1 106 #[.int .i64 0, .string (bs n), .slice A b.length c, .int .i64 0, .string (bs ([]))], BF encKey AI v (BM L n (u, b)), Bx L, X]) rfl rfl (J8 2 Dx rfl n (u, b) rfl rfl rfl rfl rfl rfl) ?_)); rintro ⟨⟩
  refine AG (A6 ?_)
  exact D5  (fun w h => AH () rfl [2, 3, 0, 4] rfl h (M5 hq (h_.symm.trans (T7 hq)))) rfl
  refine AX 2 rfl (HW hq) (fun _ => rfl) ?_; rintro ⟨⟩
  have hle : q.2.2.length ≤ AT (Cs L) := LX hnd (by rw [EI, F4 hq]; rfl)
  refine BV 10 1 [⟨.quiet, [none], fun _ => v, []⟩, ⟨.quiet, [none], fun _ => .pointer (some ⟨g1, 1, none⟩), []⟩, ⟨.quiet, [none], fun _ => .string (bs n), [1]⟩, ⟨.quiet, [none], fun _ => v, []⟩, ⟨.quiet, [none], fun _ => .pointer (some ⟨g1, 1, none⟩), []⟩, ⟨.quiet, [none], fun _ => .string (bs n), [4]⟩, ⟨.quiet, [none], fun _ => q.2.1, [3, 5]⟩, ⟨.quiet, [none], fun _ => .pointer (some ⟨g1, 2, none⟩), []⟩, ⟨.quiet, [none], fun _ => .slice A b.length c, [7]⟩, ⟨.act 0, [some false], fun _ => undef, [6, 8]⟩] [(0, v), (3, .pointer (some ⟨g1, 0, none⟩))] (fun ρ => match ρ with | [r0] => [Bx (L.take q.1), DT r0 (fun u => Aj 5 1 encB u (q.2.2 ++ b)) (Aj 5 1 encB q.2.1 q.2.2), Bx (L.drop (q.1 + 1)), cell g1 106 #[.int .i64 0, .string (bs n), .slice A b.length c, .int .i64 0, .string (bs ([]))], BF encKey AI v L, X] | _ => []) (by kernel_rfl) (by kernel_rfl) ⟨rfl, rfl, trivial⟩ rfl ?_ ?_
  refine Ac (by intro r0_; exact ⟨rfl, fun b w hH hb => Ah Aq rfl hb⟩) (Ac (by intro r0_; exact ⟨rfl, fun b w hH hb => Ah Aq rfl hb⟩) (Ac (by intro r0_; exact ⟨rfl, fun b w hH hb => Ba rfl rfl (Bl CR rfl) (hH.row 3 rfl) hb⟩) (Ac (by intro r0_; exact ⟨rfl, fun b w hH hb => Ah Aq rfl hb⟩) (Ac (by intro r0_; exact ⟨rfl, fun b w hH hb => Ah Aq rfl hb⟩) (Ac (by intro r0_; exact ⟨rfl, fun b w hH hb => Ba rfl rfl (Bl CR rfl) (hH.row 3 rfl) hb⟩) (Ac (by intro r0_; exact ⟨rfl, fun b w hH hb => Hr 4 Dx rfl (k := n) (r := some q.2) (F4 hq) rfl rfl rfl hH hb⟩) (Ac (by intro r0_; exact ⟨rfl, fun b w hH hb => Ah Aq rfl hb⟩) (Ac (by intro r0_; exact ⟨rfl, fun b w hH hb => Ba rfl rfl (Bl CI rfl) (hH.row 3 rfl) hb⟩) (Ac (by exact ⟨rfl, Bt.s (FE 1 Bh (by kernel_rfl) rfl (b) (fun w hH => hH.rd 5 rfl hX.rd) (by omega) rfl rfl rfl rfl) (fun _ => rfl)⟩) ?_)))))))))
  exact B9
  intro u
  refine BU.keep (env' := [(9, v), (11, .string (bs n)), (18, u)]) ⟨rfl, rfl, rfl, trivial⟩ (Af Aq rfl (AR (post := fun _ => [Bx (L.take q.1), Aj 5 1 encB u (q.2.2 ++ b), Bx (L.drop (q.1 + 1)), cell g1 106 #[.int .i64 0, .string (bs n), .slice A b.length c, .int .i64 0, .string (bs ([]))], BF encKey AI v (BM L n (u, q.2.2 ++ b)), X]) rfl rfl (J8 4 Dx rfl n (u, q.2.2 ++ b) rfl rfl rfl rfl rfl rfl) ?_)); rintro ⟨⟩
  refine AG (A6 ?_)
  exact D5  (fun w h => AH () rfl [4, 0, 1, 2, 5] rfl h (Kk hq (h_.symm.trans (T8 hq)))) rfl
theorem Xb {X : Ass} {v : Value} {f f' : FS} {n : List UInt8} {A : Option Addr} {c : Nat} (h : BJ f (.del n) = f') : AV Tryz.prog 106 #[v, .agg #[.int .i64 3, .string (bs n), .slice A 0 c, .int .i64 0, .string (bs ([]))]] [Az v f, X] (fun (_ : Unit) => .tuple #[]) (fun (_ : Unit) => [Az v f', X]) := by
 have h_ := h
 refine Bo (args := [v, .agg #[.int .i64 3, .string (bs n), .slice A 0 c, .int .i64 0, .string (bs ([]))]]) 49 Tryz.func106 rfl rfl rfl ?_; intro w rs
 refine AX 0 rfl F3 (fun _ => rfl) ?_; rintro ⟨L, hL⟩
 subst hL
 refine Ad (Af Aq rfl (Al (post := fun g1 => [cell g1 106 #[.int .i64 3, .string (bs n), .slice A 0 c, .int .i64 0, .string (bs ([]))], BF encKey AI v L, Bx L, X]) rfl (CW (cs := #[.int .i64 3, .string (bs n), .slice A 0 c, .int .i64 0, .string (bs ([]))]) rfl rfl rfl) ?_)); rintro g1
 refine Ab (Ad (Af Aq rfl (Aa rfl (.int .i64 3) (fun b w hb hH => Ba rfl rfl (Bl Fy rfl) (hH.row 0 rfl) hb) (Ab (AK (Ad (Af Aq rfl (Aa rfl (.bool false) (fun b w hb hH => A5 rfl rfl rfl (EM (by decide)) hb) (Af Aq rfl (Ab (Au rfl (Ad (Af Aq rfl (Aa rfl (.bool false) (fun b w hb hH => A5 rfl rfl rfl (EM (by decide)) hb) ?_))))))))))))))
 refine Af Aq rfl (Ab (Au rfl (Ad (Af Aq rfl (Aa rfl (.bool false) (fun b w hb hH => A5 rfl rfl rfl (EM (by decide)) hb) (Af Aq rfl (Ab (Au rfl (Ad (Af Aq rfl (Aa rfl (.bool true) (fun b w hb hH => A5 rfl rfl rfl (Fw (by decide)) hb) (Af Aq rfl (Ab (AE rfl ?_))))))))))))))
 rcases hq : Fj n L 0 with _ | q
 have h1_ := h_.symm.trans (Rx.trans (by rw [M4 hq]))
 refine BB (Af Aq rfl (Aa rfl (.string (bs n)) (fun b w hb hH => Ba rfl rfl (Bl CR rfl) (hH.row 0 rfl) hb) (AR (post := fun _ => [cell g1 106 #[.int .i64 3, .string (bs n), .slice A 0 c, .int .i64 0, .string (bs ([]))], BF encKey AI v L, Bx L, X]) rfl rfl (PY 1 Dx rfl n rfl rfl rfl (M4 hq)) ?_))); rintro ⟨⟩
 refine AG (A6 ?_)
 exact D5  (fun w h => AH () rfl [1, 2, 3] rfl h (GV h1_)) rfl
 refine AX 2 rfl (HW hq) (fun _ => rfl) ?_; rintro ⟨⟩
 refine BB (Af Aq rfl (Aa rfl (.string (bs n)) (fun b w hb hH => Ba rfl rfl (Bl CR rfl) (hH.row 3 rfl) hb) (AR (post := fun _ => [Bx (L.take q.1), Aj 5 1 encB q.2.1 q.2.2, Bx (L.drop (q.1 + 1)), cell g1 106 #[.int .i64 3, .string (bs n), .slice A 0 c, .int .i64 0, .string (bs ([]))], BF encKey AI v (CO L n), X]) rfl rfl (PY 4 Dx rfl n rfl rfl rfl rfl) ?_))); rintro ⟨⟩
 refine AG (A6 ?_)
 exact D5  (fun w h => AH () rfl [4, 0, 2, 5] rfl h (Qg hq (h_.symm.trans Rx))) rfl
theorem Xc {X : Ass} {v : Value} {f f' : FS} {n x : List UInt8} {s : Nat} {A : Option Addr} {c : Nat} (hx : Bw f n = some x) (hs : s ≤ x.length) (h : BJ f (.cut n s) = f') : AV Tryz.prog 106 #[v, .agg #[.int .i64 1, .string (bs n), .slice A 0 c, .int .i64 (s : Int), .string (bs ([]))]] [Az v f, X] (fun (_ : Unit) => .tuple #[]) (fun (_ : Unit) => [Az v f', X]) := by
 have h_ := h
 refine Bo (args := [v, .agg #[.int .i64 1, .string (bs n), .slice A 0 c, .int .i64 (s : Int), .string (bs ([]))]]) 49 Tryz.func106 rfl rfl rfl ?_; intro w rs
 refine AX 0 rfl F3 (fun _ => rfl) ?_; rintro ⟨L, hL⟩
 subst hL
 obtain ⟨q, hq, hqx⟩ := M6 hx
 subst hqx
 refine Ad (Af Aq rfl (Al (post := fun g1 => [cell g1 106 #[.int .i64 1, .string (bs n), .slice A 0 c, .int .i64 (s : Int), .string (bs ([]))], BF encKey AI v L, Bx L, X]) rfl (CW (cs := #[.int .i64 1, .string (bs n), .slice A 0 c, .int .i64 (s : Int), .string (bs ([]))]) rfl rfl rfl) ?_)); rintro g1
 refine Ab (Ad (Af Aq rfl (Aa rfl (.int .i64 1) (fun b w hb hH => Ba rfl rfl (Bl Fy rfl) (hH.row 0 rfl) hb) (Ab (AK (Ad (Af Aq rfl (Aa rfl (.bool false) (fun b w hb hH => A5 rfl rfl rfl (EM (by decide)) hb) (Af Aq rfl (Ab (Au rfl (Ad (Af Aq rfl (Aa rfl (.bool true) (fun b w hb hH => A5 rfl rfl rfl (Fw (by decide)) hb) ?_))))))))))))))
 refine Af Aq rfl (Ab (AE rfl (AX 2 rfl (HW hq) (fun _ => rfl) ?_))); rintro ⟨⟩
 refine BV 10 0 [⟨.quiet, [], fun _ => v, []⟩, ⟨.quiet, [], fun _ => .pointer (some ⟨g1, 1, none⟩), []⟩, ⟨.quiet, [], fun _ => .string (bs n), [1]⟩, ⟨.quiet, [], fun _ => v, []⟩, ⟨.quiet, [], fun _ => .pointer (some ⟨g1, 1, none⟩), []⟩, ⟨.quiet, [], fun _ => .string (bs n), [4]⟩, ⟨.quiet, [], fun _ => q.2.1, [3, 5]⟩, ⟨.quiet, [], fun _ => .pointer (some ⟨g1, 3, none⟩), []⟩, ⟨.quiet, [], fun _ => .int .i64 (s : Int), [7]⟩, ⟨.quiet, [], fun _ => Cu 1 q.2.1 0 s, [6, 8]⟩] [(0, v), (3, .pointer (some ⟨g1, 0, none⟩))] (fun _ => [Bx (L.take q.1), Aj 5 1 encB q.2.1 q.2.2, Bx (L.drop (q.1 + 1)), cell g1 106 #[.int .i64 1, .string (bs n), .slice A 0 c, .int .i64 (s : Int), .string (bs ([]))], BF encKey AI v L, X]) (by kernel_rfl) (by kernel_rfl) ⟨rfl, rfl, trivial⟩ rfl ?_ ?_
 refine Ac (by exact ⟨rfl, fun b w hH hb => Ah Aq rfl hb⟩) (Ac (by exact ⟨rfl, fun b w hH hb => Ah Aq rfl hb⟩) (Ac (by exact ⟨rfl, fun b w hH hb => Ba rfl rfl (Bl CR rfl) (hH.row 3 rfl) hb⟩) (Ac (by exact ⟨rfl, fun b w hH hb => Ah Aq rfl hb⟩) (Ac (by exact ⟨rfl, fun b w hH hb => Ah Aq rfl hb⟩) (Ac (by exact ⟨rfl, fun b w hH hb => Ba rfl rfl (Bl CR rfl) (hH.row 3 rfl) hb⟩) (Ac (by exact ⟨rfl, fun b w hH hb => Hr 4 Dx rfl (k := n) (r := some q.2) (F4 hq) rfl rfl rfl hH hb⟩) (Ac (by exact ⟨rfl, fun b w hH hb => Ah Aq rfl hb⟩) (Ac (by exact ⟨rfl, fun b w hH hb => Ba rfl rfl (Bl Br rfl) (hH.row 3 rfl) hb⟩) (Ac (by exact ⟨rfl, fun b w hH hb => MN 1 (b := s) Bh rfl hs rfl rfl rfl hH hb⟩) ?_)))))))))
 exact B9
 refine BU.keep (env' := [(21, v), (23, .string (bs n)), (30, Cu 1 q.2.1 0 s)]) ⟨rfl, rfl, rfl, trivial⟩ (Af Aq rfl (AR (post := fun _ => [Bx (L.take q.1), Aj 5 1 encB q.2.1 q.2.2, Bx (L.drop (q.1 + 1)), cell g1 106 #[.int .i64 1, .string (bs n), .slice A 0 c, .int .i64 (s : Int), .string (bs ([]))], BF encKey AI v (BM L n (Cu 1 q.2.1 0 s, q.2.2.take s)), X]) rfl rfl (J8 4 Dx rfl n (Cu 1 q.2.1 0 s, q.2.2.take s) rfl rfl rfl rfl rfl rfl) ?_)); rintro ⟨⟩
 refine AG (A6 ?_)
 exact D5  (fun w h => AH () rfl [4, 0, 1, 2, 5] rfl h (Sx hq hs (h_.symm.trans (VH hq)))) rfl
theorem Xd {X : Ass} {v : Value} {f f' : FS} {n m_ x : List UInt8} {A : Option Addr} {c : Nat} (hx : Bw f n = some x) (h : BJ f (.ren n m_) = f') : AV Tryz.prog 106 #[v, .agg #[.int .i64 2, .string (bs n), .slice A 0 c, .int .i64 0, .string (bs m_)]] [Az v f, X] (fun (_ : Unit) => .tuple #[]) (fun (_ : Unit) => [Az v f', X]) := by
 have h_ := h
 refine Bo (args := [v, .agg #[.int .i64 2, .string (bs n), .slice A 0 c, .int .i64 0, .string (bs m_)]]) 49 Tryz.func106 rfl rfl rfl ?_; intro w rs
 refine AX 0 rfl F3 (fun _ => rfl) ?_; rintro ⟨L, hL⟩
 subst hL
 obtain ⟨q, hq, hqx⟩ := M6 hx
 subst hqx
 refine Ad (Af Aq rfl (Al (post := fun g1 => [cell g1 106 #[.int .i64 2, .string (bs n), .slice A 0 c, .int .i64 0, .string (bs m_)], BF encKey AI v L, Bx L, X]) rfl (CW (cs := #[.int .i64 2, .string (bs n), .slice A 0 c, .int .i64 0, .string (bs m_)]) rfl rfl rfl) ?_)); rintro g1
 refine Ab (Ad (Af Aq rfl (Aa rfl (.int .i64 2) (fun b w hb hH => Ba rfl rfl (Bl Fy rfl) (hH.row 0 rfl) hb) (Ab (AK (Ad (Af Aq rfl (Aa rfl (.bool false) (fun b w hb hH => A5 rfl rfl rfl (EM (by decide)) hb) (Af Aq rfl (Ab (Au rfl (Ad (Af Aq rfl (Aa rfl (.bool false) (fun b w hb hH => A5 rfl rfl rfl (EM (by decide)) hb) ?_))))))))))))))
 refine Af Aq rfl (Ab (Au rfl (Ad (Af Aq rfl (Aa rfl (.bool true) (fun b w hb hH => A5 rfl rfl rfl (Fw (by decide)) hb) (Af Aq rfl (Ab (AE rfl (AX 2 rfl (HW hq) (fun _ => rfl) ?_))))))))); rintro ⟨⟩
 refine Ad (Af Aq rfl (Aa rfl (.string (bs n)) (fun b w hb hH => Ba rfl rfl (Bl CR rfl) (hH.row 3 rfl) hb) (Aa rfl (q.2.1) (fun b w hb hH => Hr 4 Dx rfl (k := n) (r := some q.2) (F4 hq) rfl rfl rfl hH hb) (Af Aq rfl (Ab (Ad (Af Aq rfl (Aa rfl (.string (bs n)) (fun b w hb hH => Ba rfl rfl (Bl CR rfl) (hH.row 3 rfl) hb) (AR (post := fun _ => [Bx (L.take q.1), Aj 5 1 encB q.2.1 q.2.2, Bx (L.drop (q.1 + 1)), cell g1 106 #[.int .i64 2, .string (bs n), .slice A 0 c, .int .i64 0, .string (bs m_)], BF encKey AI v (CO L n), X]) rfl rfl (PY 4 Dx rfl n rfl rfl rfl rfl) ?_))))))))); rintro ⟨⟩
 refine Ab (Bj [0, 2] rfl (Ry hq) rfl ?_)
 rcases hq2 : Fj m_ (CO L n) 0 with _ | q2
 refine BB (Af Aq rfl (Aa rfl (.string (bs m_)) (fun b w hb hH => Ba rfl rfl (Bl CR rfl) (hH.row 2 rfl) hb) (Af Aq rfl (AR (post := fun _ => [Bx (CO L n), Aj 5 1 encB q.2.1 q.2.2, cell g1 106 #[.int .i64 2, .string (bs n), .slice A 0 c, .int .i64 0, .string (bs m_)], BF encKey AI v (BM (CO L n) m_ (q.2.1, q.2.2)), X]) rfl rfl (J8 3 Dx rfl m_ (q.2.1, q.2.2) rfl rfl rfl rfl rfl rfl) ?_)))); rintro ⟨⟩
 refine AG (A6 ?_)
 exact D5  (fun w h => AH () rfl [3, 0, 1, 4] rfl h (M5 hq2 (h_.symm.trans (Rz hq)))) rfl
 refine AX 0 rfl (HW hq2) (fun _ => rfl) ?_; rintro ⟨⟩
 refine BB (Af Aq rfl (Aa rfl (.string (bs m_)) (fun b w hb hH => Ba rfl rfl (Bl CR rfl) (hH.row 4 rfl) hb) (Af Aq rfl (AR (post := fun _ => [Bx ((CO L n).take q2.1), Aj 5 1 encB q2.2.1 q2.2.2, Bx ((CO L n).drop (q2.1 + 1)), Aj 5 1 encB q.2.1 q.2.2, cell g1 106 #[.int .i64 2, .string (bs n), .slice A 0 c, .int .i64 0, .string (bs m_)], BF encKey AI v (BM (CO L n) m_ (q.2.1, q.2.2)), X]) rfl rfl (J8 5 Dx rfl m_ (q.2.1, q.2.2) rfl rfl rfl rfl rfl rfl) ?_)))); rintro ⟨⟩
 refine AG (A6 ?_)
 exact D5  (fun w h => AH () rfl [5, 0, 3, 2, 6] rfl h (Kk hq2 (h_.symm.trans (Rz hq)))) rfl
theorem Uf {X : Ass} {v : Value} {f f' : FS} {x : OpV} (ho : Vh f x.o) (hX : EN X x.v x.o.data) (hl : AT f + x.o.size ≤ 4398046511104) (h : BJ f x.o = f') : AV Tryz.prog 106 #[v, .agg (encO x).toArray] [Az v f, X] (fun _ : Unit => .tuple #[]) (fun _ => [Az v f', X]) := by
  obtain ⟨o, A, c⟩ := x
  cases o with
  | app n b => exact Ue hX hl h
  | cut n s => obtain ⟨y, h1, h2⟩ := ho; exact Xc h1 h2 h
  | ren a b => obtain ⟨⟨y, h1⟩, _⟩ := ho; exact Xd h1 h
  | del n => exact Xb h
end Go.Proofs.YtjcfimmcogkopaaGreatDoor.Sep
