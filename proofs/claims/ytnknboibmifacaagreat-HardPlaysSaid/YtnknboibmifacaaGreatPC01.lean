/-
  DskV · MapU · TyK · DskA
-/
import Derived.Test.YtnknboibmifacaaGreatPB01
import Derived.Test.YtnknboibmifacaaGreatPB02
import Derived.Test.YtnknboibmifacaaGreatPB03
set_option linter.unusedSimpArgs false
set_option linter.unusedVariables false
set_option maxRecDepth 100000
namespace Go.Proofs.YtnknboibmifacaaGreat.Sep
open Go.RowKit
open Go.Proofs.YtnknboibmifacaaGreat.Mem (Bl Co Chg AG)
def OpD.data : OpD → List UInt8
  | .app _ b => b
  | _ => []
def OpD.kind : OpD → Int
  | .app .. => 0
  | .cut .. => 1
  | .ren .. => 2
  | .del _ => 3
def OpD.name : OpD → List UInt8
  | .app n _ => n
  | .cut n _ => n
  | .ren a _ => a
  | .del n => n
def OpD.cutS : OpD → Nat
  | .cut _ s => s
  | _ => 0
def OpD.to : OpD → List UInt8
  | .ren _ b => b
  | _ => []
structure OpV where
  o : OpD
  A : Option Addr
  c : Nat
def OpV.v (x : OpV) : Value := .slice x.A x.o.data.length x.c
def encO (x : OpV) : List Value := [.int .i64 x.o.kind, .string (bs x.o.name), x.v, .int .i64 (x.o.cutS : Int), .string (bs x.o.to)]
theorem Qk : EncOf 5 encO := ⟨fun _ => rfl, fun x v h => by unfold encO OpV.v at h; simp at h; rcases h with rfl | rfl | rfl | rfl | rfl <;> rfl⟩
instance : Inhabited OpV := ⟨⟨.del [], none, 0⟩⟩
def BL (W : List OpV) : Ass := DS (fun x : OpV => As 5 1 encB x.v x.o.data) W
def DN (W : List OpV) : List OpD := W.map (·.o)
theorem Ql {W : List OpV} {x : OpV} (h : x ∈ W) : CX (BL W) x.v x.o.data := fun rs w h1 h2 => by
 obtain ⟨j, hj⟩ := List.getElem?_of_mem h
 obtain ⟨ys, h3, h4⟩ := DS.at_ h1 h2 hj
 exact Hs h3 h4
def LB (f : FS) : OpD → Prop
  | .app n _ => CE n = true
  | .cut n s => ∃ x, AQ f n = some x ∧ s ≤ x.length
  | .ren a b => (∃ x, AQ f a = some x) ∧ CE b = true
  | .del _ => True
def E4 : FS → List OpD → Prop
  | _, [] => True
  | f, o :: r => LB f o ∧ E4 (AI f o) r
theorem I8 {f : FS} : E4 f [] := trivial
theorem JF : ∀ {l : List OpD} {f : FS} {o : OpD}, E4 f l → LB (l.foldl AI f) o → E4 f (l ++ [o])
  | [], _, _, _, ho => ⟨ho, trivial⟩
  | _ :: r, _, _, h, ho => ⟨h.1, JF (l := r) h.2 ho⟩
theorem Fi : ∀ {l : List OpD} {f : FS} (i : Nat), E4 f l → E4 f (l.take i)
  | [], _, _, _ => by rw [List.take_nil]; trivial
  | _ :: _, _, 0, _ => trivial
  | _ :: r, _, i + 1, h => ⟨h.1, Fi (l := r) i h.2⟩
theorem Kl : ∀ {l : List OpD} {f : FS} {i : Nat} {o : OpD}, E4 f l → l[i]? = some o → LB ((l.take i).foldl AI f) o
  | x :: r, f, 0, o, h, hi => by
    simp only [List.getElem?_cons_zero, Option.some.injEq] at hi
    subst hi
    exact h.1
  | x :: r, f, i + 1, o, h, hi => Kl (l := r) (i := i) h.2 (by simpa using hi)
theorem K4 {f g : FS} {o : OpD} (h : f.Perm g) (hf : (AL f).Nodup) (ho : LB f o) : LB g o := by
  cases o with
  | app n b => exact ho
  | cut n s => obtain ⟨x, h1, h2⟩ := ho; exact ⟨x, by rw [← El h hf]; exact h1, h2⟩
  | ren a b => obtain ⟨⟨x, h1⟩, h2⟩ := ho; exact ⟨⟨x, by rw [← El h hf]; exact h1⟩, h2⟩
  | del n => trivial
def Dm (f : FS) : Prop := ∀ k, k ∈ AL f → CE k = true
theorem Ro : Dm [] := fun k h => by cases h
theorem Hv {f : FS} {n x : List UInt8} (hf : (AL f).Nodup) (h : Dm f) (hn : CE n = true) : Dm (BG f n x) := fun k hk => by
  obtain ⟨p, hp, rfl⟩ := List.mem_map.1 hk
  rcases (Fd hf p).1 hp with rfl | ⟨h1, _⟩
  · exact hn
  · exact h _ (List.mem_map_of_mem h1)
theorem LU {f : FS} {n : List UInt8} (hf : (AL f).Nodup) (h : Dm f) : Dm (BX f n) := fun k hk => by
 obtain ⟨p, hp, rfl⟩ := List.mem_map.1 hk
 exact h _ (List.mem_map_of_mem ((Dv hf p).1 hp).1)
theorem O8 {f : FS} {o : OpD} (hf : (AL f).Nodup) (h : Dm f) (ho : LB f o) : Dm (AI f o) := by
  cases o with
  | app n b => exact Hv hf h ho
  | cut n s =>
    obtain ⟨x, h1, _⟩ := ho
    show Dm (match AQ f n with | some x => BG f n (x.take s) | none => f)
    rw [h1]
    exact Hv hf h (h _ (List.mem_map.2 ⟨_, (B8 hf).1 h1, rfl⟩))
  | ren a b =>
    obtain ⟨⟨x, h1⟩, h2⟩ := ho
    show Dm (match AQ f a with | some x => BG (BX f a) b x | none => f)
    rw [h1]
    exact Hv (Cf hf) (LU hf h) h2
  | del n => exact LU hf h
theorem JG : ∀ (l : List OpD) {f : FS}, (AL f).Nodup → Dm f → E4 f l → Dm (l.foldl AI f)
  | [], _, _, h, _ => h
  | o :: r, _, hf, h, ho => JG r (Gn hf o) (O8 hf h ho.1) ho.2
theorem NI {f : FS} {k x : List UInt8} (hf : (AL f).Nodup) : AK (BG f k x) ≤ AK f + x.length := by
  cases h : AQ f k with
  | none => rw [I2 h]; exact Nat.le_refl _
  | some y => have := Gp (x := x) hf h; omega
theorem ML {f : FS} (hf : (AL f).Nodup) {o : OpD} (ho : LB f o) : AK (AI f o) ≤ AK f + o.size := by
  cases o with
  | app n b => rw [FF hf]; exact Nat.le_refl _
  | cut n s =>
    obtain ⟨x, h1, h2⟩ := ho
    show AK (match AQ f n with | some x => BG f n (x.take s) | none => f) ≤ AK f + 0
    rw [h1]
    have := Gp (x := x.take s) hf h1
    rw [List.length_take] at this
    show AK (BG f n (x.take s)) ≤ _
    omega
  | ren a b =>
    obtain ⟨⟨x, h1⟩, _⟩ := ho
    show AK (match AQ f a with | some x => BG (BX f a) b x | none => f) ≤ AK f + 0
    rw [h1]
    have h2 := F0 hf h1
    have h3 := NI (k := b) (x := x) (Cf (k := a) hf)
    show AK (BG (BX f a) b x) ≤ _
    omega
  | del n =>
    show AK (BX f n) ≤ _
    cases h : AQ f n with
    | none => rw [KV h]; exact Nat.le_add_right _ _
    | some x => have := F0 hf h; show _ ≤ AK f + 0; omega
theorem Ed : ∀ (l : List OpD) {f : FS}, (AL f).Nodup → E4 f l → AK (l.foldl AI f) ≤ AK f + (l.map OpD.size).sum
  | [], _, _, _ => by simp
  | o :: r, f, hf, ho => by
    have h1 := ML hf ho.1
    have h2 := Ed r (Gn hf o) ho.2
    rw [List.foldl_cons, List.map_cons, List.sum_cons]; omega
theorem Hw : ∀ (l : List OpD) (i : Nat), ((l.take i).map OpD.size).sum ≤ (l.map OpD.size).sum
  | [], _ => by simp
  | _ :: _, 0 => by simp
  | x :: r, i + 1 => by
    have := Hw r i
    simp only [List.take_succ_cons, List.map_cons, List.sum_cons]; omega
theorem I9 {f : FS} {k x : List UInt8} (hf : (AL f).Nodup) (h : AQ f k = some x) : x.length ≤ AK f := by
 have := F0 hf h; omega
theorem LV {f : FS} {k : List UInt8} (hf : (AL f).Nodup) : ((AQ f k).getD []).length ≤ AK f := by
  cases h : AQ f k with
  | none => exact Nat.zero_le _
  | some x => exact I9 hf h
theorem NJ {κ ν : Type} [DecidableEq κ] {k : κ} {l : List (κ × ν)} (h : E1 k l 0 = none) : AQ l k = none := by unfold AQ; rw [h]; rfl
theorem Fs {κ ν : Type} [DecidableEq κ] {k : κ} {l : List (κ × ν)} {q : Nat × ν} (h : E1 k l 0 = some q) : AQ l k = some q.2 := by unfold AQ; rw [h]; rfl
theorem SN {L : FilL} {n b : List UInt8} {u : Value} (h : E1 n L 0 = none) : AI (Ce L) (.app n b) = Ce (BG L n (u, b)) := by
 show BG (Ce L) n _ = _
 rw [Em, NJ h, Option.map_none, Option.getD_none, List.nil_append]
 exact I7 L n (u, b)
theorem SO {L : FilL} {n b : List UInt8} {u : Value} {q : Nat × PtT} (h : E1 n L 0 = some q) : AI (Ce L) (.app n b) = Ce (BG L n (u, q.2.2 ++ b)) := by
 show BG (Ce L) n _ = _
 rw [Em, Fs h, Option.map_some, Option.getD_some]
 exact I7 L n (u, q.2.2 ++ b)
theorem Qm {L : FilL} {n : List UInt8} : AI (Ce L) (.del n) = Ce (BX L n) := NE L n
theorem LW {κ ν : Type} [DecidableEq κ] {k : κ} {l : List (κ × ν)} (h : E1 k l 0 = none) : BX l k = l := by unfold BX; rw [h]
theorem Qn {L : FilL} {k : List UInt8} {q : Nat × PtT} (h : E1 k L 0 = some q) : ∀ rs, Ap [Bx (L.take q.1), Bx (L.drop (q.1 + 1))] rs → Bx (BX L k) rs := fun rs hr => by
 obtain ⟨a, b, rfl, h1, h2⟩ := hr
 unfold Bx BX
 rw [h]
 show DS _ (L.eraseIdx q.1) _
 rw [List.eraseIdx_eq_take_drop_succ]
 unfold DS
 rw [List.map_append]
 exact Ap.app h1 (Ap.one' h2)
theorem BD {v : Value} {f : FS} : ∀ rs, AA v f rs → (AL f).Nodup := fun rs ⟨L, h, h'⟩ => by
 obtain ⟨a, b, e, h1, _⟩ := h'
 rw [h, DZ]
 exact BH.nodup _ h1
theorem Gs {v : Value} {f : FS} {L : FilL} {os : List Ass} (h : f = Ce L) : ∀ rs, Ap (BH encKey AM v L :: Bx L :: os) rs → ∃ z, rs.Perm z ∧ Ap (AA v f :: os) z := fun rs hr => by
 subst h
 obtain ⟨a, r, rfl, h1, b, r2, rfl, h2, h3⟩ := hr
 exact ⟨a ++ (b ++ r2), .refl _, a ++ b, r2, by simp, ⟨L, rfl, a, b, rfl, h1, Ap.one h2⟩, h3⟩
theorem LX {v u : Value} {f : FS} {L : FilL} {n y : List UInt8} {os : List Ass} (hq : E1 n L 0 = none) (h : f = Ce (BG L n (u, y))) : ∀ rs, Ap (BH encKey AM v (BG L n (u, y)) :: Bx L :: As 5 1 encB u y :: os) rs → ∃ z, rs.Perm z ∧ Ap (AA v f :: os) z := fun rs hr => by
 obtain ⟨a, r, rfl, h1, b, r2, rfl, h2, c, r3, rfl, h3, h4⟩ := hr
 rw [show a ++ (b ++ (c ++ r3)) = a ++ ((b ++ c) ++ r3) by simp]
 exact Gs h _ ⟨a, _, rfl, h1, b ++ c, r3, rfl, Qc hq (u, y) _ ⟨b, c, rfl, h2, Ap.one h3⟩, h4⟩
theorem JH {v u : Value} {f : FS} {L : FilL} {n y : List UInt8} {q : Nat × PtT} {os : List Ass} (hq : E1 n L 0 = some q) (h : f = Ce (BG L n (u, y))) : ∀ rs, Ap (BH encKey AM v (BG L n (u, y)) :: Bx (L.take q.1) :: As 5 1 encB u y :: Bx (L.drop (q.1 + 1)) :: os) rs → ∃ z, rs.Perm z ∧ Ap (AA v f :: os) z := fun rs hr => by
 obtain ⟨a, r, rfl, h1, b, r2, rfl, h2, c, r3, rfl, h3, e, r4, rfl, h4, h5⟩ := hr
 rw [show a ++ (b ++ (c ++ (e ++ r4))) = a ++ ((b ++ (c ++ e)) ++ r4) by simp]
 exact Gs h _ ⟨a, _, rfl, h1, b ++ (c ++ e), r4, rfl, Ur hq (u, y) _ ⟨b, c ++ e, rfl, h2, c, e, rfl, h3, Ap.one h4⟩, h5⟩
theorem O9 {v : Value} {f : FS} {L : FilL} {n : List UInt8} {q : Nat × PtT} {os : List Ass} (hq : E1 n L 0 = some q) (h : f = Ce (BX L n)) : ∀ rs, Ap (BH encKey AM v (BX L n) :: Bx (L.take q.1) :: Bx (L.drop (q.1 + 1)) :: os) rs → ∃ z, rs.Perm z ∧ Ap (AA v f :: os) z := fun rs hr => by
 obtain ⟨a, r, rfl, h1, b, r2, rfl, h2, e, r4, rfl, h4, h5⟩ := hr
 rw [show a ++ (b ++ (e ++ r4)) = a ++ ((b ++ e) ++ r4) by simp]
 exact Gs h _ ⟨a, _, rfl, h1, b ++ e, r4, rfl, Qn hq _ ⟨b, e, rfl, h2, Ap.one h4⟩, h5⟩
theorem K5 {e : TypeId} {v : Value} {l : List UInt8} {k : Nat} (hk : k ≤ l.length) : ∀ rs, Ap [As e 1 encB v l] rs → As e 1 encB (Cm 1 v 0 k) (l.take k) rs := fun rs hr => by
  rcases Ap.one' hr with ⟨h1, h2, h3⟩ | ⟨g, cap, cs, h1, h2, h3, h4, h5, h6⟩
  · subst h2; subst h1
    have : k = 0 := by simpa using hk
    subst this
    exact .inl ⟨by simp [Cm], by simp, h3⟩
  · subst h1
    have hl : (l.take k).length = k := by rw [List.length_take]; omega
    have e1 : (⟨g, 0 + 0 * 1, none⟩ : Addr) = ⟨g, 0, none⟩ := rfl
    refine .inr ⟨g, cap, cs, ?_, by rw [hl]; omega, h3, h4, ?_, h6⟩
    · simp [Cm, Addr.add, hl]
    · rw [hl]
      have h7 := congrArg (List.take (k * 1)) h5
      rw [List.take_take, Nat.min_eq_left (by omega)] at h7
      rw [h7]
      have h8 : flat encB l = flat encB (l.take k) ++ flat encB (l.drop k) := by rw [← II, List.take_append_drop]
      rw [h8, List.take_append_of_le_length (by rw [DA EQ, hl]; omega), List.take_of_length_le (by rw [DA EQ, hl]; omega)]
theorem Ux {L : FilL} {n : List UInt8} {s : Nat} {u : Value} {q : Nat × PtT} (h : E1 n L 0 = some q) : AI (Ce L) (.cut n s) = Ce (BG L n (u, q.2.2.take s)) := by
  show (match AQ (Ce L) n with | some x => BG (Ce L) n (x.take s) | none => Ce L) = _
  rw [Em, Fs h]
  exact I7 L n (u, q.2.2.take s)
theorem Qo {L : FilL} {a b : List UInt8} {q : Nat × PtT} (h : E1 a L 0 = some q) : AI (Ce L) (.ren a b) = Ce (BG (BX L a) b (q.2.1, q.2.2)) := by
  show (match AQ (Ce L) a with | some x => BG (BX (Ce L) a) b x | none => Ce L) = _
  rw [Em, Fs h, NE]
  exact I7 (BX L a) b (q.2.1, q.2.2)
theorem K6 {κ ν : Type} [DecidableEq κ] {k : κ} {l : List (κ × ν)} {x : ν} (h : AQ l k = some x) : ∃ q, E1 k l 0 = some q ∧ q.2 = x := by
 unfold AQ at h
 exact Option.map_eq_some_iff.1 h
theorem LY {L : FilL} {n x : List UInt8} (h : AQ (Ce L) n = some x) : ∃ q, E1 n L 0 = some q ∧ q.2.2 = x := by
 rw [Em] at h
 obtain ⟨r, h1, h2⟩ := Option.map_eq_some_iff.1 h
 obtain ⟨q, h3, h4⟩ := K6 h1
 exact ⟨q, h3, by rw [h4]; exact h2⟩
theorem Rp {v : Value} {f : FS} {L : FilL} {n : List UInt8} {s : Nat} {q : Nat × PtT} {os : List Ass} (hq : E1 n L 0 = some q) (hs : s ≤ q.2.2.length) (h : f = Ce (BG L n (Cm 1 q.2.1 0 s, q.2.2.take s))) : ∀ rs, Ap (BH encKey AM v (BG L n (Cm 1 q.2.1 0 s, q.2.2.take s)) :: Bx (L.take q.1) :: As 5 1 encB q.2.1 q.2.2 :: Bx (L.drop (q.1 + 1)) :: os) rs → ∃ z, rs.Perm z ∧ Ap (AA v f :: os) z := fun rs hr => by
 obtain ⟨a, r, e1, h1, b, r2, e2, h2, c, r3, e3, h3, hx⟩ := hr
 exact JH hq h _ ⟨a, r, e1, h1, b, r2, e2, h2, c, r3, e3, K5 hs _ (Ap.one h3), hx⟩
def C9 : Option Nat → Int
  | none => -1
  | some n => n
structure DskU (d : DiskD) where
  pv : Value
  sm : Value
  sh : Value
  W : List OpV
  g : FS
  hW : DN W = d.wait
  hg : d.down = false → g.Perm d.now
  hok : E4 d.syn d.wait
  hf : ∀ n, d.fuse = some n → n ≤ 9223372036854775807
  hr : 0 ≤ d.room ∧ d.room ≤ 1048576
  hk : Dm d.syn
def NK : Bool → Value → FS → Ass
  | true, v, _ => fact (v = .map none)
  | false, v, f => AA v f
def Ao (p : Nat) (d : DiskD) : Ass := fun rs => ∃ x : DskU d, Ap [cell p 67 #[.int .i64 d.room, .int .i64 (C9 d.fuse), .bool d.down, x.pv, x.sm, x.sh], As 99 5 encO x.pv x.W, BL x.W, AA x.sm d.syn, NK d.down x.sh x.g] rs
section
variable {p : Nat} {d : DiskD}
theorem F3 : ∀ rs, Ao p d rs → ∃ x : DskU d, Ap [cell p 67 #[.int .i64 d.room, .int .i64 (C9 d.fuse), .bool d.down, x.pv, x.sm, x.sh], As 99 5 encO x.pv x.W, BL x.W, AA x.sm d.syn, NK d.down x.sh x.g] rs := fun _ h => h
theorem Hx (h : d.down = false) : ∀ rs, Ao p d rs → ∃ x : DskU d, Ap [cell p 67 #[.int .i64 d.room, .int .i64 (C9 d.fuse), .bool false, x.pv, x.sm, x.sh], As 99 5 encO x.pv x.W, BL x.W, AA x.sm d.syn, AA x.sh x.g] rs := fun rs ⟨x, hx⟩ => ⟨x, by rw [h] at hx; exact hx⟩
theorem Rq {q : Prop} {a b c e : Ass} {rs : List RowT} (h : Ap [a, b, c, e, fact q] rs) : q ∧ Ap [a, b, c, e] rs := by
 obtain ⟨_, _, rfl, h1, _, _, rfl, h2, _, _, rfl, h3, _, _, rfl, h4, _, _, rfl, ⟨rfl, h5⟩, rfl⟩ := h
 exact ⟨h5, _, _, rfl, h1, _, _, rfl, h2, _, _, rfl, h3, _, _, rfl, h4, rfl⟩
theorem Rr {q : Prop} {a b c e : Ass} {rs : List RowT} (h5 : q) (h : Ap [a, b, c, e] rs) : Ap [a, b, c, e, fact q] rs := by
 obtain ⟨_, _, rfl, h1, _, _, rfl, h2, _, _, rfl, h3, _, _, rfl, h4, rfl⟩ := h
 exact ⟨_, _, rfl, h1, _, _, rfl, h2, _, _, rfl, h3, _, _, rfl, h4, _, _, rfl, ⟨rfl, h5⟩, rfl⟩
theorem Km (h : d.down = true) : ∀ rs, Ao p d rs → ∃ x : DskU d, Ap [cell p 67 #[.int .i64 d.room, .int .i64 (C9 d.fuse), .bool true, x.pv, x.sm, .map none], As 99 5 encO x.pv x.W, BL x.W, AA x.sm d.syn] rs := fun rs ⟨x, hx⟩ => by
 rw [h] at hx
 obtain ⟨e, h1⟩ := Rq hx
 rw [e] at h1
 exact ⟨x, h1⟩
theorem Ja {os : List Ass} (x : DskU d) (h : d.down = true) (hs : x.sh = .map none) : ∀ rs, Ap ([cell p 67 #[.int .i64 d.room, .int .i64 (C9 d.fuse), .bool true, x.pv, x.sm, .map none], As 99 5 encO x.pv x.W, BL x.W, AA x.sm d.syn] ++ os) rs → ∃ z, rs.Perm z ∧ Ap ([Ao p d] ++ os) z := fun rs hr => by
 obtain ⟨a, b, e, h1, h2⟩ := Ap.split hr
 subst e
 refine ⟨a ++ b, .refl _, Ap.app (Ap.one ⟨x, ?_⟩) h2⟩
 rw [h]
 exact Rr hs (by rw [hs]; exact h1)
theorem F4 {os : List Ass} (x : DskU d) (h : d.down = false) : ∀ rs, Ap ([cell p 67 #[.int .i64 d.room, .int .i64 (C9 d.fuse), .bool false, x.pv, x.sm, x.sh], As 99 5 encO x.pv x.W, BL x.W, AA x.sm d.syn, AA x.sh x.g] ++ os) rs → ∃ z, rs.Perm z ∧ Ap ([Ao p d] ++ os) z := fun rs hr => by
 obtain ⟨a, b, e, h1, h2⟩ := Ap.split hr
 subst e
 refine ⟨a ++ b, .refl _, Ap.app (Ap.one ⟨x, ?_⟩) h2⟩
 rw [h]
 exact h1
theorem Hy {os : List Ass} (x : DskU d) : ∀ rs, Ap ([cell p 67 #[.int .i64 d.room, .int .i64 (C9 d.fuse), .bool d.down, x.pv, x.sm, x.sh], As 99 5 encO x.pv x.W, BL x.W, AA x.sm d.syn, NK d.down x.sh x.g] ++ os) rs → ∃ z, rs.Perm z ∧ Ap ([Ao p d] ++ os) z := fun rs hr => by
 obtain ⟨a, b, e, h1, h2⟩ := Ap.split hr
 subst e
 exact ⟨a ++ b, .refl _, Ap.app (Ap.one ⟨x, h1⟩) h2⟩
end
theorem Gt {α : Type} {L : List α} {i : Nat} {b : α} (h : L[i]? = some b) : L.take i ++ [b] = L.take (i + 1) := by
 have hlt := (List.getElem?_eq_some_iff.1 h).1
 have hx := (List.getElem?_eq_some_iff.1 h).2
 rw [← hx, List.take_succ_eq_append_getElem hlt]
structure DskL (d : DiskD) where
  pv : Value
  sm : Value
  sh : Value
  W : List OpV
  L : FilL
  hW : DN W = d.wait
  hg : (Ce L).Perm d.now
  hok : E4 d.syn d.wait
  hf : ∀ n, d.fuse = some n → n ≤ 9223372036854775807
  hr : 0 ≤ d.room ∧ d.room ≤ 1048576
  hk : Dm d.syn
section
variable {p : Nat} {d : DiskD}
theorem Di (h : d.down = false) : ∀ rs, Ao p d rs → ∃ y : DskL d, Ap [cell p 67 #[.int .i64 d.room, .int .i64 (C9 d.fuse), .bool false, y.pv, y.sm, y.sh], As 99 5 encO y.pv y.W, BL y.W, AA y.sm d.syn, BH encKey AM y.sh y.L, Bx y.L] rs := fun rs hr => by
 obtain ⟨x, a1, _, rfl, h1, a2, _, rfl, h2, a3, _, rfl, h3, a4, _, rfl, h4, a5, _, rfl, ⟨L, hL, h5⟩, rfl⟩ := Hx h rs hr
 refine ⟨⟨x.pv, x.sm, x.sh, x.W, L, x.hW, hL ▸ x.hg h, x.hok, x.hf, x.hr, x.hk⟩, a1, _, rfl, h1, a2, _, rfl, h2, a3, _, rfl, h3, a4, a5, by simp, h4, h5⟩
theorem Vx (x : DskU d) (h : d.down = false) : ∀ rs, Ap [cell p 67 #[.int .i64 d.room, .int .i64 (C9 d.fuse), .bool false, x.pv, x.sm, x.sh], As 99 5 encO x.pv x.W, BL x.W, AA x.sm d.syn, AA x.sh x.g] rs → Ao p d rs := fun rs hr => ⟨x, by rw [h]; exact hr⟩
theorem Hz (y : DskL d) (h : d.down = false) : ∀ rs, Ap [cell p 67 #[.int .i64 d.room, .int .i64 (C9 d.fuse), .bool false, y.pv, y.sm, y.sh], As 99 5 encO y.pv y.W, BL y.W, AA y.sm d.syn, BH encKey AM y.sh y.L, Bx y.L] rs → Ao p d rs := fun rs hr => by
 obtain ⟨a1, _, rfl, h1, a2, _, rfl, h2, a3, _, rfl, h3, a4, a5, rfl, h4, h5⟩ := hr
 exact Vx ⟨y.pv, y.sm, y.sh, y.W, Ce y.L, y.hW, fun _ => y.hg, y.hok, y.hf, y.hr, y.hk⟩ h _ ⟨a1, _, rfl, h1, a2, _, rfl, h2, a3, _, rfl, h3, a4, a5, rfl, h4, Ap.one ⟨y.L, rfl, h5⟩⟩
theorem C0 {os : List Ass} (y : DskL d) (h : d.down = false) : ∀ rs, Ap ([cell p 67 #[.int .i64 d.room, .int .i64 (C9 d.fuse), .bool false, y.pv, y.sm, y.sh], As 99 5 encO y.pv y.W, BL y.W, AA y.sm d.syn, BH encKey AM y.sh y.L, Bx y.L] ++ os) rs → ∃ z, rs.Perm z ∧ Ap ([Ao p d] ++ os) z := fun rs hr => by
 obtain ⟨a, b, e, h1, h2⟩ := Ap.split hr
 subst e
 exact ⟨a ++ b, .refl _, Ap.app (Ap.one (Hz y h _ h1)) h2⟩
end
theorem SP {d : DiskD} {L : FilL} (hp : (Ce L).Perm d.now) (hn : (AL (Ce L)).Nodup) (n y : List UInt8) : EW d n y = (decide ((AK (Ce L) : Int) + (y.length : Int) ≤ d.room) && !((AQ L n).isNone && decide (64 ≤ L.length))) := by
 unfold EW
 rw [← Df hp, ← El hp hn, ← hp.length_eq, Em]
 have h1 : (Ce L).length = L.length := by simp [Ce]
 rw [h1]
 cases AQ L n <;> rfl
theorem Rs {d : DiskD} {L : FilL} {n y : List UInt8} (hp : (Ce L).Perm d.now) (hn : (AL (Ce L)).Nodup) (h : EW d n y = false) : (d.room < (AK (Ce L) : Int) + (y.length : Int) ∧ AQ L n = none) ∨ (d.room < (AK (Ce L) : Int) + (y.length : Int) ∧ ∃ r, AQ L n = some r) ∨ ((AK (Ce L) : Int) + (y.length : Int) ≤ d.room ∧ AQ L n = none ∧ 64 ≤ L.length) := by
  rw [SP hp hn] at h
  by_cases h1 : (AK (Ce L) : Int) + (y.length : Int) ≤ d.room
  · right; right
    cases h2 : AQ L n with
    | none => rw [h2] at h; simp [h1] at h; exact ⟨h1, rfl, h⟩
    | some r => rw [h2] at h; simp [h1] at h
  · cases h2 : AQ L n with
    | none => exact .inl ⟨by omega, rfl⟩
    | some r => exact .inr (.inl ⟨by omega, r, rfl⟩)
theorem Uy {d : DiskD} {L : FilL} {n y : List UInt8} (hp : (Ce L).Perm d.now) (hn : (AL (Ce L)).Nodup) (h : EW d n y = true) : (AK (Ce L) : Int) + (y.length : Int) ≤ d.room ∧ ((∃ r, AQ L n = some r) ∨ (AQ L n = none ∧ L.length < 64)) := by
  rw [SP hp hn, Bool.and_eq_true, decide_eq_true_eq] at h
  refine ⟨h.1, ?_⟩
  cases h2 : AQ L n with
  | none => right; have := h.2; rw [h2] at this; simp at this; exact ⟨rfl, this⟩
  | some r => exact .inl ⟨r, rfl⟩
theorem Gu {d : DiskD} {L : FilL} (hp : (Ce L).Perm d.now) (hn : (AL (Ce L)).Nodup) (n : List UInt8) : AQ d.now n = (AQ L n).map (·.2) := by rw [← El hp hn, Em]
theorem BR {v : Value} {L : FilL} : ∀ rs, BH encKey AM v L rs → (AL (Ce L)).Nodup := fun rs h => by rw [DZ]; exact BH.nodup _ h
theorem SQ {p : Nat} {room : Int} {sm sh : Value} (hr : 0 ≤ room ∧ room ≤ 1048576) : ∀ rs, Ap [cell p 67 #[.int .i64 room, .int .i64 (-1), .bool false, .slice none 0 0, sm, sh], As 99 5 encO (.slice none 0 0) [], BL [], BH encKey AM sm [], Bx [], BH encKey AM sh [], Bx []] rs → ∃ z, rs.Perm z ∧ Ap [Ao p (GW room)] z := fun rs hx => by
 obtain ⟨a1, _, rfl, h1, a2, _, rfl, h2, a3, _, rfl, h3, a4, _, rfl, h4, a5, a6, rfl, h5, h6⟩ := hx
 refine ⟨_, .refl _, Ap.one ⟨⟨.slice none 0 0, sm, sh, [], [], rfl, fun _ => .refl _, I8, (fun n h => by cases h), hr, Ro⟩, ?_⟩⟩
 refine ⟨a1, _, rfl, h1, a2, _, rfl, h2, a3, _, rfl, h3, a4 ++ a5, a6, by simp, ⟨[], rfl, a4, a5, rfl, h4, Ap.one h5⟩, Ap.one ⟨[], rfl, h6⟩⟩
theorem Rt {l : FilL} {j : Nat} {p : List UInt8 × PtT} (h : l[j]? = some p) : ((p.1, p.2.2) :: Ce (l.eraseIdx j)).Perm (Ce l) := by
 have hlt := (List.getElem?_eq_some_iff.1 h).1
 have hx := (List.getElem?_eq_some_iff.1 h).2
 have h1 : l = l.take j ++ p :: l.drop (j + 1) := by rw [← hx]; simp
 have h2 : (p :: l.eraseIdx j).Perm l := by
  rw [List.eraseIdx_eq_take_drop_succ]
  have h3 := (List.perm_middle (a := p) (l₁ := l.take j) (l₂ := l.drop (j + 1))).symm
  rw [← h1] at h3
  exact h3
 exact h2.map (fun p : List UInt8 × PtT => (p.1, p.2.2))
theorem Pa {done left L : FilL} {j : Nat} {p : List UInt8 × PtT} (hn : (AL (Ce L)).Nodup) (hp : (Ce done ++ Ce left).Perm (Ce L)) (hj : left[j]? = some p) : E1 p.1 done 0 = none := by
  have h1 : (AL (Ce done ++ Ce left)).Nodup := (CQ hp).nodup_iff.2 hn
  have h2 : AL (Ce done ++ Ce left) = AL done ++ AL left := by rw [← DZ done, ← DZ left]; unfold AL; rw [List.map_append]
  rw [h2] at h1
  cases h : E1 p.1 done 0 with
  | none => rfl
  | some q =>
    exfalso
    have h3 := (DD h).2
    have h4 : p.1 ∈ AL done := List.mem_map.2 ⟨_, List.mem_of_getElem? h3, rfl⟩
    have h5 : p.1 ∈ AL left := List.mem_map.2 ⟨_, List.mem_of_getElem? hj, rfl⟩
    exact (List.nodup_append.1 h1).2.2 _ h4 _ h5 rfl
theorem NL {done left L : FilL} {j : Nat} {p : List UInt8 × PtT} {u : Value} (hp : (Ce done ++ Ce left).Perm (Ce L)) (hj : left[j]? = some p) (hf : E1 p.1 done 0 = none) : (Ce (BG done p.1 (u, p.2.2)) ++ Ce (left.eraseIdx j)).Perm (Ce L) := by
 have h1 : BG done p.1 (u, p.2.2) = done ++ [(p.1, (u, p.2.2))] := by unfold BG; rw [hf]
 have h2 : Ce (done ++ [(p.1, (u, p.2.2))]) = Ce done ++ [(p.1, p.2.2)] := by simp [Ce]
 rw [h1, h2, List.append_assoc]
 exact ((Rt hj).append_left (Ce done)).trans hp
theorem NM {v u : Value} {f : FS} {L M : FilL} (h : f = Ce L) : ∀ rs, Ap [BH encKey AM v L, Bx L, BH encKey AM u M, Bx M] rs → ∃ z, rs.Perm z ∧ Ap [AA v f, AA u (Ce M)] z := fun rs hr => by
 subst h
 obtain ⟨a, r, rfl, h1, b, r2, rfl, h2, h3⟩ := hr
 exact ⟨a ++ (b ++ r2), .refl _, a ++ b, r2, by simp, ⟨L, rfl, a, b, rfl, h1, Ap.one h2⟩, Ap.one ⟨M, rfl, h3⟩⟩
def F5 (f : FS) (o : OpD) (torn : Int) : FS := match o with
  | .app n b => if (torn % (b.length : Int)).toNat = 0 ∨ b = [] then f else AI f (.app n (b.take (torn % (b.length : Int)).toNat))
  | _ => f
theorem Gv (d : DiskD) (keep torn : Int) : CS d keep torn = match d.wait[Cs d keep]? with
  | some o => F5 ((d.wait.take (Cs d keep)).foldl AI d.syn) o torn
  | none => (d.wait.take (Cs d keep)).foldl AI d.syn := by
  unfold CS F5
  cases d.wait[Cs d keep]? with
  | none => rfl
  | some o => cases o <;> rfl
theorem SR {f : FS} {o : OpD} {torn : Int} (h : o.data = []) : F5 f o torn = f := by
  cases o with
  | app n b => unfold F5; simp only; rw [if_pos (.inr h)]
  | cut n s => rfl
  | ren a b => rfl
  | del n => rfl
theorem JI {l : List OpD} {i : Nat} {o : OpD} (h : l[i]? = some o) (f : FS) : (l.take (i + 1)).foldl AI f = AI ((l.take i).foldl AI f) o := by
 rw [← Gt h, List.foldl_append]; rfl
theorem Ep {l : List OpD} {i : Nat} {o : OpD} {f : FS} {N : Nat} (hn : (AL f).Nodup) (hok : E4 f l) (h : l[i]? = some o) (hs : AK f + (l.map OpD.size).sum ≤ N) : AK ((l.take i).foldl AI f) + o.size ≤ N := by
 have h1 := Ed (l.take i) hn (Fi i hok)
 have h2 : ((l.take (i + 1)).map OpD.size).sum = ((l.take i).map OpD.size).sum + o.size := by rw [← Gt h]; simp
 have h3 := Hw l (i + 1)
 omega
theorem Pb {f : FS} {o : OpD} {torn : Int} (hf : (AL f).Nodup) (h : Dm f) (ho : LB f o) : Dm (F5 f o torn) := by
  cases o with
  | app n b =>
    unfold F5
    simp only
    split
    · exact h
    · exact Hv hf h ho
  | cut n s => exact h
  | ren a b => exact h
  | del n => exact h
theorem K7 {d : DiskD} {keep torn : Int} (hn : (AL d.syn).Nodup) (h : Dm d.syn) (ho : E4 d.syn d.wait) : Dm (CS d keep torn) := by
  rw [Gv]
  have h1 := JG _ hn h (Fi (Cs d keep) ho)
  cases hw : d.wait[Cs d keep]? with
  | none => exact h1
  | some o => exact Pb (EJ _ hn) h1 (Kl ho hw)
theorem Ip {d : DiskD} (h : d.fit) (hn : (AL d.syn).Nodup) (ho : E4 d.syn d.wait) : AK d.now ≤ 1099511627776 := Nat.le_trans (Ed d.wait hn ho) h.1
theorem LZ {d : DiskD} (hn : (AL d.syn).Nodup) (h : Dm d.syn) (ho : E4 d.syn d.wait) : Dm d.now := JG d.wait hn h ho
theorem L0 {d : DiskD} (hn : (AL d.syn).Nodup) : (AL d.now).Nodup := EJ d.wait hn
theorem Kn {d : DiskD} (x : DskU d) : x.W.length = d.wait.length := by rw [← x.hW]; simp [DN]
theorem MM {a m : Int} (hm : 0 < m) : a % m = if a.tmod m < 0 then a.tmod m + m else a.tmod m := by
  by_cases ha : 0 ≤ a
  · have h1 : a.tmod m = a % m := Int.tmod_eq_emod_of_nonneg ha
    have := Int.emod_nonneg a (show m ≠ 0 by omega)
    rw [h1, if_neg (by omega)]
  · have h1 := Int.tmod_eq_emod (a := a) (b := m)
    have h3 := Int.emod_nonneg a (show m ≠ 0 by omega)
    have h4 := Int.emod_lt_of_pos a hm
    by_cases hd : m ∣ a
    · have h5 : a % m = 0 := Int.emod_eq_zero_of_dvd hd
      have h6 : a.tmod m = 0 := by rw [h1, if_pos (.inr hd), h5]; simp
      rw [h5, h6]; simp
    · rw [if_neg (by simp [ha, hd])] at h1
      have h7 : (m.natAbs : Int) = m := by omega
      rw [h7] at h1
      have h8 : a % m ≠ 0 := fun e => hd (Int.dvd_of_emod_eq_zero e)
      rw [h1, if_pos (by omega)]; omega
end Go.Proofs.YtnknboibmifacaaGreat.Sep
namespace Go.Proofs.YtnknboibmifacaaGreat.Sep
open Go.RowKit
open Go.Proofs.YtnknboibmifacaaGreat.Mem (Bl Co Chg AG)
section
variable {P : Program} {κ ν : Type} {kk : κ → Value} {vv : ν → Value} {B : Nat → Prop} {w0 w : World} {os : List Ass} {mt kt vt : TypeId} {n : Nat} {env : List (Nat × Value)} {Q : Exit → Act → World → Prop} {o : Oper} {act : Act}
theorem SS {r : Operand} {k : IntKind} {q : Int} (ht : P.underlying mt = some (.map kt vt)) (ho : o.op = .makeMap mt (some r)) (hr : evs env r = some (.int k q)) : Bp P Q n env B w0 os o (fun g : Nat => .map (some g)) (fun g => BH kk vv (.map (some g)) [] :: os) := fun act w hH hF K hK => by
 have hrun : (execOp act.eval o).run P w = .ok (.value (.map (some w.heap.size))) (w.alloc (.map #[] 0)) := by
  unfold execOp
  simp [ho, hF.evs hr, Instr.makeMap, run_underlying ht, asInt, asIntOf, newObj, Sem.run]
 obtain ⟨rs, h1, h2⟩ := hH
 exact FE (w0 := w) act hrun (hK w.heap.size _ ⟨_, ⟨[(w.heap.size, none, Fx #[] 0)], rs, rfl, ⟨w.heap.size, #[], 0, rfl, rfl, KO⟩, h1⟩, KQ h2 _ (Dz.2 (heap_alloc_new w _))⟩)
theorem Ru {k k' : IntKind} {p q r : Int} {x y : Operand} {ats : Array TypeId} (ho : o.op = .call { callee := .builtin .max, args := #[x, y], argTypes := ats }) (hx : evs env x = some (.int k p)) (hy : evs env y = some (.int k' q)) (hr : (if q > p then q else p) = r) (hF : Fr n act env) : (execOp act.eval o).run P w = .ok (.value (.int k r)) w := by
 subst hr
 exact BU ho (vs := [.int k p, .int k' q]) (by simp [evl, hx, hy]) (fun cs => by simp [builtin, Builtin.max_, Builtin.max2]) hF
end
section
variable {P : Program} {κ : Type} [DecidableEq κ] {kk : κ → Value} {w : World} {mt kt vt : TypeId} {kd : TypeDesc} {z : Value} {n : Nat} {env : List (Nat × Value)} {o : Oper} {act : Act}
theorem Uz (hT : MapTy P mt kt vt kd kk z) {x y : Operand} (ho : o.op = .lookup mt x y false) {k : κ} (hx : evs env x = some (.map none)) (hy : evs env y = some (kk k)) (hF : Fr n act env) : (execOp act.eval o).run P w = .ok (.value z) w := by
 unfold execOp
 simp only [ho, hF.evs hx, hF.evs hy, Sem.run_bind, GT hT, Result.andThen_ok, Sem.run_pure, Bool.false_eq_true, if_false]
theorem UA (hT : MapTy P mt kt vt kd kk z) {x y : Operand} (ho : o.op = .lookup mt x y true) {k : κ} (hx : evs env x = some (.map none)) (hy : evs env y = some (kk k)) (hF : Fr n act env) : (execOp act.eval o).run P w = .ok (.value (.tuple #[z, .bool false])) w := by
 unfold execOp
 simp only [ho, hF.evs hx, hF.evs hy, Sem.run_bind, GT hT, Result.andThen_ok, Sem.run_pure, if_true]
end
end Go.Proofs.YtnknboibmifacaaGreat.Sep
namespace Go.Proofs.YtnknboibmifacaaGreat.Sep
open Go.RowKit
open Go.Proofs.YtnknboibmifacaaGreat.Mem (Bl Co Chg AG)
def flK : List ((Nat × Nat) × Nat) := flS
theorem Ak : Jm Tryz.prog flK := Aw
end Go.Proofs.YtnknboibmifacaaGreat.Sep
namespace Go.Proofs.YtnknboibmifacaaGreat.Sep
open Go.RowKit
open Go.Proofs.YtnknboibmifacaaGreat.Mem (Bl Co Chg AG)
theorem K8 (w : World) (room : Int) (h : 0 ≤ room ∧ room ≤ 1048576) : Calls Tryz.prog 55 #[.int .i64 room] w fun e w' => e = .returned (.bool true) ∧ Below w.heap.size w w' := by
 refine Fy (args := [.int .i64 room]) 9 Tryz.func55 rfl rfl rfl ?_
 refine Ad ?_
 refine Ae Aw rfl ?_
 refine Aa (Ad ?_)
 refine Ae Aw rfl ?_
 refine Ab rfl (.bool true) (fun b w hb hH => AV rfl rfl rfl (B7 (by omega)) hb) ?_
 refine Ae Aw rfl ?_
 refine Ab rfl (.bool true) (fun b w hb hH => AV rfl rfl rfl (Dd (by omega)) hb) ?_
 refine Ae Aw rfl ?_
 refine Aa (Ay ?_)
 exact Av (.tmp rfl) (fun w h => ⟨rfl, AG h.up⟩) rfl
theorem Pc (w : World) (room : Int) (h : ¬ (0 ≤ room ∧ room ≤ 1048576)) : Calls Tryz.prog 55 #[.int .i64 room] w fun e w' => e = .returned (.bool false) ∧ Below w.heap.size w w' := by
  refine Fy (args := [.int .i64 room]) 9 Tryz.func55 rfl rfl rfl ?_
  refine Ad ?_
  refine Ae Aw rfl ?_
  refine Aa ?_
  rcases Int.lt_or_le room 0 with h0 | h0
  · skip
    refine Ad ?_
    refine Ae Aw rfl ?_
    refine Ab rfl (.bool false) (fun b w hb hH => AV rfl rfl rfl (De (by omega)) hb) ?_
    refine Ae Aw rfl ?_
    refine Aa (Ay ?_)
    exact Av (.tmp rfl) (fun w h => ⟨rfl, AG h.up⟩) rfl
  · skip
    refine Ad ?_
    refine Ae Aw rfl ?_
    refine Ab rfl (.bool true) (fun b w hb hH => AV rfl rfl rfl (B7 (by omega)) hb) ?_
    refine Ae Aw rfl ?_
    refine Ab rfl (.bool false) (fun b w hb hH => AV rfl rfl rfl (EG (by omega)) hb) ?_
    refine Ae Aw rfl ?_
    refine Aa (Ay ?_)
    exact Av (.tmp rfl) (fun w h => ⟨rfl, AG h.up⟩) rfl
theorem Hr (n : List UInt8) : CE n = true ↔ 1 ≤ n.length ∧ n.length ≤ 16 := by simp [CE]
theorem ST (n : List UInt8) : CE n = false ↔ ¬ (1 ≤ n.length ∧ n.length ≤ 16) := by rw [← Hr]; simp
theorem Gw (w : World) (n : List UInt8) (h : CE n = true) : Calls Tryz.prog 56 #[.string (bs n)] w fun e w' => e = .returned (.bool true) ∧ Below w.heap.size w w' := by
 have h := (Hr n).1 h
 refine Fy (args := [.string (bs n)]) 11 Tryz.func56 rfl rfl rfl ?_
 refine Ad ?_
 refine Ae Aw rfl ?_
 refine Aa (Ad ?_)
 refine Ae Aw rfl ?_
 refine Ab rfl (.int .i64 (n.length : Int)) (fun b w hb hH => BU rfl rfl (fun cs => (fun w cs => C5 Tryz.underlying9 _ _ w cs) w cs) hb) ?_
 refine Ab rfl (.bool true) (fun b w hb hH => AV rfl rfl rfl (B7 (by omega)) hb) ?_
 refine Ae Aw rfl ?_
 refine Ab rfl (.int .i64 (n.length : Int)) (fun b w hb hH => BU rfl rfl (fun cs => (fun w cs => C5 Tryz.underlying9 _ _ w cs) w cs) hb) ?_
 refine Ab rfl (.bool true) (fun b w hb hH => AV rfl rfl rfl (Dd (by omega)) hb) ?_
 refine Ae Aw rfl ?_
 refine Aa (Ay ?_)
 exact Av (.tmp rfl) (fun w h => ⟨rfl, AG h.up⟩) rfl
theorem K9 (w : World) (n : List UInt8) (h : CE n = false) : Calls Tryz.prog 56 #[.string (bs n)] w fun e w' => e = .returned (.bool false) ∧ Below w.heap.size w w' := by
  have h := (ST n).1 h
  refine Fy (args := [.string (bs n)]) 11 Tryz.func56 rfl rfl rfl ?_
  refine Ad ?_
  refine Ae Aw rfl ?_
  refine Aa ?_
  rcases Nat.lt_or_ge n.length 1 with h0 | h0
  · skip
    refine Ad ?_
    refine Ae Aw rfl ?_
    refine Ab rfl (.int .i64 (n.length : Int)) (fun b w hb hH => BU rfl rfl (fun cs => (fun w cs => C5 Tryz.underlying9 _ _ w cs) w cs) hb) ?_
    refine Ab rfl (.bool false) (fun b w hb hH => AV rfl rfl rfl (De (by omega)) hb) ?_
    refine Ae Aw rfl ?_
    refine Aa (Ay ?_)
    exact Av (.tmp rfl) (fun w h => ⟨rfl, AG h.up⟩) rfl
  · skip
    refine Ad ?_
    refine Ae Aw rfl ?_
    refine Ab rfl (.int .i64 (n.length : Int)) (fun b w hb hH => BU rfl rfl (fun cs => (fun w cs => C5 Tryz.underlying9 _ _ w cs) w cs) hb) ?_
    refine Ab rfl (.bool true) (fun b w hb hH => AV rfl rfl rfl (B7 (by omega)) hb) ?_
    refine Ae Aw rfl ?_
    refine Ab rfl (.int .i64 (n.length : Int)) (fun b w hb hH => BU rfl rfl (fun cs => (fun w cs => C5 Tryz.underlying9 _ _ w cs) w cs) hb) ?_
    refine Ab rfl (.bool false) (fun b w hb hH => AV rfl rfl rfl (EG (by omega)) hb) ?_
    refine Ae Aw rfl ?_
    refine Aa (Ay ?_)
    exact Av (.tmp rfl) (fun w h => ⟨rfl, AG h.up⟩) rfl
theorem La (w : World) (a m r : Int) (hm : 0 < m) (h1 : m ≤ 9223372036854775807) (hr : a % m = r) : Calls Tryz.prog 63 #[.int .i64 a, .int .i64 m] w fun e w' => e = .returned (.int .i64 r) ∧ Below w.heap.size w w' := by
  have he := MM (a := a) hm
  have h2 := Int.emod_nonneg a (show m ≠ 0 by omega)
  have h3 := Int.emod_lt_of_pos a hm
  obtain ⟨t, ht⟩ : ∃ t, a.tmod m = t := ⟨_, rfl⟩
  rw [ht, hr] at he
  rw [hr] at h2 h3
  refine Fy (args := [.int .i64 a, .int .i64 m]) 14 Tryz.func63 rfl rfl rfl ?_
  refine Ad ?_
  refine Ae Aw rfl ?_
  refine Aa (Ad ?_)
  refine Ae Aw rfl ?_
  refine Ab rfl (.int .i64 t) (fun b w hb hH => Ht rfl rfl rfl (by omega) ht hb) ?_
  refine Ae Aw rfl ?_
  refine Aa (Aq ?_)
  rcases Int.lt_or_le t 0 with h0 | h0
  · skip
    rw [if_pos h0] at he
    refine Ad ?_
    refine Ae Aw rfl ?_
    refine Ab rfl (.bool true) (fun b w hb hH => AV rfl rfl rfl (A7 (by omega)) hb) ?_
    refine Aa (AC rfl (Br ?_))
    refine Ae Aw rfl ?_
    refine Ab rfl (.int .i64 r) (fun b w hb hH => AN rfl rfl rfl rfl (by rw [IntWalk.i64_in _ (by omega)]; omega) hb) ?_
    refine Ae Aw rfl ?_
    refine AP (AE (Ad ?_))
    refine Ae Aw rfl ?_
    refine Aa (Ay ?_)
    exact Av (.tmp rfl) (fun w h => ⟨rfl, AG h.up⟩) rfl
  · skip
    rw [if_neg (by omega)] at he
    subst he
    refine Ad ?_
    refine Ae Aw rfl ?_
    refine Ab rfl (.bool false) (fun b w hb hH => AV rfl rfl rfl (Bn (by omega)) hb) ?_
    refine Aa (Ar rfl (Ax (AE (Ad ?_))))
    refine Ae Aw rfl ?_
    refine Aa (Ay ?_)
    exact Av (.tmp rfl) (fun w h => ⟨rfl, AG h.up⟩) rfl
theorem FH (v : Value) (l : FilL) (n : List UInt8) (r : Option PtT) (h : AQ l n = r) : AU Tryz.prog 57 #[v, .string (bs n)] [BH encKey AM v l] (fun (_ : Unit) => .bool r.isSome) (fun (_ : Unit) => [BH encKey AM v l]) := by
 refine Bd (args := [v, .string (bs n)]) 14 Tryz.func57 rfl rfl rfl ?_; intro w rs
 refine Ad ?_
 refine Ae Ak rfl ?_
 refine Aa (Ad ?_)
 refine Ae Ak rfl ?_
 refine Ab rfl (.tuple #[((r).map AM).getD (.slice none 0 0), .bool ((r).isSome)]) (fun b w hb hH => Vt 0 Dh rfl (k := n) (r := r) h rfl rfl rfl hH hb) ?_
 refine Ae Ak rfl ?_
 refine Aa (Ad ?_)
 refine Ae Ak rfl ?_
 refine Aa (Ay ?_)
 exact Av (.tmp rfl) (fun w h => AB () rfl [0] rfl h Cl) rfl
theorem UB (n : List UInt8) : AU Tryz.prog 57 #[.map none, .string (bs n)] [] (fun (_ : Unit) => .bool false) (fun (_ : Unit) => []) := by
 refine Bd (args := [.map none, .string (bs n)]) 14 Tryz.func57 rfl rfl rfl ?_; intro w rs
 refine Ad ?_
 refine Ae Ak rfl ?_
 refine Aa (Ad ?_)
 refine Ae Ak rfl ?_
 refine Ab rfl (.tuple #[.slice none 0 0, .bool false]) (fun b w hb hH => UA Dh rfl (k := n) rfl rfl hb) ?_
 refine Ae Ak rfl ?_
 refine Aa (Ad ?_)
 refine Ae Ak rfl ?_
 refine Aa (Ay ?_)
 exact Av (.tmp rfl) (fun w h => AB () rfl [] rfl h Cl) rfl
theorem Lb (p : Nat) (r1 r2 r3 sm fm pv : Value) (l : FilL) (hl : AK (Ce l) ≤ 1099511627776) : AU Tryz.prog 50 #[.pointer (some ⟨p, 0, none⟩)] [cell p 67 #[r1, r2, r3, pv, sm, fm], BH encKey AM fm l, Bx l] (fun (_ : Unit) => .int .i64 ((AK (Ce l) : Nat) : Int)) (fun (_ : Unit) => [cell p 67 #[r1, r2, r3, pv, sm, fm], BH encKey AM fm l, Bx l]) := by
  refine Bd (args := [.pointer (some ⟨p, 0, none⟩)]) 20 Tryz.func50 rfl rfl rfl ?_; intro w rs
  refine Ad ?_
  refine Ae Ak rfl ?_
  refine Aa (Ad ?_)
  refine Ae Ak rfl ?_
  refine Aa (Aq (Ad ?_))
  refine Ae Ak rfl ?_
  refine Ab rfl (.pointer (some ⟨p, 0, none⟩)) (fun b w hb hH => by exact BA rfl rfl hb) ?_
  refine Ae Ak rfl ?_
  refine Ab rfl (fm) (fun b w hb hH => A6 rfl rfl (Bk AO rfl) (hH.row 0 rfl) hb) ?_
  refine Aj (post := fun g1 => [cell p 67 #[r1, r2, r3, pv, sm, fm], FQ encKey AM fm (.pointer (some ⟨g1, 0, none⟩)) l l none, Bx l]) rfl (MB 1 Tryz.underlying65 rfl rfl rfl) ?_; rintro g1
  refine Aa (Bb ?_)
  refine CO (α := Nat × FilL × Option (List UInt8 × PtT)) (fun ⟨n, left, cur⟩ => [(2, .int .i64 0), (3, .int .i64 ((n : Nat) : Int)), (10, .pointer (some ⟨g1, 0, none⟩))]) (fun ⟨n, left, cur⟩ => [cell p 67 #[r1, r2, r3, pv, sm, fm], FQ encKey AM fm (.pointer (some ⟨g1, 0, none⟩)) l left cur, Bx l]) (fun ⟨n, left, cur⟩ => n + AK (Ce left) = AK (Ce l) ∧ ∀ p, p ∈ left → p ∈ l) (fun ⟨n, left, cur⟩ => left.length) (0, l, none) ⟨Nat.zero_add _, fun _ h => h⟩ ⟨rfl, rfl, rfl, trivial⟩ rfl ?_
  rintro ⟨n, left, cur⟩ hI
  refine Bv.at_ (env' := [(2, .int .i64 0), (3, .int .i64 ((n : Nat) : Int)), (10, .pointer (some ⟨g1, 0, none⟩))]) (rs' := [cell p 67 #[r1, r2, r3, pv, sm, fm], FQ encKey AM fm (.pointer (some ⟨g1, 0, none⟩)) l left cur, Bx l]) ⟨rfl, rfl, rfl, trivial⟩ rfl ?_
  have hI1 : n + AK (Ce left) = AK (Ce l) := hI.1
  rcases Classical.em (left = []) with hc | hc
  · skip
    have hn : n = AK (Ce l) := by rw [hc] at hI1; simpa [Ce, AK] using hI1
    refine Ad ?_
    refine Ae Ak rfl ?_
    refine Ab rfl (.tuple #[.bool false]) (fun b w hb hH => MC 1 rfl hc rfl rfl hH hb) ?_
    refine Ae Ak rfl ?_
    refine Aa (Aq (Ar rfl (Cu (E0 (E0 (Bh (AE ?_)))))))
    refine AZ 1 rfl JA (fun _ => rfl) ?_; rintro ⟨⟩
    refine Bv.leave [1] rfl rfl ?_
    refine Ad ?_
    refine Ae Ak rfl ?_
    refine Aa (Ay ?_)
    exact Av (.tmp rfl) (fun w h => AB () (by rw [hn]) [1, 0, 2] rfl h Cl) rfl
  · skip
    refine Ad ?_
    refine Ae Ak rfl ?_
    refine Aj (post := fun q : { q : Nat × List UInt8 × PtT // (left)[q.1]? = some q.2 } => [cell p 67 #[r1, r2, r3, pv, sm, fm], FQ encKey AM fm (.pointer (some ⟨g1, 0, none⟩)) l (left.eraseIdx q.1.1) (some (q.1.2.1, q.1.2.2)), Bx l]) rfl (MD 1 rfl hc rfl rfl) ?_; rintro q
    refine Ae Ak rfl ?_
    refine Aa (Aq (AC rfl (Ax (AE (Bb ?_)))))
    have hqm : q.1.2 ∈ l := hI.2 _ (List.mem_of_getElem? q.2)
    have hqu : AK (Ce (left.eraseIdx q.1.1)) + q.1.2.2.2.length = AK (Ce left) := K2 q.2
    refine Ad ?_
    refine Ae Ak rfl ?_
    refine Ab rfl (.tuple #[.string (bs q.1.2.1), q.1.2.2.1]) (fun b w hb hH => ME 1 rfl rfl rfl hH hb) ?_
    refine Ae Ak rfl ?_
    refine Aa (Br ?_)
    refine Ae Ak rfl ?_
    refine Ab rfl (.int .i64 (q.1.2.2.2.length : Int)) (fun b w hb hH => AT ((hH.rd8 2 rfl (Hu hqm)).rd) Tryz.underlying48 rfl rfl hb) ?_
    refine Ab rfl (.int .i64 ((n + q.1.2.2.2.length : Nat) : Int)) (fun b w hb hH => AN rfl rfl rfl rfl (by rw [IntWalk.i64_in _ (by omega)]; omega) hb) ?_
    refine Ae Ak rfl ?_
    refine AP (Bt ?_)
    exact Cc (n + q.1.2.2.2.length, left.eraseIdx q.1.1, some (q.1.2.1, q.1.2.2)) 0 ⟨by omega, fun p hp => hI.2 p (List.mem_of_mem_eraseIdx hp)⟩ (show (left.eraseIdx q.1.1).length < left.length from In q.2) ⟨rfl, rfl, rfl, trivial⟩ rfl
end Go.Proofs.YtnknboibmifacaaGreat.Sep
