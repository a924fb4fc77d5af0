/-
  DskV · MapU · TyK · DskA · DskB
-/
import Derived.Test.YtjcfimmcogkopaaGreatDoorWX01
import Derived.Test.YtjcfimmcogkopaaGreatDoorWB01
import Derived.Test.YtjcfimmcogkopaaGreatDoorWB02
import Derived.Test.YtjcfimmcogkopaaGreatDoorWB05
set_option linter.unusedSimpArgs false
set_option linter.unusedVariables false
set_option maxHeartbeats 4000000
set_option maxRecDepth 100000
namespace Go.Proofs.YtjcfimmcogkopaaGreatDoor.Sep
variable {L : FilL} {b k n x y : List UInt8} {d : DiskD} {f : FS} {i j : Nat} {l : List OpD} {o : OpD} {os : List Ass} {p : List UInt8 × PtT} {q : Nat × PtT} {rs : List RowT} {torn : Int} {u : Value} {κ ν : Type}
open Go.RowKit
open Go.Proofs.YtjcfimmcogkopaaGreatDoor.Mem (AG BC Chg Ak)
def OpD.data : OpD → List UInt8
  | .app _ b => b
  | _ => []
def OpD.kind : OpD → Int
  | .app .. => 0
  | .cut .. => 1
  | .ren .. => 2
  | .del _ => 3
def OpD.name : OpD → List UInt8
  | .app n _ => n
  | .cut n _ => n
  | .ren a _ => a
  | .del n => n
def OpD.cutS : OpD → Nat
  | .cut _ s => s
  | _ => 0
def OpD.to : OpD → List UInt8
  | .ren _ b => b
  | _ => []
structure OpV where
  o : OpD
  A : Option Addr
  c : Nat
def OpV.v (x : OpV) : Value := .slice x.A x.o.data.length x.c
def encO (x : OpV) : List Value := [.int .i64 x.o.kind, .string (bs x.o.name), x.v, .int .i64 (x.o.cutS : Int), .string (bs x.o.to)]
theorem Qj : EncOf 5 encO := ⟨fun _ => rfl, fun x v h => by unfold encO OpV.v at h; simp at h; rcases h with rfl | rfl | rfl | rfl | rfl <;> rfl⟩
instance : Inhabited OpV := ⟨⟨.del [], none, 0⟩⟩
def B1 (W : List OpV) : Ass := AE (fun x : OpV => Af 5 1 encB x.v x.o.data) W
def ED (W : List OpV) : List OpD := W.map (·.o)
theorem Rz {W : List OpV} {x : OpV} (h : x ∈ W) : El (B1 W) x.v x.o.data := fun rs w h1 h2 => by
 obtain ⟨j, hj⟩ := List.getElem?_of_mem h
 obtain ⟨ys, h3, h4⟩ := AE.at_ h1 h2 hj
 exact H8 h3 h4
def Vv (f : FS) : OpD → Prop
  | .app n _ => Dz n = true
  | .cut n s => ∃ x, AW f n = some x ∧ s ≤ x.length
  | .ren a b => (∃ x, AW f a = some x) ∧ Dz b = true
  | .del _ => True
def GR : FS → List OpD → Prop
  | _, [] => True
  | f, o :: r => Vv f o ∧ GR (Bf f o) r
theorem Jy : GR f [] := trivial
theorem M4 : ∀ {l : List OpD} {f : FS} {o : OpD}, GR f l → Vv (l.foldl Bf f) o → GR f (l ++ [o])
  | [], _, _, _, ho => ⟨ho, trivial⟩
  | _ :: r, _, _, h, ho => ⟨h.1, M4 (l := r) h.2 ho⟩
theorem F8 : ∀ {l : List OpD} {f : FS} (i : Nat), GR f l → GR f (l.take i)
  | [], _, _, _ => by rw [List.take_nil]; trivial
  | _ :: _, _, 0, _ => trivial
  | _ :: r, _, i + 1, h => ⟨h.1, F8 (l := r) i h.2⟩
theorem NL : ∀ {l : List OpD} {f : FS} {i : Nat} {o : OpD}, GR f l → l[i]? = some o → Vv ((l.take i).foldl Bf f) o
  | x :: r, f, 0, o, h, hi => by
    simp only [List.getElem?_cons_zero, Option.some.injEq] at hi
    subst hi
    exact h.1
  | x :: r, f, i + 1, o, h, hi => NL (l := r) (i := i) h.2 (by simpa using hi)
theorem Uj {g : FS} (h : f.Perm g) (hf : (AC f).Nodup) (ho : Vv f o) : Vv g o := by
  cases o with
  | app n b => exact ho
  | cut n s => obtain ⟨x, h1, h2⟩ := ho; exact ⟨x, by rw [← Fx h hf]; exact h1, h2⟩
  | ren a b => obtain ⟨⟨x, h1⟩, h2⟩ := ho; exact ⟨⟨x, by rw [← Fx h hf]; exact h1⟩, h2⟩
  | del n => trivial
def CX (f : FS) : Prop := ∀ k, k ∈ AC f → Dz k = true
theorem SD : CX [] := fun k h => by cases h
theorem Id (hf : (AC f).Nodup) (h : CX f) (hn : Dz n = true) : CX (Bd f n x) := fun k hk => by
  obtain ⟨p, hp, rfl⟩ := List.mem_map.1 hk
  rcases (Gq hf p).1 hp with rfl | ⟨h1, _⟩
  · exact hn
  · exact h _ (List.mem_map_of_mem h1)
theorem M5 (hf : (AC f).Nodup) (h : CX f) : CX (B8 f n) := fun k hk => by
 obtain ⟨p, hp, rfl⟩ := List.mem_map.1 hk
 exact h _ (List.mem_map_of_mem ((Gr hf p).1 hp).1)
theorem Qk (hf : (AC f).Nodup) (h : CX f) (ho : Vv f o) : CX (Bf f o) := by
  cases o with
  | app n b => exact Id hf h ho
  | cut n s =>
    obtain ⟨x, h1, _⟩ := ho
    show CX (match AW f n with | some x => Bd f n (x.take s) | none => f)
    rw [h1]
    exact Id hf h (h _ (List.mem_map.2 ⟨_, (Bw hf).1 h1, rfl⟩))
  | ren a b =>
    obtain ⟨⟨x, h1⟩, h2⟩ := ho
    show CX (match AW f a with | some x => Bd (B8 f a) b x | none => f)
    rw [h1]
    exact Id (C6 hf) (M5 hf h) h2
  | del n => exact M5 hf h
theorem Kh : ∀ (l : List OpD) {f : FS}, (AC f).Nodup → CX f → GR f l → CX (l.foldl Bf f)
  | [], _, _, h, _ => h
  | o :: r, _, hf, h, ho => Kh r (IL hf o) (Qk hf h ho.1) ho.2
theorem OT (hf : (AC f).Nodup) : Az (Bd f k x) ≤ Az f + x.length := by
  cases h : AW f k with
  | none => rw [Jt h]; exact Nat.le_refl _
  | some y => have := Gu (x := x) hf h; omega
theorem NM (hf : (AC f).Nodup) (ho : Vv f o) : Az (Bf f o) ≤ Az f + o.size := by
  cases o with
  | app n b => rw [KF hf]; exact Nat.le_refl _
  | cut n s =>
    obtain ⟨x, h1, h2⟩ := ho
    show Az (match AW f n with | some x => Bd f n (x.take s) | none => f) ≤ Az f + 0
    rw [h1]
    have := Gu (x := x.take s) hf h1
    rw [List.length_take] at this
    show Az (Bd f n (x.take s)) ≤ _
    omega
  | ren a b =>
    obtain ⟨⟨x, h1⟩, _⟩ := ho
    show Az (match AW f a with | some x => Bd (B8 f a) b x | none => f) ≤ Az f + 0
    rw [h1]
    have h2 := Hb hf h1
    have h3 := OT (k := b) (x := x) (C6 (k := a) hf)
    show Az (Bd (B8 f a) b x) ≤ _
    omega
  | del n =>
    show Az (B8 f n) ≤ _
    cases h : AW f n with
    | none => rw [T9 h]; exact Nat.le_add_right _ _
    | some x => have := Hb hf h; show _ ≤ Az f + 0; omega
theorem FO : ∀ (l : List OpD) {f : FS}, (AC f).Nodup → GR f l → Az (l.foldl Bf f) ≤ Az f + (l.map OpD.size).sum
  | [], _, _, _ => by simp
  | o :: r, f, hf, ho => by
    have h1 := NM hf ho.1
    have h2 := FO r (IL hf o) ho.2
    rw [List.foldl_cons, List.map_cons, List.sum_cons]; omega
theorem Ki : ∀ (l : List OpD) (i : Nat), ((l.take i).map OpD.size).sum ≤ (l.map OpD.size).sum
  | [], _ => by simp
  | _ :: _, 0 => by simp
  | x :: r, i + 1 => by
    have := Ki r i
    simp only [List.take_succ_cons, List.map_cons, List.sum_cons]; omega
theorem L4 (hf : (AC f).Nodup) (h : AW f k = some x) : x.length ≤ Az f := by
 have := Hb hf h; omega
theorem OU [DecidableEq κ] {k : κ} {l : List (κ × ν)} (h : EY k l 0 = none) : AW l k = none := by unfold AW; rw [h]; rfl
theorem FE [DecidableEq κ] {k : κ} {l : List (κ × ν)} {q : Nat × ν} (h : EY k l 0 = some q) : AW l k = some q.2 := by unfold AW; rw [h]; rfl
theorem Uk (h : EY n L 0 = none) : Bf (BM L) (.app n b) = BM (Bd L n (u, b)) := by
 show Bd (BM L) n _ = _
 rw [Eg, OU h, Option.map_none, Option.getD_none, List.nil_append]
 exact Jw L n (u, b)
theorem Ul (h : EY n L 0 = some q) : Bf (BM L) (.app n b) = BM (Bd L n (u, q.2.2 ++ b)) := by
 show Bd (BM L) n _ = _
 rw [Eg, FE h, Option.map_some, Option.getD_some]
 exact Jw L n (u, q.2.2 ++ b)
theorem RA : Bf (BM L) (.del n) = BM (B8 L n) := OM L n
theorem M6 [DecidableEq κ] {k : κ} {l : List (κ × ν)} (h : EY k l 0 = none) : B8 l k = l := by unfold B8; rw [h]
theorem RB (h : EY k L 0 = some q) : ∀ rs, Ae [Bc (L.take q.1), Bc (L.drop (q.1 + 1))] rs → Bc (B8 L k) rs := fun rs hr => by
 obtain ⟨a, b, rfl, h1, h2⟩ := hr
 unfold Bc B8
 rw [h]
 show AE _ (L.eraseIdx q.1) _
 rw [List.eraseIdx_eq_take_drop_succ]
 unfold AE
 rw [List.map_append]
 exact Ae.app h1 (Ae.one' h2)
theorem Bh {v : Value} : ∀ rs, Au v f rs → (AC f).Nodup := fun rs ⟨L, h, h'⟩ => by
 obtain ⟨a, b, e, h1, _⟩ := h'
 rw [h, Ef]
 exact Bn.nodup _ h1
theorem Gy {v : Value} (h : f = BM L) : ∀ rs, Ae (Bn encKey AD v L :: Bc L :: os) rs → ∃ z, rs.Perm z ∧ Ae (Au v f :: os) z := fun rs hr => by
 subst h
 obtain ⟨a, r, rfl, h1, b, r2, rfl, h2, h3⟩ := hr
 exact ⟨a ++ (b ++ r2), .refl _, a ++ b, r2, by simp, ⟨L, rfl, a, b, rfl, h1, Ae.one h2⟩, h3⟩
theorem M7 {v : Value} (hq : EY n L 0 = none) (h : f = BM (Bd L n (u, y))) : ∀ rs, Ae (Bn encKey AD v (Bd L n (u, y)) :: Bc L :: Af 5 1 encB u y :: os) rs → ∃ z, rs.Perm z ∧ Ae (Au v f :: os) z := fun rs hr => by
 obtain ⟨a, r, rfl, h1, b, r2, rfl, h2, c, r3, rfl, h3, h4⟩ := hr
 rw [show a ++ (b ++ (c ++ r3)) = a ++ ((b ++ c) ++ r3) by simp]
 exact Gy h _ ⟨a, _, rfl, h1, b ++ c, r3, rfl, Rt hq (u, y) _ ⟨b, c, rfl, h2, Ae.one h3⟩, h4⟩
theorem Kj {v : Value} (hq : EY n L 0 = some q) (h : f = BM (Bd L n (u, y))) : ∀ rs, Ae (Bn encKey AD v (Bd L n (u, y)) :: Bc (L.take q.1) :: Af 5 1 encB u y :: Bc (L.drop (q.1 + 1)) :: os) rs → ∃ z, rs.Perm z ∧ Ae (Au v f :: os) z := fun rs hr => by
 obtain ⟨a, r, rfl, h1, b, r2, rfl, h2, c, r3, rfl, h3, e, r4, rfl, h4, h5⟩ := hr
 rw [show a ++ (b ++ (c ++ (e ++ r4))) = a ++ ((b ++ (c ++ e)) ++ r4) by simp]
 exact Gy h _ ⟨a, _, rfl, h1, b ++ (c ++ e), r4, rfl, VS hq (u, y) _ ⟨b, c ++ e, rfl, h2, c, e, rfl, h3, Ae.one h4⟩, h5⟩
theorem Ql {v : Value} (hq : EY n L 0 = some q) (h : f = BM (B8 L n)) : ∀ rs, Ae (Bn encKey AD v (B8 L n) :: Bc (L.take q.1) :: Bc (L.drop (q.1 + 1)) :: os) rs → ∃ z, rs.Perm z ∧ Ae (Au v f :: os) z := fun rs hr => by
 obtain ⟨a, r, rfl, h1, b, r2, rfl, h2, e, r4, rfl, h4, h5⟩ := hr
 rw [show a ++ (b ++ (e ++ r4)) = a ++ ((b ++ e) ++ r4) by simp]
 exact Gy h _ ⟨a, _, rfl, h1, b ++ e, r4, rfl, RB hq _ ⟨b, e, rfl, h2, Ae.one h4⟩, h5⟩
theorem Qm {e : TypeId} {v : Value} {l : List UInt8} {k : Nat} (hk : k ≤ l.length) : ∀ rs, Ae [Af e 1 encB v l] rs → Af e 1 encB (BN 1 v 0 k) (l.take k) rs := fun rs hr => by
  rcases Ae.one' hr with ⟨h1, h2, h3⟩ | ⟨g, cap, cs, h1, h2, h3, h4, h5, h6⟩
  · subst h2; subst h1
    have : k = 0 := by simpa using hk
    subst this
    exact .inl ⟨by simp [BN], by simp, h3⟩
  · subst h1
    have hl : (l.take k).length = k := by rw [List.length_take]; omega
    have e1 : (⟨g, 0 + 0 * 1, none⟩ : Addr) = ⟨g, 0, none⟩ := rfl
    refine .inr ⟨g, cap, cs, ?_, by rw [hl]; omega, h3, h4, ?_, h6⟩
    · simp [BN, Addr.add, hl]
    · rw [hl]
      have h7 := congrArg (List.take (k * 1)) h5
      rw [List.take_take, Nat.min_eq_left (by omega)] at h7
      rw [h7]
      have h8 : flat encB l = flat encB (l.take k) ++ flat encB (l.drop k) := by rw [← G4, List.take_append_drop]
      rw [h8, List.take_append_of_le_length (by rw [Dn Ou, hl]; omega), List.take_of_length_le (by rw [Dn Ou, hl]; omega)]
theorem V0 {s : Nat} (h : EY n L 0 = some q) : Bf (BM L) (.cut n s) = BM (Bd L n (u, q.2.2.take s)) := by
  show (match AW (BM L) n with | some x => Bd (BM L) n (x.take s) | none => BM L) = _
  rw [Eg, FE h]
  exact Jw L n (u, q.2.2.take s)
theorem RC {a : List UInt8} (h : EY a L 0 = some q) : Bf (BM L) (.ren a b) = BM (Bd (B8 L a) b (q.2.1, q.2.2)) := by
  show (match AW (BM L) a with | some x => Bd (B8 (BM L) a) b x | none => BM L) = _
  rw [Eg, FE h, OM]
  exact Jw (B8 L a) b (q.2.1, q.2.2)
theorem Qn [DecidableEq κ] {k : κ} {l : List (κ × ν)} {x : ν} (h : AW l k = some x) : ∃ q, EY k l 0 = some q ∧ q.2 = x := by
 unfold AW at h
 exact Option.map_eq_some_iff.1 h
theorem M8 (h : AW (BM L) n = some x) : ∃ q, EY n L 0 = some q ∧ q.2.2 = x := by
 rw [Eg] at h
 obtain ⟨r, h1, h2⟩ := Option.map_eq_some_iff.1 h
 obtain ⟨q, h3, h4⟩ := Qn h1
 exact ⟨q, h3, by rw [h4]; exact h2⟩
theorem SE {v : Value} {s : Nat} (hq : EY n L 0 = some q) (hs : s ≤ q.2.2.length) (h : f = BM (Bd L n (BN 1 q.2.1 0 s, q.2.2.take s))) : ∀ rs, Ae (Bn encKey AD v (Bd L n (BN 1 q.2.1 0 s, q.2.2.take s)) :: Bc (L.take q.1) :: Af 5 1 encB q.2.1 q.2.2 :: Bc (L.drop (q.1 + 1)) :: os) rs → ∃ z, rs.Perm z ∧ Ae (Au v f :: os) z := fun rs hr => by
 obtain ⟨a, r, e1, h1, b, r2, e2, h2, c, r3, e3, h3, hx⟩ := hr
 exact Kj hq h _ ⟨a, r, e1, h1, b, r2, e2, h2, c, r3, e3, Qm hs _ (Ae.one h3), hx⟩
def FW : Option Nat → Int
  | none => -1
  | some n => n
structure DskU (d : DiskD) where
  pv : Value
  sm : Value
  sh : Value
  W : List OpV
  g : FS
  hW : ED W = d.wait
  hg : d.down = false → g.Perm d.now
  hok : GR d.syn d.wait
  hf : ∀ n, d.fuse = some n → n ≤ 9223372036854775807
  hr : 0 ≤ d.room ∧ d.room ≤ 1048576
  hk : CX d.syn
def Yn : Bool → Value → FS → Ass
  | true, v, _ => fact (v = .map none)
  | false, v, f => Au v f
def Ab (p : Nat) (d : DiskD) : Ass := fun rs => ∃ x : DskU d, Ae [cell p 101 #[.int .i64 d.room, .int .i64 (FW d.fuse), .bool d.down, x.pv, x.sm, x.sh], Af 106 5 encO x.pv x.W, B1 x.W, Au x.sm d.syn, Yn d.down x.sh x.g] rs
section
variable {p : Nat} {d : DiskD}
theorem SF : ∀ rs, Ab p d rs → ∃ x : DskU d, Ae [cell p 101 #[.int .i64 d.room, .int .i64 (FW d.fuse), .bool d.down, x.pv, x.sm, x.sh], Af 106 5 encO x.pv x.W, B1 x.W, Au x.sm d.syn, Yn d.down x.sh x.g] rs := fun _ h => h
theorem Ie (h : d.down = false) : ∀ rs, Ab p d rs → ∃ x : DskU d, Ae [cell p 101 #[.int .i64 d.room, .int .i64 (FW d.fuse), .bool false, x.pv, x.sm, x.sh], Af 106 5 encO x.pv x.W, B1 x.W, Au x.sm d.syn, Au x.sh x.g] rs := fun rs ⟨x, hx⟩ => ⟨x, by rw [h] at hx; exact hx⟩
theorem SG {q : Prop} {a b c e : Ass} (h : Ae [a, b, c, e, fact q] rs) : q ∧ Ae [a, b, c, e] rs := by
 obtain ⟨_, _, rfl, h1, _, _, rfl, h2, _, _, rfl, h3, _, _, rfl, h4, _, _, rfl, ⟨rfl, h5⟩, rfl⟩ := h
 exact ⟨h5, _, _, rfl, h1, _, _, rfl, h2, _, _, rfl, h3, _, _, rfl, h4, rfl⟩
theorem SH {q : Prop} {a b c e : Ass} (h5 : q) (h : Ae [a, b, c, e] rs) : Ae [a, b, c, e, fact q] rs := by
 obtain ⟨_, _, rfl, h1, _, _, rfl, h2, _, _, rfl, h3, _, _, rfl, h4, rfl⟩ := h
 exact ⟨_, _, rfl, h1, _, _, rfl, h2, _, _, rfl, h3, _, _, rfl, h4, _, _, rfl, ⟨rfl, h5⟩, rfl⟩
theorem RD (h : d.down = true) : ∀ rs, Ab p d rs → ∃ x : DskU d, Ae [cell p 101 #[.int .i64 d.room, .int .i64 (FW d.fuse), .bool true, x.pv, x.sm, .map none], Af 106 5 encO x.pv x.W, B1 x.W, Au x.sm d.syn] rs := fun rs ⟨x, hx⟩ => by
 rw [h] at hx
 obtain ⟨e, h1⟩ := SG hx
 rw [e] at h1
 exact ⟨x, h1⟩
theorem L5 (x : DskU d) (h : d.down = true) (hs : x.sh = .map none) : ∀ rs, Ae ([cell p 101 #[.int .i64 d.room, .int .i64 (FW d.fuse), .bool true, x.pv, x.sm, .map none], Af 106 5 encO x.pv x.W, B1 x.W, Au x.sm d.syn] ++ os) rs → ∃ z, rs.Perm z ∧ Ae ([Ab p d] ++ os) z := fun rs hr => by
 obtain ⟨a, b, e, h1, h2⟩ := Ae.split hr
 subst e
 refine ⟨a ++ b, .refl _, Ae.app (Ae.one ⟨x, ?_⟩) h2⟩
 rw [h]
 exact SH hs (by rw [hs]; exact h1)
theorem F9 (x : DskU d) (h : d.down = false) : ∀ rs, Ae ([cell p 101 #[.int .i64 d.room, .int .i64 (FW d.fuse), .bool false, x.pv, x.sm, x.sh], Af 106 5 encO x.pv x.W, B1 x.W, Au x.sm d.syn, Au x.sh x.g] ++ os) rs → ∃ z, rs.Perm z ∧ Ae ([Ab p d] ++ os) z := fun rs hr => by
 obtain ⟨a, b, e, h1, h2⟩ := Ae.split hr
 subst e
 refine ⟨a ++ b, .refl _, Ae.app (Ae.one ⟨x, ?_⟩) h2⟩
 rw [h]
 exact h1
end
theorem L6 {α : Type} {L : List α} {b : α} (h : L[i]? = some b) : L.take i ++ [b] = L.take (i + 1) := by
 have hlt := (List.getElem?_eq_some_iff.1 h).1
 have hx := (List.getElem?_eq_some_iff.1 h).2
 rw [← hx, List.take_succ_eq_append_getElem hlt]
structure DskL (d : DiskD) where
  pv : Value
  sm : Value
  sh : Value
  W : List OpV
  L : FilL
  hW : ED W = d.wait
  hg : (BM L).Perm d.now
  hok : GR d.syn d.wait
  hf : ∀ n, d.fuse = some n → n ≤ 9223372036854775807
  hr : 0 ≤ d.room ∧ d.room ≤ 1048576
  hk : CX d.syn
section
variable {p : Nat} {d : DiskD}
theorem DH (h : d.down = false) : ∀ rs, Ab p d rs → ∃ y : DskL d, Ae [cell p 101 #[.int .i64 d.room, .int .i64 (FW d.fuse), .bool false, y.pv, y.sm, y.sh], Af 106 5 encO y.pv y.W, B1 y.W, Au y.sm d.syn, Bn encKey AD y.sh y.L, Bc y.L] rs := fun rs hr => by
 obtain ⟨x, a1, _, rfl, h1, a2, _, rfl, h2, a3, _, rfl, h3, a4, _, rfl, h4, a5, _, rfl, ⟨L, hL, h5⟩, rfl⟩ := Ie h rs hr
 refine ⟨⟨x.pv, x.sm, x.sh, x.W, L, x.hW, hL ▸ x.hg h, x.hok, x.hf, x.hr, x.hk⟩, a1, _, rfl, h1, a2, _, rfl, h2, a3, _, rfl, h3, a4, a5, by simp, h4, h5⟩
theorem XC (x : DskU d) (h : d.down = false) : ∀ rs, Ae [cell p 101 #[.int .i64 d.room, .int .i64 (FW d.fuse), .bool false, x.pv, x.sm, x.sh], Af 106 5 encO x.pv x.W, B1 x.W, Au x.sm d.syn, Au x.sh x.g] rs → Ab p d rs := fun rs hr => ⟨x, by rw [h]; exact hr⟩
theorem Jz (y : DskL d) (h : d.down = false) : ∀ rs, Ae [cell p 101 #[.int .i64 d.room, .int .i64 (FW d.fuse), .bool false, y.pv, y.sm, y.sh], Af 106 5 encO y.pv y.W, B1 y.W, Au y.sm d.syn, Bn encKey AD y.sh y.L, Bc y.L] rs → Ab p d rs := fun rs hr => by
 obtain ⟨a1, _, rfl, h1, a2, _, rfl, h2, a3, _, rfl, h3, a4, a5, rfl, h4, h5⟩ := hr
 exact XC ⟨y.pv, y.sm, y.sh, y.W, BM y.L, y.hW, fun _ => y.hg, y.hok, y.hf, y.hr, y.hk⟩ h _ ⟨a1, _, rfl, h1, a2, _, rfl, h2, a3, _, rfl, h3, a4, a5, rfl, h4, Ae.one ⟨y.L, rfl, h5⟩⟩
theorem C7 (y : DskL d) (h : d.down = false) : ∀ rs, Ae ([cell p 101 #[.int .i64 d.room, .int .i64 (FW d.fuse), .bool false, y.pv, y.sm, y.sh], Af 106 5 encO y.pv y.W, B1 y.W, Au y.sm d.syn, Bn encKey AD y.sh y.L, Bc y.L] ++ os) rs → ∃ z, rs.Perm z ∧ Ae ([Ab p d] ++ os) z := fun rs hr => by
 obtain ⟨a, b, e, h1, h2⟩ := Ae.split hr
 subst e
 exact ⟨a ++ b, .refl _, Ae.app (Ae.one (Jz y h _ h1)) h2⟩
end
theorem Um (hp : (BM L).Perm d.now) (hn : (AC (BM L)).Nodup) (n y : List UInt8) : Iy d n y = (decide ((Az (BM L) : Int) + (y.length : Int) ≤ d.room) && !((AW L n).isNone && decide (64 ≤ L.length))) := by
 unfold Iy
 rw [← EC hp, ← Fx hp hn, ← hp.length_eq, Eg]
 have h1 : (BM L).length = L.length := by simp [BM]
 rw [h1]
 cases AW L n <;> rfl
theorem SI (hp : (BM L).Perm d.now) (hn : (AC (BM L)).Nodup) (h : Iy d n y = false) : (d.room < (Az (BM L) : Int) + (y.length : Int) ∧ AW L n = none) ∨ (d.room < (Az (BM L) : Int) + (y.length : Int) ∧ ∃ r, AW L n = some r) ∨ ((Az (BM L) : Int) + (y.length : Int) ≤ d.room ∧ AW L n = none ∧ 64 ≤ L.length) := by
  rw [Um hp hn] at h
  by_cases h1 : (Az (BM L) : Int) + (y.length : Int) ≤ d.room
  · right; right
    cases h2 : AW L n with
    | none => rw [h2] at h; simp [h1] at h; exact ⟨h1, rfl, h⟩
    | some r => rw [h2] at h; simp [h1] at h
  · cases h2 : AW L n with
    | none => exact .inl ⟨by omega, rfl⟩
    | some r => exact .inr (.inl ⟨by omega, r, rfl⟩)
theorem V1 (hp : (BM L).Perm d.now) (hn : (AC (BM L)).Nodup) (h : Iy d n y = true) : (Az (BM L) : Int) + (y.length : Int) ≤ d.room ∧ ((∃ r, AW L n = some r) ∨ (AW L n = none ∧ L.length < 64)) := by
  rw [Um hp hn, Bool.and_eq_true, decide_eq_true_eq] at h
  refine ⟨h.1, ?_⟩
  cases h2 : AW L n with
  | none => right; have := h.2; rw [h2] at this; simp at this; exact ⟨rfl, this⟩
  | some r => exact .inl ⟨r, rfl⟩
theorem IT (hp : (BM L).Perm d.now) (hn : (AC (BM L)).Nodup) (n : List UInt8) : AW d.now n = (AW L n).map (·.2) := by rw [← Fx hp hn, Eg]
theorem BG {v : Value} : ∀ rs, Bn encKey AD v L rs → (AC (BM L)).Nodup := fun rs h => by rw [Ef]; exact Bn.nodup _ h
theorem Un {p : Nat} {room : Int} {sm sh : Value} (hr : 0 ≤ room ∧ room ≤ 1048576) : ∀ rs, Ae [cell p 101 #[.int .i64 room, .int .i64 (-1), .bool false, .slice none 0 0, sm, sh], Af 106 5 encO (.slice none 0 0) [], B1 [], Bn encKey AD sm [], Bc [], Bn encKey AD sh [], Bc []] rs → ∃ z, rs.Perm z ∧ Ae [Ab p (K4 room)] z := fun rs hx => by
 obtain ⟨a1, _, rfl, h1, a2, _, rfl, h2, a3, _, rfl, h3, a4, _, rfl, h4, a5, a6, rfl, h5, h6⟩ := hx
 refine ⟨_, .refl _, Ae.one ⟨⟨.slice none 0 0, sm, sh, [], [], rfl, fun _ => .refl _, Jy, (fun n h => by cases h), hr, SD⟩, ?_⟩⟩
 refine ⟨a1, _, rfl, h1, a2, _, rfl, h2, a3, _, rfl, h3, a4 ++ a5, a6, by simp, ⟨[], rfl, a4, a5, rfl, h4, Ae.one h5⟩, Ae.one ⟨[], rfl, h6⟩⟩
theorem SJ {l : FilL} (h : l[j]? = some p) : ((p.1, p.2.2) :: BM (l.eraseIdx j)).Perm (BM l) := by
 have hlt := (List.getElem?_eq_some_iff.1 h).1
 have hx := (List.getElem?_eq_some_iff.1 h).2
 have h1 : l = l.take j ++ p :: l.drop (j + 1) := by rw [← hx]; simp
 have h2 : (p :: l.eraseIdx j).Perm l := by
  rw [List.eraseIdx_eq_take_drop_succ]
  have h3 := (List.perm_middle (a := p) (l₁ := l.take j) (l₂ := l.drop (j + 1))).symm
  rw [← h1] at h3
  exact h3
 exact h2.map (fun p : List UInt8 × PtT => (p.1, p.2.2))
theorem Qo {done left : FilL} (hn : (AC (BM L)).Nodup) (hp : (BM done ++ BM left).Perm (BM L)) (hj : left[j]? = some p) : EY p.1 done 0 = none := by
  have h1 : (AC (BM done ++ BM left)).Nodup := (DP hp).nodup_iff.2 hn
  have h2 : AC (BM done ++ BM left) = AC done ++ AC left := by rw [← Ef done, ← Ef left]; unfold AC; rw [List.map_append]
  rw [h2] at h1
  cases h : EY p.1 done 0 with
  | none => rfl
  | some q =>
    exfalso
    have h3 := (DG h).2
    have h4 : p.1 ∈ AC done := List.mem_map.2 ⟨_, List.mem_of_getElem? h3, rfl⟩
    have h5 : p.1 ∈ AC left := List.mem_map.2 ⟨_, List.mem_of_getElem? hj, rfl⟩
    exact (List.nodup_append.1 h1).2.2 _ h4 _ h5 rfl
theorem OV {done left : FilL} (hp : (BM done ++ BM left).Perm (BM L)) (hj : left[j]? = some p) (hf : EY p.1 done 0 = none) : (BM (Bd done p.1 (u, p.2.2)) ++ BM (left.eraseIdx j)).Perm (BM L) := by
 have h1 : Bd done p.1 (u, p.2.2) = done ++ [(p.1, (u, p.2.2))] := by unfold Bd; rw [hf]
 have h2 : BM (done ++ [(p.1, (u, p.2.2))]) = BM done ++ [(p.1, p.2.2)] := by simp [BM]
 rw [h1, h2, List.append_assoc]
 exact ((SJ hj).append_left (BM done)).trans hp
theorem OW {v : Value} {M : FilL} (h : f = BM L) : ∀ rs, Ae [Bn encKey AD v L, Bc L, Bn encKey AD u M, Bc M] rs → ∃ z, rs.Perm z ∧ Ae [Au v f, Au u (BM M)] z := fun rs hr => by
 subst h
 obtain ⟨a, r, rfl, h1, b, r2, rfl, h2, h3⟩ := hr
 exact ⟨a ++ (b ++ r2), .refl _, a ++ b, r2, by simp, ⟨L, rfl, a, b, rfl, h1, Ae.one h2⟩, Ae.one ⟨M, rfl, h3⟩⟩
def Ga (f : FS) (o : OpD) (torn : Int) : FS := match o with
  | .app n b => if (torn % (b.length : Int)).toNat = 0 ∨ b = [] then f else Bf f (.app n (b.take (torn % (b.length : Int)).toNat))
  | _ => f
theorem Gz (d : DiskD) (keep torn : Int) : DZ d keep torn = match d.wait[CG d keep]? with
  | some o => Ga ((d.wait.take (CG d keep)).foldl Bf d.syn) o torn
  | none => (d.wait.take (CG d keep)).foldl Bf d.syn := by
  unfold DZ Ga
  cases d.wait[CG d keep]? with
  | none => rfl
  | some o => cases o <;> rfl
theorem Uo (h : o.data = []) : Ga f o torn = f := by
  cases o with
  | app n b => unfold Ga; simp only; rw [if_pos (.inr h)]
  | cut n s => rfl
  | ren a b => rfl
  | del n => rfl
theorem SK (h : l[i]? = some o) (f : FS) : (l.take (i + 1)).foldl Bf f = Bf ((l.take i).foldl Bf f) o := by
 rw [← L6 h, List.foldl_append]; rfl
theorem JA {N : Nat} (hn : (AC f).Nodup) (hok : GR f l) (h : l[i]? = some o) (hs : Az f + (l.map OpD.size).sum ≤ N) : Az ((l.take i).foldl Bf f) + o.size ≤ N := by
 have h1 := FO (l.take i) hn (F8 i hok)
 have h2 : ((l.take (i + 1)).map OpD.size).sum = ((l.take i).map OpD.size).sum + o.size := by rw [← L6 h]; simp
 have h3 := Ki l (i + 1)
 omega
theorem Qp (hf : (AC f).Nodup) (h : CX f) (ho : Vv f o) : CX (Ga f o torn) := by
  cases o with
  | app n b =>
    unfold Ga
    simp only
    split
    · exact h
    · exact Id hf h ho
  | cut n s => exact h
  | ren a b => exact h
  | del n => exact h
theorem L7 {keep : Int} (hn : (AC d.syn).Nodup) (h : CX d.syn) (ho : GR d.syn d.wait) : CX (DZ d keep torn) := by
  rw [Gz]
  have h1 := Kh _ hn h (F8 (CG d keep) ho)
  cases hw : d.wait[CG d keep]? with
  | none => exact h1
  | some o => exact Qp (Ib _ hn) h1 (NL ho hw)
theorem NN (h : d.fit) (hn : (AC d.syn).Nodup) (ho : GR d.syn d.wait) : Az d.now ≤ 1099511627776 := Nat.le_trans (FO d.wait hn ho) h.1
theorem M9 (hn : (AC d.syn).Nodup) (h : CX d.syn) (ho : GR d.syn d.wait) : CX d.now := Kh d.wait hn h ho
theorem SL (hn : (AC d.syn).Nodup) : (AC d.now).Nodup := Ib d.wait hn
theorem NO (x : DskU d) : x.W.length = d.wait.length := by rw [← x.hW]; simp [ED]
theorem NP {a m : Int} (hm : 0 < m) : a % m = if a.tmod m < 0 then a.tmod m + m else a.tmod m := by
  by_cases ha : 0 ≤ a
  · have h1 : a.tmod m = a % m := Int.tmod_eq_emod_of_nonneg ha
    have := Int.emod_nonneg a (show m ≠ 0 by omega)
    rw [h1, if_neg (by omega)]
  · have h1 := Int.tmod_eq_emod (a := a) (b := m)
    have h3 := Int.emod_nonneg a (show m ≠ 0 by omega)
    have h4 := Int.emod_lt_of_pos a hm
    by_cases hd : m ∣ a
    · have h5 : a % m = 0 := Int.emod_eq_zero_of_dvd hd
      have h6 : a.tmod m = 0 := by rw [h1, if_pos (.inr hd), h5]; simp
      rw [h5, h6]; simp
    · rw [if_neg (by simp [ha, hd])] at h1
      have h7 : (m.natAbs : Int) = m := by omega
      rw [h7] at h1
      have h8 : a % m ≠ 0 := fun e => hd (Int.dvd_of_emod_eq_zero e)
      rw [h1, if_pos (by omega)]; omega
end Go.Proofs.YtjcfimmcogkopaaGreatDoor.Sep
namespace Go.Proofs.YtjcfimmcogkopaaGreatDoor.Sep
open Go.RowKit
open Go.Proofs.YtjcfimmcogkopaaGreatDoor.Mem (AG BC Chg Ak)
section
variable {P : Program} {κ ν : Type} {kk : κ → Value} {vv : ν → Value} {B : Nat → Prop} {w0 w : World} {os : List Ass} {mt kt vt : TypeId} {n : Nat} {env : List (Nat × Value)} {Q : Exit → Act → World → Prop} {o : Oper} {act : Act}
theorem Uq {r : Operand} {k : IntKind} {q : Int} (ht : P.underlying mt = some (.map kt vt)) (ho : o.op = .makeMap mt (some r)) (hr : evs env r = some (.int k q)) : AR P Q n env B w0 os o (fun g : Nat => .map (some g)) (fun g => Bn kk vv (.map (some g)) [] :: os) := fun act w hH hF K hK => by
 have hrun : (execOp act.eval o).run P w = .ok (.value (.map (some w.heap.size))) (w.alloc (.map #[] 0)) := by
  unfold execOp
  simp [ho, hF.evs hr, Instr.makeMap, run_underlying ht, asInt, asIntOf, newObj, Sem.run]
 obtain ⟨rs, h1, h2⟩ := hH
 exact Fm (w0 := w) act hrun (hK w.heap.size _ ⟨_, ⟨[(w.heap.size, none, E3 #[] 0)], rs, rfl, ⟨w.heap.size, #[], 0, rfl, rfl, LF⟩, h1⟩, LH h2 _ (Dk.2 (heap_alloc_new w _))⟩)
end
section
variable {P : Program} {κ : Type} [DecidableEq κ] {kk : κ → Value} {w : World} {mt kt vt : TypeId} {kd : TypeDesc} {z : Value} {n : Nat} {env : List (Nat × Value)} {o : Oper} {act : Act}
theorem V2 (hT : MapTy P mt kt vt kd kk z) {x y : Operand} (ho : o.op = .lookup mt x y false) {k : κ} (hx : evs env x = some (.map none)) (hy : evs env y = some (kk k)) (hF : Fr n act env) : (execOp act.eval o).run P w = .ok (.value z) w := by
 unfold execOp
 simp only [ho, hF.evs hx, hF.evs hy, Sem.run_bind, G8 hT, Result.andThen_ok, Sem.run_pure, Bool.false_eq_true, if_false]
theorem V3 (hT : MapTy P mt kt vt kd kk z) {x y : Operand} (ho : o.op = .lookup mt x y true) {k : κ} (hx : evs env x = some (.map none)) (hy : evs env y = some (kk k)) (hF : Fr n act env) : (execOp act.eval o).run P w = .ok (.value (.tuple #[z, .bool false])) w := by
 unfold execOp
 simp only [ho, hF.evs hx, hF.evs hy, Sem.run_bind, G8 hT, Result.andThen_ok, Sem.run_pure, if_true]
end
end Go.Proofs.YtjcfimmcogkopaaGreatDoor.Sep
namespace Go.Proofs.YtjcfimmcogkopaaGreatDoor.Sep
open Go.RowKit
open Go.Proofs.YtjcfimmcogkopaaGreatDoor.Mem (AG BC Chg Ak)
end Go.Proofs.YtjcfimmcogkopaaGreatDoor.Sep
namespace Go.Proofs.YtjcfimmcogkopaaGreatDoor.Sep
open Go.RowKit
open Go.Proofs.YtjcfimmcogkopaaGreatDoor.Mem (AG BC Chg Ak)
theorem Qq (w : World) (room : Int) (h : 0 ≤ room ∧ room ≤ 1048576) : Calls Tryz.prog 65 #[.int .i64 room] w fun e w' => e = .returned (.bool true) ∧ Below w.heap.size w w' := by
 refine FR (args := [.int .i64 room]) 9 Tryz.func65 rfl rfl rfl (Dc ?_)
 exact An (.tmp rfl) (fun w h => ⟨rfl, Ak h.up⟩) rfl
theorem H6 (n : List UInt8) : Dz n = true ↔ 1 ≤ n.length ∧ n.length ≤ 16 := by simp [Dz]
theorem Ur (n : List UInt8) : Dz n = false ↔ ¬ (1 ≤ n.length ∧ n.length ≤ 16) := by rw [← H6]; simp
theorem L8 (w : World) (n : List UInt8) (h : Dz n = true) : Calls Tryz.prog 74 #[.string (bs n)] w fun e w' => e = .returned (.bool true) ∧ Below w.heap.size w w' := by
 have h := (H6 n).1 h
 refine FR (args := [.string (bs n)]) 11 Tryz.func74 rfl rfl rfl (AK ?_)
 refine Am Ac rfl (Aa rfl (.int .i64 (n.length : Int)) (fun b w hb hH => B0 rfl rfl (fun cs => (fun w cs => Ev Tryz.underlying9 _ _ w cs) w cs) hb) (Ai ?_))
 refine Am Ac rfl (Aa rfl (.int .i64 (n.length : Int)) (fun b w hb hH => B0 rfl rfl (fun cs => (fun w cs => Ev Tryz.underlying9 _ _ w cs) w cs) hb) (AK ?_))
 exact An (.tmp rfl) (fun w h => ⟨rfl, Ak h.up⟩) rfl
theorem Qr (w : World) (n : List UInt8) (h : Dz n = false) : Calls Tryz.prog 74 #[.string (bs n)] w fun e w' => e = .returned (.bool false) ∧ Below w.heap.size w w' := by
 have h := (Ur n).1 h
 refine FR (args := [.string (bs n)]) 11 Tryz.func74 rfl rfl rfl (Aq ?_)
 rcases Nat.lt_or_ge n.length 1 with h0 | h0
 refine Al (Am Ac rfl (Aa rfl (.int .i64 (n.length : Int)) (fun b w hb hH => B0 rfl rfl (fun cs => (fun w cs => Ev Tryz.underlying9 _ _ w cs) w cs) hb) (AK ?_)))
 exact An (.tmp rfl) (fun w h => ⟨rfl, Ak h.up⟩) rfl
 refine Al (Am Ac rfl (Aa rfl (.int .i64 (n.length : Int)) (fun b w hb hH => B0 rfl rfl (fun cs => (fun w cs => Ev Tryz.underlying9 _ _ w cs) w cs) hb) (Ai ?_)))
 refine Am Ac rfl (Aa rfl (.int .i64 (n.length : Int)) (fun b w hb hH => B0 rfl rfl (fun cs => (fun w cs => Ev Tryz.underlying9 _ _ w cs) w cs) hb) (AK ?_))
 exact An (.tmp rfl) (fun w h => ⟨rfl, Ak h.up⟩) rfl
theorem L9 (w : World) (a m r : Int) (hm : 0 < m) (h1 : m ≤ 9223372036854775807) (hr : a % m = r) : Calls Tryz.prog 54 #[.int .i64 a, .int .i64 m] w fun e w' => e = .returned (.int .i64 r) ∧ Below w.heap.size w w' := by
 have he := NP (a := a) hm
 have h2 := Int.emod_nonneg a (show m ≠ 0 by omega)
 have h3 := Int.emod_lt_of_pos a hm
 obtain ⟨t, ht⟩ : ∃ t, a.tmod m = t := ⟨_, rfl⟩
 rw [ht, hr] at he
 rw [hr] at h2 h3
 refine FR (args := [.int .i64 a, .int .i64 m]) 14 Tryz.func54 rfl rfl rfl (AK ?_)
 refine Am Ac rfl (Aa rfl (.int .i64 t) (fun b w hb hH => F3 rfl rfl rfl (by omega) ht hb) (Aq ?_))
 rcases Int.lt_or_le t 0 with h0 | h0
 rw [if_pos h0] at he
 refine BD ?_
 refine Am Ac rfl (Aa rfl (.int .i64 r) (fun b w hb hH => Ay rfl rfl rfl rfl (by rw [IntWalk.i64_in _ (by omega)]; omega) hb) (AV ?_))
 exact An (.tmp rfl) (fun w h => ⟨rfl, Ak h.up⟩) rfl
 rw [if_neg (by omega)] at he
 subst he
 refine Kf ?_
 exact An (.tmp rfl) (fun w h => ⟨rfl, Ak h.up⟩) rfl
theorem GJ (v : Value) (l : FilL) (n : List UInt8) (r : Option PtT) (h : AW l n = r) : AA Tryz.prog 75 #[v, .string (bs n)] [Bn encKey AD v l] (fun (_ : Unit) => .bool r.isSome) (fun (_ : Unit) => [Bn encKey AD v l]) := by
 refine AP (args := [v, .string (bs n)]) 14 Tryz.func75 rfl rfl rfl ?_; intro w rs
 refine AK ?_
 refine Am Ac rfl (Aa rfl (.tuple #[((r).map AD).getD (.slice none 0 0), .bool ((r).isSome)]) (fun b w hb hH => Xx 0 CO rfl (k := n) (r := r) h rfl rfl rfl hH hb) (AV ?_))
 exact An (.tmp rfl) (fun w h => As () rfl [0] rfl h DK) rfl
theorem V4 (n : List UInt8) : AA Tryz.prog 75 #[.map none, .string (bs n)] [] (fun (_ : Unit) => .bool false) (fun (_ : Unit) => []) := by
 refine AP (args := [.map none, .string (bs n)]) 14 Tryz.func75 rfl rfl rfl ?_; intro w rs
 refine AK ?_
 refine Am Ac rfl (Aa rfl (.tuple #[.slice none 0 0, .bool false]) (fun b w hb hH => V3 CO rfl (k := n) rfl rfl hb) (AV ?_))
 exact An (.tmp rfl) (fun w h => As () rfl [] rfl h DK) rfl
theorem Ma (p : Nat) (r1 r2 r3 sm fm pv : Value) (l : FilL) (hl : Az (BM l) ≤ 1099511627776) : AA Tryz.prog 76 #[.pointer (some ⟨p, 0, none⟩)] [cell p 101 #[r1, r2, r3, pv, sm, fm], Bn encKey AD fm l, Bc l] (fun (_ : Unit) => .int .i64 ((Az (BM l) : Nat) : Int)) (fun (_ : Unit) => [cell p 101 #[r1, r2, r3, pv, sm, fm], Bn encKey AD fm l, Bc l]) := by
 refine AP (args := [.pointer (some ⟨p, 0, none⟩)]) 20 Tryz.func76 rfl rfl rfl ?_; intro w rs
 refine Eh ?_
 refine AQ (post := fun g1 => [cell p 101 #[r1, r2, r3, pv, sm, fm], Ij encKey AD fm (.pointer (some ⟨g1, 0, none⟩)) l l none, Bc l]) rfl (Rl 1 Tryz.underlying99 rfl rfl rfl) ?_; rintro g1
 refine Aq ?_
 refine BT (α := Nat × FilL × Option (List UInt8 × PtT)) (fun ⟨n, left, cur⟩ => [(2, .int .i64 0), (3, .int .i64 ((n : Nat) : Int)), (10, .pointer (some ⟨g1, 0, none⟩))]) (fun ⟨n, left, cur⟩ => [cell p 101 #[r1, r2, r3, pv, sm, fm], Ij encKey AD fm (.pointer (some ⟨g1, 0, none⟩)) l left cur, Bc l]) (fun ⟨n, left, cur⟩ => n + Az (BM left) = Az (BM l) ∧ ∀ p, p ∈ left → p ∈ l) (fun ⟨n, left, cur⟩ => left.length) (0, l, none) ⟨Nat.zero_add _, fun _ h => h⟩ ⟨rfl, rfl, rfl, trivial⟩ rfl ?_
 rintro ⟨n, left, cur⟩ hI
 refine AH.at_ (env' := [(2, .int .i64 0), (3, .int .i64 ((n : Nat) : Int)), (10, .pointer (some ⟨g1, 0, none⟩))]) (rs' := [cell p 101 #[r1, r2, r3, pv, sm, fm], Ij encKey AD fm (.pointer (some ⟨g1, 0, none⟩)) l left cur, Bc l]) ⟨rfl, rfl, rfl, trivial⟩ rfl ?_
 have hI1 : n + Az (BM left) = Az (BM l) := hI.1
 rcases Classical.em (left = []) with hc | hc
 have hn : n = Az (BM l) := by rw [hc] at hI1; simpa [BM, Az] using hI1
 refine Al (Am Ac rfl (Aa rfl (.tuple #[.bool false]) (fun b w hb hH => Rm 1 rfl hc rfl rfl hH hb) (AK ?_)))
 refine B2 (AV ?_)
 refine oC 1 MT ?_; rintro ⟨⟩
 refine lC [1] ?_
 refine AK ?_
 exact An (.tmp rfl) (fun w h => As () (by rw [hn]) [1, 0, 2] rfl h DK) rfl
 refine Al (Am Ac rfl (AQ (post := fun q : { q : Nat × List UInt8 × PtT // (left)[q.1]? = some q.2 } => [cell p 101 #[r1, r2, r3, pv, sm, fm], Ij encKey AD fm (.pointer (some ⟨g1, 0, none⟩)) l (left.eraseIdx q.1.1) (some (q.1.2.1, q.1.2.2)), Bc l]) rfl (Rn 1 rfl hc rfl rfl) ?_)); rintro q
 refine Ce ?_
 have hqm : q.1.2 ∈ l := hI.2 _ (List.mem_of_getElem? q.2)
 have hqu : Az (BM (left.eraseIdx q.1.1)) + q.1.2.2.2.length = Az (BM left) := P9 q.2
 refine Al (Am Ac rfl (Aa rfl (.tuple #[.string (bs q.1.2.1), q.1.2.2.1]) (fun b w hb hH => Ro 1 rfl rfl rfl hH hb) (Aq ?_)))
 refine Am Ac rfl (Aa rfl (.int .i64 (q.1.2.2.2.length : Int)) (fun b w hb hH => AJ ((hH.rd8 2 rfl (Jv hqm)).rd) Tryz.underlying49 rfl rfl hb) (Aa rfl (.int .i64 ((n + q.1.2.2.2.length : Nat) : Int)) (fun b w hb hH => Ay rfl rfl rfl rfl (by rw [IntWalk.i64_in _ (by omega)]; omega) hb) (Aq ?_)))
 exact Br (n + q.1.2.2.2.length, left.eraseIdx q.1.1, some (q.1.2.1, q.1.2.2)) 0 ⟨by omega, fun p hp => hI.2 p (List.mem_of_mem_eraseIdx hp)⟩ (show (left.eraseIdx q.1.1).length < left.length from LW q.2) ⟨rfl, rfl, rfl, trivial⟩ rfl
end Go.Proofs.YtjcfimmcogkopaaGreatDoor.Sep
namespace Go.Proofs.YtjcfimmcogkopaaGreatDoor.Sep
variable {A : Option Addr} {X : Ass} {f f' : FS} {n : List UInt8}
open Go.RowKit
open Go.Proofs.YtjcfimmcogkopaaGreatDoor.Mem (AG BC Chg Ak)
theorem Us {v : Value} {b : List UInt8} {c : Nat} (hX : El X (.slice A b.length c) b) (hl : Az f + b.length ≤ 4398046511104) (h : Bf f (.app n b) = f') : AA Tryz.prog 106 #[v, .agg #[.int .i64 0, .string (bs n), .slice A b.length c, .int .i64 0, .string (bs ([]))]] [Au v f, X] (fun (_ : Unit) => .tuple #[]) (fun (_ : Unit) => [Au v f', X]) := by
  have h_ := h
  refine AP (args := [v, .agg #[.int .i64 0, .string (bs n), .slice A b.length c, .int .i64 0, .string (bs ([]))]]) 49 Tryz.func106 rfl rfl rfl ?_; intro w rs
  refine AH.fact 0 rfl Bh ?_; rintro hnd
  refine oC 0 FC ?_; rintro ⟨L, hL⟩
  subst hL
  refine Al (Am Ac rfl (I5 ?_)); rintro g1
  refine Kf ?_
  rcases hq : EY n L 0 with _ | q
  refine Bb 5 1 encB ?_
  refine Bk 10 1 [⟨.quiet, [none], fun _ => v, []⟩, ⟨.quiet, [none], fun _ => .pointer (some ⟨g1, 1, none⟩), []⟩, ⟨.quiet, [none], fun _ => .string (bs n), [1]⟩, ⟨.quiet, [none], fun _ => v, []⟩, ⟨.quiet, [none], fun _ => .pointer (some ⟨g1, 1, none⟩), []⟩, ⟨.quiet, [none], fun _ => .string (bs n), [4]⟩, ⟨.quiet, [none], fun _ => .slice none 0 0, [3, 5]⟩, ⟨.quiet, [none], fun _ => .pointer (some ⟨g1, 2, none⟩), []⟩, ⟨.quiet, [none], fun _ => .slice A b.length c, [7]⟩, ⟨.act 0, [some false], fun _ => undef, [6, 8]⟩] [(0, v), (3, .pointer (some ⟨g1, 0, none⟩))] (fun ρ => match ρ with | [r0] => [Dm r0 (fun u => Af 5 1 encB u b) (Af 5 1 encB (.slice none 0 0) ([])), cell g1 106 #[.int .i64 0, .string (bs n), .slice A b.length c, .int .i64 0, .string (bs ([]))], Bn encKey AD v L, Bc L, X] | _ => []) (by kernel_rfl) (by kernel_rfl) ⟨rfl, rfl, trivial⟩ rfl ?_ ?_
  refine Ai ?_
  refine Ai ?_
  refine Ai ?_
  refine Ai ?_
  refine Ai ?_
  refine Ai ?_
  refine Ad (by intro r0_; exact ⟨rfl, fun b w hH hb => G9 2 CO rfl (k := n) (r := none) (OU hq) rfl rfl rfl hH hb⟩) (Ai ?_)
  refine Ai ?_
  refine Ad (by exact ⟨rfl, AR.s (Fd 0 AL (by kernel_rfl) rfl (b) (fun w hH => hH.rd 4 rfl hX.rd) (by simp only [List.length_nil]; omega) rfl rfl rfl (List.nil_append _)) (fun _ => rfl)⟩) ?_
  exact Bv
  intro u
  refine A5.keep (env' := [(9, v), (11, .string (bs n)), (18, u)]) ⟨rfl, rfl, rfl, trivial⟩ (Am Ac rfl (Bt (post := fun _ => [Af 5 1 encB u b, cell g1 106 #[.int .i64 0, .string (bs n), .slice A b.length c, .int .i64 0, .string (bs ([]))], Bn encKey AD v (Bd L n (u, b)), Bc L, X]) rfl rfl (J3 2 CO rfl n (u, b) rfl rfl rfl rfl rfl rfl) ?_)); rintro ⟨⟩
  refine Aq ?_
  exact Dv  (fun w h => As () rfl [2, 3, 0, 4] rfl h (M7 hq (h_.symm.trans (Uk hq)))) rfl
  refine oC 2 (Hu hq) ?_; rintro ⟨⟩
  have hle : q.2.2.length ≤ Az (BM L) := L4 hnd (by rw [Eg, FE hq]; rfl)
  refine Bk 10 1 [⟨.quiet, [none], fun _ => v, []⟩, ⟨.quiet, [none], fun _ => .pointer (some ⟨g1, 1, none⟩), []⟩, ⟨.quiet, [none], fun _ => .string (bs n), [1]⟩, ⟨.quiet, [none], fun _ => v, []⟩, ⟨.quiet, [none], fun _ => .pointer (some ⟨g1, 1, none⟩), []⟩, ⟨.quiet, [none], fun _ => .string (bs n), [4]⟩, ⟨.quiet, [none], fun _ => q.2.1, [3, 5]⟩, ⟨.quiet, [none], fun _ => .pointer (some ⟨g1, 2, none⟩), []⟩, ⟨.quiet, [none], fun _ => .slice A b.length c, [7]⟩, ⟨.act 0, [some false], fun _ => undef, [6, 8]⟩] [(0, v), (3, .pointer (some ⟨g1, 0, none⟩))] (fun ρ => match ρ with | [r0] => [Bc (L.take q.1), Dm r0 (fun u => Af 5 1 encB u (q.2.2 ++ b)) (Af 5 1 encB q.2.1 q.2.2), Bc (L.drop (q.1 + 1)), cell g1 106 #[.int .i64 0, .string (bs n), .slice A b.length c, .int .i64 0, .string (bs ([]))], Bn encKey AD v L, X] | _ => []) (by kernel_rfl) (by kernel_rfl) ⟨rfl, rfl, trivial⟩ rfl ?_ ?_
  refine Ai ?_
  refine Ai ?_
  refine Ai ?_
  refine Ai ?_
  refine Ai ?_
  refine Ai ?_
  refine Ad (by intro r0_; exact ⟨rfl, fun b w hH hb => G9 4 CO rfl (k := n) (r := some q.2) (FE hq) rfl rfl rfl hH hb⟩) (Ai ?_)
  refine Ai ?_
  refine Ad (by exact ⟨rfl, AR.s (Fd 1 AL (by kernel_rfl) rfl (b) (fun w hH => hH.rd 5 rfl hX.rd) (by omega) rfl rfl rfl rfl) (fun _ => rfl)⟩) ?_
  exact Bv
  intro u
  refine A5.keep (env' := [(9, v), (11, .string (bs n)), (18, u)]) ⟨rfl, rfl, rfl, trivial⟩ (Am Ac rfl (Bt (post := fun _ => [Bc (L.take q.1), Af 5 1 encB u (q.2.2 ++ b), Bc (L.drop (q.1 + 1)), cell g1 106 #[.int .i64 0, .string (bs n), .slice A b.length c, .int .i64 0, .string (bs ([]))], Bn encKey AD v (Bd L n (u, q.2.2 ++ b)), X]) rfl rfl (J3 4 CO rfl n (u, q.2.2 ++ b) rfl rfl rfl rfl rfl rfl) ?_)); rintro ⟨⟩
  refine Aq ?_
  exact Dv  (fun w h => As () rfl [4, 0, 1, 2, 5] rfl h (Kj hq (h_.symm.trans (Ul hq)))) rfl
theorem XD {v : Value} {c : Nat} (h : Bf f (.del n) = f') : AA Tryz.prog 106 #[v, .agg #[.int .i64 3, .string (bs n), .slice A 0 c, .int .i64 0, .string (bs ([]))]] [Au v f, X] (fun (_ : Unit) => .tuple #[]) (fun (_ : Unit) => [Au v f', X]) := by
 have h_ := h
 refine AP (args := [v, .agg #[.int .i64 3, .string (bs n), .slice A 0 c, .int .i64 0, .string (bs ([]))]]) 49 Tryz.func106 rfl rfl rfl ?_; intro w rs
 refine oC 0 FC ?_; rintro ⟨L, hL⟩
 subst hL
 refine Al (Am Ac rfl (I5 ?_)); rintro g1
 refine Ci ?_
 refine Kf ?_
 rcases hq : EY n L 0 with _ | q
 have h1_ := h_.symm.trans (RA.trans (by rw [M6 hq]))
 refine Aq ?_
 refine Bt (post := fun _ => [cell g1 106 #[.int .i64 3, .string (bs n), .slice A 0 c, .int .i64 0, .string (bs ([]))], Bn encKey AD v L, Bc L, X]) rfl rfl (P2 1 CO rfl n rfl rfl rfl (M6 hq)) ?_; rintro ⟨⟩
 refine Aq ?_
 exact Dv  (fun w h => As () rfl [1, 2, 3] rfl h (Gy h1_)) rfl
 refine oC 2 (Hu hq) ?_; rintro ⟨⟩
 refine Aq ?_
 refine Bt (post := fun _ => [Bc (L.take q.1), Af 5 1 encB q.2.1 q.2.2, Bc (L.drop (q.1 + 1)), cell g1 106 #[.int .i64 3, .string (bs n), .slice A 0 c, .int .i64 0, .string (bs ([]))], Bn encKey AD v (B8 L n), X]) rfl rfl (P2 4 CO rfl n rfl rfl rfl rfl) ?_; rintro ⟨⟩
 refine Aq ?_
 exact Dv  (fun w h => As () rfl [4, 0, 2, 5] rfl h (Ql hq (h_.symm.trans RA))) rfl
theorem XE {v : Value} {x : List UInt8} {s : Nat} {c : Nat} (hx : AW f n = some x) (hs : s ≤ x.length) (h : Bf f (.cut n s) = f') : AA Tryz.prog 106 #[v, .agg #[.int .i64 1, .string (bs n), .slice A 0 c, .int .i64 (s : Int), .string (bs ([]))]] [Au v f, X] (fun (_ : Unit) => .tuple #[]) (fun (_ : Unit) => [Au v f', X]) := by
 have h_ := h
 refine AP (args := [v, .agg #[.int .i64 1, .string (bs n), .slice A 0 c, .int .i64 (s : Int), .string (bs ([]))]]) 49 Tryz.func106 rfl rfl rfl ?_; intro w rs
 refine oC 0 FC ?_; rintro ⟨L, hL⟩
 subst hL
 obtain ⟨q, hq, hqx⟩ := M8 hx
 subst hqx
 refine Al (Am Ac rfl (I5 ?_)); rintro g1
 refine Ci ?_
 refine Ai ?_
 refine oC 2 (Hu hq) ?_; rintro ⟨⟩
 refine Bk 10 0 [⟨.quiet, [], fun _ => v, []⟩, ⟨.quiet, [], fun _ => .pointer (some ⟨g1, 1, none⟩), []⟩, ⟨.quiet, [], fun _ => .string (bs n), [1]⟩, ⟨.quiet, [], fun _ => v, []⟩, ⟨.quiet, [], fun _ => .pointer (some ⟨g1, 1, none⟩), []⟩, ⟨.quiet, [], fun _ => .string (bs n), [4]⟩, ⟨.quiet, [], fun _ => q.2.1, [3, 5]⟩, ⟨.quiet, [], fun _ => .pointer (some ⟨g1, 3, none⟩), []⟩, ⟨.quiet, [], fun _ => .int .i64 (s : Int), [7]⟩, ⟨.quiet, [], fun _ => BN 1 q.2.1 0 s, [6, 8]⟩] [(0, v), (3, .pointer (some ⟨g1, 0, none⟩))] (fun _ => [Bc (L.take q.1), Af 5 1 encB q.2.1 q.2.2, Bc (L.drop (q.1 + 1)), cell g1 106 #[.int .i64 1, .string (bs n), .slice A 0 c, .int .i64 (s : Int), .string (bs ([]))], Bn encKey AD v L, X]) (by kernel_rfl) (by kernel_rfl) ⟨rfl, rfl, trivial⟩ rfl ?_ ?_
 refine Ai ?_
 refine Ai ?_
 refine Ai ?_
 refine Ai ?_
 refine Ai ?_
 refine Ai ?_
 refine Ad (by exact ⟨rfl, fun b w hH hb => G9 4 CO rfl (k := n) (r := some q.2) (FE hq) rfl rfl rfl hH hb⟩) (Ai ?_)
 refine Ai ?_
 refine Ad (by exact ⟨rfl, fun b w hH hb => MP 1 (b := s) AL rfl hs rfl rfl rfl hH hb⟩) ?_
 exact Bv
 refine A5.keep (env' := [(21, v), (23, .string (bs n)), (30, BN 1 q.2.1 0 s)]) ⟨rfl, rfl, rfl, trivial⟩ (Am Ac rfl (Bt (post := fun _ => [Bc (L.take q.1), Af 5 1 encB q.2.1 q.2.2, Bc (L.drop (q.1 + 1)), cell g1 106 #[.int .i64 1, .string (bs n), .slice A 0 c, .int .i64 (s : Int), .string (bs ([]))], Bn encKey AD v (Bd L n (BN 1 q.2.1 0 s, q.2.2.take s)), X]) rfl rfl (J3 4 CO rfl n (BN 1 q.2.1 0 s, q.2.2.take s) rfl rfl rfl rfl rfl rfl) ?_)); rintro ⟨⟩
 refine Aq ?_
 exact Dv  (fun w h => As () rfl [4, 0, 1, 2, 5] rfl h (SE hq hs (h_.symm.trans (V0 hq)))) rfl
theorem XF {v : Value} {m_ x : List UInt8} {c : Nat} (hx : AW f n = some x) (h : Bf f (.ren n m_) = f') : AA Tryz.prog 106 #[v, .agg #[.int .i64 2, .string (bs n), .slice A 0 c, .int .i64 0, .string (bs m_)]] [Au v f, X] (fun (_ : Unit) => .tuple #[]) (fun (_ : Unit) => [Au v f', X]) := by
 have h_ := h
 refine AP (args := [v, .agg #[.int .i64 2, .string (bs n), .slice A 0 c, .int .i64 0, .string (bs m_)]]) 49 Tryz.func106 rfl rfl rfl ?_; intro w rs
 refine oC 0 FC ?_; rintro ⟨L, hL⟩
 subst hL
 obtain ⟨q, hq, hqx⟩ := M8 hx
 subst hqx
 refine Al (Am Ac rfl (I5 ?_)); rintro g1
 refine Ci ?_
 refine BD ?_
 refine oC 2 (Hu hq) ?_; rintro ⟨⟩
 refine Aq ?_
 refine Aa rfl (q.2.1) (fun b w hb hH => G9 4 CO rfl (k := n) (r := some q.2) (FE hq) rfl rfl rfl hH hb) (AK ?_)
 refine Bt (post := fun _ => [Bc (L.take q.1), Af 5 1 encB q.2.1 q.2.2, Bc (L.drop (q.1 + 1)), cell g1 106 #[.int .i64 2, .string (bs n), .slice A 0 c, .int .i64 0, .string (bs m_)], Bn encKey AD v (B8 L n), X]) rfl rfl (P2 4 CO rfl n rfl rfl rfl rfl) ?_; rintro ⟨⟩
 refine Aw (cC [0, 2] (RB hq) ?_)
 rcases hq2 : EY m_ (B8 L n) 0 with _ | q2
 refine Aq ?_
 refine Am Ac rfl (Bt (post := fun _ => [Bc (B8 L n), Af 5 1 encB q.2.1 q.2.2, cell g1 106 #[.int .i64 2, .string (bs n), .slice A 0 c, .int .i64 0, .string (bs m_)], Bn encKey AD v (Bd (B8 L n) m_ (q.2.1, q.2.2)), X]) rfl rfl (J3 3 CO rfl m_ (q.2.1, q.2.2) rfl rfl rfl rfl rfl rfl) ?_); rintro ⟨⟩
 refine Aq ?_
 exact Dv  (fun w h => As () rfl [3, 0, 1, 4] rfl h (M7 hq2 (h_.symm.trans (RC hq)))) rfl
 refine oC 0 (Hu hq2) ?_; rintro ⟨⟩
 refine Aq ?_
 refine Am Ac rfl (Bt (post := fun _ => [Bc ((B8 L n).take q2.1), Af 5 1 encB q2.2.1 q2.2.2, Bc ((B8 L n).drop (q2.1 + 1)), Af 5 1 encB q.2.1 q.2.2, cell g1 106 #[.int .i64 2, .string (bs n), .slice A 0 c, .int .i64 0, .string (bs m_)], Bn encKey AD v (Bd (B8 L n) m_ (q.2.1, q.2.2)), X]) rfl rfl (J3 5 CO rfl m_ (q.2.1, q.2.2) rfl rfl rfl rfl rfl rfl) ?_); rintro ⟨⟩
 refine Aq ?_
 exact Dv  (fun w h => As () rfl [5, 0, 3, 2, 6] rfl h (Kj hq2 (h_.symm.trans (RC hq)))) rfl
theorem Ut {v : Value} {x : OpV} (ho : Vv f x.o) (hX : El X x.v x.o.data) (hl : Az f + x.o.size ≤ 4398046511104) (h : Bf f x.o = f') : AA Tryz.prog 106 #[v, .agg (encO x).toArray] [Au v f, X] (fun _ : Unit => .tuple #[]) (fun _ => [Au v f', X]) := by
  obtain ⟨o, A, c⟩ := x
  cases o with
  | app n b => exact Us hX hl h
  | cut n s => obtain ⟨y, h1, h2⟩ := ho; exact XE h1 h2 h
  | ren a b => obtain ⟨⟨y, h1⟩, _⟩ := ho; exact XF h1 h
  | del n => exact XD h
end Go.Proofs.YtjcfimmcogkopaaGreatDoor.Sep
