/-
  HdM · TyU · HdA · Beh
-/
import Derived.Test.YtnknboibmifacaaGreatPB02
import Derived.Test.YtnknboibmifacaaGreatPB03
import Derived.Test.YtnknboibmifacaaGreatPE01
import Derived.Test.YtnknboibmifacaaGreatPE02
import Derived.Test.YtnknboibmifacaaGreatPH01
import Derived.Test.YtnknboibmifacaaGreatPI01
import Derived.OrdersIn
set_option linter.unusedSimpArgs false
set_option linter.unusedVariables false
set_option maxRecDepth 100000
namespace Go.Proofs.YtnknboibmifacaaGreat.Sep
abbrev HV := Nat × Nat
def E5 (h : HV) : Prop := h.1 ≤ 72057594037927935 ∧ h.2 ≤ 7
instance (h : HV) : Decidable (E5 h) := by unfold E5; infer_instance
def layH (h : HV) : List UInt8 := Do h.1 ++ [UInt8.ofNat h.2]
def EX (x : List UInt8) : Option HV :=
  if D6 (Bj 7 (B5 72057594037927935 x 0).2.1 (B5 72057594037927935 x 0).2.2).2.1 (Bj 7 (B5 72057594037927935 x 0).2.1 (B5 72057594037927935 x 0).2.2).2.2 = 0 then some ((B5 72057594037927935 x 0).1, (Bj 7 (B5 72057594037927935 x 0).2.1 (B5 72057594037927935 x 0).2.2).1) else none
theorem G7 {x l1 l2 : List UInt8} {t f1 v f2 : Nat} (h1 : B5 72057594037927935 x 0 = (t, l1, f1)) (h2 : Bj 7 l1 f1 = (v, l2, f2)) : EX x = if D6 l2 f2 = 0 then some (t, v) else none := by
 unfold EX
 rw [h1]
 simp only
 rw [h2]
theorem F8 {h : HV} (hk : E5 h) : (layH h).length ≤ 9 := by
 have := D2 7 h.1 (by have := hk.1; omega)
 unfold layH
 rw [List.length_append]
 simp only [List.length_cons, List.length_nil]
 omega
theorem RK {h : HV} (hk : E5 h) : EX (layH h) = some h := by
 have h1 := Nt 72057594037927935 h.1 [UInt8.ofNat h.2] hk.1 (by have := hk.1; omega)
 have h2 := (JB 7).lay h.2 [] ⟨hk.2, by have := hk.2; omega⟩
 rw [List.append_nil] at h2
 rw [layH, G7 h1 h2]
 rfl
def Kq : List (List UInt8) → List HV
  | [] => []
  | p :: ps => match EX p with | some h => h :: Kq ps | none => []
theorem Jf {p : List UInt8} {h : HV} (e : EX p = some h) (ps : List (List UInt8)) : Kq (p :: ps) = h :: Kq ps := by
  show (match EX p with | some h => h :: Kq ps | none => []) = _
  rw [e]
theorem Lk {p : List UInt8} (e : EX p = none) (ps : List (List UInt8)) : Kq (p :: ps) = [] := by
  show (match EX p with | some h => h :: Kq ps | none => []) = _
  rw [e]
theorem MT : ∀ (ps : List (List UInt8)), (Kq ps).length ≤ ps.length
  | [] => Nat.le_refl _
  | p :: ps => by
    cases e : EX p with
    | none => rw [Lk e]; simp
    | some h => rw [Jf e]; simpa using MT ps
theorem MU : ∀ {ps : List (List UInt8)} {j : Nat} {h : HV}, (Kq ps)[j]? = some h → ∃ p, ps[j]? = some p ∧ EX p = some h
  | [], j, _, h => by simp [Kq] at h
  | p :: ps, j, h, e => by
    cases e1 : EX p with
    | none => rw [Lk e1] at e; simp at e
    | some h1 =>
      rw [Jf e1] at e
      cases j with
      | zero => obtain rfl := Option.some.inj e; exact ⟨p, rfl, e1⟩
      | succ j =>
        obtain ⟨q, h2, h3⟩ := MU (by simpa using e)
        exact ⟨q, by simpa using h2, h3⟩
theorem Ll : ∀ {ps : List (List UInt8)} {p : List UInt8}, ps[(Kq ps).length]? = some p → EX p = none
  | [], _, h => by simp at h
  | q :: ps, p, h => by
    cases e1 : EX q with
    | none => rw [Lk e1] at h; obtain rfl := Option.some.inj h; exact e1
    | some h1 =>
      rw [Jf e1] at h
      exact Ll (by simpa using h)
theorem Qz : ∀ {L : List HV}, (∀ h, h ∈ L → E5 h) → Kq (L.map layH) = L
  | [], _ => rfl
  | h :: L, hk => by
    rw [List.map_cons, Jf (RK (hk h (by simp))), Qz (fun x hx => hk x (by simp [hx]))]
def Bz (L : List HV) : HV := L.getLast?.getD (0, 0)
theorem Is (L : List HV) (h : HV) : Bz (L ++ [h]) = h := by simp [Bz]
theorem It {L : List HV} {j : Nat} {h : HV} (e : L[j]? = some h) : Bz (L.take (j + 1)) = h := by
 rw [List.take_add_one, e]
 exact Is _ _
def Iu (b : List UInt8) : HV × Nat := (Bz (Kq (BK b).1), Cx ((BK b).1.take (Kq (BK b).1).length))
theorem UO (b : List UInt8) : (Iu b).2 ≤ b.length := by
 have h1 := Kp (BK b).1 (Kq (BK b).1).length
 have h2 : (BK b).2 = Cx (BK b).1 := F7 b.length b
 have h3 : (BK b).2 ≤ b.length := HF b.length b
 show Cx _ ≤ _
 omega
theorem Kb : ∀ (ps : List (List UInt8)), (∀ x, x ∈ ps → x.length ≤ 65536) → (DO ps).length = Cx ps
  | [], _ => rfl
  | p :: ps, h => by
    rw [J7, List.length_append, EL (h p (by simp)), Ma, Kb ps (fun x hx => h x (by simp [hx]))]
def Lm (L : List HV) : List UInt8 := DO (L.map layH)
theorem Mb {L : List HV} (h : ∀ x, x ∈ L → E5 x) : ∀ x, x ∈ L.map layH → x.length ≤ 65536 := fun x hx => by
 obtain ⟨y, hy, rfl⟩ := List.mem_map.1 hx
 have := F8 (h y hy)
 omega
theorem Ln (L : List HV) (h : HV) : Lm (L ++ [h]) = Lm L ++ Bc (layH h) := by
 unfold Lm; rw [List.map_append]; exact N0 _ _
theorem QA {L : List HV} (hk : ∀ h, h ∈ L → E5 h) {junk : List UInt8} (hj : B1 junk = none) : Iu (Lm L ++ junk) = (Bz L, (Lm L).length) := by
 have h1 := J8 (L.map layH) (Mb hk) junk
 rw [C6 hj] at h1
 have h2 : (BK (Lm L ++ junk)).1 = L.map layH := by unfold Lm; rw [h1]; simp
 unfold Iu
 rw [h2, Qz hk, show (L.map layH).take L.length = L.map layH by rw [List.take_of_length_le (by simp)]]
 unfold Lm
 rw [Kb _ (Mb hk)]
theorem F9 : B1 [] = none := by unfold B1; rw [if_neg (by simp)]
theorem Lo {h : HV} (hk : E5 h) : (Bc (layH h)).length ≤ 17 := by
 have := F8 hk
 rw [EL (by omega)]; omega
theorem Tm {h : HV} (hk : E5 h) {t : Nat} (ht : t < (Bc (layH h)).length) : B1 ((Bc (layH h)).take t) = none := by
 have := F8 hk
 rw [EL (by omega)] at ht
 exact S9 (by omega) ht
def hardN : List UInt8 := [104, 97, 114, 100]
def newN : List UInt8 := [104, 97, 114, 100, 46, 110, 101, 119]
def Be (d : DiskD) : DiskD × Nat := if (BJ d newN).isSome = true then GH d newN else (d, 0)
def DF (d : DiskD) : DiskD × HV × Nat :=
  if (Be d).2 ≠ 0 then ((Be d).1, (0, 0), (Be d).2)
  else if (Iu ((BJ (Be d).1 hardN).getD [])).2 < ((BJ (Be d).1 hardN).getD []).length then
    if (I3 (Be d).1 hardN ((Iu ((BJ (Be d).1 hardN).getD [])).2 : Int)).2 ≠ 0 then ((I3 (Be d).1 hardN ((Iu ((BJ (Be d).1 hardN).getD [])).2 : Int)).1, (0, 0), (I3 (Be d).1 hardN ((Iu ((BJ (Be d).1 hardN).getD [])).2 : Int)).2)
    else ((I3 (Be d).1 hardN ((Iu ((BJ (Be d).1 hardN).getD [])).2 : Int)).1, (Iu ((BJ (Be d).1 hardN).getD [])).1, 0)
  else ((Be d).1, (Iu ((BJ (Be d).1 hardN).getD [])).1, 0)
def GC (d : DiskD) (f : List UInt8) : DiskD × Nat :=
  if (Be d).2 ≠ 0 then Be d
  else if (Cp (Be d).1 newN f).2 ≠ 0 then Cp (Be d).1 newN f
  else I4 (Cp (Be d).1 newN f).1 newN hardN
def Et (d : DiskD) (h : HV) : DiskD × Nat :=
  if ((BJ d hardN).getD []).length < 256 then Cp d hardN (Bc (layH h)) else GC d (Bc (layH h))
def DiskD.fitK (k : Nat) (d : DiskD) : Prop := AK d.syn + (d.wait.map OpD.size).sum + 65536 * k ≤ 1099511627776 ∧ d.wait.length + k ≤ 10000
theorem DiskD.fitK.fit {k : Nat} {d : DiskD} (h : d.fitK k) : d.fit := ⟨by have := h.1; omega, by have := h.2; omega⟩
theorem DiskD.fitK.less {k : Nat} {d : DiskD} (h : d.fitK (k + 1)) : d.fitK k := ⟨by have := h.1; omega, by have := h.2; omega⟩
theorem JP {k : Nat} {d : DiskD} {o : OpD} (h : d.fitK (k + 1)) (ho : o.size ≤ 65536) : (Cr d o).fitK k := by
  obtain ⟨h1, h2⟩ := h
  refine ⟨?_, ?_⟩
  · show AK d.syn + ((d.wait ++ [o]).map OpD.size).sum + _ ≤ _
    rw [List.map_append, List.sum_append]
    simp only [List.map_cons, List.map_nil, List.sum_cons, List.sum_nil]
    omega
  · show (d.wait ++ [o]).length + k ≤ _
    rw [List.length_append]; simp only [List.length_cons, List.length_nil]; omega
theorem Iv {k : Nat} {d : DiskD} (h : d.fitK k) : (Bi d).1.fitK k := by
  unfold Bi
  split
  · exact h
  · exact h
theorem FL {k : Nat} {d : DiskD} {n b : List UInt8} (h : d.fitK (k + 1)) (hb : b.length ≤ 65536) : (Cp d n b).1.fitK k := by
  have h1 := Iv h
  unfold Cp
  cases e : Bi d with
  | mk d1 e1 =>
    rw [e] at h1
    simp only
    split
    · exact h1.less
    · split
      · exact h1.less
      · split
        · exact h1.less
        · exact JP h1 hb
theorem Tn {k : Nat} {d : DiskD} {n : List UInt8} (h : d.fitK (k + 1)) : (GH d n).1.fitK k := by
  have h1 := Iv h
  unfold GH
  cases e : Bi d with
  | mk d1 e1 =>
    rw [e] at h1
    simp only
    split
    · exact h1.less
    · split
      · exact h1.less
      · exact JP h1 (Nat.zero_le _)
theorem To {k : Nat} {d : DiskD} {a b : List UInt8} (h : d.fitK (k + 1)) : (I4 d a b).1.fitK k := by
  have h1 := Iv h
  unfold I4
  cases e : Bi d with
  | mk d1 e1 =>
    rw [e] at h1
    simp only
    split
    · exact h1.less
    · split
      · exact h1.less
      · split
        · exact h1.less
        · exact JP h1 (Nat.zero_le _)
theorem Jg {k : Nat} {d : DiskD} (h : d.fitK (k + 1)) : (Be d).1.fitK k := by
  unfold Be
  split
  · exact Tn h
  · exact h.less
structure HFile (f : FS) (V : HV → Prop) : Prop where
  nd : (AL f).Nodup
  ks : ∀ k, k ∈ AL f → k = hardN ∨ k = newN
  has : ∃ L junk, (∀ h, h ∈ L → E5 h) ∧ (AQ f hardN).getD [] = Lm L ++ junk ∧ B1 junk = none ∧ V (Bz L)
  lh : ((AQ f hardN).getD []).length ≤ 400
  ln : ((AQ f newN).getD []).length ≤ 100
theorem HFile.imp {f : FS} {V V' : HV → Prop} (h : HFile f V) (hv : ∀ x, V x → V' x) : HFile f V' := by
 obtain ⟨L, j, h1, h2, h3, h4⟩ := h.has
 exact ⟨h.nd, h.ks, ⟨L, j, h1, h2, h3, hv _ h4⟩, h.lh, h.ln⟩
theorem Tp {f : FS} {a b : List UInt8} (hn : (AL f).Nodup) (hk : ∀ k, k ∈ AL f → k = a ∨ k = b) : AK f ≤ ((AQ f a).getD []).length + ((AQ f b).getD []).length := by
  have step : ∀ (g : FS) (k : List UInt8), (AL g).Nodup → AK g = AK (BX g k) + ((AQ g k).getD []).length := fun g k hg => by
    cases e : AQ g k with
    | none => rw [KV e]; rfl
    | some x => exact (F0 hg e).symm
  have h1 := step f a hn
  have h2 := step (BX f a) b (Cf hn)
  have h3 : BX (BX f a) b = [] := by
    cases e : BX (BX f a) b with
    | nil => rfl
    | cons p r =>
      have hp : p ∈ BX (BX f a) b := by rw [e]; simp
      obtain ⟨h4, h5⟩ := (Dv (Cf hn) p).1 hp
      obtain ⟨h6, h7⟩ := (Dv hn p).1 h4
      rcases hk p.1 (List.mem_map.2 ⟨p, h6, rfl⟩) with h | h
      · exact absurd h h7
      · exact absurd h h5
  have h4 : ((AQ (BX f a) b).getD []).length ≤ ((AQ f b).getD []).length := by
    rw [IX hn]
    split
    · simp
    · exact Nat.le_refl _
  rw [h3] at h2
  have h5 : AK ([] : FS) = 0 := rfl
  omega
theorem HFile.used {f : FS} {V : HV → Prop} (h : HFile f V) : AK f ≤ 500 := by
 have h1 := Tp h.nd h.ks
 have h2 := h.lh
 have h3 := h.ln
 omega
theorem FM : hardN ≠ newN := by decide
theorem EY {d : DiskD} (h1 : d.down = false) (h2 : d.fuse = none) : Bi d = (d, 0) := by
 unfold Bi
 rw [if_neg (by simp [h1, h2]), h2]
 obtain ⟨a, b, c, e, f⟩ := d
 subst h2
 rfl
theorem RL {room : Int} {f : FS} {V : HV → Prop} (h : HFile f V) : ∃ d' x, DF ⟨room, f, [], none, false⟩ = (d', x, 0) ∧ V x := by
  obtain ⟨L, junk, hL, hc, hj, hV⟩ := h.has
  obtain ⟨d, hd⟩ : ∃ d : DiskD, d = ⟨room, f, [], none, false⟩ := ⟨_, rfl⟩
  have hnow : d.now = f := by rw [hd]; rfl
  have hup : d.down = false := by rw [hd]
  have hfz : d.fuse = none := by rw [hd]
  have key : ∃ d1, Be d = (d1, 0) ∧ d1.down = false ∧ d1.fuse = none ∧ AQ d1.now hardN = AQ f hardN := by
    unfold Be
    split
    · rename_i hs
      unfold BJ at hs
      rw [hup, if_neg (by simp), hnow] at hs
      obtain ⟨x, hx⟩ := Option.isSome_iff_exists.1 hs
      refine ⟨Cr d (.del newN), ?_, hup, hfz, ?_⟩
      · unfold GH
        rw [EY hup hfz]
        simp only
        rw [if_neg (by simp), hnow, hx]
      · rw [C2, hnow]
        show AQ (BX f newN) hardN = _
        rw [IX h.nd, if_neg FM]
    · exact ⟨d, rfl, hup, hfz, by rw [hnow]⟩
  obtain ⟨d1, e1, u1, z1, g1⟩ := key
  have hr : (BJ d1 hardN).getD [] = Lm L ++ junk := by
    unfold BJ
    rw [u1, if_neg (by simp), g1, hc]
  rw [← hd]
  unfold DF
  rw [e1]
  simp only
  rw [if_neg (by simp), hr, QA hL hj]
  simp only
  split
  · rename_i hlt
    have hgs : AQ d1.now hardN = some (Lm L ++ junk) := by
      rw [g1]
      cases e : AQ f hardN with
      | none =>
        rw [e] at hc
        simp only [Option.getD_none] at hc
        rw [← hc] at hlt
        simp at hlt
      | some x => rw [e] at hc; simp only [Option.getD_some] at hc; rw [hc]
    have hcut : I3 d1 hardN (((Lm L).length : Nat) : Int) = (Cr d1 (.cut hardN (Lm L).length), 0) := by
      unfold I3
      rw [EY u1 z1]
      simp only
      rw [if_neg (by simp), hgs]
      simp only
      rw [if_neg (by omega)]
      simp
    rw [hcut]
    simp only
    rw [if_neg (by simp)]
    exact ⟨_, _, rfl, hV⟩
  · exact ⟨_, _, rfl, hV⟩
structure HS (d : DiskD) (L : List HV) : Prop where
  up : d.down = false
  fz : d.fuse = none
  rm : d.room = 1048576
  nd : (AL d.syn).Nodup
  ks : ∀ k, k ∈ AL d.now → k = hardN
  at_ : (AQ d.now hardN).getD [] = Lm L
  ok : ∀ h, h ∈ L → E5 h
  le : (Lm L).length ≤ 300
theorem HS.nnd {d : DiskD} {L : List HV} (h : HS d L) : (AL d.now).Nodup := EJ d.wait h.nd
theorem HS.none_ {d : DiskD} {L : List HV} (h : HS d L) : AQ d.now newN = none := CZ.2 fun hm => FM (h.ks _ hm).symm
theorem HS.file {d : DiskD} {L : List HV} (h : HS d L) {V : HV → Prop} (hV : V (Bz L)) : HFile d.now V :=
 ⟨h.nnd, fun k hk => .inl (h.ks k hk), ⟨L, [], h.ok, by rw [h.at_]; simp, F9, hV⟩, by have := h.le; rw [h.at_]; omega, by rw [h.none_]; simp⟩
theorem HS.used {d : DiskD} {L : List HV} (h : HS d L) : AK d.now ≤ 500 := (h.file (V := fun _ => True) trivial).used
theorem HS.few {d : DiskD} {L : List HV} (h : HS d L) : d.now.length ≤ 1 := by
  have h1 := h.nnd
  have h2 := h.ks
  cases e : d.now with
  | nil => simp
  | cons p r =>
    cases r with
    | nil => simp
    | cons q r =>
      rw [e] at h1 h2
      have a1 := h2 p.1 (by simp [AL])
      have a2 := h2 q.1 (by simp [AL])
      simp only [AL, List.map_cons, List.nodup_cons, List.mem_cons] at h1
      exact absurd (.inl (a1.trans a2.symm)) h1.1
theorem G8 {f : FS} {n x : List UInt8} (hf : (AL f).Nodup) {k : List UInt8} (h : k ∈ AL (BG f n x)) : k = n ∨ k ∈ AL f := by
  obtain ⟨p, hp, rfl⟩ := List.mem_map.1 h
  rcases (Fd hf p).1 hp with rfl | ⟨h1, _⟩
  · exact .inl rfl
  · exact .inr (List.mem_map.2 ⟨p, h1, rfl⟩)
theorem Tq {f : FS} {n : List UInt8} (hf : (AL f).Nodup) {k : List UInt8} (h : k ∈ AL (BX f n)) : k ∈ AL f ∧ k ≠ n := by
 obtain ⟨p, hp, rfl⟩ := List.mem_map.1 h
 obtain ⟨h1, h2⟩ := (Dv hf p).1 hp
 exact ⟨List.mem_map.2 ⟨p, h1, rfl⟩, h2⟩
def Tr (d : DiskD) (V : HV → Prop) (k : Nat) : Prop := HFile ((d.wait.take k).foldl AI d.syn) V ∧ ∀ n b, d.wait[k]? = some (.app n b) → ∀ t, t < b.length → HFile (AI ((d.wait.take k).foldl AI d.syn) (.app n (b.take t))) V
def CR (d : DiskD) (V : HV → Prop) : Prop := ∀ k, k ≤ d.wait.length → Tr d V k
theorem CR.imp {d : DiskD} {V V' : HV → Prop} (h : CR d V) (hv : ∀ x, V x → V' x) : CR d V' := fun k hk => ⟨(h k hk).1.imp hv, fun n b e t ht => ((h k hk).2 n b e t ht).imp hv⟩
theorem Tr.left {d : DiskD} {V : HV → Prop} {keep : Int} (h : Tr d V (Cs d keep)) (torn : Int) : HFile (CS d keep torn) V := by
  obtain ⟨h1, h2⟩ := h
  unfold CS
  split
  · rename_i n b e
    split
    · exact h1
    · rename_i hn
      refine h2 n b e _ ?_
      have hb : b ≠ [] := fun e => hn (.inr e)
      have hpos : 0 < (b.length : Int) := by
        have : b.length ≠ 0 := fun e => hb (List.eq_nil_of_length_eq_zero e)
        omega
      have := Int.emod_lt_of_pos torn hpos
      have := Int.emod_nonneg torn (show (b.length : Int) ≠ 0 by omega)
      omega
  · exact h1
theorem Tr.crash {d : DiskD} {V : HV → Prop} {keep : Int} (h : Tr d V (Cs d keep)) (torn : Int) : (Cn d keep torn).fitK 9 ∧ ∃ d' x, DF (Cn d keep torn) = (d', x, 0) ∧ V x := by
  have h1 := h.left torn
  refine ⟨⟨?_, ?_⟩, RL h1⟩
  · show AK (CS d keep torn) + (([] : List OpD).map OpD.size).sum + 65536 * 9 ≤ _
    have := h1.used
    simp only [List.map_nil, List.sum_nil]
    omega
  · show ([] : List OpD).length + 9 ≤ _
    simp
theorem CR.crash {d : DiskD} {V : HV → Prop} (h : CR d V) (keep torn : Int) : (Cn d keep torn).fitK 9 ∧ ∃ d' x, DF (Cn d keep torn) = (d', x, 0) ∧ V x := (h (Cs d keep) (I5 d keep)).crash torn
theorem Tr.old {d : DiskD} {V : HV → Prop} {o : OpD} {k : Nat} (h : Tr d V k) (hlt : k < d.wait.length) : Tr (Cr d o) V k := by
 show HFile (((d.wait ++ [o]).take k).foldl AI d.syn) V ∧ ∀ n b, (d.wait ++ [o])[k]? = some (.app n b) → ∀ t, t < b.length → HFile (AI (((d.wait ++ [o]).take k).foldl AI d.syn) (.app n (b.take t))) V
 rw [List.take_append_of_le_length (by omega), List.getElem?_append_left hlt]
 exact h
theorem PD {d : DiskD} {V : HV → Prop} {o : OpD} (h1 : HFile d.now V) (h2 : ∀ n b, o = .app n b → ∀ t, t < b.length → HFile (AI d.now (.app n (b.take t))) V) : Tr (Cr d o) V d.wait.length := by
 show HFile (((d.wait ++ [o]).take d.wait.length).foldl AI d.syn) V ∧ ∀ n b, (d.wait ++ [o])[d.wait.length]? = some (.app n b) → ∀ t, t < b.length → HFile (AI (((d.wait ++ [o]).take d.wait.length).foldl AI d.syn) (.app n (b.take t))) V
 rw [List.take_append_of_le_length (Nat.le_refl _), List.take_length]
 refine ⟨h1, fun n b e t ht => ?_⟩
 rw [List.getElem?_append_right (Nat.le_refl _), Nat.sub_self] at e
 obtain rfl := Option.some.inj e
 exact h2 n b rfl t ht
theorem CR.push {d : DiskD} {V : HV → Prop} {o : OpD} (h : CR d V) (h1 : HFile (AI d.now o) V) (h2 : ∀ n b, o = .app n b → ∀ t, t < b.length → HFile (AI d.now (.app n (b.take t))) V) : CR (Cr d o) V := by
  intro k hk
  change k ≤ (d.wait ++ [o]).length at hk
  rw [List.length_append] at hk
  simp only [List.length_cons, List.length_nil] at hk
  rcases Nat.lt_or_ge k d.wait.length with hlt | hge
  · exact (h k (by omega)).old hlt
  · rcases Nat.lt_or_ge d.wait.length k with hlt | hle
    · obtain rfl : k = d.wait.length + 1 := by omega
      show HFile (((d.wait ++ [o]).take (d.wait.length + 1)).foldl AI d.syn) V ∧ ∀ n b, (d.wait ++ [o])[d.wait.length + 1]? = some (.app n b) → ∀ t, t < b.length → HFile (AI (((d.wait ++ [o]).take (d.wait.length + 1)).foldl AI d.syn) (.app n (b.take t))) V
      rw [List.take_of_length_le (by simp), List.foldl_append]
      refine ⟨h1, fun n b e => ?_⟩
      rw [List.getElem?_eq_none (by simp)] at e
      cases e
    · obtain rfl : k = d.wait.length := by omega
      refine PD ?_ h2
      have := (h d.wait.length (Nat.le_refl _)).1
      rwa [List.take_length] at this
theorem VM {room : Int} (hr : room = 1048576) : HS (GW room) [] := ⟨rfl, rfl, hr, List.nodup_nil, fun k hk => (by cases hk), rfl, fun h hm => (by cases hm), by decide⟩
theorem VN {room : Int} {V : HV → Prop} (hV : V (0, 0)) : CR (GW room) V := fun k hk => by
 obtain rfl : k = 0 := Nat.le_zero.1 hk
 exact ⟨⟨List.nodup_nil, fun k hk => (by cases hk), ⟨[], [], fun h hm => (by cases hm), rfl, F9, hV⟩, Nat.zero_le _, Nat.zero_le _⟩, fun n b e => (by cases e)⟩
theorem QB {d : DiskD} {L : List HV} (h : HS d L) {V : HV → Prop} (hV : V (Bz L)) : ∃ d', F1 d = (d', 0) ∧ HS d' L ∧ CR d' V ∧ d'.wait = [] := by
  refine ⟨{ d with syn := d.now, wait := [] }, ?_, ⟨h.up, h.fz, h.rm, h.nnd, h.ks, h.at_, h.ok, h.le⟩, fun k hk => ?_, rfl⟩
  · unfold F1
    rw [EY h.up h.fz]
    simp only
    rw [if_neg (by simp)]
  · obtain rfl : k = 0 := Nat.le_zero.1 hk
    exact ⟨h.file hV, fun n b e => (by cases e)⟩
theorem UP {d : DiskD} {L : List HV} (h : HS d L) : DF d = (d, Bz L, 0) := by
 have hrm : Be d = (d, 0) := by
  unfold Be BJ
  rw [if_neg]
  rw [h.up, if_neg (by simp), h.none_]
  simp
 have hr : (BJ d hardN).getD [] = Lm L := by
  unfold BJ
  rw [h.up, if_neg (by simp), h.at_]
 have hl := QA h.ok F9
 rw [List.append_nil] at hl
 unfold DF
 rw [hrm]
 simp only
 rw [if_neg (by simp), hr, hl, if_neg (by simp)]
theorem Mc : CE hardN = true := by decide
theorem Ts : CE newN = true := by decide
theorem QC {d : DiskD} {n b : List UInt8} (hr : d.room = 1048576) (hu : AK d.now ≤ 600) (hl : d.now.length ≤ 2) (hb : b.length ≤ 17) : EW d n b = true := by
 unfold EW
 rw [Bool.and_eq_true, decide_eq_true_eq]
 refine ⟨by rw [hr]; omega, ?_⟩
 rw [Bool.not_eq_true', Bool.and_eq_false_iff]
 right
 rw [decide_eq_false_iff_not]
 omega
theorem Md {d : DiskD} {n b : List UInt8} (h1 : d.down = false) (h2 : d.fuse = none) (hn : CE n = true) (hf : EW d n b = true) : Cp d n b = (Cr d (.app n b), 0) := by
 unfold Cp
 rw [EY h1 h2]
 simp only
 rw [if_neg (by simp), hn, if_neg (by simp), hf, if_neg (by simp)]
theorem HS.save {d : DiskD} {L : List HV} {V : HV → Prop} (hs : HS d L) (hc : CR d V) (hL : V (Bz L)) {x : HV} (hx : E5 x) (hV : V x) : ∃ d' L', Et d x = (d', 0) ∧ HS d' L' ∧ CR d' V ∧ Bz L' = x ∧ d'.wait.length ≤ d.wait.length + 2 ∧ ∀ V0 : HV → Prop, V0 (Bz L) → Tr d' V0 d.wait.length := by
  have hf := Lo hx
  have hr : (BJ d hardN).getD [] = Lm L := by
    unfold BJ
    rw [hs.up, if_neg (by simp), hs.at_]
  have hfew := hs.few
  have hused := hs.used
  unfold Et
  rw [hr]
  split
  · rename_i hlt
    rw [Md hs.up hs.fz Mc (QC hs.rm (by omega) (by omega) hf)]
    have happ : ∀ b, AI d.now (.app hardN b) = BG d.now hardN (Lm L ++ b) := fun b => by
      show BG d.now hardN ((AQ d.now hardN).getD [] ++ b) = _
      rw [hs.at_]
    have hput : ∀ (V : HV → Prop) b, b.length ≤ 17 → ∀ L1 j, (∀ h, h ∈ L1 → E5 h) → Lm L ++ b = Lm L1 ++ j → B1 j = none → V (Bz L1) → HFile (AI d.now (.app hardN b)) V := fun V b hb L1 j h1 h2 h3 h4 => by
      rw [happ]
      refine ⟨Ck hs.nnd, fun k hk => ?_, ⟨L1, j, h1, ?_, h3, h4⟩, ?_, ?_⟩
      · rcases G8 hs.nnd hk with h | h
        · exact .inl h
        · exact .inl (hs.ks k h)
      · rw [DY hs.nnd, if_pos rfl]; exact h2
      · rw [DY hs.nnd, if_pos rfl]
        simp only [Option.getD_some, List.length_append]
        omega
      · rw [DY hs.nnd, if_neg (fun e => FM e.symm), hs.none_]
        simp
    have hok : ∀ h, h ∈ L ++ [x] → E5 h := fun h hm => by
      rcases List.mem_append.1 hm with h1 | h1
      · exact hs.ok h h1
      · rw [List.mem_singleton.1 h1]; exact hx
    refine ⟨_, L ++ [x], rfl, ⟨hs.up, hs.fz, hs.rm, hs.nd, fun k hk => ?_, ?_, hok, ?_⟩, hc.push ?_ ?_, Is _ _, ?_, fun V0 h0 => PD (hs.file h0) ?_⟩
    · rw [C2, happ] at hk
      rcases G8 hs.nnd hk with h | h
      · exact h
      · exact hs.ks k h
    · rw [C2, happ, DY hs.nnd, if_pos rfl, Ln]; rfl
    · rw [Ln, List.length_append]; omega
    · exact hput V _ hf (L ++ [x]) [] hok (by rw [Ln]; simp) F9 (by rw [Is]; exact hV)
    · rintro n b e t ht
      cases e
      exact hput V _ (by rw [List.length_take]; omega) L _ hs.ok rfl (Tm hx ht) hL
    · show (d.wait ++ [_]).length ≤ _
      simp
    · rintro n b e t ht
      cases e
      exact hput V0 _ (by rw [List.length_take]; omega) L _ hs.ok rfl (Tm hx ht) h0
  · rename_i hge
    have hrm : Be d = (d, 0) := by
      unfold Be BJ
      rw [if_neg]
      rw [hs.up, if_neg (by simp), hs.none_]
      simp
    unfold GC
    rw [hrm]
    simp only
    rw [if_neg (by simp), Md hs.up hs.fz Ts (QC hs.rm (by omega) (by omega) hf)]
    simp only
    rw [if_neg (by simp)]
    obtain ⟨d1, hd1⟩ : ∃ d1, Cr d (.app newN (Bc (layH x))) = d1 := ⟨_, rfl⟩
    have happ : ∀ b, AI d.now (.app newN b) = BG d.now newN b := fun b => by
      show BG d.now newN ((AQ d.now newN).getD [] ++ b) = _
      rw [hs.none_]; rfl
    have hn1 : d1.now = BG d.now newN (Bc (layH x)) := by rw [← hd1, C2, happ]
    have hg1 : AQ d1.now newN = some (Bc (layH x)) := by rw [hn1, DY hs.nnd, if_pos rfl]
    have hu1 : d1.down = false := by rw [← hd1]; exact hs.up
    have hz1 : d1.fuse = none := by rw [← hd1]; exact hs.fz
    have hnd1 : (AL d1.now).Nodup := by rw [hn1]; exact Ck hs.nnd
    have hren : I4 d1 newN hardN = (Cr d1 (.ren newN hardN), 0) := by
      unfold I4
      rw [EY hu1 hz1]
      simp only
      rw [if_neg (by simp), Mc, if_neg (by simp), hg1]
    have hdone : AI d1.now (.ren newN hardN) = BG (BX d1.now newN) hardN (Bc (layH x)) := by
      show (match AQ d1.now newN with | some y => BG (BX d1.now newN) hardN y | none => d1.now) = _
      rw [hg1]
    have hfile : ∀ (V : HV → Prop), V (Bz L) → ∀ b, b.length ≤ 17 → HFile (AI d.now (.app newN b)) V := fun V hL b hb => by
      rw [happ]
      refine ⟨Ck hs.nnd, fun k hk => ?_, ⟨L, [], hs.ok, ?_, F9, hL⟩, ?_, ?_⟩
      · rcases G8 hs.nnd hk with h | h
        · exact .inr h
        · exact .inl (hs.ks k h)
      · rw [DY hs.nnd, if_neg FM, hs.at_]; simp
      · rw [DY hs.nnd, if_neg FM, hs.at_]; have := hs.le; omega
      · rw [DY hs.nnd, if_pos rfl]
        simp only [Option.getD_some]
        omega
    have hfr : Lm [x] = Bc (layH x) := by simp [Lm, DO]
    have hkeys : ∀ k, k ∈ AL (AI d1.now (.ren newN hardN)) → k = hardN := fun k hk => by
      rw [hdone] at hk
      rcases G8 (Cf hnd1) hk with h | h
      · exact h
      · obtain ⟨h1, h2⟩ := Tq hnd1 h
        rw [hn1] at h1
        rcases G8 hs.nnd h1 with h3 | h3
        · exact absurd h3 h2
        · exact hs.ks k h3
    have hget : AQ (AI d1.now (.ren newN hardN)) hardN = some (Bc (layH x)) := by rw [hdone, DY (Cf hnd1), if_pos rfl]
    have hgn : AQ (AI d1.now (.ren newN hardN)) newN = none := CZ.2 fun hm => FM (hkeys _ hm).symm
    have hndd : (AL (AI d1.now (.ren newN hardN))).Nodup := by rw [hdone]; exact Ck (Cf hnd1)
    have hok : ∀ h, h ∈ [x] → E5 h := fun h hm => by rw [List.mem_singleton.1 hm]; exact hx
    have hc1 : CR d1 V := by
      rw [← hd1]
      refine hc.push (hfile V hL _ hf) ?_
      rintro n b e t ht
      cases e
      exact hfile V hL _ (by rw [List.length_take]; omega)
    rw [hd1, hren]
    refine ⟨_, [x], rfl, ⟨hu1, hz1, by rw [← hd1]; exact hs.rm, by rw [← hd1]; exact hs.nd, ?_, ?_, hok, ?_⟩, hc1.push ?_ ?_, rfl, ?_, fun V0 h0 => ?_⟩
    · rw [C2]; exact hkeys
    · rw [C2, hget, hfr]; rfl
    · rw [hfr]; omega
    · exact ⟨hndd, fun k hk => .inl (hkeys k hk), ⟨[x], [], hok, by rw [hget, hfr]; simp, F9, hV⟩, by rw [hget]; simp only [Option.getD_some]; omega, by rw [hgn]; simp⟩
    · rintro n b e
      cases e
    · rw [← hd1]
      show ((d.wait ++ [_]) ++ [_]).length ≤ _
      simp
    · have h9 : Tr d1 V0 d.wait.length := by
        rw [← hd1]
        refine PD (hs.file h0) ?_
        rintro n b e t ht
        cases e
        exact hfile V0 h0 _ (by rw [List.length_take]; omega)
      refine h9.old ?_
      rw [← hd1]
      show _ < (d.wait ++ [_]).length
      simp
end Go.Proofs.YtnknboibmifacaaGreat.Sep
namespace Go.Proofs.YtnknboibmifacaaGreat.Sep
open Go.RowKit
open Go.Proofs.YtnknboibmifacaaGreat.Mem (Bl Co Chg AG)
theorem AF : DW Tryz.prog 57 := FC Tryz.underlying57 rfl (by kernel_rfl)
theorem Am : FB Tryz.prog 31 2 := Iz Tryz.underlying31 rfl (by kernel_rfl)
theorem Bq : LE Tryz.prog 31 #[.int .u64 0, .int .i64 0] := Hj (z := .agg #[.int .u64 0, .int .i64 0]) (by kernel_rfl) rfl
theorem Ft : FB Tryz.prog 33 3 := Iz Tryz.underlying33 rfl (by kernel_rfl)
theorem DT : FB Tryz.prog 35 7 := Iz Tryz.underlying35 rfl (by kernel_rfl)
theorem DG : Bf Tryz.prog 33 0 0 := fun g off w => by kernel_rfl
theorem DH : Bf Tryz.prog 33 1 1 := fun g off w => by kernel_rfl
theorem DI : Bf Tryz.prog 59 0 0 := fun g off w => by kernel_rfl
theorem DJ : Bf Tryz.prog 33 2 2 := fun g off w => by kernel_rfl
theorem DK : Bf Tryz.prog 59 3 3 := fun g off w => by kernel_rfl
theorem DL : Bf Tryz.prog 59 6 6 := fun g off w => by kernel_rfl
theorem FR : Bf Tryz.prog 31 0 0 := fun g off w => by kernel_rfl
theorem FT : Bf Tryz.prog 31 1 1 := fun g off w => by kernel_rfl
theorem Dr : Bf Tryz.prog 35 2 3 := fun g off w => by kernel_rfl
theorem Ds : Bf Tryz.prog 35 1 1 := fun g off w => by kernel_rfl
theorem CV : Bf Tryz.prog 35 3 4 := fun g off w => by kernel_rfl
theorem CW : Bf Tryz.prog 35 0 0 := fun g off w => by kernel_rfl
theorem CF : SliceT Tryz.prog 22 35 7 := Eb (z := .agg #[.int .i64 0, .int .u64 0, .int .i64 0, .bool false, .int .i64 0, .int .i64 0, .int .i64 0]) Tryz.underlying22 (by kernel_rfl) rfl rfl (by decide)
def flU : List ((Nat × Nat) × Nat) := [((33, 0), 0), ((33, 1), 1), ((59, 0), 0), ((33, 2), 2), ((59, 3), 3), ((59, 6), 6), ((31, 0), 0), ((31, 1), 1), ((35, 2), 3), ((35, 1), 1), ((35, 3), 4), ((35, 0), 0)] ++ flS
theorem JQ {P : Program} {b : List ((Nat × Nat) × Nat)} (hb : Jm P b) : ∀ {a : List ((Nat × Nat) × Nat)}, Kf P a → Jm P (a ++ b)
  | [], _ => hb
  | ((s, f), k) :: r, ha => fun S g q h => by
    simp only [List.cons_append] at h
    unfold Vk at h
    cases h1 : Nat.beq s S with
    | false => simp only [h1] at h; exact JQ hb ha.2 S g q h
    | true =>
      cases h2 : Nat.beq f g with
      | false => simp only [h1, h2] at h; exact JQ hb ha.2 S g q h
      | true =>
        simp only [h1, h2, Option.some.injEq] at h
        have e1 := Nat.eq_of_beq_eq_true h1
        have e2 := Nat.eq_of_beq_eq_true h2
        subst e1; subst e2; subst h
        exact ha.1
theorem Ai : Jm Tryz.prog flU := JQ Aw ⟨DG, DH, DI, DJ, DK, DL, FR, FT, Dr, Ds, CV, CW, trivial⟩
end Go.Proofs.YtnknboibmifacaaGreat.Sep
namespace Go.Proofs.YtnknboibmifacaaGreat.Sep
open Go.RowKit
open Go.Proofs.YtnknboibmifacaaGreat.Mem (Bl Co Chg AG)
theorem PE (w : World) (t v : Int) (r : Bool) (hr : (decide (t ≤ 72057594037927935) && (decide (v ≥ 0) && decide (v ≤ 7))) = r) : Calls Tryz.prog 14 #[.agg #[.int .u64 t, .int .i64 v]] w fun e w' => e = .returned (.bool r) ∧ Below w.heap.size w w' := by
  refine Fy (args := [.agg #[.int .u64 t, .int .i64 v]]) 16 Tryz.func14 rfl rfl rfl ?_
  refine Ad ?_
  refine Ae Ai rfl ?_
  refine Aj (post := fun g => [cell g 31 #[.int .u64 t, .int .i64 v]]) rfl (CC (cs := #[.int .u64 t, .int .i64 v]) rfl rfl rfl) ?_; rintro g
  refine Ae Ai rfl ?_
  refine Aa ?_
  rcases Classical.em (t ≤ 72057594037927935) with h1 | h1
  rcases Classical.em (v ≥ 0) with h2 | h2
  rcases Classical.em (v ≤ 7) with h3 | h3
  · skip
    obtain rfl : r = true := by rw [← hr]; simp [h1, h2, h3]
    refine Ad ?_
    refine Ae Ai rfl ?_
    refine Ab rfl (.int .u64 t) (fun b w hb hH => A6 rfl rfl (Bk Dg rfl) (hH.row 0 rfl) hb) ?_
    refine Ab rfl (.bool true) (fun b w hb hH => AV rfl rfl rfl (Dd h1) hb) ?_
    refine Ae Ai rfl ?_
    refine Ab rfl (.int .i64 v) (fun b w hb hH => A6 rfl rfl (Bk AR rfl) (hH.row 0 rfl) hb) ?_
    refine Ab rfl (.bool true) (fun b w hb hH => AV rfl rfl rfl (B7 h2) hb) ?_
    refine Ae Ai rfl ?_
    refine Ab rfl (.int .i64 v) (fun b w hb hH => A6 rfl rfl (Bk AR rfl) (hH.row 0 rfl) hb) ?_
    refine Ab rfl (.bool true) (fun b w hb hH => AV rfl rfl rfl (Dd h3) hb) ?_
    refine Ae Ai rfl ?_
    refine Aa (Ay ?_)
    exact Av (.tmp rfl) (fun w h => ⟨rfl, AG h.up⟩) rfl
  · skip
    obtain rfl : r = false := by rw [← hr]; simp [h3]
    refine Ad ?_
    refine Ae Ai rfl ?_
    refine Ab rfl (.int .u64 t) (fun b w hb hH => A6 rfl rfl (Bk Dg rfl) (hH.row 0 rfl) hb) ?_
    refine Ab rfl (.bool true) (fun b w hb hH => AV rfl rfl rfl (Dd h1) hb) ?_
    refine Ae Ai rfl ?_
    refine Ab rfl (.int .i64 v) (fun b w hb hH => A6 rfl rfl (Bk AR rfl) (hH.row 0 rfl) hb) ?_
    refine Ab rfl (.bool true) (fun b w hb hH => AV rfl rfl rfl (B7 h2) hb) ?_
    refine Ae Ai rfl ?_
    refine Ab rfl (.int .i64 v) (fun b w hb hH => A6 rfl rfl (Bk AR rfl) (hH.row 0 rfl) hb) ?_
    refine Ab rfl (.bool false) (fun b w hb hH => AV rfl rfl rfl (EG (by omega)) hb) ?_
    refine Ae Ai rfl ?_
    refine Aa (Ay ?_)
    exact Av (.tmp rfl) (fun w h => ⟨rfl, AG h.up⟩) rfl
  · skip
    obtain rfl : r = false := by rw [← hr]; simp [h2]
    refine Ad ?_
    refine Ae Ai rfl ?_
    refine Ab rfl (.int .u64 t) (fun b w hb hH => A6 rfl rfl (Bk Dg rfl) (hH.row 0 rfl) hb) ?_
    refine Ab rfl (.bool true) (fun b w hb hH => AV rfl rfl rfl (Dd h1) hb) ?_
    refine Ae Ai rfl ?_
    refine Ab rfl (.int .i64 v) (fun b w hb hH => A6 rfl rfl (Bk AR rfl) (hH.row 0 rfl) hb) ?_
    refine Ab rfl (.bool false) (fun b w hb hH => AV rfl rfl rfl (De (by omega)) hb) ?_
    refine Ae Ai rfl ?_
    refine Aa (Ay ?_)
    exact Av (.tmp rfl) (fun w h => ⟨rfl, AG h.up⟩) rfl
  · skip
    obtain rfl : r = false := by rw [← hr]; simp [h1]
    refine Ad ?_
    refine Ae Ai rfl ?_
    refine Ab rfl (.int .u64 t) (fun b w hb hH => A6 rfl rfl (Bk Dg rfl) (hH.row 0 rfl) hb) ?_
    refine Ab rfl (.bool false) (fun b w hb hH => AV rfl rfl rfl (EG (by omega)) hb) ?_
    refine Ae Ai rfl ?_
    refine Aa (Ay ?_)
    exact Av (.tmp rfl) (fun w h => ⟨rfl, AG h.up⟩) rfl
theorem Me (w : World) {h : HV} (hk : E5 h) : Calls Tryz.prog 14 #[.agg #[.int .u64 ((h.1 : Nat) : Int), .int .i64 ((h.2 : Nat) : Int)]] w fun e w' => e = .returned (.bool true) ∧ Below w.heap.size w w' :=
 PE w _ _ true (by have := hk.1; have := hk.2; simp; omega)
theorem RM {h : HV} (hk : E5 h) : AU Tryz.prog 44 #[.agg #[.int .u64 ((h.1 : Nat) : Int), .int .i64 ((h.2 : Nat) : Int)]] [] (fun (v : Value) => v) (fun (v : Value) => [As 5 1 encB v (layH h)]) := by
 refine Bd (args := [.agg #[.int .u64 ((h.1 : Nat) : Int), .int .i64 ((h.2 : Nat) : Int)]]) 16 Tryz.func44 rfl rfl rfl ?_; intro w rs
 have hk1 := hk.1
 have hk2 := hk.2
 refine Ad ?_
 refine Ae Ai rfl ?_
 refine Aj (post := fun g1 => [cell g1 31 #[.int .u64 ((h.1 : Nat) : Int), .int .i64 ((h.2 : Nat) : Int)]]) rfl (CC (cs := #[.int .u64 ((h.1 : Nat) : Int), .int .i64 ((h.2 : Nat) : Int)]) rfl rfl rfl) ?_; rintro g1
 refine Ae Ai rfl ?_
 refine Aa (Ad ?_)
 refine Ae Ai rfl ?_
 refine Aj rfl (Al (os' := fun g => [P7 g ([]), cell g1 31 #[.int .u64 ((h.1 : Nat) : Int), .int .i64 ((h.2 : Nat) : Int)]]) [] 0 (Ah Tryz.func75 (by kernel_rfl) rfl) (Vq) rfl rfl rfl (fun _ => rfl) rfl rfl rfl) ?_; rintro g
 refine Ae Ai rfl ?_
 refine Aa (Ad ?_)
 refine Ae Ai rfl ?_
 refine Ab rfl (.int .u64 ((h.1 : Nat) : Int)) (fun b w hb hH => A6 rfl rfl (Bk Dg rfl) (hH.row 1 rfl) hb) ?_
 refine Aj rfl (Al (os' := fun _ => [P7 g (Do h.1), cell g1 31 #[.int .u64 ((h.1 : Nat) : Int), .int .i64 ((h.2 : Nat) : Int)]]) [0] 0 (Ah Tryz.func76 (by kernel_rfl) rfl) (Vr g [] ((h.1 : Nat) : Int) ⟨by omega, by omega⟩ (Do h.1) (by rw [Jy, Int.toNat_natCast]; rfl) (by simp)) rfl rfl rfl (fun _ => rfl) rfl rfl rfl) ?_; rintro ⟨⟩
 refine Aa (Ad ?_)
 refine Ae Ai rfl ?_
 refine Ab rfl (.int .i64 ((h.2 : Nat) : Int)) (fun b w hb hH => A6 rfl rfl (Bk AR rfl) (hH.row 1 rfl) hb) ?_
 refine Ab rfl (.int .u8 ((h.2 : Nat) : Int)) (fun b w hb hH => AY Tryz.underlying3 Tryz.underlying5 (IntWalk.u8_in _ (by omega)) rfl rfl hb) ?_
 refine Aj rfl (Al (os' := fun _ => [P7 g (layH h), cell g1 31 #[.int .u64 ((h.1 : Nat) : Int), .int .i64 ((h.2 : Nat) : Int)]]) [0] 0 (Ah Tryz.func77 (by kernel_rfl) rfl) (Ul g (Do h.1) ((h.2 : Nat) : Int) ⟨by omega, by omega⟩ (layH h) (by rw [Int.toNat_natCast]; rfl) (by have := D2 7 h.1 (by omega); omega)) rfl rfl rfl (fun _ => rfl) rfl rfl rfl) ?_; rintro ⟨⟩
 refine Aa (Ad ?_)
 refine Ae Ai rfl ?_
 refine Aj rfl (Al (os' := fun v => [As 5 1 encB v (layH h), P7 g (layH h), cell g1 31 #[.int .u64 ((h.1 : Nat) : Int), .int .i64 ((h.2 : Nat) : Int)]]) [0] 0 (Ah Tryz.func78 (by kernel_rfl) rfl) (Su g (layH h) (by have := F8 hk; omega)) rfl rfl rfl (fun _ => rfl) rfl rfl rfl) ?_; rintro v
 refine Ae Ai rfl ?_
 refine Aa (Ay ?_)
 exact Av (.tmp rfl) (fun w h => AB v rfl [0] rfl h Cl) rfl
theorem Lp (w : World) {v : Value} {l : List UInt8} (hv : Fw w v l) (hl : l.length ≤ 65536) {h : HV} (ho : EX l = some h) : Calls Tryz.prog 71 #[v] w fun e w' => e = .returned (.tuple #[.agg #[.int .u64 ((h.1 : Nat) : Int), .int .i64 ((h.2 : Nat) : Int)], .bool true]) ∧ Below w.heap.size w w' := by
 obtain ⟨⟨n1, l1, f1⟩, h1⟩ : ∃ R, B5 72057594037927935 l 0 = R := ⟨_, rfl⟩
 obtain ⟨x2, l2, f2, h2⟩ := Qd 7 l1 f1
 obtain ⟨r3, h3⟩ : ∃ r, D6 l2 f2 = r := ⟨_, rfl⟩
 rw [G7 h1 h2, h3] at ho
 have hr3 : r3 = 0 := by by_cases e : r3 = 0; exact e; rw [if_neg e] at ho; cases ho
 rw [if_pos hr3] at ho
 have hx2 := x2.toNat_lt
 obtain rfl := Option.some.inj ho
 refine Fy (args := [v]) 21 Tryz.func71 rfl rfl rfl ?_
 refine Ad ?_
 refine Ae Ai rfl ?_
 refine Aj (post := fun g2 => [cell g2 31 #[.int .u64 0, .int .i64 0]]) rfl (BS Bq rfl) ?_; rintro g2
 refine Ae Ai rfl ?_
 refine Aa (Ad ?_)
 refine Ae Ai rfl ?_
 refine Aj (post := fun g => [GJ g l 0, cell g2 31 #[.int .u64 0, .int .i64 0]]) rfl (Mz (Below.refl _ _) (fun _ h => h.elim) (os' := fun g => [GJ g l 0, cell g2 31 #[.int .u64 0, .int .i64 0]]) [] 0 (Ah Tryz.func86 (by kernel_rfl) rfl) (SF w v l hv (by omega)) rfl rfl rfl (fun _ => rfl) rfl rfl rfl) ?_; rintro g
 refine Ae Ai rfl ?_
 refine Aa (Ad ?_)
 refine Ae Ai rfl ?_
 refine Aj rfl (Al (os' := fun _ => [GJ g l1 f1, cell g2 31 #[.int .u64 0, .int .i64 0]]) [0] 0 (Ah Tryz.func87 (by kernel_rfl) rfl) (SG g l 0 72057594037927935 (by decide) (n1, l1, f1) h1) rfl rfl rfl (fun _ => rfl) rfl rfl rfl) ?_; rintro ⟨⟩
 refine Ae Ai rfl ?_
 refine Aa (Ad ?_)
 refine Ae Ai rfl ?_
 refine Aj rfl (Al (os' := fun _ => [GJ g l2 f2, cell g2 31 #[.int .u64 0, .int .i64 0]]) [0] 0 (Ah Tryz.func88 (by kernel_rfl) rfl) (Qe g l1 f1 7 (by decide) (x2.toNat, l2, f2) h2) rfl rfl rfl (fun _ => rfl) rfl rfl rfl) ?_; rintro ⟨⟩
 refine Ae Ai rfl ?_
 refine Aa (Aq (Ad ?_))
 refine Ae Ai rfl ?_
 refine Aj rfl (Al (os' := fun _ => [GJ g l2 f2, cell g2 31 #[.int .u64 0, .int .i64 0]]) [0] 0 (Ah Tryz.func89 (by kernel_rfl) rfl) (SH g l2 f2 r3 h3) rfl rfl rfl (fun _ => rfl) rfl rfl rfl) ?_; rintro ⟨⟩
 refine Ab rfl (.bool false) (fun b w hb hH => AV rfl rfl rfl (AS (by omega)) hb) ?_
 refine Aa (Ar rfl (Ax (AE (Ad ?_))))
 refine Ae Ai rfl ?_
 refine Ab rfl (.int .i64 (x2.toNat : Int)) (fun b w hb hH => AY Tryz.underlying5 Tryz.underlying3 (IntWalk.i64_in _ (by omega)) rfl rfl hb) ?_
 refine Ab rfl (.agg #[.int .u64 ((n1 : Nat) : Int), .int .i64 (x2.toNat : Int)]) (fun b w hb hH => Bg rfl rfl (by kernel_rfl) hb) ?_
 refine AH (post := fun _ => [GJ g l2 f2, cell g2 31 #[.int .u64 ((n1 : Nat) : Int), .int .i64 (x2.toNat : Int)]]) rfl rfl (AD 1 (v := .agg #[.int .u64 ((n1 : Nat) : Int), .int .i64 (x2.toNat : Int)]) #[.int .u64 ((n1 : Nat) : Int), .int .i64 (x2.toNat : Int)] Am.2 rfl rfl rfl rfl rfl rfl rfl rfl rfl) ?_; rintro ⟨⟩
 refine Ae Ai rfl ?_
 refine Aa (Ay ?_)
 exact B3 (.cell 1 (v := .agg #[.int .u64 ((n1 : Nat) : Int), .int .i64 (x2.toNat : Int)]) (D3 (cs := [.int .u64 ((n1 : Nat) : Int), .int .i64 (x2.toNat : Int)]) Am rfl) rfl rfl) (.tmp rfl) (fun w h => ⟨rfl, AG h.up⟩) rfl
theorem PF (w : World) {v : Value} {l : List UInt8} (hv : Fw w v l) (hl : l.length ≤ 65536) (ho : EX l = none) : Calls Tryz.prog 71 #[v] w fun e w' => e = .returned (.tuple #[.agg #[.int .u64 0, .int .i64 0], .bool false]) ∧ Below w.heap.size w w' := by
 obtain ⟨⟨n1, l1, f1⟩, h1⟩ : ∃ R, B5 72057594037927935 l 0 = R := ⟨_, rfl⟩
 obtain ⟨x2, l2, f2, h2⟩ := Qd 7 l1 f1
 obtain ⟨r3, h3⟩ : ∃ r, D6 l2 f2 = r := ⟨_, rfl⟩
 rw [G7 h1 h2, h3] at ho
 have hr3 : r3 ≠ 0 := fun e => by rw [if_pos e] at ho; cases ho
 refine Fy (args := [v]) 21 Tryz.func71 rfl rfl rfl ?_
 refine Ad ?_
 refine Ae Ai rfl ?_
 refine Aj (post := fun g2 => [cell g2 31 #[.int .u64 0, .int .i64 0]]) rfl (BS Bq rfl) ?_; rintro g2
 refine Ae Ai rfl ?_
 refine Aa (Ad ?_)
 refine Ae Ai rfl ?_
 refine Aj (post := fun g => [GJ g l 0, cell g2 31 #[.int .u64 0, .int .i64 0]]) rfl (Mz (Below.refl _ _) (fun _ h => h.elim) (os' := fun g => [GJ g l 0, cell g2 31 #[.int .u64 0, .int .i64 0]]) [] 0 (Ah Tryz.func86 (by kernel_rfl) rfl) (SF w v l hv (by omega)) rfl rfl rfl (fun _ => rfl) rfl rfl rfl) ?_; rintro g
 refine Ae Ai rfl ?_
 refine Aa (Ad ?_)
 refine Ae Ai rfl ?_
 refine Aj rfl (Al (os' := fun _ => [GJ g l1 f1, cell g2 31 #[.int .u64 0, .int .i64 0]]) [0] 0 (Ah Tryz.func87 (by kernel_rfl) rfl) (SG g l 0 72057594037927935 (by decide) (n1, l1, f1) h1) rfl rfl rfl (fun _ => rfl) rfl rfl rfl) ?_; rintro ⟨⟩
 refine Ae Ai rfl ?_
 refine Aa (Ad ?_)
 refine Ae Ai rfl ?_
 refine Aj rfl (Al (os' := fun _ => [GJ g l2 f2, cell g2 31 #[.int .u64 0, .int .i64 0]]) [0] 0 (Ah Tryz.func88 (by kernel_rfl) rfl) (Qe g l1 f1 7 (by decide) (x2.toNat, l2, f2) h2) rfl rfl rfl (fun _ => rfl) rfl rfl rfl) ?_; rintro ⟨⟩
 refine Ae Ai rfl ?_
 refine Aa (Aq (Ad ?_))
 refine Ae Ai rfl ?_
 refine Aj rfl (Al (os' := fun _ => [GJ g l2 f2, cell g2 31 #[.int .u64 0, .int .i64 0]]) [0] 0 (Ah Tryz.func89 (by kernel_rfl) rfl) (SH g l2 f2 r3 h3) rfl rfl rfl (fun _ => rfl) rfl rfl rfl) ?_; rintro ⟨⟩
 refine Ab rfl (.bool true) (fun b w hb hH => AV rfl rfl rfl (BQ (by omega)) hb) ?_
 refine Aa (AC rfl (Ad ?_))
 refine Ae Ai rfl ?_
 refine Ab rfl (.agg #[.int .u64 0, .int .i64 0]) (fun b w hb hH => Bg rfl rfl (by kernel_rfl) hb) ?_
 refine AH (post := fun _ => [GJ g l2 f2, cell g2 31 #[.int .u64 0, .int .i64 0]]) rfl rfl (AD 1 (v := .agg #[.int .u64 0, .int .i64 0]) #[.int .u64 0, .int .i64 0] Am.2 rfl rfl rfl rfl rfl rfl rfl rfl rfl) ?_; rintro ⟨⟩
 refine Ae Ai rfl ?_
 refine Aa (Ay (CM ?_))
 exact B3 (.cell 1 (v := .agg #[.int .u64 0, .int .i64 0]) (D3 (cs := [.int .u64 0, .int .i64 0]) Am rfl) rfl rfl) (.tmp rfl) (fun w h => ⟨rfl, AG h.up⟩) rfl
theorem Lq {p : Nat} {d d1 : DiskD} {e : Nat} (hd : d.fit) (h : Be d = (d1, e)) : AU Tryz.prog 31 #[.pointer (some ⟨p, 0, none⟩)] [Ao p d] (fun (_ : Unit) => .int .i64 (e : Int)) (fun (_ : Unit) => [Ao p d1]) := by
  refine Bd (args := [.pointer (some ⟨p, 0, none⟩)]) 14 Tryz.func31 rfl rfl rfl ?_; intro w rs
  obtain ⟨b, hb⟩ : ∃ b, (BJ d newN).getD [] = b := ⟨_, rfl⟩
  refine Ad ?_
  refine Ae Ai rfl ?_
  refine Aa (Aq ?_)
  rcases hok : (BJ d newN).isSome with _ | _
  · skip
    obtain ⟨rfl, rfl⟩ : d = d1 ∧ 0 = e := by unfold Be at h; rw [if_neg (by rw [hok]; simp)] at h; exact Prod.mk.inj h
    refine Ad ?_
    refine Ae Ai rfl ?_
    refine Aj rfl (Al (os' := fun bv => [As 5 1 encB bv b, Ao p d]) [0] 0 (Ah Tryz.func32 (by kernel_rfl) rfl) (F6 (n := newN) hd hok hb) rfl rfl rfl (fun _ => rfl) rfl rfl rfl) ?_; rintro bv
    refine Ae Ai rfl ?_
    refine Aa (Ad ?_)
    refine Ae Ai rfl ?_
    refine Aa (AC rfl (Ad ?_))
    refine Ae Ai rfl ?_
    refine Aa (Ay (CM ?_))
    exact Av (.tmp rfl) (fun w h => AB () rfl [1] rfl h Cl) rfl
  · skip
    have hdel : GH d newN = (d1, e) := by unfold Be at h; rwa [if_pos hok] at h
    refine Ad ?_
    refine Ae Ai rfl ?_
    refine Aj rfl (Al (os' := fun bv => [As 5 1 encB bv b, Ao p d]) [0] 0 (Ah Tryz.func32 (by kernel_rfl) rfl) (F6 (n := newN) hd hok hb) rfl rfl rfl (fun _ => rfl) rfl rfl rfl) ?_; rintro bv
    refine Ae Ai rfl ?_
    refine Aa (Ad ?_)
    refine Ae Ai rfl ?_
    refine Aa (Ar rfl (Ax (AE (Ad ?_))))
    refine Ae Ai rfl ?_
    refine Aj rfl (Al (os' := fun _ => [As 5 1 encB bv b, Ao p d1]) [1] 0 (Ah Tryz.func69 (by kernel_rfl) rfl) (NU (n := newN) hd hdel) rfl rfl rfl (fun _ => rfl) rfl rfl rfl) ?_; rintro ⟨⟩
    refine Ae Ai rfl ?_
    refine Aa (Ay ?_)
    exact Av (.tmp rfl) (fun w h => AB () rfl [1] rfl h Cl) rfl
end Go.Proofs.YtnknboibmifacaaGreat.Sep
namespace Go.Proofs.YtnknboibmifacaaGreat.Sep
open Go.RowKit
open Go.Proofs.YtnknboibmifacaaGreat.Mem (Bl Co Chg AG)
section
variable {P : Program} {ops : Array Oper} {Q : Exit → Act → World → Prop} {n d D : Nat} {env : List (Nat × Value)} {B : Nat → Prop} {w0 w : World} {os : List Ass} {o : Oper} {a : Act} {rest : List Oper}
theorem G9 (a : Act) (d : Option Nat) (v : Value) : { ({ a with defers := [] } : Act).put d v with defers := a.defers } = a.put d v := by cases d <;> rfl
theorem UQ {rs : List RowT} (h : Mem.Hp B w0 w rs) : Mem.Hp (Co rs) w w rs := ⟨Mod.refl _ _, h.rows, h.apart, fun x hx _ => ⟨x, hx, rfl⟩⟩
theorem VO {X : Type} {val : X → Value} {post : X → List Ass} (ha : ∀ (B : Nat → Prop) (w0 : World), Bp P (fun _ _ _ => False) n env B w0 os o val post) (hD : w.heap[D]? = some (.deferred (some []))) (hF : Fr n { a with defers := [] } env) (hH : Hp B w0 w os) {K : Act → World → Prop} (hK : ∀ x w', w'.heap[D]? = some (.deferred (some [])) → Hp B w0 w' (post x) → K (a.put o.dst (val x)) w') : o.wp P a w K Q := by
  obtain ⟨rs, h1, h2⟩ := hH
  have h3 := ha (Co rs) w { a with defers := [] } w ⟨rs, h1, UQ h2⟩ hF (fun b w' => b.defers = [] ∧ K { b with defers := a.defers } w') (fun x w' ⟨ys, p1, p2⟩ => ⟨GA _ _ _, by
    rw [G9]
    refine hK x w' ((p2.up.block D (Array.getElem?_eq_some_iff.1 hD).1 ?_).trans hD) ⟨ys, p1, ?_⟩
    · rintro ⟨z, hz, e⟩
      exact G5 hD z e (h2.rows.mem z hz)
    · have h4 := E2 (a := rs) (b := []) (by rw [List.append_nil]; exact h2) (N7 p2)
      rwa [List.append_nil] at h4⟩)
  unfold Oper.wp at h3 ⊢
  rw [Qx a]
  generalize (execOp ({ a with defers := [] } : Act).eval o).run P w = r at h3 ⊢
  cases r with
  | ok nx w' =>
    cases nx with
    | value v => have h4 := h3.2; rw [G9] at h4; exact h4
    | skip => have h4 := h3.2; rw [G9] at h4; exact h4
    | defer d => have h4 := h3.1; rw [GA] at h4; cases h4
    | enter f args =>
      refine Calls.mono h3 ?_
      rintro (v | c | _) w'' h
      · have h4 := h.2; rw [G9] at h4; exact h4
      · exact h.elim
      · obtain ⟨_, _, h⟩ := h; exact h.elim
    | row r args =>
      intro c cs
      obtain ⟨v, w'', h5, h6⟩ := h3 c cs
      have h4 := h5.2
      rw [G9] at h4
      exact ⟨v, w'', h4, h6⟩
    | _ => exact h3.elim
  | halt e w' =>
    cases e with
    | panic v => exact h3.elim
    | _ => exact h3.elim
theorem Wn {x y : Code} (h : PA D P (Exit.then (fun a w => y.wp P Q a w) Q) n env B w0 os x) : PA D P Q n env B w0 os (.seq x y) := fun a w hD h0 hd hF hH => wp_seq (h a w hD h0 hd hF hH)
theorem Oa {y : Code} (h : PA D P Q n env B w0 os y) (a : Act) (w : World) (hD : w.heap[D]? = some (.deferred (some []))) (h0 : w0.heap.size ≤ D) (hd : a.defers = [G6 D]) (hF : Fr n { a with defers := [] } env) (hH : Hp B w0 w os) : Exit.then (fun a w => y.wp P Q a w) Q .normal a w := h a w hD h0 hd hF hH
def Va (D : Nat) (P : Program) (ops : Array Oper) (Q : Exit → Act → World → Prop) (n : Nat) (env : List (Nat × Value)) (B : Nat → Prop) (w0 : World) (os : List Ass) (f : Nat) (listed : Array Bool) : Prop := ∀ a w, w.heap[D]? = some (.deferred (some [])) → w0.heap.size ≤ D → a.defers = [G6 D] → Fr n { a with defers := [] } env → Hp B w0 w os → wpAny P .any ops Q f listed a w
def V3 (D : Nat) (P : Program) (ops : Array Oper) (Q : Exit → Act → World → Prop) (n : Nat) (env : List (Nat × Value)) (B : Nat → Prop) (w0 : World) (os : List Ass) (f : Nat) (listed : Array Bool) (i : Nat) : Prop := ∀ a w, w.heap[D]? = some (.deferred (some [])) → w0.heap.size ≤ D → a.defers = [G6 D] → Fr n { a with defers := [] } env → Hp B w0 w os → wpOp P ops Q i (wpAny P .any ops Q f (listed.setIfInBounds i true)) a w
variable {f i : Nat} {listed : Array Bool}
theorem Oc (l : List Nat) (hr : Region.ready .any ops listed = l) (hne : l ≠ []) (h : ∀ i ∈ l, V3 D P ops Q n env B w0 os f listed i) : Va D P ops Q n env B w0 os (f + 1) listed := fun a w hD h0 hd hF hH => ⟨fun h1 => absurd (hr ▸ h1) hne, fun i hi => h i (hr ▸ hi) a w hD h0 hd hF hH⟩
theorem DU (ho : ops[i]? = some o) (h1 : U1 ops n o env = some d) (v : Value) (hrun : ∀ b w, Fr n b env → Hp B w0 w os → (execOp b.eval o).run P w = .ok (.value v) w) (h : Va D P ops Q n ((d, v) :: env) B w0 os f (listed.setIfInBounds i true)) : V3 D P ops Q n env B w0 os f listed i := fun a w hD h0 hd hF hH => by
 unfold wpOp
 simp only [ho]
 have hw : Region.wanted o (yielded ops a.tmps) = true := hF.wants (B6 h1).1
 rw [if_pos hw]
 refine .inl ?_
 unfold Oper.wp
 rw [Qx, hrun _ w hF hH, Oper.upon_value]
 refine h _ _ hD h0 ((GA _ _ _).trans hd) ?_ hH
 rw [Tj, (B6 h1).2.1]
 exact hF.put (B6 h1).2.2 _
theorem HK {X : Type} {val : X → Value} {post : X → List Ass} (ho : ops[i]? = some o) (hg : wants ops o env = some true) (hdn : o.dst = none) (ha : ∀ (B : Nat → Prop) (w0 : World), Bp P (fun _ _ _ => False) n env B w0 os o val post) (h : ∀ x, Va D P ops Q n env B w0 (post x) f (listed.setIfInBounds i true)) : V3 D P ops Q n env B w0 os f listed i := fun a w hD h0 hd hF hH => by
 unfold wpOp
 simp only [ho]
 have hw : Region.wanted o (yielded ops a.tmps) = true := hF.wants hg
 rw [if_pos hw]
 refine .inl (VO ha hD hF hH fun x w' hD' hH' => h x _ _ hD' h0 ((GA _ _ _).trans hd) ?_ hH')
 rw [Tj, hdn]
 exact hF
theorem HO (hr : Region.ready .any ops listed = []) (h : ∀ a w, w.heap[D]? = some (.deferred (some [])) → w0.heap.size ≤ D → a.defers = [G6 D] → Fr n { a with defers := [] } env → Hp B w0 w os → Q .normal a w) : Va D P ops Q n env B w0 os f listed := fun a w hD h0 hd hF hH => by
  cases f with
  | zero => exact ⟨hr, h a w hD h0 hd hF hH⟩
  | succ f => exact ⟨fun _ => h a w hD h0 hd hF hH, fun i hi => (by rw [hr] at hi; cases hi)⟩
theorem Eu (i : Nat) (hr : Region.ready .any ops listed = [i]) (h : V3 D P ops Q n env B w0 os f listed i) : Va D P ops Q n env B w0 os (f + 1) listed := Oc [i] hr (by simp) (fun j hj => by
 have : j = i := by simpa using hj
 subst this
 exact h)
theorem MV (i j : Nat) (hr : Region.ready .any ops listed = [i, j]) (h : V3 D P ops Q n env B w0 os f listed i) (h' : V3 D P ops Q n env B w0 os f listed j) : Va D P ops Q n env B w0 os (f + 1) listed := Oc [i, j] hr (by simp) (fun k hk => by
  have : k = i ∨ k = j := by simpa using hk
  rcases this with rfl | rfl
  · exact h
  · exact h')
theorem Wo {id : Nat} (hmix : P.follows .mixedOrders = true) (h : Va D P ops Q n env B w0 os ops.size (Array.replicate ops.size false)) : PA D P Q n env B w0 os (.region id ops true) := fun a w hD h0 hd hF hH => wp_region_any hmix (h a w.drew hD h0 hd hF hH.drew)
theorem Tt {id : Nat} {y : Code} (hmix : P.follows .mixedOrders = true) (h : Va D P ops (Exit.then (fun a w => y.wp P Q a w) Q) n env B w0 os ops.size (Array.replicate ops.size false)) : PA D P Q n env B w0 os (.seq (.region id ops true) y) := Wn (Wo hmix h)
theorem Tu {id : Nat} {K : Exit → Act → World → Prop} {a : Act} {w : World} (h : K .normal a w) : Exit.inBlock id K (.exit id) a w := by
 show (if id = id then _ else _)
 rw [if_pos rfl]
 exact h
end
end Go.Proofs.YtnknboibmifacaaGreat.Sep
