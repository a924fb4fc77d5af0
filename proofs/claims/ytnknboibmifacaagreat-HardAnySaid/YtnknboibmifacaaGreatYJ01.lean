/-
  HdM · TyU · HdA · Beh
-/
import Derived.Test.YtnknboibmifacaaGreatYB02
import Derived.Test.YtnknboibmifacaaGreatYB03
import Derived.Test.YtnknboibmifacaaGreatYE01
import Derived.Test.YtnknboibmifacaaGreatYE02
import Derived.Test.YtnknboibmifacaaGreatYH01
import Derived.Test.YtnknboibmifacaaGreatYI01
import Derived.OrdersIn
set_option linter.unusedSimpArgs false
set_option linter.unusedVariables false
set_option maxRecDepth 100000
namespace Go.Proofs.YtnknboibmifacaaGreat.Sep
abbrev HV := Nat × Nat
def Fz (h : HV) : Prop := h.1 ≤ 72057594037927935 ∧ h.2 ≤ 7
instance (h : HV) : Decidable (Fz h) := by unfold Fz; infer_instance
def layH (h : HV) : List UInt8 := Dy h.1 ++ [UInt8.ofNat h.2]
def EE (x : List UInt8) : Option HV :=
  if DT (A7 7 (B0 72057594037927935 x 0).2.1 (B0 72057594037927935 x 0).2.2).2.1 (A7 7 (B0 72057594037927935 x 0).2.1 (B0 72057594037927935 x 0).2.2).2.2 = 0 then some ((B0 72057594037927935 x 0).1, (A7 7 (B0 72057594037927935 x 0).2.1 (B0 72057594037927935 x 0).2.2).1) else none
theorem GK {x l1 l2 : List UInt8} {t f1 v f2 : Nat} (h1 : B0 72057594037927935 x 0 = (t, l1, f1)) (h2 : A7 7 l1 f1 = (v, l2, f2)) : EE x = if DT l2 f2 = 0 then some (t, v) else none := by
 unfold EE
 rw [h1]
 simp only
 rw [h2]
theorem GL {h : HV} (hk : Fz h) : (layH h).length ≤ 9 := by
 have := DQ 7 h.1 (by have := hk.1; omega)
 unfold layH
 rw [List.length_append]
 simp only [List.length_cons, List.length_nil]
 omega
theorem Rs {h : HV} (hk : Fz h) : EE (layH h) = some h := by
 have h1 := Nb 72057594037927935 h.1 [UInt8.ofNat h.2] hk.1 (by have := hk.1; omega)
 have h2 := (Jg 7).lay h.2 [] ⟨hk.2, by have := hk.2; omega⟩
 rw [List.append_nil] at h2
 rw [layH, GK h1 h2]
 rfl
def J7 : List (List UInt8) → List HV
  | [] => []
  | p :: ps => match EE p with | some h => h :: J7 ps | none => []
theorem IS {p : List UInt8} {h : HV} (e : EE p = some h) (ps : List (List UInt8)) : J7 (p :: ps) = h :: J7 ps := by
  show (match EE p with | some h => h :: J7 ps | none => []) = _
  rw [e]
theorem K0 {p : List UInt8} (e : EE p = none) (ps : List (List UInt8)) : J7 (p :: ps) = [] := by
  show (match EE p with | some h => h :: J7 ps | none => []) = _
  rw [e]
theorem MF : ∀ (ps : List (List UInt8)), (J7 ps).length ≤ ps.length
  | [] => Nat.le_refl _
  | p :: ps => by
    cases e : EE p with
    | none => rw [K0 e]; simp
    | some h => rw [IS e]; simpa using MF ps
theorem MG : ∀ {ps : List (List UInt8)} {j : Nat} {h : HV}, (J7 ps)[j]? = some h → ∃ p, ps[j]? = some p ∧ EE p = some h
  | [], j, _, h => by simp [J7] at h
  | p :: ps, j, h, e => by
    cases e1 : EE p with
    | none => rw [K0 e1] at e; simp at e
    | some h1 =>
      rw [IS e1] at e
      cases j with
      | zero => obtain rfl := Option.some.inj e; exact ⟨p, rfl, e1⟩
      | succ j =>
        obtain ⟨q, h2, h3⟩ := MG (by simpa using e)
        exact ⟨q, by simpa using h2, h3⟩
theorem K1 : ∀ {ps : List (List UInt8)} {p : List UInt8}, ps[(J7 ps).length]? = some p → EE p = none
  | [], _, h => by simp at h
  | q :: ps, p, h => by
    cases e1 : EE q with
    | none => rw [K0 e1] at h; obtain rfl := Option.some.inj h; exact e1
    | some h1 =>
      rw [IS e1] at h
      exact K1 (by simpa using h)
theorem Qi : ∀ {L : List HV}, (∀ h, h ∈ L → Fz h) → J7 (L.map layH) = L
  | [], _ => rfl
  | h :: L, hk => by
    rw [List.map_cons, IS (Rs (hk h (by simp))), Qi (fun x hx => hk x (by simp [hx]))]
def Bq (L : List HV) : HV := L.getLast?.getD (0, 0)
theorem Ia (L : List HV) (h : HV) : Bq (L ++ [h]) = h := by simp [Bq]
theorem Ib {L : List HV} {j : Nat} {h : HV} (e : L[j]? = some h) : Bq (L.take (j + 1)) = h := by
 rw [List.take_add_one, e]
 exact Ia _ _
def Ic (b : List UInt8) : HV × Nat := (Bq (J7 (BD b).1), Cp ((BD b).1.take (J7 (BD b).1).length))
theorem Uq (b : List UInt8) : (Ic b).2 ≤ b.length := by
 have h1 := J6 (BD b).1 (J7 (BD b).1).length
 have h2 : (BD b).2 = Cp (BD b).1 := FK b.length b
 have h3 : (BD b).2 ≤ b.length := Hd b.length b
 show Cp _ ≤ _
 omega
theorem JP : ∀ (ps : List (List UInt8)), (∀ x, x ∈ ps → x.length ≤ 65536) → (DA ps).length = Cp ps
  | [], _ => rfl
  | p :: ps, h => by
    rw [JL, List.length_append, D1 (h p (by simp)), LO, JP ps (fun x hx => h x (by simp [hx]))]
def K2 (L : List HV) : List UInt8 := DA (L.map layH)
theorem LP {L : List HV} (h : ∀ x, x ∈ L → Fz x) : ∀ x, x ∈ L.map layH → x.length ≤ 65536 := fun x hx => by
 obtain ⟨y, hy, rfl⟩ := List.mem_map.1 hx
 have := GL (h y hy)
 omega
theorem K3 (L : List HV) (h : HV) : K2 (L ++ [h]) = K2 L ++ Be (layH h) := by
 unfold K2; rw [List.map_append]; exact NJ _ _
theorem Qj {L : List HV} (hk : ∀ h, h ∈ L → Fz h) {junk : List UInt8} (hj : BV junk = none) : Ic (K2 L ++ junk) = (Bq L, (K2 L).length) := by
 have h1 := JM (L.map layH) (LP hk) junk
 rw [CL hj] at h1
 have h2 : (BD (K2 L ++ junk)).1 = L.map layH := by unfold K2; rw [h1]; simp
 unfold Ic
 rw [h2, Qi hk, show (L.map layH).take L.length = L.map layH by rw [List.take_of_length_le (by simp)]]
 unfold K2
 rw [JP _ (LP hk)]
theorem FL : BV [] = none := by unfold BV; rw [if_neg (by simp)]
theorem MH {h : HV} (hk : Fz h) : (Be (layH h)).length ≤ 17 := by
 have := GL hk
 rw [D1 (by omega)]; omega
theorem S7 {h : HV} (hk : Fz h) {t : Nat} (ht : t < (Be (layH h)).length) : BV ((Be (layH h)).take t) = none := by
 have := GL hk
 rw [D1 (by omega)] at ht
 exact SU (by omega) ht
def hardN : List UInt8 := [104, 97, 114, 100]
def newN : List UInt8 := [104, 97, 114, 100, 46, 110, 101, 119]
def Bb (d : DiskD) : DiskD × Nat := if (BB d newN).isSome = true then Hq d newN else (d, 0)
def C5 (d : DiskD) : DiskD × HV × Nat :=
  if (Bb d).2 ≠ 0 then ((Bb d).1, (0, 0), (Bb d).2)
  else if (Ic ((BB (Bb d).1 hardN).getD [])).2 < ((BB (Bb d).1 hardN).getD []).length then
    if (IG (Bb d).1 hardN ((Ic ((BB (Bb d).1 hardN).getD [])).2 : Int)).2 ≠ 0 then ((IG (Bb d).1 hardN ((Ic ((BB (Bb d).1 hardN).getD [])).2 : Int)).1, (0, 0), (IG (Bb d).1 hardN ((Ic ((BB (Bb d).1 hardN).getD [])).2 : Int)).2)
    else ((IG (Bb d).1 hardN ((Ic ((BB (Bb d).1 hardN).getD [])).2 : Int)).1, (Ic ((BB (Bb d).1 hardN).getD [])).1, 0)
  else ((Bb d).1, (Ic ((BB (Bb d).1 hardN).getD [])).1, 0)
def Hi (d : DiskD) (f : List UInt8) : DiskD × Nat :=
  if (Bb d).2 ≠ 0 then Bb d
  else if (Cl (Bb d).1 newN f).2 ≠ 0 then Cl (Bb d).1 newN f
  else Ll (Cl (Bb d).1 newN f).1 newN hardN
def Fg (d : DiskD) (h : HV) : DiskD × Nat :=
  if ((BB d hardN).getD []).length < 256 then Cl d hardN (Be (layH h)) else Hi d (Be (layH h))
def DiskD.fitK (k : Nat) (d : DiskD) : Prop := AE d.syn + (d.wait.map OpD.size).sum + 65536 * k ≤ 1099511627776 ∧ d.wait.length + k ≤ 10000
theorem DiskD.fitK.fit {k : Nat} {d : DiskD} (h : d.fitK k) : d.fit := ⟨by have := h.1; omega, by have := h.2; omega⟩
theorem DiskD.fitK.less {k : Nat} {d : DiskD} (h : d.fitK (k + 1)) : d.fitK k := ⟨by have := h.1; omega, by have := h.2; omega⟩
theorem Jw {k : Nat} {d : DiskD} {o : OpD} (h : d.fitK (k + 1)) (ho : o.size ≤ 65536) : (Cn d o).fitK k := by
  obtain ⟨h1, h2⟩ := h
  refine ⟨?_, ?_⟩
  · show AE d.syn + ((d.wait ++ [o]).map OpD.size).sum + _ ≤ _
    rw [List.map_append, List.sum_append]
    simp only [List.map_cons, List.map_nil, List.sum_cons, List.sum_nil]
    omega
  · show (d.wait ++ [o]).length + k ≤ _
    rw [List.length_append]; simp only [List.length_cons, List.length_nil]; omega
theorem Id {k : Nat} {d : DiskD} (h : d.fitK k) : (Ba d).1.fitK k := by
  unfold Ba
  split
  · exact h
  · exact h
theorem GM {k : Nat} {d : DiskD} {n b : List UInt8} (h : d.fitK (k + 1)) (hb : b.length ≤ 65536) : (Cl d n b).1.fitK k := by
  have h1 := Id h
  unfold Cl
  cases e : Ba d with
  | mk d1 e1 =>
    rw [e] at h1
    simp only
    split
    · exact h1.less
    · split
      · exact h1.less
      · split
        · exact h1.less
        · exact Jw h1 hb
theorem S8 {k : Nat} {d : DiskD} {n : List UInt8} (h : d.fitK (k + 1)) : (Hq d n).1.fitK k := by
  have h1 := Id h
  unfold Hq
  cases e : Ba d with
  | mk d1 e1 =>
    rw [e] at h1
    simp only
    split
    · exact h1.less
    · split
      · exact h1.less
      · exact Jw h1 (Nat.zero_le _)
theorem S9 {k : Nat} {d : DiskD} {a b : List UInt8} (h : d.fitK (k + 1)) : (Ll d a b).1.fitK k := by
  have h1 := Id h
  unfold Ll
  cases e : Ba d with
  | mk d1 e1 =>
    rw [e] at h1
    simp only
    split
    · exact h1.less
    · split
      · exact h1.less
      · split
        · exact h1.less
        · exact Jw h1 (Nat.zero_le _)
theorem J8 {k : Nat} {d : DiskD} (h : d.fitK (k + 1)) : (Bb d).1.fitK k := by
  unfold Bb
  split
  · exact S8 h
  · exact h.less
structure HFile (f : FS) (V : HV → Prop) : Prop where
  nd : (AI f).Nodup
  ks : ∀ k, k ∈ AI f → k = hardN ∨ k = newN
  has : ∃ L junk, (∀ h, h ∈ L → Fz h) ∧ (AL f hardN).getD [] = K2 L ++ junk ∧ BV junk = none ∧ V (Bq L)
  lh : ((AL f hardN).getD []).length ≤ 400
  ln : ((AL f newN).getD []).length ≤ 100
theorem HFile.imp {f : FS} {V V' : HV → Prop} (h : HFile f V) (hv : ∀ x, V x → V' x) : HFile f V' := by
 obtain ⟨L, j, h1, h2, h3, h4⟩ := h.has
 exact ⟨h.nd, h.ks, ⟨L, j, h1, h2, h3, hv _ h4⟩, h.lh, h.ln⟩
theorem Ta {f : FS} {a b : List UInt8} (hn : (AI f).Nodup) (hk : ∀ k, k ∈ AI f → k = a ∨ k = b) : AE f ≤ ((AL f a).getD []).length + ((AL f b).getD []).length := by
  have step : ∀ (g : FS) (k : List UInt8), (AI g).Nodup → AE g = AE (BS g k) + ((AL g k).getD []).length := fun g k hg => by
    cases e : AL g k with
    | none => rw [KC e]; rfl
    | some x => exact (FF hg e).symm
  have h1 := step f a hn
  have h2 := step (BS f a) b (B9 hn)
  have h3 : BS (BS f a) b = [] := by
    cases e : BS (BS f a) b with
    | nil => rfl
    | cons p r =>
      have hp : p ∈ BS (BS f a) b := by rw [e]; simp
      obtain ⟨h4, h5⟩ := (Dh (B9 hn) p).1 hp
      obtain ⟨h6, h7⟩ := (Dh hn p).1 h4
      rcases hk p.1 (List.mem_map.2 ⟨p, h6, rfl⟩) with h | h
      · exact absurd h h7
      · exact absurd h h5
  have h4 : ((AL (BS f a) b).getD []).length ≤ ((AL f b).getD []).length := by
    rw [IB hn]
    split
    · simp
    · exact Nat.le_refl _
  rw [h3] at h2
  have h5 : AE ([] : FS) = 0 := rfl
  omega
theorem HFile.used {f : FS} {V : HV → Prop} (h : HFile f V) : AE f ≤ 500 := by
 have h1 := Ta h.nd h.ks
 have h2 := h.lh
 have h3 := h.ln
 omega
theorem Fu : hardN ≠ newN := by decide
theorem EF {d : DiskD} (h1 : d.down = false) (h2 : d.fuse = none) : Ba d = (d, 0) := by
 unfold Ba
 rw [if_neg (by simp [h1, h2]), h2]
 obtain ⟨a, b, c, e, f⟩ := d
 subst h2
 rfl
theorem Rt {room : Int} {f : FS} {V : HV → Prop} (h : HFile f V) : ∃ d' x, C5 ⟨room, f, [], none, false⟩ = (d', x, 0) ∧ V x := by
  obtain ⟨L, junk, hL, hc, hj, hV⟩ := h.has
  obtain ⟨d, hd⟩ : ∃ d : DiskD, d = ⟨room, f, [], none, false⟩ := ⟨_, rfl⟩
  have hnow : d.now = f := by rw [hd]; rfl
  have hup : d.down = false := by rw [hd]
  have hfz : d.fuse = none := by rw [hd]
  have key : ∃ d1, Bb d = (d1, 0) ∧ d1.down = false ∧ d1.fuse = none ∧ AL d1.now hardN = AL f hardN := by
    unfold Bb
    split
    · rename_i hs
      unfold BB at hs
      rw [hup, if_neg (by simp), hnow] at hs
      obtain ⟨x, hx⟩ := Option.isSome_iff_exists.1 hs
      refine ⟨Cn d (.del newN), ?_, hup, hfz, ?_⟩
      · unfold Hq
        rw [EF hup hfz]
        simp only
        rw [if_neg (by simp), hnow, hx]
      · rw [CJ, hnow]
        show AL (BS f newN) hardN = _
        rw [IB h.nd, if_neg Fu]
    · exact ⟨d, rfl, hup, hfz, by rw [hnow]⟩
  obtain ⟨d1, e1, u1, z1, g1⟩ := key
  have hr : (BB d1 hardN).getD [] = K2 L ++ junk := by
    unfold BB
    rw [u1, if_neg (by simp), g1, hc]
  rw [← hd]
  unfold C5
  rw [e1]
  simp only
  rw [if_neg (by simp), hr, Qj hL hj]
  simp only
  split
  · rename_i hlt
    have hgs : AL d1.now hardN = some (K2 L ++ junk) := by
      rw [g1]
      cases e : AL f hardN with
      | none =>
        rw [e] at hc
        simp only [Option.getD_none] at hc
        rw [← hc] at hlt
        simp at hlt
      | some x => rw [e] at hc; simp only [Option.getD_some] at hc; rw [hc]
    have hcut : IG d1 hardN (((K2 L).length : Nat) : Int) = (Cn d1 (.cut hardN (K2 L).length), 0) := by
      unfold IG
      rw [EF u1 z1]
      simp only
      rw [if_neg (by simp), hgs]
      simp only
      rw [if_neg (by omega)]
      simp
    rw [hcut]
    simp only
    rw [if_neg (by simp)]
    exact ⟨_, _, rfl, hV⟩
  · exact ⟨_, _, rfl, hV⟩
structure HS (d : DiskD) (L : List HV) : Prop where
  up : d.down = false
  fz : d.fuse = none
  rm : d.room = 1048576
  nd : (AI d.syn).Nodup
  ks : ∀ k, k ∈ AI d.now → k = hardN
  at_ : (AL d.now hardN).getD [] = K2 L
  ok : ∀ h, h ∈ L → Fz h
  le : (K2 L).length ≤ 300
theorem HS.nnd {d : DiskD} {L : List HV} (h : HS d L) : (AI d.now).Nodup := FE d.wait h.nd
theorem HS.none_ {d : DiskD} {L : List HV} (h : HS d L) : AL d.now newN = none := CF.2 fun hm => Fu (h.ks _ hm).symm
theorem HS.file {d : DiskD} {L : List HV} (h : HS d L) {V : HV → Prop} (hV : V (Bq L)) : HFile d.now V :=
 ⟨h.nnd, fun k hk => .inl (h.ks k hk), ⟨L, [], h.ok, by rw [h.at_]; simp, FL, hV⟩, by have := h.le; rw [h.at_]; omega, by rw [h.none_]; simp⟩
theorem HS.used {d : DiskD} {L : List HV} (h : HS d L) : AE d.now ≤ 500 := (h.file (V := fun _ => True) trivial).used
theorem HS.few {d : DiskD} {L : List HV} (h : HS d L) : d.now.length ≤ 1 := by
  have h1 := h.nnd
  have h2 := h.ks
  cases e : d.now with
  | nil => simp
  | cons p r =>
    cases r with
    | nil => simp
    | cons q r =>
      rw [e] at h1 h2
      have a1 := h2 p.1 (by simp [AI])
      have a2 := h2 q.1 (by simp [AI])
      simp only [AI, List.map_cons, List.nodup_cons, List.mem_cons] at h1
      exact absurd (.inl (a1.trans a2.symm)) h1.1
theorem GN {f : FS} {n x : List UInt8} (hf : (AI f).Nodup) {k : List UInt8} (h : k ∈ AI (Bz f n x)) : k = n ∨ k ∈ AI f := by
  obtain ⟨p, hp, rfl⟩ := List.mem_map.1 h
  rcases (EW hf p).1 hp with rfl | ⟨h1, _⟩
  · exact .inl rfl
  · exact .inr (List.mem_map.2 ⟨p, h1, rfl⟩)
theorem Tb {f : FS} {n : List UInt8} (hf : (AI f).Nodup) {k : List UInt8} (h : k ∈ AI (BS f n)) : k ∈ AI f ∧ k ≠ n := by
 obtain ⟨p, hp, rfl⟩ := List.mem_map.1 h
 obtain ⟨h1, h2⟩ := (Dh hf p).1 hp
 exact ⟨List.mem_map.2 ⟨p, h1, rfl⟩, h2⟩
def Tc (d : DiskD) (V : HV → Prop) (k : Nat) : Prop := HFile ((d.wait.take k).foldl AW d.syn) V ∧ ∀ n b, d.wait[k]? = some (.app n b) → ∀ t, t < b.length → HFile (AW ((d.wait.take k).foldl AW d.syn) (.app n (b.take t))) V
def CR (d : DiskD) (V : HV → Prop) : Prop := ∀ k, k ≤ d.wait.length → Tc d V k
theorem CR.imp {d : DiskD} {V V' : HV → Prop} (h : CR d V) (hv : ∀ x, V x → V' x) : CR d V' := fun k hk => ⟨(h k hk).1.imp hv, fun n b e t ht => ((h k hk).2 n b e t ht).imp hv⟩
theorem Tc.left {d : DiskD} {V : HV → Prop} {keep : Int} (h : Tc d V (DD d keep)) (torn : Int) : HFile (Do d keep torn) V := by
  obtain ⟨h1, h2⟩ := h
  unfold Do
  split
  · rename_i n b e
    split
    · exact h1
    · rename_i hn
      refine h2 n b e _ ?_
      have hb : b ≠ [] := fun e => hn (.inr e)
      have hpos : 0 < (b.length : Int) := by
        have : b.length ≠ 0 := fun e => hb (List.eq_nil_of_length_eq_zero e)
        omega
      have := Int.emod_lt_of_pos torn hpos
      have := Int.emod_nonneg torn (show (b.length : Int) ≠ 0 by omega)
      omega
  · exact h1
theorem Tc.crash {d : DiskD} {V : HV → Prop} {keep : Int} (h : Tc d V (DD d keep)) (torn : Int) : (DU d keep torn).fitK 9 ∧ ∃ d' x, C5 (DU d keep torn) = (d', x, 0) ∧ V x := by
  have h1 := h.left torn
  refine ⟨⟨?_, ?_⟩, Rt h1⟩
  · show AE (Do d keep torn) + (([] : List OpD).map OpD.size).sum + 65536 * 9 ≤ _
    have := h1.used
    simp only [List.map_nil, List.sum_nil]
    omega
  · show ([] : List OpD).length + 9 ≤ _
    simp
theorem CR.crash {d : DiskD} {V : HV → Prop} (h : CR d V) (keep torn : Int) : (DU d keep torn).fitK 9 ∧ ∃ d' x, C5 (DU d keep torn) = (d', x, 0) ∧ V x := (h (DD d keep) (KD d keep)).crash torn
theorem Tc.old {d : DiskD} {V : HV → Prop} {o : OpD} {k : Nat} (h : Tc d V k) (hlt : k < d.wait.length) : Tc (Cn d o) V k := by
 show HFile (((d.wait ++ [o]).take k).foldl AW d.syn) V ∧ ∀ n b, (d.wait ++ [o])[k]? = some (.app n b) → ∀ t, t < b.length → HFile (AW (((d.wait ++ [o]).take k).foldl AW d.syn) (.app n (b.take t))) V
 rw [List.take_append_of_le_length (by omega), List.getElem?_append_left hlt]
 exact h
theorem Pp {d : DiskD} {V : HV → Prop} {o : OpD} (h1 : HFile d.now V) (h2 : ∀ n b, o = .app n b → ∀ t, t < b.length → HFile (AW d.now (.app n (b.take t))) V) : Tc (Cn d o) V d.wait.length := by
 show HFile (((d.wait ++ [o]).take d.wait.length).foldl AW d.syn) V ∧ ∀ n b, (d.wait ++ [o])[d.wait.length]? = some (.app n b) → ∀ t, t < b.length → HFile (AW (((d.wait ++ [o]).take d.wait.length).foldl AW d.syn) (.app n (b.take t))) V
 rw [List.take_append_of_le_length (Nat.le_refl _), List.take_length]
 refine ⟨h1, fun n b e t ht => ?_⟩
 rw [List.getElem?_append_right (Nat.le_refl _), Nat.sub_self] at e
 obtain rfl := Option.some.inj e
 exact h2 n b rfl t ht
theorem CR.push {d : DiskD} {V : HV → Prop} {o : OpD} (h : CR d V) (h1 : HFile (AW d.now o) V) (h2 : ∀ n b, o = .app n b → ∀ t, t < b.length → HFile (AW d.now (.app n (b.take t))) V) : CR (Cn d o) V := by
  intro k hk
  change k ≤ (d.wait ++ [o]).length at hk
  rw [List.length_append] at hk
  simp only [List.length_cons, List.length_nil] at hk
  rcases Nat.lt_or_ge k d.wait.length with hlt | hge
  · exact (h k (by omega)).old hlt
  · rcases Nat.lt_or_ge d.wait.length k with hlt | hle
    · obtain rfl : k = d.wait.length + 1 := by omega
      show HFile (((d.wait ++ [o]).take (d.wait.length + 1)).foldl AW d.syn) V ∧ ∀ n b, (d.wait ++ [o])[d.wait.length + 1]? = some (.app n b) → ∀ t, t < b.length → HFile (AW (((d.wait ++ [o]).take (d.wait.length + 1)).foldl AW d.syn) (.app n (b.take t))) V
      rw [List.take_of_length_le (by simp), List.foldl_append]
      refine ⟨h1, fun n b e => ?_⟩
      rw [List.getElem?_eq_none (by simp)] at e
      cases e
    · obtain rfl : k = d.wait.length := by omega
      refine Pp ?_ h2
      have := (h d.wait.length (Nat.le_refl _)).1
      rwa [List.take_length] at this
theorem Vq {room : Int} (hr : room = 1048576) : HS (HU room) [] := ⟨rfl, rfl, hr, List.nodup_nil, fun k hk => (by cases hk), rfl, fun h hm => (by cases hm), by decide⟩
theorem Vr {room : Int} {V : HV → Prop} (hV : V (0, 0)) : CR (HU room) V := fun k hk => by
 obtain rfl : k = 0 := Nat.le_zero.1 hk
 exact ⟨⟨List.nodup_nil, fun k hk => (by cases hk), ⟨[], [], fun h hm => (by cases hm), rfl, FL, hV⟩, Nat.zero_le _, Nat.zero_le _⟩, fun n b e => (by cases e)⟩
theorem Qk {d : DiskD} {L : List HV} (h : HS d L) {V : HV → Prop} (hV : V (Bq L)) : ∃ d', Ge d = (d', 0) ∧ HS d' L ∧ CR d' V ∧ d'.wait = [] := by
  refine ⟨{ d with syn := d.now, wait := [] }, ?_, ⟨h.up, h.fz, h.rm, h.nnd, h.ks, h.at_, h.ok, h.le⟩, fun k hk => ?_, rfl⟩
  · unfold Ge
    rw [EF h.up h.fz]
    simp only
    rw [if_neg (by simp)]
  · obtain rfl : k = 0 := Nat.le_zero.1 hk
    exact ⟨h.file hV, fun n b e => (by cases e)⟩
theorem Ur {d : DiskD} {L : List HV} (h : HS d L) : C5 d = (d, Bq L, 0) := by
 have hrm : Bb d = (d, 0) := by
  unfold Bb BB
  rw [if_neg]
  rw [h.up, if_neg (by simp), h.none_]
  simp
 have hr : (BB d hardN).getD [] = K2 L := by
  unfold BB
  rw [h.up, if_neg (by simp), h.at_]
 have hl := Qj h.ok FL
 rw [List.append_nil] at hl
 unfold C5
 rw [hrm]
 simp only
 rw [if_neg (by simp), hr, hl, if_neg (by simp)]
theorem LQ : CA hardN = true := by decide
theorem Td : CA newN = true := by decide
theorem Ql {d : DiskD} {n b : List UInt8} (hr : d.room = 1048576) (hu : AE d.now ≤ 600) (hl : d.now.length ≤ 2) (hb : b.length ≤ 17) : EC d n b = true := by
 unfold EC
 rw [Bool.and_eq_true, decide_eq_true_eq]
 refine ⟨by rw [hr]; omega, ?_⟩
 rw [Bool.not_eq_true', Bool.and_eq_false_iff]
 right
 rw [decide_eq_false_iff_not]
 omega
theorem LR {d : DiskD} {n b : List UInt8} (h1 : d.down = false) (h2 : d.fuse = none) (hn : CA n = true) (hf : EC d n b = true) : Cl d n b = (Cn d (.app n b), 0) := by
 unfold Cl
 rw [EF h1 h2]
 simp only
 rw [if_neg (by simp), hn, if_neg (by simp), hf, if_neg (by simp)]
theorem HS.save {d : DiskD} {L : List HV} {V : HV → Prop} (hs : HS d L) (hc : CR d V) (hL : V (Bq L)) {x : HV} (hx : Fz x) (hV : V x) : ∃ d' L', Fg d x = (d', 0) ∧ HS d' L' ∧ CR d' V ∧ Bq L' = x ∧ d'.wait.length ≤ d.wait.length + 2 ∧ ∀ V0 : HV → Prop, V0 (Bq L) → Tc d' V0 d.wait.length := by
  have hf := MH hx
  have hr : (BB d hardN).getD [] = K2 L := by
    unfold BB
    rw [hs.up, if_neg (by simp), hs.at_]
  have hfew := hs.few
  have hused := hs.used
  unfold Fg
  rw [hr]
  split
  · rename_i hlt
    rw [LR hs.up hs.fz LQ (Ql hs.rm (by omega) (by omega) hf)]
    have happ : ∀ b, AW d.now (.app hardN b) = Bz d.now hardN (K2 L ++ b) := fun b => by
      show Bz d.now hardN ((AL d.now hardN).getD [] ++ b) = _
      rw [hs.at_]
    have hput : ∀ (V : HV → Prop) b, b.length ≤ 17 → ∀ L1 j, (∀ h, h ∈ L1 → Fz h) → K2 L ++ b = K2 L1 ++ j → BV j = none → V (Bq L1) → HFile (AW d.now (.app hardN b)) V := fun V b hb L1 j h1 h2 h3 h4 => by
      rw [happ]
      refine ⟨Cf hs.nnd, fun k hk => ?_, ⟨L1, j, h1, ?_, h3, h4⟩, ?_, ?_⟩
      · rcases GN hs.nnd hk with h | h
        · exact .inl h
        · exact .inl (hs.ks k h)
      · rw [DM hs.nnd, if_pos rfl]; exact h2
      · rw [DM hs.nnd, if_pos rfl]
        simp only [Option.getD_some, List.length_append]
        omega
      · rw [DM hs.nnd, if_neg (fun e => Fu e.symm), hs.none_]
        simp
    have hok : ∀ h, h ∈ L ++ [x] → Fz h := fun h hm => by
      rcases List.mem_append.1 hm with h1 | h1
      · exact hs.ok h h1
      · rw [List.mem_singleton.1 h1]; exact hx
    refine ⟨_, L ++ [x], rfl, ⟨hs.up, hs.fz, hs.rm, hs.nd, fun k hk => ?_, ?_, hok, ?_⟩, hc.push ?_ ?_, Ia _ _, ?_, fun V0 h0 => Pp (hs.file h0) ?_⟩
    · rw [CJ, happ] at hk
      rcases GN hs.nnd hk with h | h
      · exact h
      · exact hs.ks k h
    · rw [CJ, happ, DM hs.nnd, if_pos rfl, K3]; rfl
    · rw [K3, List.length_append]; omega
    · exact hput V _ hf (L ++ [x]) [] hok (by rw [K3]; simp) FL (by rw [Ia]; exact hV)
    · rintro n b e t ht
      cases e
      exact hput V _ (by rw [List.length_take]; omega) L _ hs.ok rfl (S7 hx ht) hL
    · show (d.wait ++ [_]).length ≤ _
      simp
    · rintro n b e t ht
      cases e
      exact hput V0 _ (by rw [List.length_take]; omega) L _ hs.ok rfl (S7 hx ht) h0
  · rename_i hge
    have hrm : Bb d = (d, 0) := by
      unfold Bb BB
      rw [if_neg]
      rw [hs.up, if_neg (by simp), hs.none_]
      simp
    unfold Hi
    rw [hrm]
    simp only
    rw [if_neg (by simp), LR hs.up hs.fz Td (Ql hs.rm (by omega) (by omega) hf)]
    simp only
    rw [if_neg (by simp)]
    obtain ⟨d1, hd1⟩ : ∃ d1, Cn d (.app newN (Be (layH x))) = d1 := ⟨_, rfl⟩
    have happ : ∀ b, AW d.now (.app newN b) = Bz d.now newN b := fun b => by
      show Bz d.now newN ((AL d.now newN).getD [] ++ b) = _
      rw [hs.none_]; rfl
    have hn1 : d1.now = Bz d.now newN (Be (layH x)) := by rw [← hd1, CJ, happ]
    have hg1 : AL d1.now newN = some (Be (layH x)) := by rw [hn1, DM hs.nnd, if_pos rfl]
    have hu1 : d1.down = false := by rw [← hd1]; exact hs.up
    have hz1 : d1.fuse = none := by rw [← hd1]; exact hs.fz
    have hnd1 : (AI d1.now).Nodup := by rw [hn1]; exact Cf hs.nnd
    have hren : Ll d1 newN hardN = (Cn d1 (.ren newN hardN), 0) := by
      unfold Ll
      rw [EF hu1 hz1]
      simp only
      rw [if_neg (by simp), LQ, if_neg (by simp), hg1]
    have hdone : AW d1.now (.ren newN hardN) = Bz (BS d1.now newN) hardN (Be (layH x)) := by
      show (match AL d1.now newN with | some y => Bz (BS d1.now newN) hardN y | none => d1.now) = _
      rw [hg1]
    have hfile : ∀ (V : HV → Prop), V (Bq L) → ∀ b, b.length ≤ 17 → HFile (AW d.now (.app newN b)) V := fun V hL b hb => by
      rw [happ]
      refine ⟨Cf hs.nnd, fun k hk => ?_, ⟨L, [], hs.ok, ?_, FL, hL⟩, ?_, ?_⟩
      · rcases GN hs.nnd hk with h | h
        · exact .inr h
        · exact .inl (hs.ks k h)
      · rw [DM hs.nnd, if_neg Fu, hs.at_]; simp
      · rw [DM hs.nnd, if_neg Fu, hs.at_]; have := hs.le; omega
      · rw [DM hs.nnd, if_pos rfl]
        simp only [Option.getD_some]
        omega
    have hfr : K2 [x] = Be (layH x) := by simp [K2, DA]
    have hkeys : ∀ k, k ∈ AI (AW d1.now (.ren newN hardN)) → k = hardN := fun k hk => by
      rw [hdone] at hk
      rcases GN (B9 hnd1) hk with h | h
      · exact h
      · obtain ⟨h1, h2⟩ := Tb hnd1 h
        rw [hn1] at h1
        rcases GN hs.nnd h1 with h3 | h3
        · exact absurd h3 h2
        · exact hs.ks k h3
    have hget : AL (AW d1.now (.ren newN hardN)) hardN = some (Be (layH x)) := by rw [hdone, DM (B9 hnd1), if_pos rfl]
    have hgn : AL (AW d1.now (.ren newN hardN)) newN = none := CF.2 fun hm => Fu (hkeys _ hm).symm
    have hndd : (AI (AW d1.now (.ren newN hardN))).Nodup := by rw [hdone]; exact Cf (B9 hnd1)
    have hok : ∀ h, h ∈ [x] → Fz h := fun h hm => by rw [List.mem_singleton.1 hm]; exact hx
    have hc1 : CR d1 V := by
      rw [← hd1]
      refine hc.push (hfile V hL _ hf) ?_
      rintro n b e t ht
      cases e
      exact hfile V hL _ (by rw [List.length_take]; omega)
    rw [hd1, hren]
    refine ⟨_, [x], rfl, ⟨hu1, hz1, by rw [← hd1]; exact hs.rm, by rw [← hd1]; exact hs.nd, ?_, ?_, hok, ?_⟩, hc1.push ?_ ?_, rfl, ?_, fun V0 h0 => ?_⟩
    · rw [CJ]; exact hkeys
    · rw [CJ, hget, hfr]; rfl
    · rw [hfr]; omega
    · exact ⟨hndd, fun k hk => .inl (hkeys k hk), ⟨[x], [], hok, by rw [hget, hfr]; simp, FL, hV⟩, by rw [hget]; simp only [Option.getD_some]; omega, by rw [hgn]; simp⟩
    · rintro n b e
      cases e
    · rw [← hd1]
      show ((d.wait ++ [_]) ++ [_]).length ≤ _
      simp
    · have h9 : Tc d1 V0 d.wait.length := by
        rw [← hd1]
        refine Pp (hs.file h0) ?_
        rintro n b e t ht
        cases e
        exact hfile V0 h0 _ (by rw [List.length_take]; omega)
      refine h9.old ?_
      rw [← hd1]
      show _ < (d.wait ++ [_]).length
      simp
end Go.Proofs.YtnknboibmifacaaGreat.Sep
namespace Go.Proofs.YtnknboibmifacaaGreat.Sep
open Go.RowKit
open Go.Proofs.YtnknboibmifacaaGreat.Mem (Bd Cj Chg AF)
theorem Ck : DI Tryz.prog 57 := Fl Tryz.underlying57 rfl (by kernel_rfl)
theorem An : If Tryz.prog 31 2 := MQ Tryz.underlying31 rfl (by kernel_rfl)
theorem Bk : L9 Tryz.prog 31 #[.int .u64 0, .int .i64 0] := Ig (z := .agg #[.int .u64 0, .int .i64 0]) (by kernel_rfl) rfl
theorem Dq : AZ Tryz.prog 33 0 0 := fun g off w => by kernel_rfl
theorem Dr : AZ Tryz.prog 33 1 1 := fun g off w => by kernel_rfl
theorem Ds : AZ Tryz.prog 59 0 0 := fun g off w => by kernel_rfl
theorem Dt : AZ Tryz.prog 33 2 2 := fun g off w => by kernel_rfl
theorem Du : AZ Tryz.prog 59 3 3 := fun g off w => by kernel_rfl
theorem Dv : AZ Tryz.prog 59 6 6 := fun g off w => by kernel_rfl
theorem Ew : AZ Tryz.prog 31 0 0 := fun g off w => by kernel_rfl
theorem Ex : AZ Tryz.prog 31 1 1 := fun g off w => by kernel_rfl
theorem Db : AZ Tryz.prog 35 2 3 := fun g off w => by kernel_rfl
theorem Dc : AZ Tryz.prog 35 1 1 := fun g off w => by kernel_rfl
theorem Dd : AZ Tryz.prog 35 3 4 := fun g off w => by kernel_rfl
theorem De : AZ Tryz.prog 35 0 0 := fun g off w => by kernel_rfl
theorem GO : SliceT Tryz.prog 49 31 2 := DY (z := .agg #[.int .u64 0, .int .i64 0]) Tryz.underlying49 (by kernel_rfl) rfl rfl (by decide)
def flU : List ((Nat × Nat) × Nat) := [((33, 0), 0), ((33, 1), 1), ((59, 0), 0), ((33, 2), 2), ((59, 3), 3), ((59, 6), 6), ((31, 0), 0), ((31, 1), 1), ((35, 2), 3), ((35, 1), 1), ((35, 3), 4), ((35, 0), 0)] ++ flS
theorem Jx {P : Program} {b : List ((Nat × Nat) × Nat)} (hb : I2 P b) : ∀ {a : List ((Nat × Nat) × Nat)}, JU P a → I2 P (a ++ b)
  | [], _ => hb
  | ((s, f), k) :: r, ha => fun S g q h => by
    simp only [List.cons_append] at h
    unfold UY at h
    cases h1 : Nat.beq s S with
    | false => simp only [h1] at h; exact Jx hb ha.2 S g q h
    | true =>
      cases h2 : Nat.beq f g with
      | false => simp only [h1, h2] at h; exact Jx hb ha.2 S g q h
      | true =>
        simp only [h1, h2, Option.some.injEq] at h
        have e1 := Nat.eq_of_beq_eq_true h1
        have e2 := Nat.eq_of_beq_eq_true h2
        subst e1; subst e2; subst h
        exact ha.1
theorem Ak : I2 Tryz.prog flU := Jx As ⟨Dq, Dr, Ds, Dt, Du, Dv, Ew, Ex, Db, Dc, Dd, De, trivial⟩
end Go.Proofs.YtnknboibmifacaaGreat.Sep
namespace Go.Proofs.YtnknboibmifacaaGreat.Sep
open Go.RowKit
open Go.Proofs.YtnknboibmifacaaGreat.Mem (Bd Cj Chg AF)
theorem Vs (w : World) (t v : Int) (r : Bool) (hr : (decide (t ≤ 72057594037927935) && (decide (v ≥ 0) && decide (v ≤ 7))) = r) : Calls Tryz.prog 14 #[.agg #[.int .u64 t, .int .i64 v]] w fun e w' => e = .returned (.bool r) ∧ Below w.heap.size w w' := by
  refine In (args := [.agg #[.int .u64 t, .int .i64 v]]) 16 Tryz.func14 rfl rfl rfl ?_
  refine Ad ?_
  refine Af Ak rfl ?_
  refine Ai (post := fun g => [cell g 31 #[.int .u64 t, .int .i64 v]]) rfl (CZ (cs := #[.int .u64 t, .int .i64 v]) rfl rfl rfl) ?_; rintro g
  refine Af Ak rfl ?_
  refine Ab ?_
  rcases Classical.em (t ≤ 72057594037927935) with h1 | h1
  rcases Classical.em (v ≥ 0) with h2 | h2
  rcases Classical.em (v ≤ 7) with h3 | h3
  · skip
    obtain rfl : r = true := by rw [← hr]; simp [h1, h2, h3]
    refine Ad ?_
    refine Af Ak rfl ?_
    refine Ac rfl (.int .u64 t) (fun b w hb hH => Bg rfl rfl (Bt E1 rfl) (hH.row 0 rfl) hb) ?_
    refine Ac rfl (.bool true) (fun b w hb hH => Bh rfl rfl rfl (Ep h1) hb) ?_
    refine Af Ak rfl ?_
    refine Ac rfl (.int .i64 v) (fun b w hb hH => Bg rfl rfl (Bt Bj rfl) (hH.row 0 rfl) hb) ?_
    refine Ac rfl (.bool true) (fun b w hb hH => Bh rfl rfl rfl (Cs h2) hb) ?_
    refine Af Ak rfl ?_
    refine Ac rfl (.int .i64 v) (fun b w hb hH => Bg rfl rfl (Bt Bj rfl) (hH.row 0 rfl) hb) ?_
    refine Ac rfl (.bool true) (fun b w hb hH => Bh rfl rfl rfl (Ep h3) hb) ?_
    refine Af Ak rfl ?_
    refine Ab (Az ?_)
    exact Ay (.tmp rfl) (fun w h => ⟨rfl, AF h.up⟩) rfl
  · skip
    obtain rfl : r = false := by rw [← hr]; simp [h3]
    refine Ad ?_
    refine Af Ak rfl ?_
    refine Ac rfl (.int .u64 t) (fun b w hb hH => Bg rfl rfl (Bt E1 rfl) (hH.row 0 rfl) hb) ?_
    refine Ac rfl (.bool true) (fun b w hb hH => Bh rfl rfl rfl (Ep h1) hb) ?_
    refine Af Ak rfl ?_
    refine Ac rfl (.int .i64 v) (fun b w hb hH => Bg rfl rfl (Bt Bj rfl) (hH.row 0 rfl) hb) ?_
    refine Ac rfl (.bool true) (fun b w hb hH => Bh rfl rfl rfl (Cs h2) hb) ?_
    refine Af Ak rfl ?_
    refine Ac rfl (.int .i64 v) (fun b w hb hH => Bg rfl rfl (Bt Bj rfl) (hH.row 0 rfl) hb) ?_
    refine Ac rfl (.bool false) (fun b w hb hH => Bh rfl rfl rfl (G4 (by omega)) hb) ?_
    refine Af Ak rfl ?_
    refine Ab (Az ?_)
    exact Ay (.tmp rfl) (fun w h => ⟨rfl, AF h.up⟩) rfl
  · skip
    obtain rfl : r = false := by rw [← hr]; simp [h2]
    refine Ad ?_
    refine Af Ak rfl ?_
    refine Ac rfl (.int .u64 t) (fun b w hb hH => Bg rfl rfl (Bt E1 rfl) (hH.row 0 rfl) hb) ?_
    refine Ac rfl (.bool true) (fun b w hb hH => Bh rfl rfl rfl (Ep h1) hb) ?_
    refine Af Ak rfl ?_
    refine Ac rfl (.int .i64 v) (fun b w hb hH => Bg rfl rfl (Bt Bj rfl) (hH.row 0 rfl) hb) ?_
    refine Ac rfl (.bool false) (fun b w hb hH => Bh rfl rfl rfl (DX (by omega)) hb) ?_
    refine Af Ak rfl ?_
    refine Ab (Az ?_)
    exact Ay (.tmp rfl) (fun w h => ⟨rfl, AF h.up⟩) rfl
  · skip
    obtain rfl : r = false := by rw [← hr]; simp [h1]
    refine Ad ?_
    refine Af Ak rfl ?_
    refine Ac rfl (.int .u64 t) (fun b w hb hH => Bg rfl rfl (Bt E1 rfl) (hH.row 0 rfl) hb) ?_
    refine Ac rfl (.bool false) (fun b w hb hH => Bh rfl rfl rfl (G4 (by omega)) hb) ?_
    refine Af Ak rfl ?_
    refine Ab (Az ?_)
    exact Ay (.tmp rfl) (fun w h => ⟨rfl, AF h.up⟩) rfl
theorem Ru (w : World) {h : HV} (hk : Fz h) : Calls Tryz.prog 14 #[.agg #[.int .u64 ((h.1 : Nat) : Int), .int .i64 ((h.2 : Nat) : Int)]] w fun e w' => e = .returned (.bool true) ∧ Below w.heap.size w w' :=
 Vs w _ _ true (by have := hk.1; have := hk.2; simp; omega)
theorem Rv {h : HV} (hk : Fz h) : AS Tryz.prog 44 #[.agg #[.int .u64 ((h.1 : Nat) : Int), .int .i64 ((h.2 : Nat) : Int)]] [] (fun (v : Value) => v) (fun (v : Value) => [Ao 5 1 encB v (layH h)]) := by
 refine A6 (args := [.agg #[.int .u64 ((h.1 : Nat) : Int), .int .i64 ((h.2 : Nat) : Int)]]) 16 Tryz.func44 rfl rfl rfl ?_; intro w rs
 have hk1 := hk.1
 have hk2 := hk.2
 refine Ad ?_
 refine Af Ak rfl ?_
 refine Ai (post := fun g1 => [cell g1 31 #[.int .u64 ((h.1 : Nat) : Int), .int .i64 ((h.2 : Nat) : Int)]]) rfl (CZ (cs := #[.int .u64 ((h.1 : Nat) : Int), .int .i64 ((h.2 : Nat) : Int)]) rfl rfl rfl) ?_; rintro g1
 refine Af Ak rfl ?_
 refine Ab (Ad ?_)
 refine Af Ak rfl ?_
 refine Ai rfl (Am (os' := fun g => [PR g ([]), cell g1 31 #[.int .u64 ((h.1 : Nat) : Int), .int .i64 ((h.2 : Nat) : Int)]]) [] 0 (Ah Tryz.func75 (by kernel_rfl) rfl) (U4) rfl rfl rfl (fun _ => rfl) rfl rfl rfl) ?_; rintro g
 refine Af Ak rfl ?_
 refine Ab (Ad ?_)
 refine Af Ak rfl ?_
 refine Ac rfl (.int .u64 ((h.1 : Nat) : Int)) (fun b w hb hH => Bg rfl rfl (Bt E1 rfl) (hH.row 1 rfl) hb) ?_
 refine Ai rfl (Am (os' := fun _ => [PR g (Dy h.1), cell g1 31 #[.int .u64 ((h.1 : Nat) : Int), .int .i64 ((h.2 : Nat) : Int)]]) [0] 0 (Ah Tryz.func76 (by kernel_rfl) rfl) (U5 g [] ((h.1 : Nat) : Int) ⟨by omega, by omega⟩ (Dy h.1) (by rw [QN, Int.toNat_natCast]; rfl) (by simp)) rfl rfl rfl (fun _ => rfl) rfl rfl rfl) ?_; rintro ⟨⟩
 refine Ab (Ad ?_)
 refine Af Ak rfl ?_
 refine Ac rfl (.int .i64 ((h.2 : Nat) : Int)) (fun b w hb hH => Bg rfl rfl (Bt Bj rfl) (hH.row 1 rfl) hb) ?_
 refine Ac rfl (.int .u8 ((h.2 : Nat) : Int)) (fun b w hb hH => AO Tryz.underlying3 Tryz.underlying5 (IntWalk.u8_in _ (by omega)) rfl rfl hb) ?_
 refine Ai rfl (Am (os' := fun _ => [PR g (layH h), cell g1 31 #[.int .u64 ((h.1 : Nat) : Int), .int .i64 ((h.2 : Nat) : Int)]]) [0] 0 (Ah Tryz.func77 (by kernel_rfl) rfl) (T0 g (Dy h.1) ((h.2 : Nat) : Int) ⟨by omega, by omega⟩ (layH h) (by rw [Int.toNat_natCast]; rfl) (by have := DQ 7 h.1 (by omega); omega)) rfl rfl rfl (fun _ => rfl) rfl rfl rfl) ?_; rintro ⟨⟩
 refine Ab (Ad ?_)
 refine Af Ak rfl ?_
 refine Ai rfl (Am (os' := fun v => [Ao 5 1 encB v (layH h), PR g (layH h), cell g1 31 #[.int .u64 ((h.1 : Nat) : Int), .int .i64 ((h.2 : Nat) : Int)]]) [0] 0 (Ah Tryz.func78 (by kernel_rfl) rfl) (Sd g (layH h) (by have := GL hk; omega)) rfl rfl rfl (fun _ => rfl) rfl rfl rfl) ?_; rintro v
 refine Af Ak rfl ?_
 refine Ab (Az ?_)
 exact Ay (.tmp rfl) (fun w h => AB v rfl [0] rfl h Cz) rfl
theorem K4 (w : World) {v : Value} {l : List UInt8} (hv : EQ w v l) (hl : l.length ≤ 65536) {h : HV} (ho : EE l = some h) : Calls Tryz.prog 71 #[v] w fun e w' => e = .returned (.tuple #[.agg #[.int .u64 ((h.1 : Nat) : Int), .int .i64 ((h.2 : Nat) : Int)], .bool true]) ∧ Below w.heap.size w w' := by
 obtain ⟨⟨n1, l1, f1⟩, h1⟩ : ∃ R, B0 72057594037927935 l 0 = R := ⟨_, rfl⟩
 obtain ⟨x2, l2, f2, h2⟩ := PX 7 l1 f1
 obtain ⟨r3, h3⟩ : ∃ r, DT l2 f2 = r := ⟨_, rfl⟩
 rw [GK h1 h2, h3] at ho
 have hr3 : r3 = 0 := by by_cases e : r3 = 0; exact e; rw [if_neg e] at ho; cases ho
 rw [if_pos hr3] at ho
 have hx2 := x2.toNat_lt
 obtain rfl := Option.some.inj ho
 refine In (args := [v]) 21 Tryz.func71 rfl rfl rfl ?_
 refine Ad ?_
 refine Af Ak rfl ?_
 refine Ai (post := fun g2 => [cell g2 31 #[.int .u64 0, .int .i64 0]]) rfl (BL Bk rfl) ?_; rintro g2
 refine Af Ak rfl ?_
 refine Ab (Ad ?_)
 refine Af Ak rfl ?_
 refine Ai (post := fun g => [Gj g l 0, cell g2 31 #[.int .u64 0, .int .i64 0]]) rfl (Mk (Below.refl _ _) (fun _ h => h.elim) (os' := fun g => [Gj g l 0, cell g2 31 #[.int .u64 0, .int .i64 0]]) [] 0 (Ah Tryz.func86 (by kernel_rfl) rfl) (Sq w v l hv (by omega)) rfl rfl rfl (fun _ => rfl) rfl rfl rfl) ?_; rintro g
 refine Af Ak rfl ?_
 refine Ab (Ad ?_)
 refine Af Ak rfl ?_
 refine Ai rfl (Am (os' := fun _ => [Gj g l1 f1, cell g2 31 #[.int .u64 0, .int .i64 0]]) [0] 0 (Ah Tryz.func87 (by kernel_rfl) rfl) (Sr g l 0 72057594037927935 (by decide) (n1, l1, f1) h1) rfl rfl rfl (fun _ => rfl) rfl rfl rfl) ?_; rintro ⟨⟩
 refine Af Ak rfl ?_
 refine Ab (Ad ?_)
 refine Af Ak rfl ?_
 refine Ai rfl (Am (os' := fun _ => [Gj g l2 f2, cell g2 31 #[.int .u64 0, .int .i64 0]]) [0] 0 (Ah Tryz.func88 (by kernel_rfl) rfl) (PY g l1 f1 7 (by decide) (x2.toNat, l2, f2) h2) rfl rfl rfl (fun _ => rfl) rfl rfl rfl) ?_; rintro ⟨⟩
 refine Af Ak rfl ?_
 refine Ab (Aq (Ad ?_))
 refine Af Ak rfl ?_
 refine Ai rfl (Am (os' := fun _ => [Gj g l2 f2, cell g2 31 #[.int .u64 0, .int .i64 0]]) [0] 0 (Ah Tryz.func89 (by kernel_rfl) rfl) (Ss g l2 f2 r3 h3) rfl rfl rfl (fun _ => rfl) rfl rfl rfl) ?_; rintro ⟨⟩
 refine Ac rfl (.bool false) (fun b w hb hH => Bh rfl rfl rfl (AU (by omega)) hb) ?_
 refine Ab (Au rfl (Ax (AG (Ad ?_))))
 refine Af Ak rfl ?_
 refine Ac rfl (.int .i64 (x2.toNat : Int)) (fun b w hb hH => AO Tryz.underlying5 Tryz.underlying3 (IntWalk.i64_in _ (by omega)) rfl rfl hb) ?_
 refine Ac rfl (.agg #[.int .u64 ((n1 : Nat) : Int), .int .i64 (x2.toNat : Int)]) (fun b w hb hH => AV rfl rfl (by kernel_rfl) hb) ?_
 refine AT (post := fun _ => [Gj g l2 f2, cell g2 31 #[.int .u64 ((n1 : Nat) : Int), .int .i64 (x2.toNat : Int)]]) rfl rfl (AM 1 (v := .agg #[.int .u64 ((n1 : Nat) : Int), .int .i64 (x2.toNat : Int)]) #[.int .u64 ((n1 : Nat) : Int), .int .i64 (x2.toNat : Int)] An.2 rfl rfl rfl rfl rfl rfl rfl rfl rfl) ?_; rintro ⟨⟩
 refine Af Ak rfl ?_
 refine Ab (Az ?_)
 exact BX (.cell 1 (v := .agg #[.int .u64 ((n1 : Nat) : Int), .int .i64 (x2.toNat : Int)]) (EH (cs := [.int .u64 ((n1 : Nat) : Int), .int .i64 (x2.toNat : Int)]) An rfl) rfl rfl) (.tmp rfl) (fun w h => ⟨rfl, AF h.up⟩) rfl
theorem Pq (w : World) {v : Value} {l : List UInt8} (hv : EQ w v l) (hl : l.length ≤ 65536) (ho : EE l = none) : Calls Tryz.prog 71 #[v] w fun e w' => e = .returned (.tuple #[.agg #[.int .u64 0, .int .i64 0], .bool false]) ∧ Below w.heap.size w w' := by
 obtain ⟨⟨n1, l1, f1⟩, h1⟩ : ∃ R, B0 72057594037927935 l 0 = R := ⟨_, rfl⟩
 obtain ⟨x2, l2, f2, h2⟩ := PX 7 l1 f1
 obtain ⟨r3, h3⟩ : ∃ r, DT l2 f2 = r := ⟨_, rfl⟩
 rw [GK h1 h2, h3] at ho
 have hr3 : r3 ≠ 0 := fun e => by rw [if_pos e] at ho; cases ho
 refine In (args := [v]) 21 Tryz.func71 rfl rfl rfl ?_
 refine Ad ?_
 refine Af Ak rfl ?_
 refine Ai (post := fun g2 => [cell g2 31 #[.int .u64 0, .int .i64 0]]) rfl (BL Bk rfl) ?_; rintro g2
 refine Af Ak rfl ?_
 refine Ab (Ad ?_)
 refine Af Ak rfl ?_
 refine Ai (post := fun g => [Gj g l 0, cell g2 31 #[.int .u64 0, .int .i64 0]]) rfl (Mk (Below.refl _ _) (fun _ h => h.elim) (os' := fun g => [Gj g l 0, cell g2 31 #[.int .u64 0, .int .i64 0]]) [] 0 (Ah Tryz.func86 (by kernel_rfl) rfl) (Sq w v l hv (by omega)) rfl rfl rfl (fun _ => rfl) rfl rfl rfl) ?_; rintro g
 refine Af Ak rfl ?_
 refine Ab (Ad ?_)
 refine Af Ak rfl ?_
 refine Ai rfl (Am (os' := fun _ => [Gj g l1 f1, cell g2 31 #[.int .u64 0, .int .i64 0]]) [0] 0 (Ah Tryz.func87 (by kernel_rfl) rfl) (Sr g l 0 72057594037927935 (by decide) (n1, l1, f1) h1) rfl rfl rfl (fun _ => rfl) rfl rfl rfl) ?_; rintro ⟨⟩
 refine Af Ak rfl ?_
 refine Ab (Ad ?_)
 refine Af Ak rfl ?_
 refine Ai rfl (Am (os' := fun _ => [Gj g l2 f2, cell g2 31 #[.int .u64 0, .int .i64 0]]) [0] 0 (Ah Tryz.func88 (by kernel_rfl) rfl) (PY g l1 f1 7 (by decide) (x2.toNat, l2, f2) h2) rfl rfl rfl (fun _ => rfl) rfl rfl rfl) ?_; rintro ⟨⟩
 refine Af Ak rfl ?_
 refine Ab (Aq (Ad ?_))
 refine Af Ak rfl ?_
 refine Ai rfl (Am (os' := fun _ => [Gj g l2 f2, cell g2 31 #[.int .u64 0, .int .i64 0]]) [0] 0 (Ah Tryz.func89 (by kernel_rfl) rfl) (Ss g l2 f2 r3 h3) rfl rfl rfl (fun _ => rfl) rfl rfl rfl) ?_; rintro ⟨⟩
 refine Ac rfl (.bool true) (fun b w hb hH => Bh rfl rfl rfl (BY (by omega)) hb) ?_
 refine Ab (AD rfl (Ad ?_))
 refine Af Ak rfl ?_
 refine Ac rfl (.agg #[.int .u64 0, .int .i64 0]) (fun b w hb hH => AV rfl rfl (by kernel_rfl) hb) ?_
 refine AT (post := fun _ => [Gj g l2 f2, cell g2 31 #[.int .u64 0, .int .i64 0]]) rfl rfl (AM 1 (v := .agg #[.int .u64 0, .int .i64 0]) #[.int .u64 0, .int .i64 0] An.2 rfl rfl rfl rfl rfl rfl rfl rfl rfl) ?_; rintro ⟨⟩
 refine Af Ak rfl ?_
 refine Ab (Az (CO ?_))
 exact BX (.cell 1 (v := .agg #[.int .u64 0, .int .i64 0]) (EH (cs := [.int .u64 0, .int .i64 0]) An rfl) rfl rfl) (.tmp rfl) (fun w h => ⟨rfl, AF h.up⟩) rfl
theorem K5 {p : Nat} {d d1 : DiskD} {e : Nat} (hd : d.fit) (h : Bb d = (d1, e)) : AS Tryz.prog 31 #[.pointer (some ⟨p, 0, none⟩)] [Ap p d] (fun (_ : Unit) => .int .i64 (e : Int)) (fun (_ : Unit) => [Ap p d1]) := by
  refine A6 (args := [.pointer (some ⟨p, 0, none⟩)]) 14 Tryz.func31 rfl rfl rfl ?_; intro w rs
  obtain ⟨b, hb⟩ : ∃ b, (BB d newN).getD [] = b := ⟨_, rfl⟩
  refine Ad ?_
  refine Af Ak rfl ?_
  refine Ab (Aq ?_)
  rcases hok : (BB d newN).isSome with _ | _
  · skip
    obtain ⟨rfl, rfl⟩ : d = d1 ∧ 0 = e := by unfold Bb at h; rw [if_neg (by rw [hok]; simp)] at h; exact Prod.mk.inj h
    refine Ad ?_
    refine Af Ak rfl ?_
    refine Ai rfl (Am (os' := fun bv => [Ao 5 1 encB bv b, Ap p d]) [0] 0 (Ah Tryz.func32 (by kernel_rfl) rfl) (FJ (n := newN) hd hok hb) rfl rfl rfl (fun _ => rfl) rfl rfl rfl) ?_; rintro bv
    refine Af Ak rfl ?_
    refine Ab (Ad ?_)
    refine Af Ak rfl ?_
    refine Ab (AD rfl (Ad ?_))
    refine Af Ak rfl ?_
    refine Ab (Az (CO ?_))
    exact Ay (.tmp rfl) (fun w h => AB () rfl [1] rfl h Cz) rfl
  · skip
    have hdel : Hq d newN = (d1, e) := by unfold Bb at h; rwa [if_pos hok] at h
    refine Ad ?_
    refine Af Ak rfl ?_
    refine Ai rfl (Am (os' := fun bv => [Ao 5 1 encB bv b, Ap p d]) [0] 0 (Ah Tryz.func32 (by kernel_rfl) rfl) (FJ (n := newN) hd hok hb) rfl rfl rfl (fun _ => rfl) rfl rfl rfl) ?_; rintro bv
    refine Af Ak rfl ?_
    refine Ab (Ad ?_)
    refine Af Ak rfl ?_
    refine Ab (Au rfl (Ax (AG (Ad ?_))))
    refine Af Ak rfl ?_
    refine Ai rfl (Am (os' := fun _ => [Ao 5 1 encB bv b, Ap p d1]) [1] 0 (Ah Tryz.func69 (by kernel_rfl) rfl) (ND (n := newN) hd hdel) rfl rfl rfl (fun _ => rfl) rfl rfl rfl) ?_; rintro ⟨⟩
    refine Af Ak rfl ?_
    refine Ab (Az ?_)
    exact Ay (.tmp rfl) (fun w h => AB () rfl [1] rfl h Cz) rfl
end Go.Proofs.YtnknboibmifacaaGreat.Sep
namespace Go.Proofs.YtnknboibmifacaaGreat.Sep
open Go.RowKit
open Go.Proofs.YtnknboibmifacaaGreat.Mem (Bd Cj Chg AF)
section
variable {P : Program} {ops : Array Oper} {Q : Exit → Act → World → Prop} {n d D : Nat} {env : List (Nat × Value)} {B : Nat → Prop} {w0 w : World} {os : List Ass} {o : Oper} {a : Act} {rest : List Oper}
theorem GP (a : Act) (d : Option Nat) (v : Value) : { ({ a with defers := [] } : Act).put d v with defers := a.defers } = a.put d v := by cases d <;> rfl
theorem Us {rs : List RowT} (h : Mem.Hp B w0 w rs) : Mem.Hp (Cj rs) w w rs := ⟨Mod.refl _ _, h.rows, h.apart, fun x hx _ => ⟨x, hx, rfl⟩⟩
theorem Vt {X : Type} {val : X → Value} {post : X → List Ass} (ha : ∀ (B : Nat → Prop) (w0 : World), Br P (fun _ _ _ => False) n env B w0 os o val post) (hD : w.heap[D]? = some (.deferred (some []))) (hF : Fr n { a with defers := [] } env) (hH : Hp B w0 w os) {K : Act → World → Prop} (hK : ∀ x w', w'.heap[D]? = some (.deferred (some [])) → Hp B w0 w' (post x) → K (a.put o.dst (val x)) w') : o.wp P a w K Q := by
  obtain ⟨rs, h1, h2⟩ := hH
  have h3 := ha (Cj rs) w { a with defers := [] } w ⟨rs, h1, Us h2⟩ hF (fun b w' => b.defers = [] ∧ K { b with defers := a.defers } w') (fun x w' ⟨ys, p1, p2⟩ => ⟨F7 _ _ _, by
    rw [GP]
    refine hK x w' ((p2.up.block D (Array.getElem?_eq_some_iff.1 hD).1 ?_).trans hD) ⟨ys, p1, ?_⟩
    · rintro ⟨z, hz, e⟩
      exact GI hD z e (h2.rows.mem z hz)
    · have h4 := EK (a := rs) (b := []) (by rw [List.append_nil]; exact h2) (NQ p2)
      rwa [List.append_nil] at h4⟩)
  unfold Oper.wp at h3 ⊢
  rw [Qg a]
  generalize (execOp ({ a with defers := [] } : Act).eval o).run P w = r at h3 ⊢
  cases r with
  | ok nx w' =>
    cases nx with
    | value v => have h4 := h3.2; rw [GP] at h4; exact h4
    | skip => have h4 := h3.2; rw [GP] at h4; exact h4
    | defer d => have h4 := h3.1; rw [F7] at h4; cases h4
    | enter f args =>
      refine Calls.mono h3 ?_
      rintro (v | c | _) w'' h
      · have h4 := h.2; rw [GP] at h4; exact h4
      · exact h.elim
      · obtain ⟨_, _, h⟩ := h; exact h.elim
    | row r args =>
      intro c cs
      obtain ⟨v, w'', h5, h6⟩ := h3 c cs
      have h4 := h5.2
      rw [GP] at h4
      exact ⟨v, w'', h4, h6⟩
    | _ => exact h3.elim
  | halt e w' =>
    cases e with
    | panic v => exact h3.elim
    | _ => exact h3.elim
theorem V1 {x y : Code} (h : Pm D P (Exit.then (fun a w => y.wp P Q a w) Q) n env B w0 os x) : Pm D P Q n env B w0 os (.seq x y) := fun a w hD h0 hd hF hH => wp_seq (h a w hD h0 hd hF hH)
theorem NT {y : Code} (h : Pm D P Q n env B w0 os y) (a : Act) (w : World) (hD : w.heap[D]? = some (.deferred (some []))) (h0 : w0.heap.size ≤ D) (hd : a.defers = [GJ D]) (hF : Fr n { a with defers := [] } env) (hH : Hp B w0 w os) : Exit.then (fun a w => y.wp P Q a w) Q .normal a w := h a w hD h0 hd hF hH
def UM (D : Nat) (P : Program) (ops : Array Oper) (Q : Exit → Act → World → Prop) (n : Nat) (env : List (Nat × Value)) (B : Nat → Prop) (w0 : World) (os : List Ass) (f : Nat) (listed : Array Bool) : Prop := ∀ a w, w.heap[D]? = some (.deferred (some [])) → w0.heap.size ≤ D → a.defers = [GJ D] → Fr n { a with defers := [] } env → Hp B w0 w os → wpAny P .any ops Q f listed a w
def VG (D : Nat) (P : Program) (ops : Array Oper) (Q : Exit → Act → World → Prop) (n : Nat) (env : List (Nat × Value)) (B : Nat → Prop) (w0 : World) (os : List Ass) (f : Nat) (listed : Array Bool) (i : Nat) : Prop := ∀ a w, w.heap[D]? = some (.deferred (some [])) → w0.heap.size ≤ D → a.defers = [GJ D] → Fr n { a with defers := [] } env → Hp B w0 w os → wpOp P ops Q i (wpAny P .any ops Q f (listed.setIfInBounds i true)) a w
variable {f i : Nat} {listed : Array Bool}
theorem NU (l : List Nat) (hr : Region.ready .any ops listed = l) (hne : l ≠ []) (h : ∀ i ∈ l, VG D P ops Q n env B w0 os f listed i) : UM D P ops Q n env B w0 os (f + 1) listed := fun a w hD h0 hd hF hH => ⟨fun h1 => absurd (hr ▸ h1) hne, fun i hi => h i (hr ▸ hi) a w hD h0 hd hF hH⟩
theorem DG (ho : ops[i]? = some o) (h1 : UE ops n o env = some d) (v : Value) (hrun : ∀ b w, Fr n b env → Hp B w0 w os → (execOp b.eval o).run P w = .ok (.value v) w) (h : UM D P ops Q n ((d, v) :: env) B w0 os f (listed.setIfInBounds i true)) : VG D P ops Q n env B w0 os f listed i := fun a w hD h0 hd hF hH => by
 unfold wpOp
 simp only [ho]
 have hw : Region.wanted o (yielded ops a.tmps) = true := hF.wants (B1 h1).1
 rw [if_pos hw]
 refine .inl ?_
 unfold Oper.wp
 rw [Qg, hrun _ w hF hH, Oper.upon_value]
 refine h _ _ hD h0 ((F7 _ _ _).trans hd) ?_ hH
 rw [S4, (B1 h1).2.1]
 exact hF.put (B1 h1).2.2 _
theorem Hj {X : Type} {val : X → Value} {post : X → List Ass} (ho : ops[i]? = some o) (hg : wants ops o env = some true) (hdn : o.dst = none) (ha : ∀ (B : Nat → Prop) (w0 : World), Br P (fun _ _ _ => False) n env B w0 os o val post) (h : ∀ x, UM D P ops Q n env B w0 (post x) f (listed.setIfInBounds i true)) : VG D P ops Q n env B w0 os f listed i := fun a w hD h0 hd hF hH => by
 unfold wpOp
 simp only [ho]
 have hw : Region.wanted o (yielded ops a.tmps) = true := hF.wants hg
 rw [if_pos hw]
 refine .inl (Vt ha hD hF hH fun x w' hD' hH' => h x _ _ hD' h0 ((F7 _ _ _).trans hd) ?_ hH')
 rw [S4, hdn]
 exact hF
theorem Hk (hr : Region.ready .any ops listed = []) (h : ∀ a w, w.heap[D]? = some (.deferred (some [])) → w0.heap.size ≤ D → a.defers = [GJ D] → Fr n { a with defers := [] } env → Hp B w0 w os → Q .normal a w) : UM D P ops Q n env B w0 os f listed := fun a w hD h0 hd hF hH => by
  cases f with
  | zero => exact ⟨hr, h a w hD h0 hd hF hH⟩
  | succ f => exact ⟨fun _ => h a w hD h0 hd hF hH, fun i hi => (by rw [hr] at hi; cases hi)⟩
theorem Eg (i : Nat) (hr : Region.ready .any ops listed = [i]) (h : VG D P ops Q n env B w0 os f listed i) : UM D P ops Q n env B w0 os (f + 1) listed := NU [i] hr (by simp) (fun j hj => by
 have : j = i := by simpa using hj
 subst this
 exact h)
theorem MI (i j : Nat) (hr : Region.ready .any ops listed = [i, j]) (h : VG D P ops Q n env B w0 os f listed i) (h' : VG D P ops Q n env B w0 os f listed j) : UM D P ops Q n env B w0 os (f + 1) listed := NU [i, j] hr (by simp) (fun k hk => by
  have : k = i ∨ k = j := by simpa using hk
  rcases this with rfl | rfl
  · exact h
  · exact h')
theorem V2 {id : Nat} (hmix : P.follows .mixedOrders = true) (h : UM D P ops Q n env B w0 os ops.size (Array.replicate ops.size false)) : Pm D P Q n env B w0 os (.region id ops true) := fun a w hD h0 hd hF hH => wp_region_any hmix (h a w.drew hD h0 hd hF hH.drew)
theorem Te {id : Nat} {y : Code} (hmix : P.follows .mixedOrders = true) (h : UM D P ops (Exit.then (fun a w => y.wp P Q a w) Q) n env B w0 os ops.size (Array.replicate ops.size false)) : Pm D P Q n env B w0 os (.seq (.region id ops true) y) := V1 (V2 hmix h)
theorem Tf {id : Nat} {K : Exit → Act → World → Prop} {a : Act} {w : World} (h : K .normal a w) : Exit.inBlock id K (.exit id) a w := by
 show (if id = id then _ else _)
 rw [if_pos rfl]
 exact h
end
end Go.Proofs.YtnknboibmifacaaGreat.Sep
