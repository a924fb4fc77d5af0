/-
  SgE · SgG
-/
import Derived.Test.YtjcfimmcogkopaaGreatDoorWX01
import Derived.Test.YtjcfimmcogkopaaGreatDoorWN02
set_option linter.unusedSimpArgs false
set_option linter.unusedVariables false
set_option maxHeartbeats 4000000
namespace Go.Proofs.YtjcfimmcogkopaaGreatDoor.Sep
variable {e : EntD} {j lim : Nat} {l : List EntV} {z : EntV} {α : Type}
open Go.RowKit
open Go.Proofs.YtjcfimmcogkopaaGreatDoor.Mem (AG BC Chg Ak)
def HI (l : List (Int × Nat)) : Nat := (l.getLast?.map (·.2)).getD 0
def EV (e : EntD) : List UInt8 := B5 (BR e)
theorem GE (h : Be e = true) : (EV e).length = 8 + (BR e).length := Gb (by have := Dq h; omega)
abbrev LogS := SegsM × DiskD
def I3 (s : LogS) (e : EntD) : LogS := (s.1 ++ [(e.i.toNat, [(e.t, (EV e).length)])], (BU s.2 (nameL e.i.toNat) (EV e)).1)
def Kw (lim : Nat) (s : LogS) (e : EntD) : LogS :=
  match s.1.getLast? with
  | none => I3 s e
  | some q => if lim < HI q.2 + (EV e).length then I3 s e else (s.1.dropLast ++ [(q.1, q.2 ++ [(e.t, HI q.2 + (EV e).length)])], (BU s.2 (nameL q.1) (EV e)).1)
def Va (q : Nat × List (Int × Nat)) : Prop := q.1 ≤ 72057594037927935 ∧ q.2 ≠ [] ∧ q.2.length ≤ 999999 ∧ HI q.2 ≤ 137438953472
def Pq (lim : Nat) (s : LogS) (e : EntD) : Prop :=
  Be e = true ∧ s.2.fit ∧ s.1.length ≤ 999999 ∧ match s.1.getLast? with
  | none => (BU s.2 (nameL e.i.toNat) (EV e)).2 = 0
  | some q => Va q ∧ (if lim < HI q.2 + (EV e).length then (BU s.2 (nameL e.i.toNat) (EV e)).2 = 0 else (BU s.2 (nameL q.1) (EV e)).2 = 0)
theorem Mq {l : List α} {a : α} (h : l.getLast? = some a) : l = l.dropLast ++ [a] := by
 rw [List.getLast?_eq_some_iff] at h
 obtain ⟨r, rfl⟩ := h
 simp
theorem RV {l : List (Int × Nat)} (h : l ≠ []) : ∃ m, l[l.length - 1]? = some m ∧ m.2 = HI l ∧ (l.getLast?.map (·.1)).getD 0 = m.1 := by
  cases hl : l.getLast? with
  | none => exact absurd (List.getLast?_eq_none_iff.1 hl) h
  | some m => exact ⟨m, by rw [← List.getLast?_eq_getElem?]; exact hl, by unfold HI; rw [hl]; rfl, rfl⟩
theorem N4 {p : α × Nat} (h : p.2 = 0) : p = (p.1, 0) := by rw [← h]
theorem WD {X : Ass} {p dk : Nat} {s : LogS} {A : Option Addr} {c : Nat} (hX : El X (.slice A e.d.length c) e.d) (tb : Tb) (hli : lim ≤ 1000000000) (h : Pq lim s e) : AA Tryz.prog 69 #[.pointer (some ⟨p, 0, none⟩), .agg #[.int .i64 e.k, .int .u64 e.t, .int .u64 e.i, .slice A e.d.length c, .int .i64 e.c]] [Ao p dk lim s.1, Ab dk s.2, Aj tb, X] (fun (_ : Unit) => .int .i64 0) (fun (_ : Unit) => [Ao p dk lim (Kw lim s e).1, Ab dk (Kw lim s e).2, Aj tb, X]) := by
  obtain ⟨hr, hd, hsl, h4⟩ := h
  obtain ⟨ss, d⟩ := s
  obtain ⟨_, hi, _⟩ := EB hr
  have hle := Dq hr
  have hfl := GE hr
  have hei : e.i = (e.i.toNat : Int) := by omega
  have hf : e.i.toNat ≤ 72057594037927935 := by omega
  simp only at h4 hsl hd ⊢
  unfold Kw
  simp only
  cases hg : ss.getLast? with
  | none =>
    rw [hg] at h4
    simp only at h4 ⊢
    have h0 := List.getLast?_eq_none_iff.1 hg
    subst h0
    exact Tf (y := EV e) hX hr hei hf (by omega) rfl (by omega) tb hd (N4 h4)
  | some q =>
    rw [hg] at h4
    simp only at h4 ⊢
    obtain ⟨⟨q1, q2, q3, q4⟩, h5⟩ := h4
    obtain ⟨m, hm1, hm2, _⟩ := RV q2
    have hss := Mq hg
    have hdl : ss.dropLast.length ≤ 999998 := by rw [List.length_dropLast]; omega
    by_cases hb : lim < HI q.2 + (EV e).length
    · rw [if_pos hb] at h5 ⊢
      have h6 := Wz (y := EV e) (p := p) (dk := dk) (lim := lim) (ss := ss.dropLast) (f0 := q.1) (l := q.2) hX hr hei (by omega) q3 q1 q2 hm1 (by omega) hf (by omega) rfl (by omega) tb hd (N4 h5) (by rw [hm2]; exact hb)
      rw [show ss.dropLast ++ [(q.1, q.2)] = ss from hss.symm] at h6
      exact h6
    · rw [if_neg hb] at h5 ⊢
      have h6 := WB (y := EV e) (p := p) (dk := dk) (lim := lim) (ss := ss.dropLast) (f0 := q.1) (l := q.2) hX hr (by omega) q3 q1 q2 hm1 (by omega) (by omega) rfl (by omega) tb hd (N4 h5) (by rw [hm2]; exact Nat.le_of_not_lt hb) hli
      rw [show ss.dropLast ++ [(q.1, q.2)] = ss from hss.symm, hm2] at h6
      exact h6
def GW (ss : SegsM) : Int × Int := match ss.getLast? with | none => (0, 0) | some q => ((q.2.getLast?.map (·.1)).getD 0, ((q.1 + q.2.length - 1 : Nat) : Int))
def RW (ss : SegsM) : Prop := ss.length ≤ 1000000 ∧ match ss.getLast? with | none => True | some q => Va q
theorem WF {p dk : Nat} {ss : SegsM} (h : RW ss) : AA Tryz.prog 66 #[.pointer (some ⟨p, 0, none⟩)] [Ao p dk lim ss] (fun (_ : Unit) => .agg #[.int .i64 0, .int .u64 (GW ss).1, .int .u64 (GW ss).2, .slice none 0 0, .int .i64 0]) (fun (_ : Unit) => [Ao p dk lim ss]) := by
  obtain ⟨hl, h4⟩ := h
  unfold GW
  cases hg : ss.getLast? with
  | none =>
    have h0 := List.getLast?_eq_none_iff.1 hg
    subst h0
    exact U0
  | some q =>
    rw [hg] at h4
    obtain ⟨q1, q2, q3, q4⟩ := h4
    obtain ⟨m, hm1, hm2, hm3⟩ := RV q2
    have hss := Mq hg
    have h6 := UZ (p := p) (dk := dk) (lim := lim) (ss := ss.dropLast) (f := q.1) (l := q.2) (by rw [List.length_dropLast]; omega) (by omega) q1 q2 hm1
    rw [show ss.dropLast ++ [(q.1, q.2)] = ss from hss.symm] at h6
    simp only [hm3]
    exact h6
def CT (lim : Nat) (s : LogS) (l : List EntV) : LogS := l.foldl (fun s z => Kw lim s z.e) s
theorem Nj {s : LogS} (h : l[j]? = some z) : CT lim s (l.take (j + 1)) = Kw lim (CT lim s (l.take j)) z.e := by
 unfold CT
 rw [List.take_add_one, h, List.foldl_append]
 rfl
def Ek (m0 : Int × Int) (l : List EntV) (j : Nat) : Int × Int := match (l.take j).getLast? with | none => m0 | some z => (z.e.t, z.e.i)
theorem Pr {m0 : Int × Int} (h : l[j]? = some z) : Ek m0 l (j + 1) = (z.e.t, z.e.i) := by
 unfold Ek
 rw [List.take_add_one, h, List.getLast?_append]
 rfl
theorem Gc (h : l[j]? = some z) : El (AE (fun x : EntV => Af 5 1 encB x.v x.e.d) l) (.slice z.A z.e.d.length z.c) z.e.d := fun rs w h1 h2 => by
 obtain ⟨ys, h3, h4⟩ := AE.at_ h1 h2 h
 exact H8 h3 h4
def EW (q : Int × Int) (e : EntD) : Prop := (q.2 = 0 ∨ (q.2 ≠ 0 ∧ e.i = q.2 + 1 ∧ q.1 ≤ e.t)) ∧ 0 ≤ q.2 ∧ q.2 ≤ 72057594037927935
end Go.Proofs.YtjcfimmcogkopaaGreatDoor.Sep
namespace Go.Proofs.YtjcfimmcogkopaaGreatDoor.Sep
variable {Y : Ass} {dk lim p : Nat} {l : List EntV}
open Go.RowKit
open Go.Proofs.YtjcfimmcogkopaaGreatDoor.Mem (AG BC Chg Ak)
theorem WG {s : LogS} {j : Nat} {z : EntV} (tb : Tb) (hli : lim ≤ 1000000000) (hz : l[j]? = some z) (hY : El Y (.slice z.A z.e.d.length z.c) z.e.d) (h : Pq lim (CT lim s (l.take j)) z.e) : AA Tryz.prog 69 #[.pointer (some ⟨p, 0, none⟩), .agg #[.int .i64 z.e.k, .int .u64 z.e.t, .int .u64 z.e.i, .slice z.A z.e.d.length z.c, .int .i64 z.e.c]] [Ao p dk lim (CT lim s (l.take j)).1, Ab dk (CT lim s (l.take j)).2, Aj tb, Y] (fun (_ : Unit) => .int .i64 0) (fun (_ : Unit) => [Ao p dk lim (CT lim s (l.take (j + 1))).1, Ab dk (CT lim s (l.take (j + 1))).2, Aj tb, Y]) := by
 rw [Nj hz]
 exact WD hY tb hli h
set_option maxRecDepth 100000 in
theorem JK {s : LogS} {v : Value} (tb : Tb) (hli : lim ≤ 1000000000) (hll : l.length ≤ 1000000) (hend : RW s.1) (hfol : ∀ (j : Nat) (z : EntV), l[j]? = some z → EW (Ek (GW s.1) l j) z.e) (hY : ∀ (j : Nat) (z : EntV), l[j]? = some z → El Y (.slice z.A z.e.d.length z.c) z.e.d) (hok : ∀ (j : Nat) (z : EntV), l[j]? = some z → Pq lim (CT lim s (l.take j)) z.e) : AA Tryz.prog 21 #[.pointer (some ⟨p, 0, none⟩), v] [Ao p dk lim s.1, Ab dk s.2, Aj tb, Af 53 5 encV v l, Y] (fun (_ : Unit) => .int .i64 0) (fun (_ : Unit) => [Ao p dk lim (CT lim s l).1, Ab dk (CT lim s l).2, Aj tb, Af 53 5 encV v l, Y]) := by
 refine AP (args := [.pointer (some ⟨p, 0, none⟩), v]) 43 Tryz.func21 rfl rfl rfl ?_; intro w rs
 refine AK ?_
 refine Am Ac rfl (CE [0] (WF hend) ?_)
 refine K5 ?_; rintro gp
 refine Dc ?_
 refine cC [0] (JH (m := Ek (GW s.1) l 0) rfl) ?_
 refine kC [0, 1, 4, 11, 12, 5, 13, 14, 15] ?_
 refine AH.mid [Ck gp (Ek (GW s.1) l 0), Ao p dk lim s.1, Ab dk s.2, Aj tb, Af 53 5 encV v l, Y] (.refl _) (BT (α := Nat) (fun j => [(0, .pointer (some ⟨p, 0, none⟩)), (1, v), (4, .int .i64 0), (5, .pointer (some ⟨gp, 0, none⟩)), (13, v), (14, .int .i64 (l.length : Int)), (15, .int .i64 (j : Int))]) (fun j => [Ck gp (Ek (GW s.1) l j), Ao p dk lim s.1, Ab dk s.2, Aj tb, Af 53 5 encV v l, Y]) (fun j => j ≤ l.length) (fun j => l.length - j) 0 (Nat.zero_le _) ⟨rfl, rfl, rfl, rfl, rfl, rfl, rfl, trivial⟩ rfl ?_)
 rintro j hI
 refine AH.at_ (env' := [(0, .pointer (some ⟨p, 0, none⟩)), (1, v), (4, .int .i64 0), (5, .pointer (some ⟨gp, 0, none⟩)), (13, v), (14, .int .i64 (l.length : Int)), (15, .int .i64 (j : Int))]) (rs' := [Ck gp (Ek (GW s.1) l j), Ao p dk lim s.1, Ab dk s.2, Aj tb, Af 53 5 encV v l, Y]) ⟨rfl, rfl, rfl, rfl, rfl, rfl, rfl, trivial⟩ rfl ?_
 rcases Nat.lt_or_ge j l.length with hjN | hjN
 have hjl := hjN
 obtain ⟨z, hz⟩ : ∃ z, l[j]? = some z := ⟨_, List.getElem?_eq_getElem hjl⟩
 obtain ⟨hfo, hb0, hb1⟩ := hfol j z hz
 have hrz := (hok j z hz).1
 refine GK ?_
 refine Am Ac rfl (Aa rfl (AN v (j * 5)) (fun b w hb hH => Ez 4 Av Dy rfl j hjl rfl rfl rfl hH hb) (Aa rfl (.agg (encV z).toArray) (fun b w hb hH => CD Dy (by decide) (hH.vec 4 rfl Dy) (j := j) hz Em rfl rfl hb) (K5 ?_))); rintro gx
 refine AK ?_
 refine oC 1 Ck.open_ ?_; rintro q
 refine Aq ?_
 refine FD (fun w hH => Dr w z (hH.rd8 6 rfl (hY j z hz)) true hrz) ?_
 refine Aq ?_
 refine FD (fun w hH => Kv w hfo ⟨hb0, hb1⟩) ?_
 refine GK ?_
 refine cC [0] (JH (m := Ek (GW s.1) l (j + 1)) (Pr hz).symm) ?_
 refine lC [1] ?_
 refine kC [0, 1, 4, 5, 13, 14, 15, 16, 17, 18, 7, 19, 20, 21, 22, 23, 24, 25, 26, 27, 28] ?_
 refine AH.mid [Ck gp (Ek (GW s.1) l (j + 1)), Ao p dk lim s.1, Ab dk s.2, Aj tb, Af 53 5 encV v l, Y] (.refl _) (Dl (Am Ac rfl (Aa rfl (.int .i64 ((j + 1 : Nat) : Int)) (fun b w hb hH => Ay rfl rfl rfl rfl (by rw [IntWalk.i64_in _ (by omega)]; omega) hb) (Ai ?_))))
 exact Br (j + 1) 0 (by omega) (show l.length - (j + 1) < l.length - j by omega) ⟨rfl, rfl, rfl, rfl, rfl, rfl, rfl, trivial⟩ rfl
 have hje : j = l.length := by omega
 refine BD ?_
 refine B2 (Kf ?_)
 refine lC [0] ?_
 refine kC [0, 1, 4, 5, 13, 14, 15, 16, 30, 31, 32] ?_
 refine AH.mid [Ao p dk lim (CT lim s (l.take 0)).1, Ab dk (CT lim s (l.take 0)).2, Aj tb, Af 53 5 encV v l, Y] (.refl _) (BT (α := Nat) (fun j => [(0, .pointer (some ⟨p, 0, none⟩)), (4, .int .i64 0), (30, v), (31, .int .i64 (l.length : Int)), (32, .int .i64 (j : Int))]) (fun j => [Ao p dk lim (CT lim s (l.take j)).1, Ab dk (CT lim s (l.take j)).2, Aj tb, Af 53 5 encV v l, Y]) (fun j => j ≤ l.length) (fun j => l.length - j) 0 (Nat.zero_le _) ⟨rfl, rfl, rfl, rfl, rfl, trivial⟩ rfl ?_)
 rintro j hI
 refine AH.at_ (env' := [(0, .pointer (some ⟨p, 0, none⟩)), (4, .int .i64 0), (30, v), (31, .int .i64 (l.length : Int)), (32, .int .i64 (j : Int))]) (rs' := [Ao p dk lim (CT lim s (l.take j)).1, Ab dk (CT lim s (l.take j)).2, Aj tb, Af 53 5 encV v l, Y]) ⟨rfl, rfl, rfl, rfl, rfl, trivial⟩ rfl ?_
 rcases Nat.lt_or_ge j l.length with hjM | hjM
 have hjl := hjM
 obtain ⟨z, hz⟩ : ∃ z, l[j]? = some z := ⟨_, List.getElem?_eq_getElem hjl⟩
 obtain ⟨hfo, hb0, hb1⟩ := hfol j z hz
 have hrz := (hok j z hz).1
 refine GK ?_
 refine Am Ac rfl (Aa rfl (AN v (j * 5)) (fun b w hb hH => Ez 3 Av Dy rfl j hjl rfl rfl rfl hH hb) (Aa rfl (.agg (encV z).toArray) (fun b w hb hH => CD Dy (by decide) (hH.vec 3 rfl Dy) (j := j) hz Em rfl rfl hb) (K5 ?_))); rintro gx2
 refine AV ?_
 refine CE [1, 2, 3, 5] (WG tb hli hz (hY j z hz) (hok j z hz)) ?_
 refine Eh ?_
 refine lC [0] ?_
 refine kC [0, 4, 30, 31, 32, 33, 34, 35, 9, 36, 37, 38, 10, 39, 40] ?_
 refine AH.mid [Ao p dk lim (CT lim s (l.take (j + 1))).1, Ab dk (CT lim s (l.take (j + 1))).2, Aj tb, Af 53 5 encV v l, Y] (.refl _) (Dl (Am Ac rfl (Aa rfl (.int .i64 ((j + 1 : Nat) : Int)) (fun b w hb hH => Ay rfl rfl rfl rfl (by rw [IntWalk.i64_in _ (by omega)]; omega) hb) (Ai ?_))))
 exact Br (j + 1) 0 (by omega) (show l.length - (j + 1) < l.length - j by omega) ⟨rfl, rfl, rfl, rfl, rfl, trivial⟩ rfl
 have hje : j = l.length := by omega
 refine BD ?_
 refine B2 (Dc ?_)
 exact An (.tmp rfl) (fun w h => As () rfl [0, 1, 2, 3, 4] rfl h (fun z hz => by have hz2 : Ae [Ao p dk lim (CT lim s (l.take j)).1, Ab dk (CT lim s (l.take j)).2, Aj tb, Af 53 5 encV v l, Y] z := hz; rw [hje, List.take_length] at hz2; exact ⟨z, .refl _, hz2⟩)) rfl
theorem Ps {s : LogS} {v : Value} (tb : Tb) (hli : lim ≤ 1000000000) (hll : l.length ≤ 1000000) (hend : RW s.1) (hfol : ∀ (j : Nat) (z : EntV), l[j]? = some z → EW (Ek (GW s.1) l j) z.e) (hok : ∀ (j : Nat) (z : EntV), l[j]? = some z → Pq lim (CT lim s (l.take j)) z.e) : AA Tryz.prog 21 #[.pointer (some ⟨p, 0, none⟩), v] [Ao p dk lim s.1, Ab dk s.2, Aj tb, B9 53 v l] (fun (_ : Unit) => .int .i64 0) (fun (_ : Unit) => [Ao p dk lim (CT lim s l).1, Ab dk (CT lim s l).2, Aj tb, B9 53 v l]) := fun w rs h1 h2 h3 => by
 have h4 : ∀ {A B C : Ass} {rs : List RowT}, Ae [A, B, C, B9 53 v l] rs → Ae [A, B, C, Af 53 5 encV v l, AE (fun x : EntV => Af 5 1 encB x.v x.e.d) l] rs := fun {A B C rs} h => by
  obtain ⟨a, b, e, h1, c, d, e2, h2, f, g, e3, h3, h4⟩ := h
  exact ⟨a, b, e, h1, c, d, e2, h2, f, g, e3, h3, Ae.one' h4⟩
 have h5 : ∀ {A B C : Ass} {rs : List RowT}, Ae [A, B, C, Af 53 5 encV v l, AE (fun x : EntV => Af 5 1 encB x.v x.e.d) l] rs → Ae [A, B, C, B9 53 v l] rs := fun {A B C rs} h => by
  obtain ⟨a, b, e, h1, c, d, e2, h2, f, g, e3, h3, h4⟩ := h
  exact ⟨a, b, e, h1, c, d, e2, h2, f, g, e3, h3, Ae.one h4⟩
 exact (JK tb hli hll hend hfol (fun j z hz => Gc hz) hok w rs (h4 h1) h2 h3).mono fun e w' ⟨x, he, rs', hp, hc⟩ => ⟨x, he, rs', h5 hp, hc⟩
end Go.Proofs.YtjcfimmcogkopaaGreatDoor.Sep
