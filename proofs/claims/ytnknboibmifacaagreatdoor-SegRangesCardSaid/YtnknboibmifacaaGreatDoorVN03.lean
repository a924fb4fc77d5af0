/-
  SgE · SgG
-/
import Derived.Test.YtnknboibmifacaaGreatDoorVN02
set_option linter.unusedSimpArgs false
set_option linter.unusedVariables false
namespace Go.Proofs.YtnknboibmifacaaGreatDoor.Sep
open Go.RowKit
open Go.Proofs.YtnknboibmifacaaGreatDoor.Mem (AR B3 Chg Av)
def Hd (l : List (Int × Nat)) : Nat := (l.getLast?.map (·.2)).getD 0
def JI (e : EntD) : List UInt8 := BZ (B9 e)
theorem I9 {e : EntD} (h : BR e = true) : (JI e).length = 8 + (B9 e).length := Hz (by have := ET h; omega)
abbrev LogS := SegsM × DiskD
def Lm (s : LogS) (e : EntD) : LogS := (s.1 ++ [(e.i.toNat, [(e.t, (JI e).length)])], (CO s.2 (nameL e.i.toNat) (JI e)).1)
def Ox (lim : Nat) (s : LogS) (e : EntD) : LogS :=
  match s.1.getLast? with
  | none => Lm s e
  | some q => if lim < Hd q.2 + (JI e).length then Lm s e else (s.1.dropLast ++ [(q.1, q.2 ++ [(e.t, Hd q.2 + (JI e).length)])], (CO s.2 (nameL q.1) (JI e)).1)
def TW (q : Nat × List (Int × Nat)) : Prop := q.1 ≤ 72057594037927935 ∧ q.2 ≠ [] ∧ q.2.length ≤ 999999 ∧ Hd q.2 ≤ 137438953472
def Oy (lim : Nat) (s : LogS) (e : EntD) : Prop :=
  BR e = true ∧ s.2.fit ∧ s.1.length ≤ 999999 ∧ match s.1.getLast? with
  | none => (CO s.2 (nameL e.i.toNat) (JI e)).2 = 0
  | some q => TW q ∧ (if lim < Hd q.2 + (JI e).length then (CO s.2 (nameL e.i.toNat) (JI e)).2 = 0 else (CO s.2 (nameL q.1) (JI e)).2 = 0)
theorem Ln {α : Type} {l : List α} {a : α} (h : l.getLast? = some a) : l = l.dropLast ++ [a] := by
 rw [List.getLast?_eq_some_iff] at h
 obtain ⟨r, rfl⟩ := h
 simp
theorem QV {l : List (Int × Nat)} (h : l ≠ []) : ∃ m, l[l.length - 1]? = some m ∧ m.2 = Hd l ∧ (l.getLast?.map (·.1)).getD 0 = m.1 := by
  cases hl : l.getLast? with
  | none => exact absurd (List.getLast?_eq_none_iff.1 hl) h
  | some m => exact ⟨m, by rw [← List.getLast?_eq_getElem?]; exact hl, by unfold Hd; rw [hl]; rfl, rfl⟩
theorem Nb {α : Type} {p : α × Nat} (h : p.2 = 0) : p = (p.1, 0) := by rw [← h]
theorem Vo {X : Ass} {p dk lim : Nat} {s : LogS} {e : EntD} {A : Option Addr} {c : Nat} (hX : E3 X (.slice A e.d.length c) e.d) (tb : Tb) (hli : lim ≤ 1000000000) (h : Oy lim s e) : AP Tryz.prog 46 #[.pointer (some ⟨p, 0, none⟩), .agg #[.int .i64 e.k, .int .u64 e.t, .int .u64 e.i, .slice A e.d.length c, .int .i64 e.c]] [AA p dk lim s.1, Ag dk s.2, Ao tb, X] (fun (_ : Unit) => .int .i64 0) (fun (_ : Unit) => [AA p dk lim (Ox lim s e).1, Ag dk (Ox lim s e).2, Ao tb, X]) := by
  obtain ⟨hr, hd, hsl, h4⟩ := h
  obtain ⟨ss, d⟩ := s
  obtain ⟨_, hi, _⟩ := Fw hr
  have hle := ET hr
  have hfl := I9 hr
  have hei : e.i = (e.i.toNat : Int) := by omega
  have hf : e.i.toNat ≤ 72057594037927935 := by omega
  simp only at h4 hsl hd ⊢
  unfold Ox
  simp only
  cases hg : ss.getLast? with
  | none =>
    rw [hg] at h4
    simp only at h4 ⊢
    have h0 := List.getLast?_eq_none_iff.1 hg
    subst h0
    exact R8 (y := JI e) hX hr hei hf (by omega) rfl (by omega) tb hd (Nb h4)
  | some q =>
    rw [hg] at h4
    simp only at h4 ⊢
    obtain ⟨⟨q1, q2, q3, q4⟩, h5⟩ := h4
    obtain ⟨m, hm1, hm2, _⟩ := QV q2
    have hss := Ln hg
    have hdl : ss.dropLast.length ≤ 999998 := by rw [List.length_dropLast]; omega
    by_cases hb : lim < Hd q.2 + (JI e).length
    · rw [if_pos hb] at h5 ⊢
      have h6 := Vm (y := JI e) (p := p) (dk := dk) (lim := lim) (ss := ss.dropLast) (f0 := q.1) (l := q.2) hX hr hei (by omega) q3 q1 q2 hm1 (by omega) hf (by omega) rfl (by omega) tb hd (Nb h5) (by rw [hm2]; exact hb)
      rw [show ss.dropLast ++ [(q.1, q.2)] = ss from hss.symm] at h6
      exact h6
    · rw [if_neg hb] at h5 ⊢
      have h6 := Vn (y := JI e) (p := p) (dk := dk) (lim := lim) (ss := ss.dropLast) (f0 := q.1) (l := q.2) hX hr (by omega) q3 q1 q2 hm1 (by omega) (by omega) rfl (by omega) tb hd (Nb h5) (by rw [hm2]; exact Nat.le_of_not_lt hb) hli
      rw [show ss.dropLast ++ [(q.1, q.2)] = ss from hss.symm, hm2] at h6
      exact h6
def Dr (ss : SegsM) : Int × Int := match ss.getLast? with | none => (0, 0) | some q => ((q.2.getLast?.map (·.1)).getD 0, ((q.1 + q.2.length - 1 : Nat) : Int))
def QW (ss : SegsM) : Prop := ss.length ≤ 1000000 ∧ match ss.getLast? with | none => True | some q => TW q
theorem Vp {p dk lim : Nat} {ss : SegsM} (h : QW ss) : AP Tryz.prog 43 #[.pointer (some ⟨p, 0, none⟩)] [AA p dk lim ss] (fun (_ : Unit) => .agg #[.int .i64 0, .int .u64 (Dr ss).1, .int .u64 (Dr ss).2, .slice none 0 0, .int .i64 0]) (fun (_ : Unit) => [AA p dk lim ss]) := by
  obtain ⟨hl, h4⟩ := h
  unfold Dr
  cases hg : ss.getLast? with
  | none =>
    have h0 := List.getLast?_eq_none_iff.1 hg
    subst h0
    exact TN
  | some q =>
    rw [hg] at h4
    obtain ⟨q1, q2, q3, q4⟩ := h4
    obtain ⟨m, hm1, hm2, hm3⟩ := QV q2
    have hss := Ln hg
    have h6 := TM (p := p) (dk := dk) (lim := lim) (ss := ss.dropLast) (f := q.1) (l := q.2) (by rw [List.length_dropLast]; omega) (by omega) q1 q2 hm1
    rw [show ss.dropLast ++ [(q.1, q.2)] = ss from hss.symm] at h6
    simp only [hm3]
    exact h6
def CM (lim : Nat) (s : LogS) (l : List EntV) : LogS := l.foldl (fun s z => Ox lim s z.e) s
theorem Mp {lim : Nat} {s : LogS} {l : List EntV} {j : Nat} {z : EntV} (h : l[j]? = some z) : CM lim s (l.take (j + 1)) = Ox lim (CM lim s (l.take j)) z.e := by
 unfold CM
 rw [List.take_add_one, h, List.foldl_append]
 rfl
def CB (m0 : Int × Int) (l : List EntV) (j : Nat) : Int × Int := match (l.take j).getLast? with | none => m0 | some z => (z.e.t, z.e.i)
theorem Oz {m0 : Int × Int} {l : List EntV} {j : Nat} {z : EntV} (h : l[j]? = some z) : CB m0 l (j + 1) = (z.e.t, z.e.i) := by
 unfold CB
 rw [List.take_add_one, h, List.getLast?_append]
 rfl
theorem He {l : List EntV} {j : Nat} {z : EntV} (h : l[j]? = some z) : E3 (Bb (fun x : EntV => Ak 5 1 encB x.v x.e.d) l) (.slice z.A z.e.d.length z.c) z.e.d := fun rs w h1 h2 => by
 obtain ⟨ys, h3, h4⟩ := Bb.at_ h1 h2 h
 exact IP h3 h4
def FO (q : Int × Int) (e : EntD) : Prop := (q.2 = 0 ∨ (q.2 ≠ 0 ∧ e.i = q.2 + 1 ∧ q.1 ≤ e.t)) ∧ 0 ≤ q.2 ∧ q.2 ≤ 72057594037927935
end Go.Proofs.YtnknboibmifacaaGreatDoor.Sep
namespace Go.Proofs.YtnknboibmifacaaGreatDoor.Sep
open Go.RowKit
open Go.Proofs.YtnknboibmifacaaGreatDoor.Mem (AR B3 Chg Av)
theorem Vq {Y : Ass} {p dk lim : Nat} {s : LogS} {l : List EntV} {j : Nat} {z : EntV} (tb : Tb) (hli : lim ≤ 1000000000) (hz : l[j]? = some z) (hY : E3 Y (.slice z.A z.e.d.length z.c) z.e.d) (h : Oy lim (CM lim s (l.take j)) z.e) : AP Tryz.prog 46 #[.pointer (some ⟨p, 0, none⟩), .agg #[.int .i64 z.e.k, .int .u64 z.e.t, .int .u64 z.e.i, .slice z.A z.e.d.length z.c, .int .i64 z.e.c]] [AA p dk lim (CM lim s (l.take j)).1, Ag dk (CM lim s (l.take j)).2, Ao tb, Y] (fun (_ : Unit) => .int .i64 0) (fun (_ : Unit) => [AA p dk lim (CM lim s (l.take (j + 1))).1, Ag dk (CM lim s (l.take (j + 1))).2, Ao tb, Y]) := by
 rw [Mp hz]
 exact Vo hY tb hli h
set_option maxRecDepth 100000 in
theorem Nc {Y : Ass} {p dk lim : Nat} {s : LogS} {v : Value} {l : List EntV} (tb : Tb) (hli : lim ≤ 1000000000) (hll : l.length ≤ 1000000) (hend : QW s.1) (hfol : ∀ (j : Nat) (z : EntV), l[j]? = some z → FO (CB (Dr s.1) l j) z.e) (hY : ∀ (j : Nat) (z : EntV), l[j]? = some z → E3 Y (.slice z.A z.e.d.length z.c) z.e.d) (hok : ∀ (j : Nat) (z : EntV), l[j]? = some z → Oy lim (CM lim s (l.take j)) z.e) : AP Tryz.prog 13 #[.pointer (some ⟨p, 0, none⟩), v] [AA p dk lim s.1, Ag dk s.2, Ao tb, Ak 34 5 encV v l, Y] (fun (_ : Unit) => .int .i64 0) (fun (_ : Unit) => [AA p dk lim (CM lim s l).1, Ag dk (CM lim s l).2, Ao tb, Ak 34 5 encV v l, Y]) := by
  refine Bj (args := [.pointer (some ⟨p, 0, none⟩), v]) 43 Tryz.func13 rfl rfl rfl ?_; intro w rs
  refine Ad ?_
  refine Af Ae rfl ?_
  refine Ab (Ad ?_)
  refine Af Ae rfl ?_
  refine Am rfl (Au (os' := fun _ => [AA p dk lim s.1, Ag dk s.2, Ao tb, Ak 34 5 encV v l, Y]) [0] 0 (Aj Tryz.func43 (by kernel_rfl) rfl) (Vp hend) rfl rfl rfl (fun _ => rfl) rfl rfl rfl) ?_; rintro ⟨⟩
  refine Am (post := fun gp => [cell gp 34 #[.int .i64 0, .int .u64 0, .int .u64 0, .slice none 0 0, .int .i64 0], AA p dk lim s.1, Ag dk s.2, Ao tb, Ak 34 5 encV v l, Y]) rfl (BW Bz rfl) ?_; rintro gp
  refine AL (post := fun _ => [cell gp 34 #[.int .i64 0, .int .u64 ((Dr s.1).1), .int .u64 ((Dr s.1).2), .slice none 0 0, .int .i64 0], AA p dk lim s.1, Ag dk s.2, Ao tb, Ak 34 5 encV v l, Y]) rfl rfl (AU 0 (v := .agg #[.int .i64 0, .int .u64 ((Dr s.1).1), .int .u64 ((Dr s.1).2), .slice none 0 0, .int .i64 0]) #[.int .i64 0, .int .u64 ((Dr s.1).1), .int .u64 ((Dr s.1).2), .slice none 0 0, .int .i64 0] BH.2 rfl rfl rfl rfl rfl rfl rfl rfl rfl) ?_; rintro ⟨⟩
  refine Ab (An (Ad ?_))
  refine Af Ae rfl ?_
  refine Aa rfl (.int .i64 (l.length : Int)) (fun b w hb hH => Ez 4 Tryz.underlying52 rfl rfl rfl hH hb) ?_
  refine Af Ae rfl ?_
  refine Ab (AQ ?_)
  refine Bg [0] rfl (Hc (m := CB (Dr s.1) l 0) rfl) rfl ?_
  refine AN.keep (env' := [(0, .pointer (some ⟨p, 0, none⟩)), (1, v), (4, .int .i64 0), (11, .pointer (some ⟨p, 0, none⟩)), (12, .agg #[.int .i64 0, .int .u64 ((Dr s.1).1), .int .u64 ((Dr s.1).2), .slice none 0 0, .int .i64 0]), (5, .pointer (some ⟨gp, 0, none⟩)), (13, v), (14, .int .i64 (l.length : Int)), (15, .int .i64 0)]) ⟨rfl, rfl, rfl, rfl, rfl, rfl, rfl, rfl, rfl, trivial⟩ ?_
  refine AN.mid [Ct gp (CB (Dr s.1) l 0), AA p dk lim s.1, Ag dk s.2, Ao tb, Ak 34 5 encV v l, Y] (.refl _) ?_
  refine CY (α := Nat) (fun j => [(0, .pointer (some ⟨p, 0, none⟩)), (1, v), (4, .int .i64 0), (5, .pointer (some ⟨gp, 0, none⟩)), (13, v), (14, .int .i64 (l.length : Int)), (15, .int .i64 (j : Int))]) (fun j => [Ct gp (CB (Dr s.1) l j), AA p dk lim s.1, Ag dk s.2, Ao tb, Ak 34 5 encV v l, Y]) (fun j => j ≤ l.length) (fun j => l.length - j) 0 (Nat.zero_le _) ⟨rfl, rfl, rfl, rfl, rfl, rfl, rfl, trivial⟩ rfl ?_
  rintro j hI
  refine AN.at_ (env' := [(0, .pointer (some ⟨p, 0, none⟩)), (1, v), (4, .int .i64 0), (5, .pointer (some ⟨gp, 0, none⟩)), (13, v), (14, .int .i64 (l.length : Int)), (15, .int .i64 (j : Int))]) (rs' := [Ct gp (CB (Dr s.1) l j), AA p dk lim s.1, Ag dk s.2, Ao tb, Ak 34 5 encV v l, Y]) ⟨rfl, rfl, rfl, rfl, rfl, rfl, rfl, trivial⟩ rfl ?_
  rcases Nat.lt_or_ge j l.length with hjN | hjN
  · skip
    have hjl := hjN
    obtain ⟨z, hz⟩ : ∃ z, l[j]? = some z := ⟨_, List.getElem?_eq_getElem hjl⟩
    obtain ⟨hfo, hb0, hb1⟩ := hfol j z hz
    have hrz := (hok j z hz).1
    refine Ad ?_
    refine Af Ae rfl ?_
    refine Aa rfl (.bool true) (fun b w hb hH => AZ rfl rfl rfl (Ck (by omega)) hb) ?_
    refine Ab (An (AI rfl (Aw (AB (An (AQ (Ad ?_)))))))
    refine Af Ae rfl ?_
    refine Aa rfl (AV v (j * 5)) (fun b w hb hH => EB 4 AK Er rfl j hjl rfl rfl rfl hH hb) ?_
    refine Aa rfl (.agg (encV z).toArray) (fun b w hb hH => Dz Er (by decide) (hH.vec 4 rfl Er) (j := j) hz BH rfl rfl hb) ?_
    refine Am (post := fun gx => [cell gx 34 #[.int .i64 0, .int .u64 0, .int .u64 0, .slice none 0 0, .int .i64 0], Ct gp (CB (Dr s.1) l j), AA p dk lim s.1, Ag dk s.2, Ao tb, Ak 34 5 encV v l, Y]) rfl (BW Bz rfl) ?_; rintro gx
    refine AL (post := fun _ => [cell gx 34 #[.int .i64 z.e.k, .int .u64 z.e.t, .int .u64 z.e.i, z.v, .int .i64 z.e.c], Ct gp (CB (Dr s.1) l j), AA p dk lim s.1, Ag dk s.2, Ao tb, Ak 34 5 encV v l, Y]) rfl rfl (AU 0 (v := .agg (encV z).toArray) #[.int .i64 z.e.k, .int .u64 z.e.t, .int .u64 z.e.i, z.v, .int .i64 z.e.c] BH.2 rfl rfl rfl rfl rfl rfl rfl rfl rfl) ?_; rintro ⟨⟩
    refine Ab (An ?_)
    refine A7 1 rfl Ct.open_ (fun _ => rfl) ?_; rintro q
    refine Ad ?_
    refine Af Ae rfl ?_
    refine Aa rfl (.agg #[.int .i64 z.e.k, .int .u64 z.e.t, .int .u64 z.e.i, z.v, .int .i64 z.e.c]) (fun b w hb hH => AY rfl rfl (EY (cs := [.int .i64 z.e.k, .int .u64 z.e.t, .int .u64 z.e.i, z.v, .int .i64 z.e.c]) BH rfl) (hH.row 1 rfl) hb) ?_
    refine Am (post := fun _ => [cell gp 34 #[.int .i64 q.k, .int .u64 ((CB (Dr s.1) l j).1), .int .u64 ((CB (Dr s.1) l j).2), .slice q.A q.n q.c, .int .i64 q.z], cell gx 34 #[.int .i64 z.e.k, .int .u64 z.e.t, .int .u64 z.e.i, z.v, .int .i64 z.e.c], AA p dk lim s.1, Ag dk s.2, Ao tb, Ak 34 5 encV v l, Y]) rfl (Bc (Aj Tryz.func44 (by kernel_rfl) rfl) (fun w hH => DB w z (hH.rd8 6 rfl (hY j z hz)) true hrz) rfl rfl rfl) ?_; rintro ⟨⟩
    refine Af Ae rfl ?_
    refine Aa rfl (.agg #[.int .i64 q.k, .int .u64 ((CB (Dr s.1) l j).1), .int .u64 ((CB (Dr s.1) l j).2), .slice q.A q.n q.c, .int .i64 q.z]) (fun b w hb hH => AY rfl rfl (EY (cs := [.int .i64 q.k, .int .u64 ((CB (Dr s.1) l j).1), .int .u64 ((CB (Dr s.1) l j).2), .slice q.A q.n q.c, .int .i64 q.z]) BH rfl) (hH.row 0 rfl) hb) ?_
    refine Aa rfl (.agg #[.int .i64 z.e.k, .int .u64 z.e.t, .int .u64 z.e.i, z.v, .int .i64 z.e.c]) (fun b w hb hH => AY rfl rfl (EY (cs := [.int .i64 z.e.k, .int .u64 z.e.t, .int .u64 z.e.i, z.v, .int .i64 z.e.c]) BH rfl) (hH.row 1 rfl) hb) ?_
    refine Am (post := fun _ => [cell gp 34 #[.int .i64 q.k, .int .u64 ((CB (Dr s.1) l j).1), .int .u64 ((CB (Dr s.1) l j).2), .slice q.A q.n q.c, .int .i64 q.z], cell gx 34 #[.int .i64 z.e.k, .int .u64 z.e.t, .int .u64 z.e.i, z.v, .int .i64 z.e.c], AA p dk lim s.1, Ag dk s.2, Ao tb, Ak 34 5 encV v l, Y]) rfl (Bc (Aj Tryz.func45 (by kernel_rfl) rfl) (fun w hH => JH w hfo ⟨hb0, hb1⟩) rfl rfl rfl) ?_; rintro ⟨⟩
    refine Af Ae rfl ?_
    refine Ab (As rfl (Aw (AB (BJ ?_))))
    refine Af Ae rfl ?_
    refine Aa rfl (.agg #[.int .i64 z.e.k, .int .u64 z.e.t, .int .u64 z.e.i, z.v, .int .i64 z.e.c]) (fun b w hb hH => AY rfl rfl (EY (cs := [.int .i64 z.e.k, .int .u64 z.e.t, .int .u64 z.e.i, z.v, .int .i64 z.e.c]) BH rfl) (hH.row 1 rfl) hb) ?_
    refine AL (post := fun _ => [cell gp 34 #[.int .i64 z.e.k, .int .u64 z.e.t, .int .u64 z.e.i, z.v, .int .i64 z.e.c], cell gx 34 #[.int .i64 z.e.k, .int .u64 z.e.t, .int .u64 z.e.i, z.v, .int .i64 z.e.c], AA p dk lim s.1, Ag dk s.2, Ao tb, Ak 34 5 encV v l, Y]) rfl rfl (AU 0 (v := .agg #[.int .i64 z.e.k, .int .u64 z.e.t, .int .u64 z.e.i, z.v, .int .i64 z.e.c]) #[.int .i64 z.e.k, .int .u64 z.e.t, .int .u64 z.e.i, z.v, .int .i64 z.e.c] BH.2 rfl rfl rfl rfl rfl rfl rfl rfl rfl) ?_; rintro ⟨⟩
    refine AD (AW (AB ?_))
    refine Bg [0] rfl (Hc (m := CB (Dr s.1) l (j + 1)) (Oz hz).symm) rfl ?_
    refine AN.leave [1] rfl rfl ?_
    refine AN.keep (env' := [(0, .pointer (some ⟨p, 0, none⟩)), (1, v), (4, .int .i64 0), (5, .pointer (some ⟨gp, 0, none⟩)), (13, v), (14, .int .i64 (l.length : Int)), (15, .int .i64 (j : Int)), (16, .bool true), (17, AV v (j * 5)), (18, .agg (encV z).toArray), (7, .pointer (some ⟨gx, 0, none⟩)), (19, .agg #[.int .i64 z.e.k, .int .u64 z.e.t, .int .u64 z.e.i, z.v, .int .i64 z.e.c]), (20, .bool true), (21, .bool false), (22, .bool false), (23, .agg #[.int .i64 q.k, .int .u64 ((CB (Dr s.1) l j).1), .int .u64 ((CB (Dr s.1) l j).2), .slice q.A q.n q.c, .int .i64 q.z]), (24, .agg #[.int .i64 z.e.k, .int .u64 z.e.t, .int .u64 z.e.i, z.v, .int .i64 z.e.c]), (25, .bool true), (26, .bool false), (27, .bool false), (28, .agg #[.int .i64 z.e.k, .int .u64 z.e.t, .int .u64 z.e.i, z.v, .int .i64 z.e.c])]) ⟨rfl, rfl, rfl, rfl, rfl, rfl, rfl, rfl, rfl, rfl, rfl, rfl, rfl, rfl, rfl, rfl, rfl, rfl, rfl, rfl, rfl, trivial⟩ ?_
    refine AN.mid [Ct gp (CB (Dr s.1) l (j + 1)), AA p dk lim s.1, Ag dk s.2, Ao tb, Ak 34 5 encV v l, Y] (.refl _) ?_
    refine BJ ?_
    refine Af Ae rfl ?_
    refine Aa rfl (.int .i64 ((j + 1 : Nat) : Int)) (fun b w hb hH => AH rfl rfl rfl rfl (by rw [IntWalk.i64_in _ (by omega)]; omega) hb) ?_
    refine Af Ae rfl ?_
    refine AD ?_
    exact Cm (j + 1) 0 (by omega) (show l.length - (j + 1) < l.length - j by omega) ⟨rfl, rfl, rfl, rfl, rfl, rfl, rfl, trivial⟩ rfl
  · skip
    have hje : j = l.length := by omega
    refine Ad ?_
    refine Af Ae rfl ?_
    refine Aa rfl (.bool false) (fun b w hb hH => AZ rfl rfl rfl (BU (by omega)) hb) ?_
    refine Ab (An (As rfl (C8 (Gx (Gx (Br (AB (An (Ad ?_)))))))))
    refine Af Ae rfl ?_
    refine Aa rfl (.int .i64 (l.length : Int)) (fun b w hb hH => Ez 4 Tryz.underlying52 rfl rfl rfl hH hb) ?_
    refine Af Ae rfl ?_
    refine Ab (AQ ?_)
    refine AN.leave [0] rfl rfl ?_
    refine AN.keep (env' := [(0, .pointer (some ⟨p, 0, none⟩)), (1, v), (4, .int .i64 0), (5, .pointer (some ⟨gp, 0, none⟩)), (13, v), (14, .int .i64 (l.length : Int)), (15, .int .i64 (j : Int)), (16, .bool false), (30, v), (31, .int .i64 (l.length : Int)), (32, .int .i64 0)]) ⟨rfl, rfl, rfl, rfl, rfl, rfl, rfl, rfl, rfl, rfl, rfl, trivial⟩ ?_
    refine AN.mid [AA p dk lim (CM lim s (l.take 0)).1, Ag dk (CM lim s (l.take 0)).2, Ao tb, Ak 34 5 encV v l, Y] (.refl _) ?_
    refine CY (α := Nat) (fun j => [(0, .pointer (some ⟨p, 0, none⟩)), (4, .int .i64 0), (30, v), (31, .int .i64 (l.length : Int)), (32, .int .i64 (j : Int))]) (fun j => [AA p dk lim (CM lim s (l.take j)).1, Ag dk (CM lim s (l.take j)).2, Ao tb, Ak 34 5 encV v l, Y]) (fun j => j ≤ l.length) (fun j => l.length - j) 0 (Nat.zero_le _) ⟨rfl, rfl, rfl, rfl, rfl, trivial⟩ rfl ?_
    rintro j hI
    refine AN.at_ (env' := [(0, .pointer (some ⟨p, 0, none⟩)), (4, .int .i64 0), (30, v), (31, .int .i64 (l.length : Int)), (32, .int .i64 (j : Int))]) (rs' := [AA p dk lim (CM lim s (l.take j)).1, Ag dk (CM lim s (l.take j)).2, Ao tb, Ak 34 5 encV v l, Y]) ⟨rfl, rfl, rfl, rfl, rfl, trivial⟩ rfl ?_
    rcases Nat.lt_or_ge j l.length with hjM | hjM
    · skip
      have hjl := hjM
      obtain ⟨z, hz⟩ : ∃ z, l[j]? = some z := ⟨_, List.getElem?_eq_getElem hjl⟩
      obtain ⟨hfo, hb0, hb1⟩ := hfol j z hz
      have hrz := (hok j z hz).1
      refine Ad ?_
      refine Af Ae rfl ?_
      refine Aa rfl (.bool true) (fun b w hb hH => AZ rfl rfl rfl (Ck (by omega)) hb) ?_
      refine Ab (An (AI rfl (Aw (AB (An (AQ (Ad ?_)))))))
      refine Af Ae rfl ?_
      refine Aa rfl (AV v (j * 5)) (fun b w hb hH => EB 3 AK Er rfl j hjl rfl rfl rfl hH hb) ?_
      refine Aa rfl (.agg (encV z).toArray) (fun b w hb hH => Dz Er (by decide) (hH.vec 3 rfl Er) (j := j) hz BH rfl rfl hb) ?_
      refine Am (post := fun gx2 => [cell gx2 34 #[.int .i64 0, .int .u64 0, .int .u64 0, .slice none 0 0, .int .i64 0], AA p dk lim (CM lim s (l.take j)).1, Ag dk (CM lim s (l.take j)).2, Ao tb, Ak 34 5 encV v l, Y]) rfl (BW Bz rfl) ?_; rintro gx2
      refine AL (post := fun _ => [cell gx2 34 #[.int .i64 z.e.k, .int .u64 z.e.t, .int .u64 z.e.i, z.v, .int .i64 z.e.c], AA p dk lim (CM lim s (l.take j)).1, Ag dk (CM lim s (l.take j)).2, Ao tb, Ak 34 5 encV v l, Y]) rfl rfl (AU 0 (v := .agg (encV z).toArray) #[.int .i64 z.e.k, .int .u64 z.e.t, .int .u64 z.e.i, z.v, .int .i64 z.e.c] BH.2 rfl rfl rfl rfl rfl rfl rfl rfl rfl) ?_; rintro ⟨⟩
      refine Ab (Ad ?_)
      refine Af Ae rfl ?_
      refine Aa rfl (.agg #[.int .i64 z.e.k, .int .u64 z.e.t, .int .u64 z.e.i, z.v, .int .i64 z.e.c]) (fun b w hb hH => AY rfl rfl (EY (cs := [.int .i64 z.e.k, .int .u64 z.e.t, .int .u64 z.e.i, z.v, .int .i64 z.e.c]) BH rfl) (hH.row 0 rfl) hb) ?_
      refine Am rfl (Au (os' := fun _ => [cell gx2 34 #[.int .i64 z.e.k, .int .u64 z.e.t, .int .u64 z.e.i, z.v, .int .i64 z.e.c], AA p dk lim (CM lim s (l.take (j + 1))).1, Ag dk (CM lim s (l.take (j + 1))).2, Ao tb, Ak 34 5 encV v l, Y]) [1, 2, 3, 5] 0 (Aj Tryz.func46 (by kernel_rfl) rfl) (Vq tb hli hz (hY j z hz) (hok j z hz)) rfl rfl rfl (fun _ => rfl) rfl rfl rfl) ?_; rintro ⟨⟩
      refine Af Ae rfl ?_
      refine Ab (Ad ?_)
      refine Af Ae rfl ?_
      refine Aa rfl (.bool false) (fun b w hb hH => AZ rfl rfl rfl (Bu (by decide)) hb) ?_
      refine Ab (As rfl (Aw (AW (AB ?_))))
      refine AN.leave [0] rfl rfl ?_
      refine AN.keep (env' := [(0, .pointer (some ⟨p, 0, none⟩)), (4, .int .i64 0), (30, v), (31, .int .i64 (l.length : Int)), (32, .int .i64 (j : Int)), (33, .bool true), (34, AV v (j * 5)), (35, .agg (encV z).toArray), (9, .pointer (some ⟨gx2, 0, none⟩)), (36, .pointer (some ⟨p, 0, none⟩)), (37, .agg #[.int .i64 z.e.k, .int .u64 z.e.t, .int .u64 z.e.i, z.v, .int .i64 z.e.c]), (38, .int .i64 0), (10, .int .i64 0), (39, .int .i64 0), (40, .bool false)]) ⟨rfl, rfl, rfl, rfl, rfl, rfl, rfl, rfl, rfl, rfl, rfl, rfl, rfl, rfl, rfl, trivial⟩ ?_
      refine AN.mid [AA p dk lim (CM lim s (l.take (j + 1))).1, Ag dk (CM lim s (l.take (j + 1))).2, Ao tb, Ak 34 5 encV v l, Y] (.refl _) ?_
      refine BJ ?_
      refine Af Ae rfl ?_
      refine Aa rfl (.int .i64 ((j + 1 : Nat) : Int)) (fun b w hb hH => AH rfl rfl rfl rfl (by rw [IntWalk.i64_in _ (by omega)]; omega) hb) ?_
      refine Af Ae rfl ?_
      refine AD ?_
      exact Cm (j + 1) 0 (by omega) (show l.length - (j + 1) < l.length - j by omega) ⟨rfl, rfl, rfl, rfl, rfl, trivial⟩ rfl
    · skip
      have hje : j = l.length := by omega
      refine Ad ?_
      refine Af Ae rfl ?_
      refine Aa rfl (.bool false) (fun b w hb hH => AZ rfl rfl rfl (BU (by omega)) hb) ?_
      refine Ab (An (As rfl (C8 (Gx (Gx (Br (AB (Ad ?_))))))))
      refine Af Ae rfl ?_
      refine Ab (Az ?_)
      exact Ay (.tmp rfl) (fun w h => AC () rfl [0, 1, 2, 3, 4] rfl h (fun z hz => by have hz2 : Al [AA p dk lim (CM lim s (l.take j)).1, Ag dk (CM lim s (l.take j)).2, Ao tb, Ak 34 5 encV v l, Y] z := hz; rw [hje, List.take_length] at hz2; exact ⟨z, .refl _, hz2⟩)) rfl
theorem OA {p dk lim : Nat} {s : LogS} {v : Value} {l : List EntV} (tb : Tb) (hli : lim ≤ 1000000000) (hll : l.length ≤ 1000000) (hend : QW s.1) (hfol : ∀ (j : Nat) (z : EntV), l[j]? = some z → FO (CB (Dr s.1) l j) z.e) (hok : ∀ (j : Nat) (z : EntV), l[j]? = some z → Oy lim (CM lim s (l.take j)) z.e) : AP Tryz.prog 13 #[.pointer (some ⟨p, 0, none⟩), v] [AA p dk lim s.1, Ag dk s.2, Ao tb, Cc 34 v l] (fun (_ : Unit) => .int .i64 0) (fun (_ : Unit) => [AA p dk lim (CM lim s l).1, Ag dk (CM lim s l).2, Ao tb, Cc 34 v l]) := fun w rs h1 h2 h3 => by
 have h4 : ∀ {A B C : Ass} {rs : List RowT}, Al [A, B, C, Cc 34 v l] rs → Al [A, B, C, Ak 34 5 encV v l, Bb (fun x : EntV => Ak 5 1 encB x.v x.e.d) l] rs := fun {A B C rs} h => by
  obtain ⟨a, b, e, h1, c, d, e2, h2, f, g, e3, h3, h4⟩ := h
  exact ⟨a, b, e, h1, c, d, e2, h2, f, g, e3, h3, Al.one' h4⟩
 have h5 : ∀ {A B C : Ass} {rs : List RowT}, Al [A, B, C, Ak 34 5 encV v l, Bb (fun x : EntV => Ak 5 1 encB x.v x.e.d) l] rs → Al [A, B, C, Cc 34 v l] rs := fun {A B C rs} h => by
  obtain ⟨a, b, e, h1, c, d, e2, h2, f, g, e3, h3, h4⟩ := h
  exact ⟨a, b, e, h1, c, d, e2, h2, f, g, e3, h3, Al.one h4⟩
 exact (Nc tb hli hll hend hfol (fun j z hz => He hz) hok w rs (h4 h1) h2 h3).mono fun e w' ⟨x, he, rs', hp, hc⟩ => ⟨x, he, rs', h5 hp, hc⟩
end Go.Proofs.YtnknboibmifacaaGreatDoor.Sep
