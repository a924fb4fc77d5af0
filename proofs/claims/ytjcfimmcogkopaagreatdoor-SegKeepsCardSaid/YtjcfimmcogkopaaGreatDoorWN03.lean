/-
  SgE · SgG
-/
import Derived.Test.YtjcfimmcogkopaaGreatDoorWN02
set_option linter.unusedSimpArgs false
set_option linter.unusedVariables false
namespace Go.Proofs.YtjcfimmcogkopaaGreatDoor.Sep
open Go.RowKit
open Go.Proofs.YtjcfimmcogkopaaGreatDoor.Mem (Bb Ci Chg Aw)
def H8 (l : List (Int × Nat)) : Nat := (l.getLast?.map (·.2)).getD 0
def Fg (e : EntD) : List UInt8 := B2 (Cj e)
theorem G1 {e : EntD} (h : BN e = true) : (Fg e).length = 8 + (Cj e).length := Gz (by have := DX h; omega)
abbrev LogS := SegsM × DiskD
def Je (s : LogS) (e : EntD) : LogS := (s.1 ++ [(e.i.toNat, [(e.t, (Fg e).length)])], (CD s.2 (nameL e.i.toNat) (Fg e)).1)
def Kx (lim : Nat) (s : LogS) (e : EntD) : LogS :=
  match s.1.getLast? with
  | none => Je s e
  | some q => if lim < H8 q.2 + (Fg e).length then Je s e else (s.1.dropLast ++ [(q.1, q.2 ++ [(e.t, H8 q.2 + (Fg e).length)])], (CD s.2 (nameL q.1) (Fg e)).1)
def UW (q : Nat × List (Int × Nat)) : Prop := q.1 ≤ 72057594037927935 ∧ q.2 ≠ [] ∧ q.2.length ≤ 999999 ∧ H8 q.2 ≤ 137438953472
def Pm (lim : Nat) (s : LogS) (e : EntD) : Prop :=
  BN e = true ∧ s.2.fit ∧ s.1.length ≤ 999999 ∧ match s.1.getLast? with
  | none => (CD s.2 (nameL e.i.toNat) (Fg e)).2 = 0
  | some q => UW q ∧ (if lim < H8 q.2 + (Fg e).length then (CD s.2 (nameL e.i.toNat) (Fg e)).2 = 0 else (CD s.2 (nameL q.1) (Fg e)).2 = 0)
theorem Mm {α : Type} {l : List α} {a : α} (h : l.getLast? = some a) : l = l.dropLast ++ [a] := by
 rw [List.getLast?_eq_some_iff] at h
 obtain ⟨r, rfl⟩ := h
 simp
theorem RT {l : List (Int × Nat)} (h : l ≠ []) : ∃ m, l[l.length - 1]? = some m ∧ m.2 = H8 l ∧ (l.getLast?.map (·.1)).getD 0 = m.1 := by
  cases hl : l.getLast? with
  | none => exact absurd (List.getLast?_eq_none_iff.1 hl) h
  | some m => exact ⟨m, by rw [← List.getLast?_eq_getElem?]; exact hl, by unfold H8; rw [hl]; rfl, rfl⟩
theorem N1 {α : Type} {p : α × Nat} (h : p.2 = 0) : p = (p.1, 0) := by rw [← h]
theorem Wh {X : Ass} {p dk lim : Nat} {s : LogS} {e : EntD} {A : Option Addr} {c : Nat} (hX : EN X (.slice A e.d.length c) e.d) (tb : Tb) (hli : lim ≤ 1000000000) (h : Pm lim s e) : AV Tryz.prog 69 #[.pointer (some ⟨p, 0, none⟩), .agg #[.int .i64 e.k, .int .u64 e.t, .int .u64 e.i, .slice A e.d.length c, .int .i64 e.c]] [Ay p dk lim s.1, Ag dk s.2, Ao tb, X] (fun (_ : Unit) => .int .i64 0) (fun (_ : Unit) => [Ay p dk lim (Kx lim s e).1, Ag dk (Kx lim s e).2, Ao tb, X]) := by
  obtain ⟨hr, hd, hsl, h4⟩ := h
  obtain ⟨ss, d⟩ := s
  obtain ⟨_, hi, _⟩ := E1 hr
  have hle := DX hr
  have hfl := G1 hr
  have hei : e.i = (e.i.toNat : Int) := by omega
  have hf : e.i.toNat ≤ 72057594037927935 := by omega
  simp only at h4 hsl hd ⊢
  unfold Kx
  simp only
  cases hg : ss.getLast? with
  | none =>
    rw [hg] at h4
    simp only at h4 ⊢
    have h0 := List.getLast?_eq_none_iff.1 hg
    subst h0
    exact S5 (y := Fg e) hX hr hei hf (by omega) rfl (by omega) tb hd (N1 h4)
  | some q =>
    rw [hg] at h4
    simp only at h4 ⊢
    obtain ⟨⟨q1, q2, q3, q4⟩, h5⟩ := h4
    obtain ⟨m, hm1, hm2, _⟩ := RT q2
    have hss := Mm hg
    have hdl : ss.dropLast.length ≤ 999998 := by rw [List.length_dropLast]; omega
    by_cases hb : lim < H8 q.2 + (Fg e).length
    · rw [if_pos hb] at h5 ⊢
      have h6 := Wf (y := Fg e) (p := p) (dk := dk) (lim := lim) (ss := ss.dropLast) (f0 := q.1) (l := q.2) hX hr hei (by omega) q3 q1 q2 hm1 (by omega) hf (by omega) rfl (by omega) tb hd (N1 h5) (by rw [hm2]; exact hb)
      rw [show ss.dropLast ++ [(q.1, q.2)] = ss from hss.symm] at h6
      exact h6
    · rw [if_neg hb] at h5 ⊢
      have h6 := Wg (y := Fg e) (p := p) (dk := dk) (lim := lim) (ss := ss.dropLast) (f0 := q.1) (l := q.2) hX hr (by omega) q3 q1 q2 hm1 (by omega) (by omega) rfl (by omega) tb hd (N1 h5) (by rw [hm2]; exact Nat.le_of_not_lt hb) hli
      rw [show ss.dropLast ++ [(q.1, q.2)] = ss from hss.symm, hm2] at h6
      exact h6
def DG (ss : SegsM) : Int × Int := match ss.getLast? with | none => (0, 0) | some q => ((q.2.getLast?.map (·.1)).getD 0, ((q.1 + q.2.length - 1 : Nat) : Int))
def RU (ss : SegsM) : Prop := ss.length ≤ 1000000 ∧ match ss.getLast? with | none => True | some q => UW q
theorem Wi {p dk lim : Nat} {ss : SegsM} (h : RU ss) : AV Tryz.prog 66 #[.pointer (some ⟨p, 0, none⟩)] [Ay p dk lim ss] (fun (_ : Unit) => .agg #[.int .i64 0, .int .u64 (DG ss).1, .int .u64 (DG ss).2, .slice none 0 0, .int .i64 0]) (fun (_ : Unit) => [Ay p dk lim ss]) := by
  obtain ⟨hl, h4⟩ := h
  unfold DG
  cases hg : ss.getLast? with
  | none =>
    have h0 := List.getLast?_eq_none_iff.1 hg
    subst h0
    exact UN
  | some q =>
    rw [hg] at h4
    obtain ⟨q1, q2, q3, q4⟩ := h4
    obtain ⟨m, hm1, hm2, hm3⟩ := RT q2
    have hss := Mm hg
    have h6 := UM (p := p) (dk := dk) (lim := lim) (ss := ss.dropLast) (f := q.1) (l := q.2) (by rw [List.length_dropLast]; omega) (by omega) q1 q2 hm1
    rw [show ss.dropLast ++ [(q.1, q.2)] = ss from hss.symm] at h6
    simp only [hm3]
    exact h6
def C0 (lim : Nat) (s : LogS) (l : List EntV) : LogS := l.foldl (fun s z => Kx lim s z.e) s
theorem Nh {lim : Nat} {s : LogS} {l : List EntV} {j : Nat} {z : EntV} (h : l[j]? = some z) : C0 lim s (l.take (j + 1)) = Kx lim (C0 lim s (l.take j)) z.e := by
 unfold C0
 rw [List.take_add_one, h, List.foldl_append]
 rfl
def CM (m0 : Int × Int) (l : List EntV) (j : Nat) : Int × Int := match (l.take j).getLast? with | none => m0 | some z => (z.e.t, z.e.i)
theorem Pn {m0 : Int × Int} {l : List EntV} {j : Nat} {z : EntV} (h : l[j]? = some z) : CM m0 l (j + 1) = (z.e.t, z.e.i) := by
 unfold CM
 rw [List.take_add_one, h, List.getLast?_append]
 rfl
theorem GA {l : List EntV} {j : Nat} {z : EntV} (h : l[j]? = some z) : EN (AY (fun x : EntV => Aj 5 1 encB x.v x.e.d) l) (.slice z.A z.e.d.length z.c) z.e.d := fun rs w h1 h2 => by
 obtain ⟨ys, h3, h4⟩ := AY.at_ h1 h2 h
 exact In h3 h4
def Fh (q : Int × Int) (e : EntD) : Prop := (q.2 = 0 ∨ (q.2 ≠ 0 ∧ e.i = q.2 + 1 ∧ q.1 ≤ e.t)) ∧ 0 ≤ q.2 ∧ q.2 ≤ 72057594037927935
end Go.Proofs.YtjcfimmcogkopaaGreatDoor.Sep
namespace Go.Proofs.YtjcfimmcogkopaaGreatDoor.Sep
open Go.RowKit
open Go.Proofs.YtjcfimmcogkopaaGreatDoor.Mem (Bb Ci Chg Aw)
theorem Wj {Y : Ass} {p dk lim : Nat} {s : LogS} {l : List EntV} {j : Nat} {z : EntV} (tb : Tb) (hli : lim ≤ 1000000000) (hz : l[j]? = some z) (hY : EN Y (.slice z.A z.e.d.length z.c) z.e.d) (h : Pm lim (C0 lim s (l.take j)) z.e) : AV Tryz.prog 69 #[.pointer (some ⟨p, 0, none⟩), .agg #[.int .i64 z.e.k, .int .u64 z.e.t, .int .u64 z.e.i, .slice z.A z.e.d.length z.c, .int .i64 z.e.c]] [Ay p dk lim (C0 lim s (l.take j)).1, Ag dk (C0 lim s (l.take j)).2, Ao tb, Y] (fun (_ : Unit) => .int .i64 0) (fun (_ : Unit) => [Ay p dk lim (C0 lim s (l.take (j + 1))).1, Ag dk (C0 lim s (l.take (j + 1))).2, Ao tb, Y]) := by
 rw [Nh hz]
 exact Wh hY tb hli h
set_option maxRecDepth 100000 in
theorem JT {Y : Ass} {p dk lim : Nat} {s : LogS} {v : Value} {l : List EntV} (tb : Tb) (hli : lim ≤ 1000000000) (hll : l.length ≤ 1000000) (hend : RU s.1) (hfol : ∀ (j : Nat) (z : EntV), l[j]? = some z → Fh (CM (DG s.1) l j) z.e) (hY : ∀ (j : Nat) (z : EntV), l[j]? = some z → EN Y (.slice z.A z.e.d.length z.c) z.e.d) (hok : ∀ (j : Nat) (z : EntV), l[j]? = some z → Pm lim (C0 lim s (l.take j)) z.e) : AV Tryz.prog 21 #[.pointer (some ⟨p, 0, none⟩), v] [Ay p dk lim s.1, Ag dk s.2, Ao tb, Aj 53 5 encV v l, Y] (fun (_ : Unit) => .int .i64 0) (fun (_ : Unit) => [Ay p dk lim (C0 lim s l).1, Ag dk (C0 lim s l).2, Ao tb, Aj 53 5 encV v l, Y]) := by
 refine Bo (args := [.pointer (some ⟨p, 0, none⟩), v]) 43 Tryz.func21 rfl rfl rfl ?_; intro w rs
 refine Ad (Af Ae rfl (Ab (Ad (Af Ae rfl (Al rfl (As (os' := fun _ => [Ay p dk lim s.1, Ag dk s.2, Ao tb, Aj 53 5 encV v l, Y]) [0] 0 (Ai Tryz.func66 (by kernel_rfl) rfl) (Wi hend) rfl rfl rfl (fun _ => rfl) rfl rfl rfl) ?_))))); rintro ⟨⟩
 refine Al (post := fun gp => [cell gp 53 #[.int .i64 0, .int .u64 0, .int .u64 0, .slice none 0 0, .int .i64 0], Ay p dk lim s.1, Ag dk s.2, Ao tb, Aj 53 5 encV v l, Y]) rfl (Cl BQ rfl) ?_; rintro gp
 refine AR (post := fun _ => [cell gp 53 #[.int .i64 0, .int .u64 ((DG s.1).1), .int .u64 ((DG s.1).2), .slice none 0 0, .int .i64 0], Ay p dk lim s.1, Ag dk s.2, Ao tb, Aj 53 5 encV v l, Y]) rfl rfl (AZ 0 (v := .agg #[.int .i64 0, .int .u64 ((DG s.1).1), .int .u64 ((DG s.1).2), .slice none 0 0, .int .i64 0]) #[.int .i64 0, .int .u64 ((DG s.1).1), .int .u64 ((DG s.1).2), .slice none 0 0, .int .i64 0] B0.2 rfl rfl rfl rfl rfl rfl rfl rfl rfl) ?_; rintro ⟨⟩
 refine Ab (Ar (Ad (Af Ae rfl (Aa rfl (.int .i64 (l.length : Int)) (fun b w hb hH => Cv 4 Tryz.underlying39 rfl rfl rfl hH hb) (Af Ae rfl (Ab (AK (Bj [0] rfl (JQ (m := CM (DG s.1) l 0) rfl) rfl (AL.keep (env' := [(0, .pointer (some ⟨p, 0, none⟩)), (1, v), (4, .int .i64 0), (11, .pointer (some ⟨p, 0, none⟩)), (12, .agg #[.int .i64 0, .int .u64 ((DG s.1).1), .int .u64 ((DG s.1).2), .slice none 0 0, .int .i64 0]), (5, .pointer (some ⟨gp, 0, none⟩)), (13, v), (14, .int .i64 (l.length : Int)), (15, .int .i64 0)]) ⟨rfl, rfl, rfl, rfl, rfl, rfl, rfl, rfl, rfl, trivial⟩ (AL.mid [Cy gp (CM (DG s.1) l 0), Ay p dk lim s.1, Ag dk s.2, Ao tb, Aj 53 5 encV v l, Y] (.refl _) (CC (α := Nat) (fun j => [(0, .pointer (some ⟨p, 0, none⟩)), (1, v), (4, .int .i64 0), (5, .pointer (some ⟨gp, 0, none⟩)), (13, v), (14, .int .i64 (l.length : Int)), (15, .int .i64 (j : Int))]) (fun j => [Cy gp (CM (DG s.1) l j), Ay p dk lim s.1, Ag dk s.2, Ao tb, Aj 53 5 encV v l, Y]) (fun j => j ≤ l.length) (fun j => l.length - j) 0 (Nat.zero_le _) ⟨rfl, rfl, rfl, rfl, rfl, rfl, rfl, trivial⟩ rfl ?_)))))))))))
 rintro j hI
 refine AL.at_ (env' := [(0, .pointer (some ⟨p, 0, none⟩)), (1, v), (4, .int .i64 0), (5, .pointer (some ⟨gp, 0, none⟩)), (13, v), (14, .int .i64 (l.length : Int)), (15, .int .i64 (j : Int))]) (rs' := [Cy gp (CM (DG s.1) l j), Ay p dk lim s.1, Ag dk s.2, Ao tb, Aj 53 5 encV v l, Y]) ⟨rfl, rfl, rfl, rfl, rfl, rfl, rfl, trivial⟩ rfl ?_
 rcases Nat.lt_or_ge j l.length with hjN | hjN
 have hjl := hjN
 obtain ⟨z, hz⟩ : ∃ z, l[j]? = some z := ⟨_, List.getElem?_eq_getElem hjl⟩
 obtain ⟨hfo, hb0, hb1⟩ := hfol j z hz
 have hrz := (hok j z hz).1
 refine Ad (Af Ae rfl (Aa rfl (.bool true) (fun b w hb hH => A5 rfl rfl rfl (BY (by omega)) hb) (Ab (Ar (AE rfl (Av (AC (Ar (AK (Ad (Af Ae rfl (Aa rfl (AN v (j * 5)) (fun b w hb hH => EZ 4 AP Ea rfl j hjl rfl rfl rfl hH hb) (Aa rfl (.agg (encV z).toArray) (fun b w hb hH => Dp Ea (by decide) (hH.vec 4 rfl Ea) (j := j) hz B0 rfl rfl hb) (Al (post := fun gx => [cell gx 53 #[.int .i64 0, .int .u64 0, .int .u64 0, .slice none 0 0, .int .i64 0], Cy gp (CM (DG s.1) l j), Ay p dk lim s.1, Ag dk s.2, Ao tb, Aj 53 5 encV v l, Y]) rfl (Cl BQ rfl) ?_)))))))))))))); rintro gx
 refine AR (post := fun _ => [cell gx 53 #[.int .i64 z.e.k, .int .u64 z.e.t, .int .u64 z.e.i, z.v, .int .i64 z.e.c], Cy gp (CM (DG s.1) l j), Ay p dk lim s.1, Ag dk s.2, Ao tb, Aj 53 5 encV v l, Y]) rfl rfl (AZ 0 (v := .agg (encV z).toArray) #[.int .i64 z.e.k, .int .u64 z.e.t, .int .u64 z.e.i, z.v, .int .i64 z.e.c] B0.2 rfl rfl rfl rfl rfl rfl rfl rfl rfl) ?_; rintro ⟨⟩
 refine Ab (Ar (AX 1 rfl Cy.open_ (fun _ => rfl) ?_)); rintro q
 refine Ad (Af Ae rfl (Aa rfl (.agg #[.int .i64 z.e.k, .int .u64 z.e.t, .int .u64 z.e.i, z.v, .int .i64 z.e.c]) (fun b w hb hH => Ba rfl rfl (Ft (cs := [.int .i64 z.e.k, .int .u64 z.e.t, .int .u64 z.e.i, z.v, .int .i64 z.e.c]) B0 rfl) (hH.row 1 rfl) hb) (Al (post := fun _ => [cell gp 53 #[.int .i64 q.k, .int .u64 ((CM (DG s.1) l j).1), .int .u64 ((CM (DG s.1) l j).2), .slice q.A q.n q.c, .int .i64 q.z], cell gx 53 #[.int .i64 z.e.k, .int .u64 z.e.t, .int .u64 z.e.i, z.v, .int .i64 z.e.c], Ay p dk lim s.1, Ag dk s.2, Ao tb, Aj 53 5 encV v l, Y]) rfl (Bk (Ai Tryz.func67 (by kernel_rfl) rfl) (fun w hH => D0 w z (hH.rd8 6 rfl (hY j z hz)) true hrz) rfl rfl rfl) ?_))); rintro ⟨⟩
 refine Af Ae rfl (Aa rfl (.agg #[.int .i64 q.k, .int .u64 ((CM (DG s.1) l j).1), .int .u64 ((CM (DG s.1) l j).2), .slice q.A q.n q.c, .int .i64 q.z]) (fun b w hb hH => Ba rfl rfl (Ft (cs := [.int .i64 q.k, .int .u64 ((CM (DG s.1) l j).1), .int .u64 ((CM (DG s.1) l j).2), .slice q.A q.n q.c, .int .i64 q.z]) B0 rfl) (hH.row 0 rfl) hb) (Aa rfl (.agg #[.int .i64 z.e.k, .int .u64 z.e.t, .int .u64 z.e.i, z.v, .int .i64 z.e.c]) (fun b w hb hH => Ba rfl rfl (Ft (cs := [.int .i64 z.e.k, .int .u64 z.e.t, .int .u64 z.e.i, z.v, .int .i64 z.e.c]) B0 rfl) (hH.row 1 rfl) hb) (Al (post := fun _ => [cell gp 53 #[.int .i64 q.k, .int .u64 ((CM (DG s.1) l j).1), .int .u64 ((CM (DG s.1) l j).2), .slice q.A q.n q.c, .int .i64 q.z], cell gx 53 #[.int .i64 z.e.k, .int .u64 z.e.t, .int .u64 z.e.i, z.v, .int .i64 z.e.c], Ay p dk lim s.1, Ag dk s.2, Ao tb, Aj 53 5 encV v l, Y]) rfl (Bk (Ai Tryz.func68 (by kernel_rfl) rfl) (fun w hH => Kw w hfo ⟨hb0, hb1⟩) rfl rfl rfl) ?_))); rintro ⟨⟩
 refine Af Ae rfl (Ab (Au rfl (Av (AC (BB (Af Ae rfl (Aa rfl (.agg #[.int .i64 z.e.k, .int .u64 z.e.t, .int .u64 z.e.i, z.v, .int .i64 z.e.c]) (fun b w hb hH => Ba rfl rfl (Ft (cs := [.int .i64 z.e.k, .int .u64 z.e.t, .int .u64 z.e.i, z.v, .int .i64 z.e.c]) B0 rfl) (hH.row 1 rfl) hb) (AR (post := fun _ => [cell gp 53 #[.int .i64 z.e.k, .int .u64 z.e.t, .int .u64 z.e.i, z.v, .int .i64 z.e.c], cell gx 53 #[.int .i64 z.e.k, .int .u64 z.e.t, .int .u64 z.e.i, z.v, .int .i64 z.e.c], Ay p dk lim s.1, Ag dk s.2, Ao tb, Aj 53 5 encV v l, Y]) rfl rfl (AZ 0 (v := .agg #[.int .i64 z.e.k, .int .u64 z.e.t, .int .u64 z.e.i, z.v, .int .i64 z.e.c]) #[.int .i64 z.e.k, .int .u64 z.e.t, .int .u64 z.e.i, z.v, .int .i64 z.e.c] B0.2 rfl rfl rfl rfl rfl rfl rfl rfl rfl) ?_)))))))); rintro ⟨⟩
 refine AG (A6 (AC (Bj [0] rfl (JQ (m := CM (DG s.1) l (j + 1)) (Pn hz).symm) rfl (AL.leave [1] rfl rfl (AL.keep (env' := [(0, .pointer (some ⟨p, 0, none⟩)), (1, v), (4, .int .i64 0), (5, .pointer (some ⟨gp, 0, none⟩)), (13, v), (14, .int .i64 (l.length : Int)), (15, .int .i64 (j : Int)), (16, .bool true), (17, AN v (j * 5)), (18, .agg (encV z).toArray), (7, .pointer (some ⟨gx, 0, none⟩)), (19, .agg #[.int .i64 z.e.k, .int .u64 z.e.t, .int .u64 z.e.i, z.v, .int .i64 z.e.c]), (20, .bool true), (21, .bool false), (22, .bool false), (23, .agg #[.int .i64 q.k, .int .u64 ((CM (DG s.1) l j).1), .int .u64 ((CM (DG s.1) l j).2), .slice q.A q.n q.c, .int .i64 q.z]), (24, .agg #[.int .i64 z.e.k, .int .u64 z.e.t, .int .u64 z.e.i, z.v, .int .i64 z.e.c]), (25, .bool true), (26, .bool false), (27, .bool false), (28, .agg #[.int .i64 z.e.k, .int .u64 z.e.t, .int .u64 z.e.i, z.v, .int .i64 z.e.c])]) ⟨rfl, rfl, rfl, rfl, rfl, rfl, rfl, rfl, rfl, rfl, rfl, rfl, rfl, rfl, rfl, rfl, rfl, rfl, rfl, rfl, rfl, trivial⟩ (AL.mid [Cy gp (CM (DG s.1) l (j + 1)), Ay p dk lim s.1, Ag dk s.2, Ao tb, Aj 53 5 encV v l, Y] (.refl _) (BB (Af Ae rfl (Aa rfl (.int .i64 ((j + 1 : Nat) : Int)) (fun b w hb hH => AJ rfl rfl rfl rfl (by rw [IntWalk.i64_in _ (by omega)]; omega) hb) (Af Ae rfl (AG ?_)))))))))))
 exact B6 (j + 1) 0 (by omega) (show l.length - (j + 1) < l.length - j by omega) ⟨rfl, rfl, rfl, rfl, rfl, rfl, rfl, trivial⟩ rfl
 have hje : j = l.length := by omega
 refine Ad (Af Ae rfl (Aa rfl (.bool false) (fun b w hb hH => A5 rfl rfl rfl (BI (by omega)) hb) (Ab (Ar (Au rfl (CJ (Fq (Fq (Bg (AC (Ar (Ad (Af Ae rfl (Aa rfl (.int .i64 (l.length : Int)) (fun b w hb hH => Cv 4 Tryz.underlying39 rfl rfl rfl hH hb) (Af Ae rfl (Ab (AK (AL.leave [0] rfl rfl (AL.keep (env' := [(0, .pointer (some ⟨p, 0, none⟩)), (1, v), (4, .int .i64 0), (5, .pointer (some ⟨gp, 0, none⟩)), (13, v), (14, .int .i64 (l.length : Int)), (15, .int .i64 (j : Int)), (16, .bool false), (30, v), (31, .int .i64 (l.length : Int)), (32, .int .i64 0)]) ⟨rfl, rfl, rfl, rfl, rfl, rfl, rfl, rfl, rfl, rfl, rfl, trivial⟩ ?_)))))))))))))))))))
 refine AL.mid [Ay p dk lim (C0 lim s (l.take 0)).1, Ag dk (C0 lim s (l.take 0)).2, Ao tb, Aj 53 5 encV v l, Y] (.refl _) (CC (α := Nat) (fun j => [(0, .pointer (some ⟨p, 0, none⟩)), (4, .int .i64 0), (30, v), (31, .int .i64 (l.length : Int)), (32, .int .i64 (j : Int))]) (fun j => [Ay p dk lim (C0 lim s (l.take j)).1, Ag dk (C0 lim s (l.take j)).2, Ao tb, Aj 53 5 encV v l, Y]) (fun j => j ≤ l.length) (fun j => l.length - j) 0 (Nat.zero_le _) ⟨rfl, rfl, rfl, rfl, rfl, trivial⟩ rfl ?_)
 rintro j hI
 refine AL.at_ (env' := [(0, .pointer (some ⟨p, 0, none⟩)), (4, .int .i64 0), (30, v), (31, .int .i64 (l.length : Int)), (32, .int .i64 (j : Int))]) (rs' := [Ay p dk lim (C0 lim s (l.take j)).1, Ag dk (C0 lim s (l.take j)).2, Ao tb, Aj 53 5 encV v l, Y]) ⟨rfl, rfl, rfl, rfl, rfl, trivial⟩ rfl ?_
 rcases Nat.lt_or_ge j l.length with hjM | hjM
 have hjl := hjM
 obtain ⟨z, hz⟩ : ∃ z, l[j]? = some z := ⟨_, List.getElem?_eq_getElem hjl⟩
 obtain ⟨hfo, hb0, hb1⟩ := hfol j z hz
 have hrz := (hok j z hz).1
 refine Ad (Af Ae rfl (Aa rfl (.bool true) (fun b w hb hH => A5 rfl rfl rfl (BY (by omega)) hb) (Ab (Ar (AE rfl (Av (AC (Ar (AK (Ad (Af Ae rfl (Aa rfl (AN v (j * 5)) (fun b w hb hH => EZ 3 AP Ea rfl j hjl rfl rfl rfl hH hb) (Aa rfl (.agg (encV z).toArray) (fun b w hb hH => Dp Ea (by decide) (hH.vec 3 rfl Ea) (j := j) hz B0 rfl rfl hb) (Al (post := fun gx2 => [cell gx2 53 #[.int .i64 0, .int .u64 0, .int .u64 0, .slice none 0 0, .int .i64 0], Ay p dk lim (C0 lim s (l.take j)).1, Ag dk (C0 lim s (l.take j)).2, Ao tb, Aj 53 5 encV v l, Y]) rfl (Cl BQ rfl) ?_)))))))))))))); rintro gx2
 refine AR (post := fun _ => [cell gx2 53 #[.int .i64 z.e.k, .int .u64 z.e.t, .int .u64 z.e.i, z.v, .int .i64 z.e.c], Ay p dk lim (C0 lim s (l.take j)).1, Ag dk (C0 lim s (l.take j)).2, Ao tb, Aj 53 5 encV v l, Y]) rfl rfl (AZ 0 (v := .agg (encV z).toArray) #[.int .i64 z.e.k, .int .u64 z.e.t, .int .u64 z.e.i, z.v, .int .i64 z.e.c] B0.2 rfl rfl rfl rfl rfl rfl rfl rfl rfl) ?_; rintro ⟨⟩
 refine Ab (Ad (Af Ae rfl (Aa rfl (.agg #[.int .i64 z.e.k, .int .u64 z.e.t, .int .u64 z.e.i, z.v, .int .i64 z.e.c]) (fun b w hb hH => Ba rfl rfl (Ft (cs := [.int .i64 z.e.k, .int .u64 z.e.t, .int .u64 z.e.i, z.v, .int .i64 z.e.c]) B0 rfl) (hH.row 0 rfl) hb) (Al rfl (As (os' := fun _ => [cell gx2 53 #[.int .i64 z.e.k, .int .u64 z.e.t, .int .u64 z.e.i, z.v, .int .i64 z.e.c], Ay p dk lim (C0 lim s (l.take (j + 1))).1, Ag dk (C0 lim s (l.take (j + 1))).2, Ao tb, Aj 53 5 encV v l, Y]) [1, 2, 3, 5] 0 (Ai Tryz.func69 (by kernel_rfl) rfl) (Wj tb hli hz (hY j z hz) (hok j z hz)) rfl rfl rfl (fun _ => rfl) rfl rfl rfl) ?_)))); rintro ⟨⟩
 refine Af Ae rfl (Ab (Ad (Af Ae rfl (Aa rfl (.bool false) (fun b w hb hH => A5 rfl rfl rfl (Bn (by decide)) hb) (Ab (Au rfl (Av (A6 (AC (AL.leave [0] rfl rfl (AL.keep (env' := [(0, .pointer (some ⟨p, 0, none⟩)), (4, .int .i64 0), (30, v), (31, .int .i64 (l.length : Int)), (32, .int .i64 (j : Int)), (33, .bool true), (34, AN v (j * 5)), (35, .agg (encV z).toArray), (9, .pointer (some ⟨gx2, 0, none⟩)), (36, .pointer (some ⟨p, 0, none⟩)), (37, .agg #[.int .i64 z.e.k, .int .u64 z.e.t, .int .u64 z.e.i, z.v, .int .i64 z.e.c]), (38, .int .i64 0), (10, .int .i64 0), (39, .int .i64 0), (40, .bool false)]) ⟨rfl, rfl, rfl, rfl, rfl, rfl, rfl, rfl, rfl, rfl, rfl, rfl, rfl, rfl, rfl, trivial⟩ (AL.mid [Ay p dk lim (C0 lim s (l.take (j + 1))).1, Ag dk (C0 lim s (l.take (j + 1))).2, Ao tb, Aj 53 5 encV v l, Y] (.refl _) (BB (Af Ae rfl ?_))))))))))))))
 refine Aa rfl (.int .i64 ((j + 1 : Nat) : Int)) (fun b w hb hH => AJ rfl rfl rfl rfl (by rw [IntWalk.i64_in _ (by omega)]; omega) hb) (Af Ae rfl (AG ?_))
 exact B6 (j + 1) 0 (by omega) (show l.length - (j + 1) < l.length - j by omega) ⟨rfl, rfl, rfl, rfl, rfl, trivial⟩ rfl
 have hje : j = l.length := by omega
 refine Ad (Af Ae rfl (Aa rfl (.bool false) (fun b w hb hH => A5 rfl rfl rfl (BI (by omega)) hb) (Ab (Ar (Au rfl (CJ (Fq (Fq (Bg (AC (Ad (Af Ae rfl (Ab (AB ?_))))))))))))))
 exact AA (.tmp rfl) (fun w h => AH () rfl [0, 1, 2, 3, 4] rfl h (fun z hz => by have hz2 : Am [Ay p dk lim (C0 lim s (l.take j)).1, Ag dk (C0 lim s (l.take j)).2, Ao tb, Aj 53 5 encV v l, Y] z := hz; rw [hje, List.take_length] at hz2; exact ⟨z, .refl _, hz2⟩)) rfl
theorem Po {p dk lim : Nat} {s : LogS} {v : Value} {l : List EntV} (tb : Tb) (hli : lim ≤ 1000000000) (hll : l.length ≤ 1000000) (hend : RU s.1) (hfol : ∀ (j : Nat) (z : EntV), l[j]? = some z → Fh (CM (DG s.1) l j) z.e) (hok : ∀ (j : Nat) (z : EntV), l[j]? = some z → Pm lim (C0 lim s (l.take j)) z.e) : AV Tryz.prog 21 #[.pointer (some ⟨p, 0, none⟩), v] [Ay p dk lim s.1, Ag dk s.2, Ao tb, Cm 53 v l] (fun (_ : Unit) => .int .i64 0) (fun (_ : Unit) => [Ay p dk lim (C0 lim s l).1, Ag dk (C0 lim s l).2, Ao tb, Cm 53 v l]) := fun w rs h1 h2 h3 => by
 have h4 : ∀ {A B C : Ass} {rs : List RowT}, Am [A, B, C, Cm 53 v l] rs → Am [A, B, C, Aj 53 5 encV v l, AY (fun x : EntV => Aj 5 1 encB x.v x.e.d) l] rs := fun {A B C rs} h => by
  obtain ⟨a, b, e, h1, c, d, e2, h2, f, g, e3, h3, h4⟩ := h
  exact ⟨a, b, e, h1, c, d, e2, h2, f, g, e3, h3, Am.one' h4⟩
 have h5 : ∀ {A B C : Ass} {rs : List RowT}, Am [A, B, C, Aj 53 5 encV v l, AY (fun x : EntV => Aj 5 1 encB x.v x.e.d) l] rs → Am [A, B, C, Cm 53 v l] rs := fun {A B C rs} h => by
  obtain ⟨a, b, e, h1, c, d, e2, h2, f, g, e3, h3, h4⟩ := h
  exact ⟨a, b, e, h1, c, d, e2, h2, f, g, e3, h3, Am.one h4⟩
 exact (JT tb hli hll hend hfol (fun j z hz => GA hz) hok w rs (h4 h1) h2 h3).mono fun e w' ⟨x, he, rs', hp, hc⟩ => ⟨x, he, rs', h5 hp, hc⟩
end Go.Proofs.YtjcfimmcogkopaaGreatDoor.Sep
