/-
  SgE · SgG
-/
import Derived.Test.YtaipejaeeohpkaaGreatDoorUN02
set_option linter.unusedSimpArgs false
set_option linter.unusedVariables false
namespace Go.Proofs.YtaipejaeeohpkaaGreatDoor.Sep
open Go.RowKit
open Go.Proofs.YtaipejaeeohpkaaGreatDoor.Mem (Dist Blk Chg below0)
def sizeL (l : List (Int × Nat)) : Nat := (l.getLast?.map (·.2)).getD 0
def frE (e : EntD) : List UInt8 := frameL (layE e)
theorem frE_len {e : EntD} (h : rightE e = true) : (frE e).length = 8 + (layE e).length := frame_len (by have := layE_len h; omega)
abbrev LogS := SegsM × DiskD
def newSeg (s : LogS) (e : EntD) : LogS := (s.1 ++ [(e.i.toNat, [(e.t, (frE e).length)])], (appendD s.2 (nameL e.i.toNat) (frE e)).1)
def addM (lim : Nat) (s : LogS) (e : EntD) : LogS :=
  match s.1.getLast? with
  | none => newSeg s e
  | some q => if lim < sizeL q.2 + (frE e).length then newSeg s e else (s.1.dropLast ++ [(q.1, q.2 ++ [(e.t, sizeL q.2 + (frE e).length)])], (appendD s.2 (nameL q.1) (frE e)).1)
def SegOk (q : Nat × List (Int × Nat)) : Prop := q.1 ≤ 72057594037927935 ∧ q.2 ≠ [] ∧ q.2.length ≤ 999999 ∧ sizeL q.2 ≤ 137438953472
def AddOk (lim : Nat) (s : LogS) (e : EntD) : Prop :=
  rightE e = true ∧ s.2.fit ∧ s.1.length ≤ 999999 ∧ match s.1.getLast? with
  | none => (appendD s.2 (nameL e.i.toNat) (frE e)).2 = 0
  | some q => SegOk q ∧ (if lim < sizeL q.2 + (frE e).length then (appendD s.2 (nameL e.i.toNat) (frE e)).2 = 0 else (appendD s.2 (nameL q.1) (frE e)).2 = 0)
theorem last_split {α : Type} {l : List α} {a : α} (h : l.getLast? = some a) : l = l.dropLast ++ [a] := by
 rw [List.getLast?_eq_some_iff] at h
 obtain ⟨r, rfl⟩ := h
 simp
theorem size_at {l : List (Int × Nat)} (h : l ≠ []) : ∃ m, l[l.length - 1]? = some m ∧ m.2 = sizeL l ∧ (l.getLast?.map (·.1)).getD 0 = m.1 := by
  cases hl : l.getLast? with
  | none => exact absurd (List.getLast?_eq_none_iff.1 hl) h
  | some m => exact ⟨m, by rw [← List.getLast?_eq_getElem?]; exact hl, by unfold sizeL; rw [hl]; rfl, rfl⟩
theorem pair_of {α : Type} {p : α × Nat} (h : p.2 = 0) : p = (p.1, 0) := by rw [← h]
theorem add_any {X : Ass} {p dk lim : Nat} {s : LogS} {e : EntD} {A : Option Addr} {c : Nat} (hX : Rd8 X (.slice A e.d.length c) e.d) (tb : Tb) (hli : lim ≤ 1000000000) (h : AddOk lim s e) : Does Tryz.prog 46 #[.pointer (some ⟨p, 0, none⟩), .agg #[.int .i64 e.k, .int .u64 e.t, .int .u64 e.i, .slice A e.d.length c, .int .i64 e.c]] [LogT p dk lim s.1, DiskT dk s.2, TabZ tb, X] (fun (_ : Unit) => .int .i64 0) (fun (_ : Unit) => [LogT p dk lim (addM lim s e).1, DiskT dk (addM lim s e).2, TabZ tb, X]) := by
  obtain ⟨hr, hd, hsl, h4⟩ := h
  obtain ⟨ss, d⟩ := s
  obtain ⟨_, hi, _⟩ := rightE_iff hr
  have hle := layE_len hr
  have hfl := frE_len hr
  have hei : e.i = (e.i.toNat : Int) := by omega
  have hf : e.i.toNat ≤ 72057594037927935 := by omega
  simp only at h4 hsl hd ⊢
  unfold addM
  simp only
  cases hg : ss.getLast? with
  | none =>
    rw [hg] at h4
    simp only at h4 ⊢
    have h0 := List.getLast?_eq_none_iff.1 hg
    subst h0
    exact add_first (y := frE e) hX hr hei hf (by omega) rfl (by omega) tb hd (pair_of h4)
  | some q =>
    rw [hg] at h4
    simp only at h4 ⊢
    obtain ⟨⟨q1, q2, q3, q4⟩, h5⟩ := h4
    obtain ⟨m, hm1, hm2, _⟩ := size_at q2
    have hss := last_split hg
    have hdl : ss.dropLast.length ≤ 999998 := by rw [List.length_dropLast]; omega
    by_cases hb : lim < sizeL q.2 + (frE e).length
    · rw [if_pos hb] at h5 ⊢
      have h6 := add_new (y := frE e) (p := p) (dk := dk) (lim := lim) (ss := ss.dropLast) (f0 := q.1) (l := q.2) hX hr hei (by omega) q3 q1 q2 hm1 (by omega) hf (by omega) rfl (by omega) tb hd (pair_of h5) (by rw [hm2]; exact hb)
      rw [show ss.dropLast ++ [(q.1, q.2)] = ss from hss.symm] at h6
      exact h6
    · rw [if_neg hb] at h5 ⊢
      have h6 := add_old (y := frE e) (p := p) (dk := dk) (lim := lim) (ss := ss.dropLast) (f0 := q.1) (l := q.2) hX hr (by omega) q3 q1 q2 hm1 (by omega) (by omega) rfl (by omega) tb hd (pair_of h5) (by rw [hm2]; exact Nat.le_of_not_lt hb) hli
      rw [show ss.dropLast ++ [(q.1, q.2)] = ss from hss.symm, hm2] at h6
      exact h6
def endM (ss : SegsM) : Int × Int := match ss.getLast? with | none => (0, 0) | some q => ((q.2.getLast?.map (·.1)).getD 0, ((q.1 + q.2.length - 1 : Nat) : Int))
def EndOk (ss : SegsM) : Prop := ss.length ≤ 1000000 ∧ match ss.getLast? with | none => True | some q => SegOk q
theorem end_any {p dk lim : Nat} {ss : SegsM} (h : EndOk ss) : Does Tryz.prog 43 #[.pointer (some ⟨p, 0, none⟩)] [LogT p dk lim ss] (fun (_ : Unit) => .agg #[.int .i64 0, .int .u64 (endM ss).1, .int .u64 (endM ss).2, .slice none 0 0, .int .i64 0]) (fun (_ : Unit) => [LogT p dk lim ss]) := by
  obtain ⟨hl, h4⟩ := h
  unfold endM
  cases hg : ss.getLast? with
  | none =>
    have h0 := List.getLast?_eq_none_iff.1 hg
    subst h0
    exact end_none
  | some q =>
    rw [hg] at h4
    obtain ⟨q1, q2, q3, q4⟩ := h4
    obtain ⟨m, hm1, hm2, hm3⟩ := size_at q2
    have hss := last_split hg
    have h6 := end_does (p := p) (dk := dk) (lim := lim) (ss := ss.dropLast) (f := q.1) (l := q.2) (by rw [List.length_dropLast]; omega) (by omega) q1 q2 hm1
    rw [show ss.dropLast ++ [(q.1, q.2)] = ss from hss.symm] at h6
    simp only [hm3]
    exact h6
def addsM (lim : Nat) (s : LogS) (l : List EntV) : LogS := l.foldl (fun s z => addM lim s z.e) s
theorem adds_take {lim : Nat} {s : LogS} {l : List EntV} {j : Nat} {z : EntV} (h : l[j]? = some z) : addsM lim s (l.take (j + 1)) = addM lim (addsM lim s (l.take j)) z.e := by
 unfold addsM
 rw [List.take_add_one, h, List.foldl_append]
 rfl
def prevIT (m0 : Int × Int) (l : List EntV) (j : Nat) : Int × Int := match (l.take j).getLast? with | none => m0 | some z => (z.e.t, z.e.i)
theorem prevIT_next {m0 : Int × Int} {l : List EntV} {j : Nat} {z : EntV} (h : l[j]? = some z) : prevIT m0 l (j + 1) = (z.e.t, z.e.i) := by
 unfold prevIT
 rw [List.take_add_one, h, List.getLast?_append]
 rfl
theorem rd8_each {l : List EntV} {j : Nat} {z : EntV} (h : l[j]? = some z) : Rd8 (Each (fun x : EntV => Vec 5 1 encB x.v x.e.d) l) (.slice z.A z.e.d.length z.c) z.e.d := fun rs w h1 h2 => by
 obtain ⟨ys, h3, h4⟩ := Each.at_ h1 h2 h
 exact vec_sl8 h3 h4
def FolOk (q : Int × Int) (e : EntD) : Prop := (q.2 = 0 ∨ (q.2 ≠ 0 ∧ e.i = q.2 + 1 ∧ q.1 ≤ e.t)) ∧ 0 ≤ q.2 ∧ q.2 ≤ 72057594037927935
end Go.Proofs.YtaipejaeeohpkaaGreatDoor.Sep
namespace Go.Proofs.YtaipejaeeohpkaaGreatDoor.Sep
open Go.RowKit
open Go.Proofs.YtaipejaeeohpkaaGreatDoor.Mem (Dist Blk Chg below0)
theorem add_atX {Y : Ass} {p dk lim : Nat} {s : LogS} {l : List EntV} {j : Nat} {z : EntV} (tb : Tb) (hli : lim ≤ 1000000000) (hz : l[j]? = some z) (hY : Rd8 Y (.slice z.A z.e.d.length z.c) z.e.d) (h : AddOk lim (addsM lim s (l.take j)) z.e) : Does Tryz.prog 46 #[.pointer (some ⟨p, 0, none⟩), .agg #[.int .i64 z.e.k, .int .u64 z.e.t, .int .u64 z.e.i, .slice z.A z.e.d.length z.c, .int .i64 z.e.c]] [LogT p dk lim (addsM lim s (l.take j)).1, DiskT dk (addsM lim s (l.take j)).2, TabZ tb, Y] (fun (_ : Unit) => .int .i64 0) (fun (_ : Unit) => [LogT p dk lim (addsM lim s (l.take (j + 1))).1, DiskT dk (addsM lim s (l.take (j + 1))).2, TabZ tb, Y]) := by
 rw [adds_take hz]
 exact add_any hY tb hli h
set_option maxRecDepth 100000 in
theorem append_doesX {Y : Ass} {p dk lim : Nat} {s : LogS} {v : Value} {l : List EntV} (tb : Tb) (hli : lim ≤ 1000000000) (hll : l.length ≤ 1000000) (hend : EndOk s.1) (hfol : ∀ (j : Nat) (z : EntV), l[j]? = some z → FolOk (prevIT (endM s.1) l j) z.e) (hY : ∀ (j : Nat) (z : EntV), l[j]? = some z → Rd8 Y (.slice z.A z.e.d.length z.c) z.e.d) (hok : ∀ (j : Nat) (z : EntV), l[j]? = some z → AddOk lim (addsM lim s (l.take j)) z.e) : Does Tryz.prog 13 #[.pointer (some ⟨p, 0, none⟩), v] [LogT p dk lim s.1, DiskT dk s.2, TabZ tb, Vec 34 5 encV v l, Y] (fun (_ : Unit) => .int .i64 0) (fun (_ : Unit) => [LogT p dk lim (addsM lim s l).1, DiskT dk (addsM lim s l).2, TabZ tb, Vec 34 5 encV v l, Y]) := by
  refine d_ins (args := [.pointer (some ⟨p, 0, none⟩), v]) 43 Tryz.func13 rfl rfl rfl ?_; intro w rs
  refine d_reg ?_
  refine h_q hflT rfl ?_
  refine h_done (d_reg ?_)
  refine h_q hflT rfl ?_
  refine h_act (post := fun _ => [LogT p dk lim s.1, DiskT dk s.2, TabZ tb, Vec 34 5 encV v l, Y]) rfl (a_does (os' := fun _ => [LogT p dk lim s.1, DiskT dk s.2, TabZ tb, Vec 34 5 encV v l, Y]) [0] 0 (ent_of Tryz.func43 (by kernel_rfl) rfl) (end_any hend) rfl rfl rfl (fun _ => rfl) rfl rfl rfl) ?_; rintro ⟨⟩
  refine h_act (post := fun gp => [cell gp 34 #[.int .i64 0, .int .u64 0, .int .u64 0, .slice none 0 0, .int .i64 0], LogT p dk lim s.1, DiskT dk s.2, TabZ tb, Vec 34 5 encV v l, Y]) rfl (a_alloc ze_api_Entry rfl) ?_; rintro gp
  refine h_acts (post := fun _ => [cell gp 34 #[.int .i64 0, .int .u64 ((endM s.1).1), .int .u64 ((endM s.1).2), .slice none 0 0, .int .i64 0], LogT p dk lim s.1, DiskT dk s.2, TabZ tb, Vec 34 5 encV v l, Y]) rfl rfl (a_store 0 (v := .agg #[.int .i64 0, .int .u64 ((endM s.1).1), .int .u64 ((endM s.1).2), .slice none 0 0, .int .i64 0]) #[.int .i64 0, .int .u64 ((endM s.1).1), .int .u64 ((endM s.1).2), .slice none 0 0, .int .i64 0] tyEn.2 rfl rfl rfl rfl rfl rfl rfl rfl rfl) ?_; rintro ⟨⟩
  refine h_done (d_seq (d_reg ?_))
  refine h_q hflT rfl ?_
  refine h_val rfl (.int .i64 (l.length : Int)) (fun b w hb hH => e_vlen 4 Tryz.underlying52 rfl rfl rfl hH hb) ?_
  refine h_q hflT rfl ?_
  refine h_done (d_block ?_)
  refine d_close [0] rfl (prevT_mk (m := prevIT (endM s.1) l 0) rfl) rfl ?_
  refine WC2.keep (env' := [(0, .pointer (some ⟨p, 0, none⟩)), (1, v), (4, .int .i64 0), (11, .pointer (some ⟨p, 0, none⟩)), (12, .agg #[.int .i64 0, .int .u64 ((endM s.1).1), .int .u64 ((endM s.1).2), .slice none 0 0, .int .i64 0]), (5, .pointer (some ⟨gp, 0, none⟩)), (13, v), (14, .int .i64 (l.length : Int)), (15, .int .i64 0)]) ⟨rfl, rfl, rfl, rfl, rfl, rfl, rfl, rfl, rfl, trivial⟩ ?_
  refine WC2.mid [PrevT gp (prevIT (endM s.1) l 0), LogT p dk lim s.1, DiskT dk s.2, TabZ tb, Vec 34 5 encV v l, Y] (.refl _) ?_
  refine d_loop (α := Nat) (fun j => [(0, .pointer (some ⟨p, 0, none⟩)), (1, v), (4, .int .i64 0), (5, .pointer (some ⟨gp, 0, none⟩)), (13, v), (14, .int .i64 (l.length : Int)), (15, .int .i64 (j : Int))]) (fun j => [PrevT gp (prevIT (endM s.1) l j), LogT p dk lim s.1, DiskT dk s.2, TabZ tb, Vec 34 5 encV v l, Y]) (fun j => j ≤ l.length) (fun j => l.length - j) 0 (Nat.zero_le _) ⟨rfl, rfl, rfl, rfl, rfl, rfl, rfl, trivial⟩ rfl ?_
  rintro j hI
  refine WC2.at_ (env' := [(0, .pointer (some ⟨p, 0, none⟩)), (1, v), (4, .int .i64 0), (5, .pointer (some ⟨gp, 0, none⟩)), (13, v), (14, .int .i64 (l.length : Int)), (15, .int .i64 (j : Int))]) (rs' := [PrevT gp (prevIT (endM s.1) l j), LogT p dk lim s.1, DiskT dk s.2, TabZ tb, Vec 34 5 encV v l, Y]) ⟨rfl, rfl, rfl, rfl, rfl, rfl, rfl, trivial⟩ rfl ?_
  rcases Nat.lt_or_ge j l.length with hjN | hjN
  · skip
    have hjl := hjN
    obtain ⟨z, hz⟩ : ∃ z, l[j]? = some z := ⟨_, List.getElem?_eq_getElem hjl⟩
    obtain ⟨hfo, hb0, hb1⟩ := hfol j z hz
    have hrz := (hok j z hz).1
    refine d_reg ?_
    refine h_q hflT rfl ?_
    refine h_val rfl (.bool true) (fun b w hb hH => xCm rfl rfl rfl (cmp_lss_t (by omega)) hb) ?_
    refine h_done (d_seq (d_then rfl (d_skip (f_to (d_seq (d_block (d_reg ?_)))))))
    refine h_q hflT rfl ?_
    refine h_val rfl (elp v (j * 5)) (fun b w hb hH => e_vidx 4 sl_api_Entry okV rfl j hjl rfl rfl rfl hH hb) ?_
    refine h_val rfl (.agg (encV z).toArray) (fun b w hb hH => e_sagg okV (by decide) (hH.vec 4 rfl okV) (j := j) hz tyEn rfl rfl hb) ?_
    refine h_act (post := fun gx => [cell gx 34 #[.int .i64 0, .int .u64 0, .int .u64 0, .slice none 0 0, .int .i64 0], PrevT gp (prevIT (endM s.1) l j), LogT p dk lim s.1, DiskT dk s.2, TabZ tb, Vec 34 5 encV v l, Y]) rfl (a_alloc ze_api_Entry rfl) ?_; rintro gx
    refine h_acts (post := fun _ => [cell gx 34 #[.int .i64 z.e.k, .int .u64 z.e.t, .int .u64 z.e.i, z.v, .int .i64 z.e.c], PrevT gp (prevIT (endM s.1) l j), LogT p dk lim s.1, DiskT dk s.2, TabZ tb, Vec 34 5 encV v l, Y]) rfl rfl (a_store 0 (v := .agg (encV z).toArray) #[.int .i64 z.e.k, .int .u64 z.e.t, .int .u64 z.e.i, z.v, .int .i64 z.e.c] tyEn.2 rfl rfl rfl rfl rfl rfl rfl rfl rfl) ?_; rintro ⟨⟩
    refine h_done (d_seq ?_)
    refine d_open 1 rfl PrevT.open_ (fun _ => rfl) ?_; rintro q
    refine d_reg ?_
    refine h_q hflT rfl ?_
    refine h_val rfl (.agg #[.int .i64 z.e.k, .int .u64 z.e.t, .int .u64 z.e.i, z.v, .int .i64 z.e.c]) (fun b w hb hH => xLd rfl rfl (rAg (cs := [.int .i64 z.e.k, .int .u64 z.e.t, .int .u64 z.e.i, z.v, .int .i64 z.e.c]) tyEn rfl) (hH.row 1 rfl) hb) ?_
    refine h_act (post := fun _ => [cell gp 34 #[.int .i64 q.k, .int .u64 ((prevIT (endM s.1) l j).1), .int .u64 ((prevIT (endM s.1) l j).2), .slice q.A q.n q.c, .int .i64 q.z], cell gx 34 #[.int .i64 z.e.k, .int .u64 z.e.t, .int .u64 z.e.i, z.v, .int .i64 z.e.c], LogT p dk lim s.1, DiskT dk s.2, TabZ tb, Vec 34 5 encV v l, Y]) rfl (a_call (ent_of Tryz.func44 (by kernel_rfl) rfl) (fun w hH => rightE_any w z (hH.rd8 6 rfl (hY j z hz)) true hrz) rfl rfl rfl) ?_; rintro ⟨⟩
    refine h_q hflT rfl ?_
    refine h_val rfl (.agg #[.int .i64 q.k, .int .u64 ((prevIT (endM s.1) l j).1), .int .u64 ((prevIT (endM s.1) l j).2), .slice q.A q.n q.c, .int .i64 q.z]) (fun b w hb hH => xLd rfl rfl (rAg (cs := [.int .i64 q.k, .int .u64 ((prevIT (endM s.1) l j).1), .int .u64 ((prevIT (endM s.1) l j).2), .slice q.A q.n q.c, .int .i64 q.z]) tyEn rfl) (hH.row 0 rfl) hb) ?_
    refine h_val rfl (.agg #[.int .i64 z.e.k, .int .u64 z.e.t, .int .u64 z.e.i, z.v, .int .i64 z.e.c]) (fun b w hb hH => xLd rfl rfl (rAg (cs := [.int .i64 z.e.k, .int .u64 z.e.t, .int .u64 z.e.i, z.v, .int .i64 z.e.c]) tyEn rfl) (hH.row 1 rfl) hb) ?_
    refine h_act (post := fun _ => [cell gp 34 #[.int .i64 q.k, .int .u64 ((prevIT (endM s.1) l j).1), .int .u64 ((prevIT (endM s.1) l j).2), .slice q.A q.n q.c, .int .i64 q.z], cell gx 34 #[.int .i64 z.e.k, .int .u64 z.e.t, .int .u64 z.e.i, z.v, .int .i64 z.e.c], LogT p dk lim s.1, DiskT dk s.2, TabZ tb, Vec 34 5 encV v l, Y]) rfl (a_call (ent_of Tryz.func45 (by kernel_rfl) rfl) (fun w hH => follows_y w hfo ⟨hb0, hb1⟩) rfl rfl rfl) ?_; rintro ⟨⟩
    refine h_q hflT rfl ?_
    refine h_done (d_else rfl (d_skip (f_to (d_reg1 ?_))))
    refine h_q hflT rfl ?_
    refine h_val rfl (.agg #[.int .i64 z.e.k, .int .u64 z.e.t, .int .u64 z.e.i, z.v, .int .i64 z.e.c]) (fun b w hb hH => xLd rfl rfl (rAg (cs := [.int .i64 z.e.k, .int .u64 z.e.t, .int .u64 z.e.i, z.v, .int .i64 z.e.c]) tyEn rfl) (hH.row 1 rfl) hb) ?_
    refine h_acts (post := fun _ => [cell gp 34 #[.int .i64 z.e.k, .int .u64 z.e.t, .int .u64 z.e.i, z.v, .int .i64 z.e.c], cell gx 34 #[.int .i64 z.e.k, .int .u64 z.e.t, .int .u64 z.e.i, z.v, .int .i64 z.e.c], LogT p dk lim s.1, DiskT dk s.2, TabZ tb, Vec 34 5 encV v l, Y]) rfl rfl (a_store 0 (v := .agg #[.int .i64 z.e.k, .int .u64 z.e.t, .int .u64 z.e.i, z.v, .int .i64 z.e.c]) #[.int .i64 z.e.k, .int .u64 z.e.t, .int .u64 z.e.i, z.v, .int .i64 z.e.c] tyEn.2 rfl rfl rfl rfl rfl rfl rfl rfl rfl) ?_; rintro ⟨⟩
    refine h_nil (f_block (f_to ?_))
    refine d_close [0] rfl (prevT_mk (m := prevIT (endM s.1) l (j + 1)) (prevIT_next hz).symm) rfl ?_
    refine WC2.leave [1] rfl rfl ?_
    refine WC2.keep (env' := [(0, .pointer (some ⟨p, 0, none⟩)), (1, v), (4, .int .i64 0), (5, .pointer (some ⟨gp, 0, none⟩)), (13, v), (14, .int .i64 (l.length : Int)), (15, .int .i64 (j : Int)), (16, .bool true), (17, elp v (j * 5)), (18, .agg (encV z).toArray), (7, .pointer (some ⟨gx, 0, none⟩)), (19, .agg #[.int .i64 z.e.k, .int .u64 z.e.t, .int .u64 z.e.i, z.v, .int .i64 z.e.c]), (20, .bool true), (21, .bool false), (22, .bool false), (23, .agg #[.int .i64 q.k, .int .u64 ((prevIT (endM s.1) l j).1), .int .u64 ((prevIT (endM s.1) l j).2), .slice q.A q.n q.c, .int .i64 q.z]), (24, .agg #[.int .i64 z.e.k, .int .u64 z.e.t, .int .u64 z.e.i, z.v, .int .i64 z.e.c]), (25, .bool true), (26, .bool false), (27, .bool false), (28, .agg #[.int .i64 z.e.k, .int .u64 z.e.t, .int .u64 z.e.i, z.v, .int .i64 z.e.c])]) ⟨rfl, rfl, rfl, rfl, rfl, rfl, rfl, rfl, rfl, rfl, rfl, rfl, rfl, rfl, rfl, rfl, rfl, rfl, rfl, rfl, rfl, trivial⟩ ?_
    refine WC2.mid [PrevT gp (prevIT (endM s.1) l (j + 1)), LogT p dk lim s.1, DiskT dk s.2, TabZ tb, Vec 34 5 encV v l, Y] (.refl _) ?_
    refine d_reg1 ?_
    refine h_q hflT rfl ?_
    refine h_val rfl (.int .i64 ((j + 1 : Nat) : Int)) (fun b w hb hH => exec_ar rfl rfl rfl rfl (by rw [IntWalk.i64_in _ (by omega)]; omega) hb) ?_
    refine h_q hflT rfl ?_
    refine h_nil ?_
    exact f_again (j + 1) 0 (by omega) (show l.length - (j + 1) < l.length - j by omega) ⟨rfl, rfl, rfl, rfl, rfl, rfl, rfl, trivial⟩ rfl
  · skip
    have hje : j = l.length := by omega
    refine d_reg ?_
    refine h_q hflT rfl ?_
    refine h_val rfl (.bool false) (fun b w hb hH => xCm rfl rfl rfl (cmp_lss_f (by omega)) hb) ?_
    refine h_done (d_seq (d_else rfl (d_exit (fTe (fTe (f_block_exit (f_to (d_seq (d_reg ?_)))))))))
    refine h_q hflT rfl ?_
    refine h_val rfl (.int .i64 (l.length : Int)) (fun b w hb hH => e_vlen 4 Tryz.underlying52 rfl rfl rfl hH hb) ?_
    refine h_q hflT rfl ?_
    refine h_done (d_block ?_)
    refine WC2.leave [0] rfl rfl ?_
    refine WC2.keep (env' := [(0, .pointer (some ⟨p, 0, none⟩)), (1, v), (4, .int .i64 0), (5, .pointer (some ⟨gp, 0, none⟩)), (13, v), (14, .int .i64 (l.length : Int)), (15, .int .i64 (j : Int)), (16, .bool false), (30, v), (31, .int .i64 (l.length : Int)), (32, .int .i64 0)]) ⟨rfl, rfl, rfl, rfl, rfl, rfl, rfl, rfl, rfl, rfl, rfl, trivial⟩ ?_
    refine WC2.mid [LogT p dk lim (addsM lim s (l.take 0)).1, DiskT dk (addsM lim s (l.take 0)).2, TabZ tb, Vec 34 5 encV v l, Y] (.refl _) ?_
    refine d_loop (α := Nat) (fun j => [(0, .pointer (some ⟨p, 0, none⟩)), (4, .int .i64 0), (30, v), (31, .int .i64 (l.length : Int)), (32, .int .i64 (j : Int))]) (fun j => [LogT p dk lim (addsM lim s (l.take j)).1, DiskT dk (addsM lim s (l.take j)).2, TabZ tb, Vec 34 5 encV v l, Y]) (fun j => j ≤ l.length) (fun j => l.length - j) 0 (Nat.zero_le _) ⟨rfl, rfl, rfl, rfl, rfl, trivial⟩ rfl ?_
    rintro j hI
    refine WC2.at_ (env' := [(0, .pointer (some ⟨p, 0, none⟩)), (4, .int .i64 0), (30, v), (31, .int .i64 (l.length : Int)), (32, .int .i64 (j : Int))]) (rs' := [LogT p dk lim (addsM lim s (l.take j)).1, DiskT dk (addsM lim s (l.take j)).2, TabZ tb, Vec 34 5 encV v l, Y]) ⟨rfl, rfl, rfl, rfl, rfl, trivial⟩ rfl ?_
    rcases Nat.lt_or_ge j l.length with hjM | hjM
    · skip
      have hjl := hjM
      obtain ⟨z, hz⟩ : ∃ z, l[j]? = some z := ⟨_, List.getElem?_eq_getElem hjl⟩
      obtain ⟨hfo, hb0, hb1⟩ := hfol j z hz
      have hrz := (hok j z hz).1
      refine d_reg ?_
      refine h_q hflT rfl ?_
      refine h_val rfl (.bool true) (fun b w hb hH => xCm rfl rfl rfl (cmp_lss_t (by omega)) hb) ?_
      refine h_done (d_seq (d_then rfl (d_skip (f_to (d_seq (d_block (d_reg ?_)))))))
      refine h_q hflT rfl ?_
      refine h_val rfl (elp v (j * 5)) (fun b w hb hH => e_vidx 3 sl_api_Entry okV rfl j hjl rfl rfl rfl hH hb) ?_
      refine h_val rfl (.agg (encV z).toArray) (fun b w hb hH => e_sagg okV (by decide) (hH.vec 3 rfl okV) (j := j) hz tyEn rfl rfl hb) ?_
      refine h_act (post := fun gx2 => [cell gx2 34 #[.int .i64 0, .int .u64 0, .int .u64 0, .slice none 0 0, .int .i64 0], LogT p dk lim (addsM lim s (l.take j)).1, DiskT dk (addsM lim s (l.take j)).2, TabZ tb, Vec 34 5 encV v l, Y]) rfl (a_alloc ze_api_Entry rfl) ?_; rintro gx2
      refine h_acts (post := fun _ => [cell gx2 34 #[.int .i64 z.e.k, .int .u64 z.e.t, .int .u64 z.e.i, z.v, .int .i64 z.e.c], LogT p dk lim (addsM lim s (l.take j)).1, DiskT dk (addsM lim s (l.take j)).2, TabZ tb, Vec 34 5 encV v l, Y]) rfl rfl (a_store 0 (v := .agg (encV z).toArray) #[.int .i64 z.e.k, .int .u64 z.e.t, .int .u64 z.e.i, z.v, .int .i64 z.e.c] tyEn.2 rfl rfl rfl rfl rfl rfl rfl rfl rfl) ?_; rintro ⟨⟩
      refine h_done (d_reg ?_)
      refine h_q hflT rfl ?_
      refine h_val rfl (.agg #[.int .i64 z.e.k, .int .u64 z.e.t, .int .u64 z.e.i, z.v, .int .i64 z.e.c]) (fun b w hb hH => xLd rfl rfl (rAg (cs := [.int .i64 z.e.k, .int .u64 z.e.t, .int .u64 z.e.i, z.v, .int .i64 z.e.c]) tyEn rfl) (hH.row 0 rfl) hb) ?_
      refine h_act (post := fun _ => [cell gx2 34 #[.int .i64 z.e.k, .int .u64 z.e.t, .int .u64 z.e.i, z.v, .int .i64 z.e.c], LogT p dk lim (addsM lim s (l.take (j + 1))).1, DiskT dk (addsM lim s (l.take (j + 1))).2, TabZ tb, Vec 34 5 encV v l, Y]) rfl (a_does (os' := fun _ => [cell gx2 34 #[.int .i64 z.e.k, .int .u64 z.e.t, .int .u64 z.e.i, z.v, .int .i64 z.e.c], LogT p dk lim (addsM lim s (l.take (j + 1))).1, DiskT dk (addsM lim s (l.take (j + 1))).2, TabZ tb, Vec 34 5 encV v l, Y]) [1, 2, 3, 5] 0 (ent_of Tryz.func46 (by kernel_rfl) rfl) (add_atX tb hli hz (hY j z hz) (hok j z hz)) rfl rfl rfl (fun _ => rfl) rfl rfl rfl) ?_; rintro ⟨⟩
      refine h_q hflT rfl ?_
      refine h_done (d_reg ?_)
      refine h_q hflT rfl ?_
      refine h_val rfl (.bool false) (fun b w hb hH => xCm rfl rfl rfl (cmp_neq_f (by decide)) hb) ?_
      refine h_done (d_else rfl (d_skip (f_block (f_to ?_))))
      refine WC2.leave [0] rfl rfl ?_
      refine WC2.keep (env' := [(0, .pointer (some ⟨p, 0, none⟩)), (4, .int .i64 0), (30, v), (31, .int .i64 (l.length : Int)), (32, .int .i64 (j : Int)), (33, .bool true), (34, elp v (j * 5)), (35, .agg (encV z).toArray), (9, .pointer (some ⟨gx2, 0, none⟩)), (36, .pointer (some ⟨p, 0, none⟩)), (37, .agg #[.int .i64 z.e.k, .int .u64 z.e.t, .int .u64 z.e.i, z.v, .int .i64 z.e.c]), (38, .int .i64 0), (10, .int .i64 0), (39, .int .i64 0), (40, .bool false)]) ⟨rfl, rfl, rfl, rfl, rfl, rfl, rfl, rfl, rfl, rfl, rfl, rfl, rfl, rfl, rfl, trivial⟩ ?_
      refine WC2.mid [LogT p dk lim (addsM lim s (l.take (j + 1))).1, DiskT dk (addsM lim s (l.take (j + 1))).2, TabZ tb, Vec 34 5 encV v l, Y] (.refl _) ?_
      refine d_reg1 ?_
      refine h_q hflT rfl ?_
      refine h_val rfl (.int .i64 ((j + 1 : Nat) : Int)) (fun b w hb hH => exec_ar rfl rfl rfl rfl (by rw [IntWalk.i64_in _ (by omega)]; omega) hb) ?_
      refine h_q hflT rfl ?_
      refine h_nil ?_
      exact f_again (j + 1) 0 (by omega) (show l.length - (j + 1) < l.length - j by omega) ⟨rfl, rfl, rfl, rfl, rfl, trivial⟩ rfl
    · skip
      have hje : j = l.length := by omega
      refine d_reg ?_
      refine h_q hflT rfl ?_
      refine h_val rfl (.bool false) (fun b w hb hH => xCm rfl rfl rfl (cmp_lss_f (by omega)) hb) ?_
      refine h_done (d_seq (d_else rfl (d_exit (fTe (fTe (f_block_exit (f_to (d_reg ?_))))))))
      refine h_q hflT rfl ?_
      refine h_done (d_ret ?_)
      exact f_fin1 (.tmp rfl) (fun w h => tells () rfl [0, 1, 2, 3, 4] rfl h (fun z hz => by have hz2 : Parts [LogT p dk lim (addsM lim s (l.take j)).1, DiskT dk (addsM lim s (l.take j)).2, TabZ tb, Vec 34 5 encV v l, Y] z := hz; rw [hje, List.take_length] at hz2; exact ⟨z, .refl _, hz2⟩)) rfl
theorem append_does {p dk lim : Nat} {s : LogS} {v : Value} {l : List EntV} (tb : Tb) (hli : lim ≤ 1000000000) (hll : l.length ≤ 1000000) (hend : EndOk s.1) (hfol : ∀ (j : Nat) (z : EntV), l[j]? = some z → FolOk (prevIT (endM s.1) l j) z.e) (hok : ∀ (j : Nat) (z : EntV), l[j]? = some z → AddOk lim (addsM lim s (l.take j)) z.e) : Does Tryz.prog 13 #[.pointer (some ⟨p, 0, none⟩), v] [LogT p dk lim s.1, DiskT dk s.2, TabZ tb, Ents 34 v l] (fun (_ : Unit) => .int .i64 0) (fun (_ : Unit) => [LogT p dk lim (addsM lim s l).1, DiskT dk (addsM lim s l).2, TabZ tb, Ents 34 v l]) := fun w rs h1 h2 h3 => by
 have h4 : ∀ {A B C : Ass} {rs : List RowT}, Parts [A, B, C, Ents 34 v l] rs → Parts [A, B, C, Vec 34 5 encV v l, Each (fun x : EntV => Vec 5 1 encB x.v x.e.d) l] rs := fun {A B C rs} h => by
  obtain ⟨a, b, e, h1, c, d, e2, h2, f, g, e3, h3, h4⟩ := h
  exact ⟨a, b, e, h1, c, d, e2, h2, f, g, e3, h3, Parts.one' h4⟩
 have h5 : ∀ {A B C : Ass} {rs : List RowT}, Parts [A, B, C, Vec 34 5 encV v l, Each (fun x : EntV => Vec 5 1 encB x.v x.e.d) l] rs → Parts [A, B, C, Ents 34 v l] rs := fun {A B C rs} h => by
  obtain ⟨a, b, e, h1, c, d, e2, h2, f, g, e3, h3, h4⟩ := h
  exact ⟨a, b, e, h1, c, d, e2, h2, f, g, e3, h3, Parts.one h4⟩
 exact (append_doesX tb hli hll hend hfol (fun j z hz => rd8_each hz) hok w rs (h4 h1) h2 h3).mono fun e w' ⟨x, he, rs', hp, hc⟩ => ⟨x, he, rs', h5 hp, hc⟩
end Go.Proofs.YtaipejaeeohpkaaGreatDoor.Sep
