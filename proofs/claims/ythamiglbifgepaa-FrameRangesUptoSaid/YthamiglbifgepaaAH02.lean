/-
  FrmQ
-/
import Derived.Test.YthamiglbifgepaaAG02
import Derived.Test.YthamiglbifgepaaAH01
set_option linter.unusedSimpArgs false
set_option linter.unusedVariables false

namespace Go.Proofs.Ythamiglbifgepaa.Sep
open Go.RowKit
open Go.Proofs.Ythamiglbifgepaa.Mem (Dist Blk Chg below0)

/-- what has been told so far -/
def TldF (gg gm : Nat) (most : Int) (P : List (List UInt8)) : Ass := fun rs => ∃ x : PsV, Parts [cell gg 25 #[x.v], PartsT 23 x.v x.l, cell gm 3 #[.int .i64 most], fact (x.l.map (·.2) = P)] rs
theorem TldF.open_ {gg gm : Nat} {most : Int} {P : List (List UInt8)} : ∀ rs, TldF gg gm most P rs → ∃ x : PsV, Parts [cell gg 25 #[x.v], PartsT 23 x.v x.l, cell gm 3 #[.int .i64 most], fact (x.l.map (·.2) = P)] rs := fun _ h => h
theorem tldf_mk {gg gm : Nat} {most : Int} {P : List (List UInt8)} (x : PsV) (h : x.l.map (·.2) = P) : ∀ rs, Parts [cell gg 25 #[x.v], PartsT 23 x.v x.l, cell gm 3 #[.int .i64 most]] rs → TldF gg gm most P rs := fun _ hz => ⟨x, fact_add h hz⟩

set_option maxRecDepth 100000 in
theorem tldf1 (gg gm : Nat) (most : Int) (P : List (List UInt8)) {d : Value} {x : List UInt8} {c : Bool} (hn : P.length ≤ 1000) (hc : decide (((P.length + 1 : Nat) : Int) < most) = c) : Does Try.prog 17 #[d, .pointer (some ⟨gg, 0, none⟩), .pointer (some ⟨gm, 0, none⟩)] [TldF gg gm most P, Vec 5 1 encB d x] (fun (_ : Unit) => .bool c) (fun (_ : Unit) => [TldF gg gm most (P ++ [x])]) := by
  refine d_ins (args := [d, .pointer (some ⟨gg, 0, none⟩), .pointer (some ⟨gm, 0, none⟩)]) 13 Try.func17 rfl rfl rfl ?_; intro w rs
  refine d_open 0 rfl TldF.open_ (fun _ => rfl) ?_; rintro p
  refine WC2.fact 3 rfl (fun _ h => h.2) ?_; rintro hP
  refine WC2.leave [3] rfl rfl ?_
  have hpl : p.l.length = P.length := by rw [← hP, List.length_map]
  refine d_open 1 rfl prts_open (fun _ => rfl) ?_; rintro ⟨⟩
  refine d_reg ?_
  refine h_q hflS rfl ?_
  refine h_done (d_reg ?_)
  refine h_q hflS rfl ?_
  refine h_val rfl (p.v) (fun b w hb hH => exec_load rfl rfl (reads_one ty_s_s_uint8 rfl) (hH.row 2 rfl) hb) ?_
  refine h_q hflS rfl ?_
  refine h_act (X := Value) (val := fun v : Value => v) (post := fun b1 => [Vec 23 1 encW b1 ([d]), Vec 23 1 encW p.v (p.l.map (·.1)), Each (fun x : PtT => Vec 5 1 encB x.1 x.2) p.l, cell gg 25 #[p.v], cell gm 3 #[.int .i64 most], Vec 5 1 encB d x]) rfl (by exact a_buildV 4 sl_s_uint8 rfl rfl rfl) ?_; rintro b1
  refine h_act (post := fun p1 => [Vec 23 1 encW b1 ([d]), Vec 23 1 encW p1 (p.l.map (·.1) ++ [d]), Each (fun x : PtT => Vec 5 1 encB x.1 x.2) p.l, cell gg 25 #[p.v], cell gm 3 #[.int .i64 most], Vec 5 1 encB d x]) rfl (a_append 1 sl_s_uint8 okW rfl ([d]) (fun w hH => hH.vec 0 rfl okW) (by simp only [List.length_map, List.length_cons, List.length_nil]; omega) rfl rfl rfl rfl) ?_; rintro p1
  refine h_acts (post := fun _ => [Vec 23 1 encW b1 ([d]), Vec 23 1 encW p1 (p.l.map (·.1) ++ [d]), Each (fun x : PtT => Vec 5 1 encB x.1 x.2) p.l, cell gg 25 #[p1], cell gm 3 #[.int .i64 most], Vec 5 1 encB d x]) rfl rfl (a_storev 3 1 (v := p1) #[p1] ty_s_s_uint8.2 rfl (fun _ h => Vec.c1 h) rfl rfl rfl rfl rfl rfl rfl) ?_; rintro ⟨⟩
  refine h_done ?_
  refine WC2.leave [0] rfl rfl ?_
  refine d_close [0, 1, 4] rfl prts_push rfl ?_
  refine d_reg ?_
  refine h_q hflS rfl ?_
  refine h_val rfl (p1) (fun b w hb hH => exec_load rfl rfl (reads_one ty_s_s_uint8 rfl) (hH.row 1 rfl) hb) ?_
  refine h_val rfl (.int .i64 ((p.l ++ [(d, x)]).length : Int)) (fun b w hb hH => e_plen 0 Try.underlying25 rfl rfl rfl hH hb) ?_
  refine h_val rfl (.int .i64 most) (fun b w hb hH => exec_load rfl rfl (reads_one ty_int rfl) (hH.row 2 rfl) hb) ?_
  refine h_val rfl (.bool c) (fun b w hb hH => exec_cmp rfl rfl rfl (congrArg some (by rw [← hc]; exact decide_eq_decide.2 (by simp only [List.length_append, List.length_map, List.length_cons, List.length_nil]; omega))) hb) ?_
  refine h_q hflS rfl ?_
  refine h_done (d_ret ?_)
  exact f_fin1 (.tmp rfl) (fun w h => tells () rfl [1, 0, 2] rfl h (fun z hz => ⟨z, .refl _, Parts.one (tldf_mk ⟨p1, p.l ++ [(d, x)]⟩ (by rw [List.map_append, hP]; rfl) z hz)⟩)) rfl

theorem tldf_go (gg gm m : Nat) {ps : List (List UInt8)} {j : Nat} {x : List UInt8} {d : Value} {c : Bool} (hm : m ≤ 12) (hpj : ps[j]? = some x) (hj : j < m) (hc : decide (j + 1 < m) = c) : Does Try.prog 17 (([d] : List Value) ++ ([.pointer (some ⟨gg, 0, none⟩), .pointer (some ⟨gm, 0, none⟩)] : List Value)).toArray [TldF gg gm (m : Int) (ps.take j), Vec 5 1 encB d x] (fun _ : Unit => .bool c) (fun _ : Unit => [TldF gg gm (m : Int) (ps.take (j + 1))]) := by
  have hl : (ps.take j).length = j := by
    have := (List.getElem?_eq_some_iff.1 hpj).1
    rw [List.length_take]; omega
  have h := tldf1 gg gm (m : Int) (ps.take j) (d := d) (x := x) (c := c) (by omega) (by rw [← hc, hl]; exact decide_eq_decide.2 (by omega))
  rwa [take_pushP hpj] at h

set_option maxRecDepth 100000 in
theorem frameranges_true (w : World) (y : List UInt8) (A : Option Addr) (c : Nat) (hy8 : Sl8 w (.slice A y.length c) y) (hyl : y.length ≤ 1048576) (v1 : Value) (l1 : List PtV) (hv1 : PtsRd w v1 l1) (hl1 : l1.length ≤ 9223372036854775807) (hd1 : ∀ x, x ∈ l1 → x.d.length ≤ 140737488351232) (most : Int) (hmo : -9223372036854775808 ≤ most ∧ most ≤ 9223372036854775807) : Calls Try.prog 7 #[.slice A y.length c, v1, .int .i64 most] w fun e w' => e = .returned (.bool true) ∧ Below w.heap.size w w' := by
  obtain ⟨j, hj⟩ : ∃ j : Nat, most % 12 = (j : Int) := ⟨(most % 12).toNat, by omega⟩
  have hj12 : j < 12 := by omega
  refine d_in (args := [.slice A y.length c, v1, .int .i64 most]) 68 Try.func7 rfl rfl rfl ?_
  refine d_reg ?_
  refine h_q hflS rfl ?_
  refine h_act (post := fun gm => [cell gm 3 #[.int .i64 most]]) rfl (a_box (cs := #[.int .i64 most]) rfl rfl rfl) ?_; rintro gm
  refine h_q hflS rfl ?_
  refine h_done (d_reg ?_)
  refine h_q hflS rfl ?_
  refine h_act (X := Value) (val := fun v : Value => v) (post := fun o0 => [Vec 5 1 encB o0 ([]), cell gm 3 #[.int .i64 most]]) rfl (by refine a_build0 (e := 5) (t := 23) (k := 1) (enc := encB) ?_ ?_; exact sl_uint8; exact rfl) ?_; rintro o0
  refine h_q hflS rfl ?_
  refine h_act (post := fun xv0 => [Vec 5 1 encB xv0 y, cell gm 3 #[.int .i64 most]]) rfl (a_append8 0 sl_uint8 (by kernel_rfl) rfl (y) (fun w hH => (hy8.below (hH.up.below (Nat.le_refl _) (fun _ h => h.elim))).rd) (by simp only [List.length_nil]; omega) rfl rfl rfl (List.nil_append _)) ?_; rintro xv0
  refine h_q hflS rfl ?_
  refine h_done (d_seq ?_)
  rcases Nat.eq_zero_or_pos l1.length with h0 | h0
  · skip
    refine d_reg ?_
    refine h_q hflS rfl ?_
    refine h_val rfl (.int .i64 (l1.length : Int)) (fun b w hb hH => e_slen ((argPs0 hv1 hH).1) Try.underlying25 rfl rfl hb) ?_
    refine h_val rfl (.bool false) (fun b w hb hH => exec_cmp rfl rfl rfl (cmp_gtr_f (by omega)) hb) ?_
    refine h_done (d_else rfl (d_skip (f_to ?_)))
    have hbb : y.length ≤ 137438953472 := by omega
    refine d_reg ?_
    refine h_q hflS rfl ?_
    refine h_act (post := fun (x : PsV) => [PartsT 23 x.v x.l, fact (x.l.map (·.2) = (listL (y)).1), Vec 5 1 encB xv0 y, cell gm 3 #[.int .i64 most]]) rfl (a_does (os' := fun (x : PsV) => [PartsT 23 x.v x.l, fact (x.l.map (·.2) = (listL (y)).1), Vec 5 1 encB xv0 y, cell gm 3 #[.int .i64 most]]) [0] 0 (ent_of Try.func12 (by kernel_rfl) rfl) (list_does rd8_vec (by omega) rfl) rfl rfl rfl (fun _ => rfl) rfl rfl rfl) ?_; rintro x
    refine WL2.fact 1 rfl (fun _ h => h.2) ?_; rintro hl
    refine WL2.leave [1] rfl rfl ?_
    refine h_q hflS rfl ?_
    refine h_done (d_reg ?_)
    refine h_q hflS rfl ?_
    refine h_val rfl (.int .i64 most) (fun b w hb hH => exec_load rfl rfl (reads_one ty_int rfl) (hH.row 2 rfl) hb) ?_
    refine h_act (post := fun _ => [PartsT 23 x.v x.l, Vec 5 1 encB xv0 y, cell gm 3 #[.int .i64 most]]) rfl (a_call (ent_of Try.func11 (by kernel_rfl) rfl) (fun w hH => pick w most 12 hmo (by decide) hj) rfl rfl rfl) ?_; rintro ⟨⟩
    refine h_val rfl (.int .i64 ((j + 1 : Nat) : Int)) (fun b w hb hH => exec_ar rfl rfl rfl rfl (by rw [IntWalk.i64_in _ (by omega)]; omega) hb) ?_
    refine h_acts (post := fun _ => [PartsT 23 x.v x.l, Vec 5 1 encB xv0 y, cell gm 3 #[.int .i64 ((j + 1 : Nat) : Int)]]) rfl rfl (a_store 2 (v := .int .i64 ((j + 1 : Nat) : Int)) #[.int .i64 ((j + 1 : Nat) : Int)] ty_int.2 rfl rfl rfl rfl rfl rfl rfl rfl rfl) ?_; rintro ⟨⟩
    refine h_done ?_
    rcases Nat.lt_or_ge j (listL (y)).1.length with hjl | hjl
    · skip
      refine d_reg ?_
      refine h_q hflS rfl ?_
      refine h_act (post := fun gg => [cell gg 25 #[.slice none 0 0], PartsT 23 x.v x.l, Vec 5 1 encB xv0 y, cell gm 3 #[.int .i64 ((j + 1 : Nat) : Int)]]) rfl (a_alloc ze_s_s_uint8 rfl) ?_; rintro gg
      refine h_done (d_seq (d_reg ?_))
      refine h_q hflS rfl ?_
      refine h_act (post := fun _ => [cell gg 25 #[.slice none 0 0], PartsT 23 x.v x.l, Vec 5 1 encB xv0 y, cell gm 3 #[.int .i64 ((j + 1 : Nat) : Int)]]) rfl (a_call (ent_of Try.func8 (by kernel_rfl) rfl) (fun w hH => known8_true w) rfl rfl rfl) ?_; rintro ⟨⟩
      refine h_q hflS rfl ?_
      refine h_act rfl (a_does  [2] 0 (ent_of Try.func16 (by kernel_rfl) rfl) (all_does rd8_vec (by omega)) rfl rfl rfl (fun _ => rfl) rfl rfl rfl) ?_; rintro ⟨g1, k1⟩
      refine WL2.keep (env' := [(0, .slice A y.length c), (1, v1), (2, .int .i64 most), (5, .pointer (some ⟨gm, 0, none⟩)), (6, .bool false), (12, o0), (13, .slice A y.length c), (14, xv0), (7, xv0), (15, v1), (16, .int .i64 (l1.length : Int)), (17, .bool false), (39, xv0), (40, .tuple #[x.v, .int .i64 ((listL (y)).2 : Int)]), (38, .tuple #[x.v, .int .i64 ((listL (y)).2 : Int)]), (41, x.v), (42, .int .i64 ((listL (y)).2 : Int)), (9, x.v), (10, .int .i64 ((listL (y)).2 : Int)), (43, .int .i64 most), (44, .int .i64 (j : Int)), (45, .int .i64 ((j + 1 : Nat) : Int)), (11, .pointer (some ⟨gg, 0, none⟩)), (46, .bool true), (47, .bool false), (48, .bool false), (49, xv0), (50, .func (.func 23) #[] #[.pointer (some ⟨g1, 0, none⟩)])]) ⟨rfl, rfl, rfl, rfl, rfl, rfl, rfl, rfl, rfl, rfl, rfl, rfl, rfl, rfl, rfl, rfl, rfl, rfl, rfl, rfl, rfl, rfl, rfl, rfl, rfl, rfl, rfl, rfl, trivial⟩ ?_
      refine WL2.mid [cell g1 23 #[k1], Vec 5 1 encB k1 y, cell gg 25 #[.slice none 0 0], PartsT 23 x.v x.l, Vec 5 1 encB xv0 y, cell gm 3 #[.int .i64 ((j + 1 : Nat) : Int)]] (.refl _) ?_
      refine h_val rfl (.bool false) (fun b w hb hH => exec_fnil_eql Try.underlying36 rfl rfl rfl hb) ?_
      refine h_q hflS rfl ?_
      refine h_done (d_else rfl (d_skip (f_to ?_)))
      refine WC2.leave [0, 1] rfl rfl ?_
      refine d_new (t := PartsT 23 (.slice none 0 0) ([])) (prts_nil) ?_
      refine d_close [1, 0, 4] rfl (tldf_mk (P := (listL (y)).1.take 0) ⟨.slice none 0 0, []⟩ rfl) rfl ?_
      refine d_reg ?_
      refine h_q hflS rfl ?_
      refine h_act rfl (a_does  [2] 0 (ent_of Try.func16 (by kernel_rfl) rfl) (all_does rd8_vec (by omega)) rfl rfl rfl (fun _ => rfl) rfl rfl rfl) ?_; rintro ⟨g2, k2⟩
      refine WL2.keep (env' := [(0, .slice A y.length c), (1, v1), (2, .int .i64 most), (5, .pointer (some ⟨gm, 0, none⟩)), (6, .bool false), (12, o0), (13, .slice A y.length c), (14, xv0), (7, xv0), (15, v1), (16, .int .i64 (l1.length : Int)), (17, .bool false), (39, xv0), (40, .tuple #[x.v, .int .i64 ((listL (y)).2 : Int)]), (38, .tuple #[x.v, .int .i64 ((listL (y)).2 : Int)]), (41, x.v), (42, .int .i64 ((listL (y)).2 : Int)), (9, x.v), (10, .int .i64 ((listL (y)).2 : Int)), (43, .int .i64 most), (44, .int .i64 (j : Int)), (45, .int .i64 ((j + 1 : Nat) : Int)), (11, .pointer (some ⟨gg, 0, none⟩)), (46, .bool true), (47, .bool false), (48, .bool false), (49, xv0), (50, .func (.func 23) #[] #[.pointer (some ⟨g1, 0, none⟩)]), (51, .bool false), (52, .bool false), (53, xv0), (54, .func (.func 23) #[] #[.pointer (some ⟨g2, 0, none⟩)])]) ⟨rfl, rfl, rfl, rfl, rfl, rfl, rfl, rfl, rfl, rfl, rfl, rfl, rfl, rfl, rfl, rfl, rfl, rfl, rfl, rfl, rfl, rfl, rfl, rfl, rfl, rfl, rfl, rfl, rfl, rfl, rfl, rfl, trivial⟩ ?_
      refine WL2.mid [cell g2 23 #[k2], Vec 5 1 encB k2 y, TldF gg gm ((j + 1 : Nat) : Int) ((listL (y)).1.take 0), PartsT 23 x.v x.l, Vec 5 1 encB xv0 y] (.refl _) ?_
      refine WL2.fact 1 rfl (fun _ h => Vec.is h) ?_; rintro ⟨A9, c9, rfl⟩
      refine h_val rfl (.func (.func 17) #[] #[.pointer (some ⟨gg, 0, none⟩), .pointer (some ⟨gm, 0, none⟩)]) (fun b w hb hH => e_func rfl rfl hb) ?_
      refine h_act (post := fun _ => [cell g2 23 #[.slice A9 (y).length c9], Vec 5 1 encB (.slice A9 (y).length c9) y, TldF gg gm ((j + 1 : Nat) : Int) ((listL (y)).1.take (j + 1)), PartsT 23 x.v x.l, Vec 5 1 encB xv0 y]) rfl (a_doesc (os' := fun _ => [cell g2 23 #[.slice A9 (y).length c9], Vec 5 1 encB (.slice A9 (y).length c9) y, TldF gg gm ((j + 1 : Nat) : Int) ((listL (y)).1.take (j + 1)), PartsT 23 x.v x.l, Vec 5 1 encB xv0 y]) (vs := [.func (.func 17) #[] #[.pointer (some ⟨gg, 0, none⟩), .pointer (some ⟨gm, 0, none⟩)]]) (caps := [.pointer (some ⟨g2, 0, none⟩)]) [0, 1, 2] 0 (ent_of Try.func23 (by kernel_rfl) rfl) (all1S (N := j) g2 (by omega) rfl (list_parts _ _) 17 ([.pointer (some ⟨gg, 0, none⟩), .pointer (some ⟨gm, 0, none⟩)] : List Value) (ent_of Try.func17 (by kernel_rfl) rfl) (fun q : Nat => TldF gg gm ((j + 1 : Nat) : Int) ((listL (y)).1.take q)) (by omega) (fun q z d hq hqj => tldf_go gg gm (j + 1) (by omega) hq (by omega) (decide_eq_true (by omega))) (fun q z d hq hqj => tldf_go gg gm (j + 1) (by omega) hq (by omega) (decide_eq_false (by omega)))) rfl rfl rfl (fun _ => rfl) rfl rfl rfl) ?_; rintro ⟨⟩
      refine h_done ?_
      refine d_open 2 rfl TldF.open_ (fun _ => rfl) ?_; rintro q
      refine WC2.fact 3 rfl (fun _ h => h.2) ?_; rintro hq
      refine WC2.leave [3] rfl rfl ?_
      have hlx := congrArg List.length hl
      rw [List.length_map] at hlx
      have hqx := congrArg List.length hq
      rw [List.length_map, List.length_take] at hqx
      refine d_seq ?_
      refine d_parS 11 2 [⟨.actv 0, [some false, some false], fun _ => .bool true, []⟩, ⟨.quiet, [some true, none], fun _ => .bool true, [0]⟩, ⟨.quiet, [some true, none], fun _ => q.v, [1]⟩, ⟨.quiet, [some true, none], fun _ => x.v, [1]⟩, ⟨.quiet, [some true, none], fun _ => .int .i64 ((j + 1 : Nat) : Int), [1]⟩, ⟨.quiet, [some true, none], fun _ => x.v, [1]⟩, ⟨.quiet, [some true, none], fun _ => .int .i64 (x.l.length : Int), [5, 1]⟩, ⟨.quiet, [some true, none], fun _ => .int .i64 (((j + 1) : Nat) : Int), [4, 6, 1]⟩, ⟨.quiet, [some true, none], fun _ => subv 1 x.v 0 (j + 1), [3, 7, 1]⟩, ⟨.actv 1, [some true, some false], fun _ => .bool true, [2, 8, 1]⟩, ⟨.quiet, [some true, some true], fun _ => .bool true, [1, 9]⟩] [(5, .pointer (some ⟨gm, 0, none⟩)), (6, .bool false), (9, x.v), (11, .pointer (some ⟨gg, 0, none⟩))] (fun ρ => match ρ with | [r0, r1] => [cell gg 25 #[q.v], PartsT 23 q.v q.l, cell gm 3 #[.int .i64 ((j + 1 : Nat) : Int)], cell g2 23 #[.slice A9 (y).length c9], Vec 5 1 encB (.slice A9 (y).length c9) y, PartsT 23 x.v x.l, Vec 5 1 encB xv0 y] | _ => []) (by kernel_rfl) (by kernel_rfl) ⟨rfl, rfl, rfl, rfl, trivial⟩ rfl ?_ ?_
      · skip
        refine s_cons (by exact ⟨rfl, Acts.su (a_call (ent_of Try.func8 (by kernel_rfl) rfl) (fun w hH => known8_true w) rfl rfl rfl) rfl⟩) ?_
        refine s_cons (by intro v0_ r1_; exact ⟨rfl, fun b w hH hb => exec_q1 hflS rfl hb⟩) ?_
        refine s_cons (by intro v0_ r1_; exact ⟨rfl, fun b w hH hb => exec_load rfl rfl (reads_one ty_s_s_uint8 rfl) (hH.row 0 rfl) hb⟩) ?_
        refine s_cons (by intro v0_ r1_; exact ⟨rfl, fun b w hH hb => exec_q1 hflS rfl hb⟩) ?_
        refine s_cons (by intro v0_ r1_; exact ⟨rfl, fun b w hH hb => exec_load rfl rfl (reads_one ty_int rfl) (hH.row 2 rfl) hb⟩) ?_
        refine s_cons (by intro v0_ r1_; exact ⟨rfl, fun b w hH hb => exec_q1 hflS rfl hb⟩) ?_
        refine s_cons (by intro v0_ r1_; exact ⟨rfl, fun b w hH hb => e_plen 5 Try.underlying25 rfl rfl rfl hH hb⟩) ?_
        refine s_cons (by intro v0_ r1_; exact ⟨rfl, fun b w hH hb => exec_builtin2 rfl rfl (fun cs => (fun w cs => run_min2 (by split <;> omega) _ _ w cs) w cs) hb⟩) ?_
        refine s_cons (by intro v0_ r1_; exact ⟨rfl, fun b w hH hb => e_psub_hi 5 (b := (j + 1)) sl_s_uint8 rfl (by omega) rfl rfl rfl hH hb⟩) ?_
        refine s_cons (by intro v0_; exact ⟨rfl, Acts.su (a_does (os' := fun _ => [cell gg 25 #[q.v], PartsT 23 q.v q.l, cell gm 3 #[.int .i64 ((j + 1 : Nat) : Int)], cell g2 23 #[.slice A9 (y).length c9], Vec 5 1 encB (.slice A9 (y).length c9) y, PartsT 23 x.v x.l, Vec 5 1 encB xv0 y]) [1, 5] 0 (ent_of Try.func14 (by kernel_rfl) rfl) (same_does rdPs_all (rdPs_take (by omega)) (by rw [List.length_map]; omega) (by rw [ptOf_ds, ptOf_ds, hq, List.map_take, hl, beq_self_eq_true])) rfl rfl rfl (fun _ => rfl) rfl rfl rfl) rfl⟩) ?_
        refine s_cons (by intro v0_ v1_; exact ⟨rfl, fun b w hH hb => exec_q1 hflS rfl hb⟩) ?_
        exact s_nil
      intro v0_ v1_
      refine WL2.keep (env' := [(6, .bool false), (67, .bool true)]) ⟨rfl, rfl, trivial⟩ ?_
      refine h_q hflS rfl ?_
      refine h_nil (f_to (d_ret ?_))
      exact f_fin1 (.tmp rfl) (fun w h => ⟨rfl, below0 h.up⟩) rfl
    · skip
      refine d_reg ?_
      refine h_q hflS rfl ?_
      refine h_act (post := fun gg => [cell gg 25 #[.slice none 0 0], PartsT 23 x.v x.l, Vec 5 1 encB xv0 y, cell gm 3 #[.int .i64 ((j + 1 : Nat) : Int)]]) rfl (a_alloc ze_s_s_uint8 rfl) ?_; rintro gg
      refine h_done (d_seq (d_reg ?_))
      refine h_q hflS rfl ?_
      refine h_act (post := fun _ => [cell gg 25 #[.slice none 0 0], PartsT 23 x.v x.l, Vec 5 1 encB xv0 y, cell gm 3 #[.int .i64 ((j + 1 : Nat) : Int)]]) rfl (a_call (ent_of Try.func8 (by kernel_rfl) rfl) (fun w hH => known8_true w) rfl rfl rfl) ?_; rintro ⟨⟩
      refine h_q hflS rfl ?_
      refine h_act rfl (a_does  [2] 0 (ent_of Try.func16 (by kernel_rfl) rfl) (all_does rd8_vec (by omega)) rfl rfl rfl (fun _ => rfl) rfl rfl rfl) ?_; rintro ⟨g1, k1⟩
      refine WL2.keep (env' := [(0, .slice A y.length c), (1, v1), (2, .int .i64 most), (5, .pointer (some ⟨gm, 0, none⟩)), (6, .bool false), (12, o0), (13, .slice A y.length c), (14, xv0), (7, xv0), (15, v1), (16, .int .i64 (l1.length : Int)), (17, .bool false), (39, xv0), (40, .tuple #[x.v, .int .i64 ((listL (y)).2 : Int)]), (38, .tuple #[x.v, .int .i64 ((listL (y)).2 : Int)]), (41, x.v), (42, .int .i64 ((listL (y)).2 : Int)), (9, x.v), (10, .int .i64 ((listL (y)).2 : Int)), (43, .int .i64 most), (44, .int .i64 (j : Int)), (45, .int .i64 ((j + 1 : Nat) : Int)), (11, .pointer (some ⟨gg, 0, none⟩)), (46, .bool true), (47, .bool false), (48, .bool false), (49, xv0), (50, .func (.func 23) #[] #[.pointer (some ⟨g1, 0, none⟩)])]) ⟨rfl, rfl, rfl, rfl, rfl, rfl, rfl, rfl, rfl, rfl, rfl, rfl, rfl, rfl, rfl, rfl, rfl, rfl, rfl, rfl, rfl, rfl, rfl, rfl, rfl, rfl, rfl, rfl, trivial⟩ ?_
      refine WL2.mid [cell g1 23 #[k1], Vec 5 1 encB k1 y, cell gg 25 #[.slice none 0 0], PartsT 23 x.v x.l, Vec 5 1 encB xv0 y, cell gm 3 #[.int .i64 ((j + 1 : Nat) : Int)]] (.refl _) ?_
      refine h_val rfl (.bool false) (fun b w hb hH => exec_fnil_eql Try.underlying36 rfl rfl rfl hb) ?_
      refine h_q hflS rfl ?_
      refine h_done (d_else rfl (d_skip (f_to ?_)))
      refine WC2.leave [0, 1] rfl rfl ?_
      refine d_new (t := PartsT 23 (.slice none 0 0) ([])) (prts_nil) ?_
      refine d_close [1, 0, 4] rfl (tldf_mk (P := (listL (y)).1.take 0) ⟨.slice none 0 0, []⟩ rfl) rfl ?_
      refine d_reg ?_
      refine h_q hflS rfl ?_
      refine h_act rfl (a_does  [2] 0 (ent_of Try.func16 (by kernel_rfl) rfl) (all_does rd8_vec (by omega)) rfl rfl rfl (fun _ => rfl) rfl rfl rfl) ?_; rintro ⟨g2, k2⟩
      refine WL2.keep (env' := [(0, .slice A y.length c), (1, v1), (2, .int .i64 most), (5, .pointer (some ⟨gm, 0, none⟩)), (6, .bool false), (12, o0), (13, .slice A y.length c), (14, xv0), (7, xv0), (15, v1), (16, .int .i64 (l1.length : Int)), (17, .bool false), (39, xv0), (40, .tuple #[x.v, .int .i64 ((listL (y)).2 : Int)]), (38, .tuple #[x.v, .int .i64 ((listL (y)).2 : Int)]), (41, x.v), (42, .int .i64 ((listL (y)).2 : Int)), (9, x.v), (10, .int .i64 ((listL (y)).2 : Int)), (43, .int .i64 most), (44, .int .i64 (j : Int)), (45, .int .i64 ((j + 1 : Nat) : Int)), (11, .pointer (some ⟨gg, 0, none⟩)), (46, .bool true), (47, .bool false), (48, .bool false), (49, xv0), (50, .func (.func 23) #[] #[.pointer (some ⟨g1, 0, none⟩)]), (51, .bool false), (52, .bool false), (53, xv0), (54, .func (.func 23) #[] #[.pointer (some ⟨g2, 0, none⟩)])]) ⟨rfl, rfl, rfl, rfl, rfl, rfl, rfl, rfl, rfl, rfl, rfl, rfl, rfl, rfl, rfl, rfl, rfl, rfl, rfl, rfl, rfl, rfl, rfl, rfl, rfl, rfl, rfl, rfl, rfl, rfl, rfl, rfl, trivial⟩ ?_
      refine WL2.mid [cell g2 23 #[k2], Vec 5 1 encB k2 y, TldF gg gm ((j + 1 : Nat) : Int) ((listL (y)).1.take 0), PartsT 23 x.v x.l, Vec 5 1 encB xv0 y] (.refl _) ?_
      refine WL2.fact 1 rfl (fun _ h => Vec.is h) ?_; rintro ⟨A9, c9, rfl⟩
      refine h_val rfl (.func (.func 17) #[] #[.pointer (some ⟨gg, 0, none⟩), .pointer (some ⟨gm, 0, none⟩)]) (fun b w hb hH => e_func rfl rfl hb) ?_
      refine h_act (post := fun _ => [cell g2 23 #[.slice A9 (y).length c9], Vec 5 1 encB (.slice A9 (y).length c9) y, TldF gg gm ((j + 1 : Nat) : Int) ((listL (y)).1.take (listL (y)).1.length), PartsT 23 x.v x.l, Vec 5 1 encB xv0 y]) rfl (a_doesc (os' := fun _ => [cell g2 23 #[.slice A9 (y).length c9], Vec 5 1 encB (.slice A9 (y).length c9) y, TldF gg gm ((j + 1 : Nat) : Int) ((listL (y)).1.take (listL (y)).1.length), PartsT 23 x.v x.l, Vec 5 1 encB xv0 y]) (vs := [.func (.func 17) #[] #[.pointer (some ⟨gg, 0, none⟩), .pointer (some ⟨gm, 0, none⟩)]]) (caps := [.pointer (some ⟨g2, 0, none⟩)]) [0, 1, 2] 0 (ent_of Try.func23 (by kernel_rfl) rfl) (all1 g2 (by omega) rfl (list_parts _ _) 17 ([.pointer (some ⟨gg, 0, none⟩), .pointer (some ⟨gm, 0, none⟩)] : List Value) (ent_of Try.func17 (by kernel_rfl) rfl) (fun q : Nat => TldF gg gm ((j + 1 : Nat) : Int) ((listL (y)).1.take q)) rfl (fun q z d hq => tldf_go gg gm (j + 1) (by omega) hq (by have := (List.getElem?_eq_some_iff.1 hq).1; omega) (by have := (List.getElem?_eq_some_iff.1 hq).1; exact decide_eq_true (by omega)))) rfl rfl rfl (fun _ => rfl) rfl rfl rfl) ?_; rintro ⟨⟩
      refine h_done ?_
      refine d_open 2 rfl TldF.open_ (fun _ => rfl) ?_; rintro q
      refine WC2.fact 3 rfl (fun _ h => h.2) ?_; rintro hq
      refine WC2.leave [3] rfl rfl ?_
      have hlx := congrArg List.length hl
      rw [List.length_map] at hlx
      have hqx := congrArg List.length hq
      rw [List.length_map, List.length_take] at hqx
      refine d_seq ?_
      refine d_parS 11 2 [⟨.actv 0, [some false, some false], fun _ => .bool true, []⟩, ⟨.quiet, [some true, none], fun _ => .bool true, [0]⟩, ⟨.quiet, [some true, none], fun _ => q.v, [1]⟩, ⟨.quiet, [some true, none], fun _ => x.v, [1]⟩, ⟨.quiet, [some true, none], fun _ => .int .i64 ((j + 1 : Nat) : Int), [1]⟩, ⟨.quiet, [some true, none], fun _ => x.v, [1]⟩, ⟨.quiet, [some true, none], fun _ => .int .i64 (x.l.length : Int), [5, 1]⟩, ⟨.quiet, [some true, none], fun _ => .int .i64 (((listL (y)).1.length : Nat) : Int), [4, 6, 1]⟩, ⟨.quiet, [some true, none], fun _ => subv 1 x.v 0 ((listL (y)).1.length), [3, 7, 1]⟩, ⟨.actv 1, [some true, some false], fun _ => .bool true, [2, 8, 1]⟩, ⟨.quiet, [some true, some true], fun _ => .bool true, [1, 9]⟩] [(5, .pointer (some ⟨gm, 0, none⟩)), (6, .bool false), (9, x.v), (11, .pointer (some ⟨gg, 0, none⟩))] (fun ρ => match ρ with | [r0, r1] => [cell gg 25 #[q.v], PartsT 23 q.v q.l, cell gm 3 #[.int .i64 ((j + 1 : Nat) : Int)], cell g2 23 #[.slice A9 (y).length c9], Vec 5 1 encB (.slice A9 (y).length c9) y, PartsT 23 x.v x.l, Vec 5 1 encB xv0 y] | _ => []) (by kernel_rfl) (by kernel_rfl) ⟨rfl, rfl, rfl, rfl, trivial⟩ rfl ?_ ?_
      · skip
        refine s_cons (by exact ⟨rfl, Acts.su (a_call (ent_of Try.func8 (by kernel_rfl) rfl) (fun w hH => known8_true w) rfl rfl rfl) rfl⟩) ?_
        refine s_cons (by intro v0_ r1_; exact ⟨rfl, fun b w hH hb => exec_q1 hflS rfl hb⟩) ?_
        refine s_cons (by intro v0_ r1_; exact ⟨rfl, fun b w hH hb => exec_load rfl rfl (reads_one ty_s_s_uint8 rfl) (hH.row 0 rfl) hb⟩) ?_
        refine s_cons (by intro v0_ r1_; exact ⟨rfl, fun b w hH hb => exec_q1 hflS rfl hb⟩) ?_
        refine s_cons (by intro v0_ r1_; exact ⟨rfl, fun b w hH hb => exec_load rfl rfl (reads_one ty_int rfl) (hH.row 2 rfl) hb⟩) ?_
        refine s_cons (by intro v0_ r1_; exact ⟨rfl, fun b w hH hb => exec_q1 hflS rfl hb⟩) ?_
        refine s_cons (by intro v0_ r1_; exact ⟨rfl, fun b w hH hb => e_plen 5 Try.underlying25 rfl rfl rfl hH hb⟩) ?_
        refine s_cons (by intro v0_ r1_; exact ⟨rfl, fun b w hH hb => exec_builtin2 rfl rfl (fun cs => (fun w cs => run_min2 (by split <;> omega) _ _ w cs) w cs) hb⟩) ?_
        refine s_cons (by intro v0_ r1_; exact ⟨rfl, fun b w hH hb => e_psub_hi 5 (b := (listL (y)).1.length) sl_s_uint8 rfl (by omega) rfl rfl rfl hH hb⟩) ?_
        refine s_cons (by intro v0_; exact ⟨rfl, Acts.su (a_does (os' := fun _ => [cell gg 25 #[q.v], PartsT 23 q.v q.l, cell gm 3 #[.int .i64 ((j + 1 : Nat) : Int)], cell g2 23 #[.slice A9 (y).length c9], Vec 5 1 encB (.slice A9 (y).length c9) y, PartsT 23 x.v x.l, Vec 5 1 encB xv0 y]) [1, 5] 0 (ent_of Try.func14 (by kernel_rfl) rfl) (same_does rdPs_all (rdPs_take (by omega)) (by rw [List.length_map]; omega) (by rw [ptOf_ds, ptOf_ds, hq, List.map_take, hl, beq_self_eq_true])) rfl rfl rfl (fun _ => rfl) rfl rfl rfl) rfl⟩) ?_
        refine s_cons (by intro v0_ v1_; exact ⟨rfl, fun b w hH hb => exec_q1 hflS rfl hb⟩) ?_
        exact s_nil
      intro v0_ v1_
      refine WL2.keep (env' := [(6, .bool false), (67, .bool true)]) ⟨rfl, rfl, trivial⟩ ?_
      refine h_q hflS rfl ?_
      refine h_nil (f_to (d_ret ?_))
      exact f_fin1 (.tmp rfl) (fun w h => ⟨rfl, below0 h.up⟩) rfl
  · skip
    refine d_reg ?_
    refine h_q hflS rfl ?_
    refine h_val rfl (.int .i64 (l1.length : Int)) (fun b w hb hH => e_slen ((argPs0 hv1 hH).1) Try.underlying25 rfl rfl hb) ?_
    refine h_val rfl (.bool true) (fun b w hb hH => exec_cmp rfl rfl rfl (cmp_gtr_t (by omega)) hb) ?_
    refine h_done (d_then rfl ?_)
    refine WC2.leave [0] rfl rfl ?_
    refine d_reg ?_
    refine h_q hflS rfl ?_
    refine h_done (d_seq (d_reg ?_))
    refine h_q hflS rfl ?_
    refine h_done (d_block ?_)
    refine d_nilvec 5 1 encB ?_
    refine d_loop (α := Nat × Value × List UInt8) (fun ⟨k, xv, xl⟩ => [(0, .slice A y.length c), (1, v1), (5, .pointer (some ⟨gm, 0, none⟩)), (6, .bool false), (7, xv), (8, .int .i64 ((k : Nat) : Int))]) (fun ⟨k, xv, xl⟩ => [Vec 5 1 encB xv xl, cell gm 3 #[.int .i64 most]]) (fun ⟨k, xv, xl⟩ => k ≤ l1.length ∧ k ≤ 20 ∧ xl.length ≤ k * 65544) (fun ⟨k, xv, xl⟩ => l1.length - k) (0, .slice none 0 0, []) ⟨Nat.zero_le _, Nat.zero_le _, Nat.le_refl _⟩ ⟨rfl, rfl, rfl, rfl, rfl, rfl, trivial⟩ rfl ?_
    rintro ⟨k, xv, xl⟩ hJ
    refine WC2.at_ (env' := [(0, .slice A y.length c), (1, v1), (5, .pointer (some ⟨gm, 0, none⟩)), (6, .bool false), (7, xv), (8, .int .i64 ((k : Nat) : Int))]) (rs' := [Vec 5 1 encB xv xl, cell gm 3 #[.int .i64 most]]) ⟨rfl, rfl, rfl, rfl, rfl, rfl, trivial⟩ rfl ?_
    have hJ1 := hJ.1
    have hJ2 := hJ.2.1
    have hJ3 := hJ.2.2
    refine d_seq ?_
    have hc : (k < l1.length ∧ k < 20) ∨ (k < l1.length ∧ 20 ≤ k) ∨ l1.length ≤ k := by omega
    rcases hc with ⟨hk1, hk2⟩ | ⟨hk1, hk2⟩ | hk1
    · skip
      obtain ⟨z, hz⟩ : ∃ z, l1[k]? = some z := ⟨_, List.getElem?_eq_getElem hk1⟩
      have hmz := List.mem_of_getElem? hz
      have hfz := frame_le z.d
      refine d_reg ?_
      refine h_q hflS rfl ?_
      refine h_val rfl (.int .i64 (l1.length : Int)) (fun b w hb hH => e_slen ((argPs0 hv1 hH).1) Try.underlying25 rfl rfl hb) ?_
      refine h_val rfl (.bool true) (fun b w hb hH => exec_cmp rfl rfl rfl (cmp_lss_t (by omega)) hb) ?_
      refine h_q hflS rfl ?_
      refine h_val rfl (.bool true) (fun b w hb hH => exec_cmp rfl rfl rfl (cmp_lss_t (by omega)) hb) ?_
      refine h_q hflS rfl ?_
      refine h_done (d_then rfl (d_skip (f_to (d_seq (d_block (d_reg1 ?_))))))
      refine h_q hflS rfl ?_
      refine h_val rfl (elp v1 (k * 1)) (fun b w hb hH => e_sidx okPt ((argPs0 hv1 hH).1) sl_s_uint8 (j := k) hz rfl rfl rfl hb) ?_
      refine h_val rfl (z.v) (fun b w hb hH => e_sload okPt (by decide) ((argPs0 hv1 hH).1) (j := k) hz ty_s_uint8 (off := 0) rfl rfl rfl hb) ?_
      refine h_act (post := fun fv => [Vec 5 1 encB fv (frameL z.d), Vec 5 1 encB xv xl, cell gm 3 #[.int .i64 most]]) rfl (a_doesU (Below.refl _ _) (fun _ h => h.elim) (os' := fun fv => [Vec 5 1 encB fv (frameL z.d), Vec 5 1 encB xv xl, cell gm 3 #[.int .i64 most]]) [] 0 (ent_of Try.func9 (by kernel_rfl) rfl) (frame_doesU w (hv1.2 z hmz) (hd1 z hmz) rfl) rfl rfl rfl (fun _ => rfl) rfl rfl rfl) ?_; rintro fv
      refine h_act (post := fun xv2 => [Vec 5 1 encB fv (frameL z.d), Vec 5 1 encB xv2 (xl ++ frameL z.d), cell gm 3 #[.int .i64 most]]) rfl (a_append8 1 sl_uint8 (by kernel_rfl) rfl (frameL z.d) (fun w hH => hH.vec 0 rfl okB) (by omega) rfl rfl rfl rfl) ?_; rintro xv2
      refine h_q hflS rfl ?_
      refine h_nil (f_block (f_to ?_))
      refine WC2.leave [0] rfl rfl ?_
      refine d_reg1 ?_
      refine h_q hflS rfl ?_
      refine h_val rfl (.int .i64 ((k + 1 : Nat) : Int)) (fun b w hb hH => exec_ar rfl rfl rfl rfl (by rw [IntWalk.i64_in _ (by omega)]; omega) hb) ?_
      refine h_q hflS rfl ?_
      refine h_nil ?_
      exact f_again (k + 1, xv2, xl ++ frameL z.d) 0 ⟨hk1, hk2, by rw [List.length_append, Nat.succ_mul]; omega⟩ (show l1.length - (k + 1) < l1.length - k by omega) ⟨rfl, rfl, rfl, rfl, rfl, rfl, trivial⟩ rfl
    · skip
      refine d_reg ?_
      refine h_q hflS rfl ?_
      refine h_val rfl (.int .i64 (l1.length : Int)) (fun b w hb hH => e_slen ((argPs0 hv1 hH).1) Try.underlying25 rfl rfl hb) ?_
      refine h_val rfl (.bool true) (fun b w hb hH => exec_cmp rfl rfl rfl (cmp_lss_t (by omega)) hb) ?_
      refine h_q hflS rfl ?_
      refine h_val rfl (.bool false) (fun b w hb hH => exec_cmp rfl rfl rfl (cmp_lss_f (by omega)) hb) ?_
      refine h_q hflS rfl ?_
      refine h_done (d_else rfl (d_exit (f_then_exit (f_then_exit (f_block_exit (f_to ?_))))))
      have hxl3 : xl.length ≤ 1310880 := by omega
      refine d_reg1 ?_
      refine h_q hflS rfl ?_
      refine h_act (post := fun xv3 => [Vec 5 1 encB xv3 (xl ++ y), cell gm 3 #[.int .i64 most]]) rfl (a_append8 0 sl_uint8 (by kernel_rfl) rfl (y) (fun w hH => (hy8.below (hH.up.below (Nat.le_refl _) (fun _ h => h.elim))).rd) (by omega) rfl rfl rfl rfl) ?_; rintro xv3
      refine h_q hflS rfl ?_
      refine h_nil (f_to ?_)
      have hbb : (xl ++ y).length ≤ 137438953472 := by rw [List.length_append]; omega
      refine d_reg ?_
      refine h_q hflS rfl ?_
      refine h_act (post := fun (x : PsV) => [PartsT 23 x.v x.l, fact (x.l.map (·.2) = (listL (xl ++ y)).1), Vec 5 1 encB xv3 (xl ++ y), cell gm 3 #[.int .i64 most]]) rfl (a_does (os' := fun (x : PsV) => [PartsT 23 x.v x.l, fact (x.l.map (·.2) = (listL (xl ++ y)).1), Vec 5 1 encB xv3 (xl ++ y), cell gm 3 #[.int .i64 most]]) [0] 0 (ent_of Try.func12 (by kernel_rfl) rfl) (list_does rd8_vec (by omega) rfl) rfl rfl rfl (fun _ => rfl) rfl rfl rfl) ?_; rintro x
      refine WL2.fact 1 rfl (fun _ h => h.2) ?_; rintro hl
      refine WL2.leave [1] rfl rfl ?_
      refine h_q hflS rfl ?_
      refine h_done (d_reg ?_)
      refine h_q hflS rfl ?_
      refine h_val rfl (.int .i64 most) (fun b w hb hH => exec_load rfl rfl (reads_one ty_int rfl) (hH.row 2 rfl) hb) ?_
      refine h_act (post := fun _ => [PartsT 23 x.v x.l, Vec 5 1 encB xv3 (xl ++ y), cell gm 3 #[.int .i64 most]]) rfl (a_call (ent_of Try.func11 (by kernel_rfl) rfl) (fun w hH => pick w most 12 hmo (by decide) hj) rfl rfl rfl) ?_; rintro ⟨⟩
      refine h_val rfl (.int .i64 ((j + 1 : Nat) : Int)) (fun b w hb hH => exec_ar rfl rfl rfl rfl (by rw [IntWalk.i64_in _ (by omega)]; omega) hb) ?_
      refine h_acts (post := fun _ => [PartsT 23 x.v x.l, Vec 5 1 encB xv3 (xl ++ y), cell gm 3 #[.int .i64 ((j + 1 : Nat) : Int)]]) rfl rfl (a_store 2 (v := .int .i64 ((j + 1 : Nat) : Int)) #[.int .i64 ((j + 1 : Nat) : Int)] ty_int.2 rfl rfl rfl rfl rfl rfl rfl rfl rfl) ?_; rintro ⟨⟩
      refine h_done ?_
      rcases Nat.lt_or_ge j (listL (xl ++ y)).1.length with hjl | hjl
      · skip
        refine d_reg ?_
        refine h_q hflS rfl ?_
        refine h_act (post := fun gg => [cell gg 25 #[.slice none 0 0], PartsT 23 x.v x.l, Vec 5 1 encB xv3 (xl ++ y), cell gm 3 #[.int .i64 ((j + 1 : Nat) : Int)]]) rfl (a_alloc ze_s_s_uint8 rfl) ?_; rintro gg
        refine h_done (d_seq (d_reg ?_))
        refine h_q hflS rfl ?_
        refine h_act (post := fun _ => [cell gg 25 #[.slice none 0 0], PartsT 23 x.v x.l, Vec 5 1 encB xv3 (xl ++ y), cell gm 3 #[.int .i64 ((j + 1 : Nat) : Int)]]) rfl (a_call (ent_of Try.func8 (by kernel_rfl) rfl) (fun w hH => known8_true w) rfl rfl rfl) ?_; rintro ⟨⟩
        refine h_q hflS rfl ?_
        refine h_act rfl (a_does  [2] 0 (ent_of Try.func16 (by kernel_rfl) rfl) (all_does rd8_vec (by omega)) rfl rfl rfl (fun _ => rfl) rfl rfl rfl) ?_; rintro ⟨g1, k1⟩
        refine WL2.keep (env' := [(0, .slice A y.length c), (1, v1), (5, .pointer (some ⟨gm, 0, none⟩)), (6, .bool false), (8, .int .i64 ((k : Nat) : Int)), (18, .int .i64 ((k : Nat) : Int)), (19, v1), (20, .int .i64 (l1.length : Int)), (21, .bool true), (22, .bool true), (23, .int .i64 ((k : Nat) : Int)), (24, .bool false), (25, .bool false), (35, xv), (36, .slice A y.length c), (37, xv3), (7, xv3), (39, xv3), (40, .tuple #[x.v, .int .i64 ((listL (xl ++ y)).2 : Int)]), (38, .tuple #[x.v, .int .i64 ((listL (xl ++ y)).2 : Int)]), (41, x.v), (42, .int .i64 ((listL (xl ++ y)).2 : Int)), (9, x.v), (10, .int .i64 ((listL (xl ++ y)).2 : Int)), (43, .int .i64 most), (44, .int .i64 (j : Int)), (45, .int .i64 ((j + 1 : Nat) : Int)), (11, .pointer (some ⟨gg, 0, none⟩)), (46, .bool true), (47, .bool false), (48, .bool false), (49, xv3), (50, .func (.func 23) #[] #[.pointer (some ⟨g1, 0, none⟩)])]) ⟨rfl, rfl, rfl, rfl, rfl, rfl, rfl, rfl, rfl, rfl, rfl, rfl, rfl, rfl, rfl, rfl, rfl, rfl, rfl, rfl, rfl, rfl, rfl, rfl, rfl, rfl, rfl, rfl, rfl, rfl, rfl, rfl, rfl, trivial⟩ ?_
        refine WL2.mid [cell g1 23 #[k1], Vec 5 1 encB k1 (xl ++ y), cell gg 25 #[.slice none 0 0], PartsT 23 x.v x.l, Vec 5 1 encB xv3 (xl ++ y), cell gm 3 #[.int .i64 ((j + 1 : Nat) : Int)]] (.refl _) ?_
        refine h_val rfl (.bool false) (fun b w hb hH => exec_fnil_eql Try.underlying36 rfl rfl rfl hb) ?_
        refine h_q hflS rfl ?_
        refine h_done (d_else rfl (d_skip (f_to ?_)))
        refine WC2.leave [0, 1] rfl rfl ?_
        refine d_new (t := PartsT 23 (.slice none 0 0) ([])) (prts_nil) ?_
        refine d_close [1, 0, 4] rfl (tldf_mk (P := (listL (xl ++ y)).1.take 0) ⟨.slice none 0 0, []⟩ rfl) rfl ?_
        refine d_reg ?_
        refine h_q hflS rfl ?_
        refine h_act rfl (a_does  [2] 0 (ent_of Try.func16 (by kernel_rfl) rfl) (all_does rd8_vec (by omega)) rfl rfl rfl (fun _ => rfl) rfl rfl rfl) ?_; rintro ⟨g2, k2⟩
        refine WL2.keep (env' := [(0, .slice A y.length c), (1, v1), (5, .pointer (some ⟨gm, 0, none⟩)), (6, .bool false), (8, .int .i64 ((k : Nat) : Int)), (18, .int .i64 ((k : Nat) : Int)), (19, v1), (20, .int .i64 (l1.length : Int)), (21, .bool true), (22, .bool true), (23, .int .i64 ((k : Nat) : Int)), (24, .bool false), (25, .bool false), (35, xv), (36, .slice A y.length c), (37, xv3), (7, xv3), (39, xv3), (40, .tuple #[x.v, .int .i64 ((listL (xl ++ y)).2 : Int)]), (38, .tuple #[x.v, .int .i64 ((listL (xl ++ y)).2 : Int)]), (41, x.v), (42, .int .i64 ((listL (xl ++ y)).2 : Int)), (9, x.v), (10, .int .i64 ((listL (xl ++ y)).2 : Int)), (43, .int .i64 most), (44, .int .i64 (j : Int)), (45, .int .i64 ((j + 1 : Nat) : Int)), (11, .pointer (some ⟨gg, 0, none⟩)), (46, .bool true), (47, .bool false), (48, .bool false), (49, xv3), (50, .func (.func 23) #[] #[.pointer (some ⟨g1, 0, none⟩)]), (51, .bool false), (52, .bool false), (53, xv3), (54, .func (.func 23) #[] #[.pointer (some ⟨g2, 0, none⟩)])]) ⟨rfl, rfl, rfl, rfl, rfl, rfl, rfl, rfl, rfl, rfl, rfl, rfl, rfl, rfl, rfl, rfl, rfl, rfl, rfl, rfl, rfl, rfl, rfl, rfl, rfl, rfl, rfl, rfl, rfl, rfl, rfl, rfl, rfl, rfl, rfl, rfl, rfl, trivial⟩ ?_
        refine WL2.mid [cell g2 23 #[k2], Vec 5 1 encB k2 (xl ++ y), TldF gg gm ((j + 1 : Nat) : Int) ((listL (xl ++ y)).1.take 0), PartsT 23 x.v x.l, Vec 5 1 encB xv3 (xl ++ y)] (.refl _) ?_
        refine WL2.fact 1 rfl (fun _ h => Vec.is h) ?_; rintro ⟨A9, c9, rfl⟩
        refine h_val rfl (.func (.func 17) #[] #[.pointer (some ⟨gg, 0, none⟩), .pointer (some ⟨gm, 0, none⟩)]) (fun b w hb hH => e_func rfl rfl hb) ?_
        refine h_act (post := fun _ => [cell g2 23 #[.slice A9 (xl ++ y).length c9], Vec 5 1 encB (.slice A9 (xl ++ y).length c9) (xl ++ y), TldF gg gm ((j + 1 : Nat) : Int) ((listL (xl ++ y)).1.take (j + 1)), PartsT 23 x.v x.l, Vec 5 1 encB xv3 (xl ++ y)]) rfl (a_doesc (os' := fun _ => [cell g2 23 #[.slice A9 (xl ++ y).length c9], Vec 5 1 encB (.slice A9 (xl ++ y).length c9) (xl ++ y), TldF gg gm ((j + 1 : Nat) : Int) ((listL (xl ++ y)).1.take (j + 1)), PartsT 23 x.v x.l, Vec 5 1 encB xv3 (xl ++ y)]) (vs := [.func (.func 17) #[] #[.pointer (some ⟨gg, 0, none⟩), .pointer (some ⟨gm, 0, none⟩)]]) (caps := [.pointer (some ⟨g2, 0, none⟩)]) [0, 1, 2] 0 (ent_of Try.func23 (by kernel_rfl) rfl) (all1S (N := j) g2 (by omega) rfl (list_parts _ _) 17 ([.pointer (some ⟨gg, 0, none⟩), .pointer (some ⟨gm, 0, none⟩)] : List Value) (ent_of Try.func17 (by kernel_rfl) rfl) (fun q : Nat => TldF gg gm ((j + 1 : Nat) : Int) ((listL (xl ++ y)).1.take q)) (by omega) (fun q z d hq hqj => tldf_go gg gm (j + 1) (by omega) hq (by omega) (decide_eq_true (by omega))) (fun q z d hq hqj => tldf_go gg gm (j + 1) (by omega) hq (by omega) (decide_eq_false (by omega)))) rfl rfl rfl (fun _ => rfl) rfl rfl rfl) ?_; rintro ⟨⟩
        refine h_done ?_
        refine d_open 2 rfl TldF.open_ (fun _ => rfl) ?_; rintro q
        refine WC2.fact 3 rfl (fun _ h => h.2) ?_; rintro hq
        refine WC2.leave [3] rfl rfl ?_
        have hlx := congrArg List.length hl
        rw [List.length_map] at hlx
        have hqx := congrArg List.length hq
        rw [List.length_map, List.length_take] at hqx
        refine d_seq ?_
        refine d_parS 11 2 [⟨.actv 0, [some false, some false], fun _ => .bool true, []⟩, ⟨.quiet, [some true, none], fun _ => .bool true, [0]⟩, ⟨.quiet, [some true, none], fun _ => q.v, [1]⟩, ⟨.quiet, [some true, none], fun _ => x.v, [1]⟩, ⟨.quiet, [some true, none], fun _ => .int .i64 ((j + 1 : Nat) : Int), [1]⟩, ⟨.quiet, [some true, none], fun _ => x.v, [1]⟩, ⟨.quiet, [some true, none], fun _ => .int .i64 (x.l.length : Int), [5, 1]⟩, ⟨.quiet, [some true, none], fun _ => .int .i64 (((j + 1) : Nat) : Int), [4, 6, 1]⟩, ⟨.quiet, [some true, none], fun _ => subv 1 x.v 0 (j + 1), [3, 7, 1]⟩, ⟨.actv 1, [some true, some false], fun _ => .bool true, [2, 8, 1]⟩, ⟨.quiet, [some true, some true], fun _ => .bool true, [1, 9]⟩] [(5, .pointer (some ⟨gm, 0, none⟩)), (6, .bool false), (9, x.v), (11, .pointer (some ⟨gg, 0, none⟩))] (fun ρ => match ρ with | [r0, r1] => [cell gg 25 #[q.v], PartsT 23 q.v q.l, cell gm 3 #[.int .i64 ((j + 1 : Nat) : Int)], cell g2 23 #[.slice A9 (xl ++ y).length c9], Vec 5 1 encB (.slice A9 (xl ++ y).length c9) (xl ++ y), PartsT 23 x.v x.l, Vec 5 1 encB xv3 (xl ++ y)] | _ => []) (by kernel_rfl) (by kernel_rfl) ⟨rfl, rfl, rfl, rfl, trivial⟩ rfl ?_ ?_
        · skip
          refine s_cons (by exact ⟨rfl, Acts.su (a_call (ent_of Try.func8 (by kernel_rfl) rfl) (fun w hH => known8_true w) rfl rfl rfl) rfl⟩) ?_
          refine s_cons (by intro v0_ r1_; exact ⟨rfl, fun b w hH hb => exec_q1 hflS rfl hb⟩) ?_
          refine s_cons (by intro v0_ r1_; exact ⟨rfl, fun b w hH hb => exec_load rfl rfl (reads_one ty_s_s_uint8 rfl) (hH.row 0 rfl) hb⟩) ?_
          refine s_cons (by intro v0_ r1_; exact ⟨rfl, fun b w hH hb => exec_q1 hflS rfl hb⟩) ?_
          refine s_cons (by intro v0_ r1_; exact ⟨rfl, fun b w hH hb => exec_load rfl rfl (reads_one ty_int rfl) (hH.row 2 rfl) hb⟩) ?_
          refine s_cons (by intro v0_ r1_; exact ⟨rfl, fun b w hH hb => exec_q1 hflS rfl hb⟩) ?_
          refine s_cons (by intro v0_ r1_; exact ⟨rfl, fun b w hH hb => e_plen 5 Try.underlying25 rfl rfl rfl hH hb⟩) ?_
          refine s_cons (by intro v0_ r1_; exact ⟨rfl, fun b w hH hb => exec_builtin2 rfl rfl (fun cs => (fun w cs => run_min2 (by split <;> omega) _ _ w cs) w cs) hb⟩) ?_
          refine s_cons (by intro v0_ r1_; exact ⟨rfl, fun b w hH hb => e_psub_hi 5 (b := (j + 1)) sl_s_uint8 rfl (by omega) rfl rfl rfl hH hb⟩) ?_
          refine s_cons (by intro v0_; exact ⟨rfl, Acts.su (a_does (os' := fun _ => [cell gg 25 #[q.v], PartsT 23 q.v q.l, cell gm 3 #[.int .i64 ((j + 1 : Nat) : Int)], cell g2 23 #[.slice A9 (xl ++ y).length c9], Vec 5 1 encB (.slice A9 (xl ++ y).length c9) (xl ++ y), PartsT 23 x.v x.l, Vec 5 1 encB xv3 (xl ++ y)]) [1, 5] 0 (ent_of Try.func14 (by kernel_rfl) rfl) (same_does rdPs_all (rdPs_take (by omega)) (by rw [List.length_map]; omega) (by rw [ptOf_ds, ptOf_ds, hq, List.map_take, hl, beq_self_eq_true])) rfl rfl rfl (fun _ => rfl) rfl rfl rfl) rfl⟩) ?_
          refine s_cons (by intro v0_ v1_; exact ⟨rfl, fun b w hH hb => exec_q1 hflS rfl hb⟩) ?_
          exact s_nil
        intro v0_ v1_
        refine WL2.keep (env' := [(6, .bool false), (67, .bool true)]) ⟨rfl, rfl, trivial⟩ ?_
        refine h_q hflS rfl ?_
        refine h_nil (f_to (d_ret ?_))
        exact f_fin1 (.tmp rfl) (fun w h => ⟨rfl, below0 h.up⟩) rfl
      · skip
        refine d_reg ?_
        refine h_q hflS rfl ?_
        refine h_act (post := fun gg => [cell gg 25 #[.slice none 0 0], PartsT 23 x.v x.l, Vec 5 1 encB xv3 (xl ++ y), cell gm 3 #[.int .i64 ((j + 1 : Nat) : Int)]]) rfl (a_alloc ze_s_s_uint8 rfl) ?_; rintro gg
        refine h_done (d_seq (d_reg ?_))
        refine h_q hflS rfl ?_
        refine h_act (post := fun _ => [cell gg 25 #[.slice none 0 0], PartsT 23 x.v x.l, Vec 5 1 encB xv3 (xl ++ y), cell gm 3 #[.int .i64 ((j + 1 : Nat) : Int)]]) rfl (a_call (ent_of Try.func8 (by kernel_rfl) rfl) (fun w hH => known8_true w) rfl rfl rfl) ?_; rintro ⟨⟩
        refine h_q hflS rfl ?_
        refine h_act rfl (a_does  [2] 0 (ent_of Try.func16 (by kernel_rfl) rfl) (all_does rd8_vec (by omega)) rfl rfl rfl (fun _ => rfl) rfl rfl rfl) ?_; rintro ⟨g1, k1⟩
        refine WL2.keep (env' := [(0, .slice A y.length c), (1, v1), (5, .pointer (some ⟨gm, 0, none⟩)), (6, .bool false), (8, .int .i64 ((k : Nat) : Int)), (18, .int .i64 ((k : Nat) : Int)), (19, v1), (20, .int .i64 (l1.length : Int)), (21, .bool true), (22, .bool true), (23, .int .i64 ((k : Nat) : Int)), (24, .bool false), (25, .bool false), (35, xv), (36, .slice A y.length c), (37, xv3), (7, xv3), (39, xv3), (40, .tuple #[x.v, .int .i64 ((listL (xl ++ y)).2 : Int)]), (38, .tuple #[x.v, .int .i64 ((listL (xl ++ y)).2 : Int)]), (41, x.v), (42, .int .i64 ((listL (xl ++ y)).2 : Int)), (9, x.v), (10, .int .i64 ((listL (xl ++ y)).2 : Int)), (43, .int .i64 most), (44, .int .i64 (j : Int)), (45, .int .i64 ((j + 1 : Nat) : Int)), (11, .pointer (some ⟨gg, 0, none⟩)), (46, .bool true), (47, .bool false), (48, .bool false), (49, xv3), (50, .func (.func 23) #[] #[.pointer (some ⟨g1, 0, none⟩)])]) ⟨rfl, rfl, rfl, rfl, rfl, rfl, rfl, rfl, rfl, rfl, rfl, rfl, rfl, rfl, rfl, rfl, rfl, rfl, rfl, rfl, rfl, rfl, rfl, rfl, rfl, rfl, rfl, rfl, rfl, rfl, rfl, rfl, rfl, trivial⟩ ?_
        refine WL2.mid [cell g1 23 #[k1], Vec 5 1 encB k1 (xl ++ y), cell gg 25 #[.slice none 0 0], PartsT 23 x.v x.l, Vec 5 1 encB xv3 (xl ++ y), cell gm 3 #[.int .i64 ((j + 1 : Nat) : Int)]] (.refl _) ?_
        refine h_val rfl (.bool false) (fun b w hb hH => exec_fnil_eql Try.underlying36 rfl rfl rfl hb) ?_
        refine h_q hflS rfl ?_
        refine h_done (d_else rfl (d_skip (f_to ?_)))
        refine WC2.leave [0, 1] rfl rfl ?_
        refine d_new (t := PartsT 23 (.slice none 0 0) ([])) (prts_nil) ?_
        refine d_close [1, 0, 4] rfl (tldf_mk (P := (listL (xl ++ y)).1.take 0) ⟨.slice none 0 0, []⟩ rfl) rfl ?_
        refine d_reg ?_
        refine h_q hflS rfl ?_
        refine h_act rfl (a_does  [2] 0 (ent_of Try.func16 (by kernel_rfl) rfl) (all_does rd8_vec (by omega)) rfl rfl rfl (fun _ => rfl) rfl rfl rfl) ?_; rintro ⟨g2, k2⟩
        refine WL2.keep (env' := [(0, .slice A y.length c), (1, v1), (5, .pointer (some ⟨gm, 0, none⟩)), (6, .bool false), (8, .int .i64 ((k : Nat) : Int)), (18, .int .i64 ((k : Nat) : Int)), (19, v1), (20, .int .i64 (l1.length : Int)), (21, .bool true), (22, .bool true), (23, .int .i64 ((k : Nat) : Int)), (24, .bool false), (25, .bool false), (35, xv), (36, .slice A y.length c), (37, xv3), (7, xv3), (39, xv3), (40, .tuple #[x.v, .int .i64 ((listL (xl ++ y)).2 : Int)]), (38, .tuple #[x.v, .int .i64 ((listL (xl ++ y)).2 : Int)]), (41, x.v), (42, .int .i64 ((listL (xl ++ y)).2 : Int)), (9, x.v), (10, .int .i64 ((listL (xl ++ y)).2 : Int)), (43, .int .i64 most), (44, .int .i64 (j : Int)), (45, .int .i64 ((j + 1 : Nat) : Int)), (11, .pointer (some ⟨gg, 0, none⟩)), (46, .bool true), (47, .bool false), (48, .bool false), (49, xv3), (50, .func (.func 23) #[] #[.pointer (some ⟨g1, 0, none⟩)]), (51, .bool false), (52, .bool false), (53, xv3), (54, .func (.func 23) #[] #[.pointer (some ⟨g2, 0, none⟩)])]) ⟨rfl, rfl, rfl, rfl, rfl, rfl, rfl, rfl, rfl, rfl, rfl, rfl, rfl, rfl, rfl, rfl, rfl, rfl, rfl, rfl, rfl, rfl, rfl, rfl, rfl, rfl, rfl, rfl, rfl, rfl, rfl, rfl, rfl, rfl, rfl, rfl, rfl, trivial⟩ ?_
        refine WL2.mid [cell g2 23 #[k2], Vec 5 1 encB k2 (xl ++ y), TldF gg gm ((j + 1 : Nat) : Int) ((listL (xl ++ y)).1.take 0), PartsT 23 x.v x.l, Vec 5 1 encB xv3 (xl ++ y)] (.refl _) ?_
        refine WL2.fact 1 rfl (fun _ h => Vec.is h) ?_; rintro ⟨A9, c9, rfl⟩
        refine h_val rfl (.func (.func 17) #[] #[.pointer (some ⟨gg, 0, none⟩), .pointer (some ⟨gm, 0, none⟩)]) (fun b w hb hH => e_func rfl rfl hb) ?_
        refine h_act (post := fun _ => [cell g2 23 #[.slice A9 (xl ++ y).length c9], Vec 5 1 encB (.slice A9 (xl ++ y).length c9) (xl ++ y), TldF gg gm ((j + 1 : Nat) : Int) ((listL (xl ++ y)).1.take (listL (xl ++ y)).1.length), PartsT 23 x.v x.l, Vec 5 1 encB xv3 (xl ++ y)]) rfl (a_doesc (os' := fun _ => [cell g2 23 #[.slice A9 (xl ++ y).length c9], Vec 5 1 encB (.slice A9 (xl ++ y).length c9) (xl ++ y), TldF gg gm ((j + 1 : Nat) : Int) ((listL (xl ++ y)).1.take (listL (xl ++ y)).1.length), PartsT 23 x.v x.l, Vec 5 1 encB xv3 (xl ++ y)]) (vs := [.func (.func 17) #[] #[.pointer (some ⟨gg, 0, none⟩), .pointer (some ⟨gm, 0, none⟩)]]) (caps := [.pointer (some ⟨g2, 0, none⟩)]) [0, 1, 2] 0 (ent_of Try.func23 (by kernel_rfl) rfl) (all1 g2 (by omega) rfl (list_parts _ _) 17 ([.pointer (some ⟨gg, 0, none⟩), .pointer (some ⟨gm, 0, none⟩)] : List Value) (ent_of Try.func17 (by kernel_rfl) rfl) (fun q : Nat => TldF gg gm ((j + 1 : Nat) : Int) ((listL (xl ++ y)).1.take q)) rfl (fun q z d hq => tldf_go gg gm (j + 1) (by omega) hq (by have := (List.getElem?_eq_some_iff.1 hq).1; omega) (by have := (List.getElem?_eq_some_iff.1 hq).1; exact decide_eq_true (by omega)))) rfl rfl rfl (fun _ => rfl) rfl rfl rfl) ?_; rintro ⟨⟩
        refine h_done ?_
        refine d_open 2 rfl TldF.open_ (fun _ => rfl) ?_; rintro q
        refine WC2.fact 3 rfl (fun _ h => h.2) ?_; rintro hq
        refine WC2.leave [3] rfl rfl ?_
        have hlx := congrArg List.length hl
        rw [List.length_map] at hlx
        have hqx := congrArg List.length hq
        rw [List.length_map, List.length_take] at hqx
        refine d_seq ?_
        refine d_parS 11 2 [⟨.actv 0, [some false, some false], fun _ => .bool true, []⟩, ⟨.quiet, [some true, none], fun _ => .bool true, [0]⟩, ⟨.quiet, [some true, none], fun _ => q.v, [1]⟩, ⟨.quiet, [some true, none], fun _ => x.v, [1]⟩, ⟨.quiet, [some true, none], fun _ => .int .i64 ((j + 1 : Nat) : Int), [1]⟩, ⟨.quiet, [some true, none], fun _ => x.v, [1]⟩, ⟨.quiet, [some true, none], fun _ => .int .i64 (x.l.length : Int), [5, 1]⟩, ⟨.quiet, [some true, none], fun _ => .int .i64 (((listL (xl ++ y)).1.length : Nat) : Int), [4, 6, 1]⟩, ⟨.quiet, [some true, none], fun _ => subv 1 x.v 0 ((listL (xl ++ y)).1.length), [3, 7, 1]⟩, ⟨.actv 1, [some true, some false], fun _ => .bool true, [2, 8, 1]⟩, ⟨.quiet, [some true, some true], fun _ => .bool true, [1, 9]⟩] [(5, .pointer (some ⟨gm, 0, none⟩)), (6, .bool false), (9, x.v), (11, .pointer (some ⟨gg, 0, none⟩))] (fun ρ => match ρ with | [r0, r1] => [cell gg 25 #[q.v], PartsT 23 q.v q.l, cell gm 3 #[.int .i64 ((j + 1 : Nat) : Int)], cell g2 23 #[.slice A9 (xl ++ y).length c9], Vec 5 1 encB (.slice A9 (xl ++ y).length c9) (xl ++ y), PartsT 23 x.v x.l, Vec 5 1 encB xv3 (xl ++ y)] | _ => []) (by kernel_rfl) (by kernel_rfl) ⟨rfl, rfl, rfl, rfl, trivial⟩ rfl ?_ ?_
        · skip
          refine s_cons (by exact ⟨rfl, Acts.su (a_call (ent_of Try.func8 (by kernel_rfl) rfl) (fun w hH => known8_true w) rfl rfl rfl) rfl⟩) ?_
          refine s_cons (by intro v0_ r1_; exact ⟨rfl, fun b w hH hb => exec_q1 hflS rfl hb⟩) ?_
          refine s_cons (by intro v0_ r1_; exact ⟨rfl, fun b w hH hb => exec_load rfl rfl (reads_one ty_s_s_uint8 rfl) (hH.row 0 rfl) hb⟩) ?_
          refine s_cons (by intro v0_ r1_; exact ⟨rfl, fun b w hH hb => exec_q1 hflS rfl hb⟩) ?_
          refine s_cons (by intro v0_ r1_; exact ⟨rfl, fun b w hH hb => exec_load rfl rfl (reads_one ty_int rfl) (hH.row 2 rfl) hb⟩) ?_
          refine s_cons (by intro v0_ r1_; exact ⟨rfl, fun b w hH hb => exec_q1 hflS rfl hb⟩) ?_
          refine s_cons (by intro v0_ r1_; exact ⟨rfl, fun b w hH hb => e_plen 5 Try.underlying25 rfl rfl rfl hH hb⟩) ?_
          refine s_cons (by intro v0_ r1_; exact ⟨rfl, fun b w hH hb => exec_builtin2 rfl rfl (fun cs => (fun w cs => run_min2 (by split <;> omega) _ _ w cs) w cs) hb⟩) ?_
          refine s_cons (by intro v0_ r1_; exact ⟨rfl, fun b w hH hb => e_psub_hi 5 (b := (listL (xl ++ y)).1.length) sl_s_uint8 rfl (by omega) rfl rfl rfl hH hb⟩) ?_
          refine s_cons (by intro v0_; exact ⟨rfl, Acts.su (a_does (os' := fun _ => [cell gg 25 #[q.v], PartsT 23 q.v q.l, cell gm 3 #[.int .i64 ((j + 1 : Nat) : Int)], cell g2 23 #[.slice A9 (xl ++ y).length c9], Vec 5 1 encB (.slice A9 (xl ++ y).length c9) (xl ++ y), PartsT 23 x.v x.l, Vec 5 1 encB xv3 (xl ++ y)]) [1, 5] 0 (ent_of Try.func14 (by kernel_rfl) rfl) (same_does rdPs_all (rdPs_take (by omega)) (by rw [List.length_map]; omega) (by rw [ptOf_ds, ptOf_ds, hq, List.map_take, hl, beq_self_eq_true])) rfl rfl rfl (fun _ => rfl) rfl rfl rfl) rfl⟩) ?_
          refine s_cons (by intro v0_ v1_; exact ⟨rfl, fun b w hH hb => exec_q1 hflS rfl hb⟩) ?_
          exact s_nil
        intro v0_ v1_
        refine WL2.keep (env' := [(6, .bool false), (67, .bool true)]) ⟨rfl, rfl, trivial⟩ ?_
        refine h_q hflS rfl ?_
        refine h_nil (f_to (d_ret ?_))
        exact f_fin1 (.tmp rfl) (fun w h => ⟨rfl, below0 h.up⟩) rfl
    · skip
      refine d_reg ?_
      refine h_q hflS rfl ?_
      refine h_val rfl (.int .i64 (l1.length : Int)) (fun b w hb hH => e_slen ((argPs0 hv1 hH).1) Try.underlying25 rfl rfl hb) ?_
      refine h_val rfl (.bool false) (fun b w hb hH => exec_cmp rfl rfl rfl (cmp_lss_f (by omega)) hb) ?_
      refine h_q hflS rfl ?_
      refine h_done (d_else rfl (d_exit (f_then_exit (f_then_exit (f_block_exit (f_to ?_))))))
      have hxl3 : xl.length ≤ 1310880 := by omega
      refine d_reg1 ?_
      refine h_q hflS rfl ?_
      refine h_act (post := fun xv3 => [Vec 5 1 encB xv3 (xl ++ y), cell gm 3 #[.int .i64 most]]) rfl (a_append8 0 sl_uint8 (by kernel_rfl) rfl (y) (fun w hH => (hy8.below (hH.up.below (Nat.le_refl _) (fun _ h => h.elim))).rd) (by omega) rfl rfl rfl rfl) ?_; rintro xv3
      refine h_q hflS rfl ?_
      refine h_nil (f_to ?_)
      have hbb : (xl ++ y).length ≤ 137438953472 := by rw [List.length_append]; omega
      refine d_reg ?_
      refine h_q hflS rfl ?_
      refine h_act (post := fun (x : PsV) => [PartsT 23 x.v x.l, fact (x.l.map (·.2) = (listL (xl ++ y)).1), Vec 5 1 encB xv3 (xl ++ y), cell gm 3 #[.int .i64 most]]) rfl (a_does (os' := fun (x : PsV) => [PartsT 23 x.v x.l, fact (x.l.map (·.2) = (listL (xl ++ y)).1), Vec 5 1 encB xv3 (xl ++ y), cell gm 3 #[.int .i64 most]]) [0] 0 (ent_of Try.func12 (by kernel_rfl) rfl) (list_does rd8_vec (by omega) rfl) rfl rfl rfl (fun _ => rfl) rfl rfl rfl) ?_; rintro x
      refine WL2.fact 1 rfl (fun _ h => h.2) ?_; rintro hl
      refine WL2.leave [1] rfl rfl ?_
      refine h_q hflS rfl ?_
      refine h_done (d_reg ?_)
      refine h_q hflS rfl ?_
      refine h_val rfl (.int .i64 most) (fun b w hb hH => exec_load rfl rfl (reads_one ty_int rfl) (hH.row 2 rfl) hb) ?_
      refine h_act (post := fun _ => [PartsT 23 x.v x.l, Vec 5 1 encB xv3 (xl ++ y), cell gm 3 #[.int .i64 most]]) rfl (a_call (ent_of Try.func11 (by kernel_rfl) rfl) (fun w hH => pick w most 12 hmo (by decide) hj) rfl rfl rfl) ?_; rintro ⟨⟩
      refine h_val rfl (.int .i64 ((j + 1 : Nat) : Int)) (fun b w hb hH => exec_ar rfl rfl rfl rfl (by rw [IntWalk.i64_in _ (by omega)]; omega) hb) ?_
      refine h_acts (post := fun _ => [PartsT 23 x.v x.l, Vec 5 1 encB xv3 (xl ++ y), cell gm 3 #[.int .i64 ((j + 1 : Nat) : Int)]]) rfl rfl (a_store 2 (v := .int .i64 ((j + 1 : Nat) : Int)) #[.int .i64 ((j + 1 : Nat) : Int)] ty_int.2 rfl rfl rfl rfl rfl rfl rfl rfl rfl) ?_; rintro ⟨⟩
      refine h_done ?_
      rcases Nat.lt_or_ge j (listL (xl ++ y)).1.length with hjl | hjl
      · skip
        refine d_reg ?_
        refine h_q hflS rfl ?_
        refine h_act (post := fun gg => [cell gg 25 #[.slice none 0 0], PartsT 23 x.v x.l, Vec 5 1 encB xv3 (xl ++ y), cell gm 3 #[.int .i64 ((j + 1 : Nat) : Int)]]) rfl (a_alloc ze_s_s_uint8 rfl) ?_; rintro gg
        refine h_done (d_seq (d_reg ?_))
        refine h_q hflS rfl ?_
        refine h_act (post := fun _ => [cell gg 25 #[.slice none 0 0], PartsT 23 x.v x.l, Vec 5 1 encB xv3 (xl ++ y), cell gm 3 #[.int .i64 ((j + 1 : Nat) : Int)]]) rfl (a_call (ent_of Try.func8 (by kernel_rfl) rfl) (fun w hH => known8_true w) rfl rfl rfl) ?_; rintro ⟨⟩
        refine h_q hflS rfl ?_
        refine h_act rfl (a_does  [2] 0 (ent_of Try.func16 (by kernel_rfl) rfl) (all_does rd8_vec (by omega)) rfl rfl rfl (fun _ => rfl) rfl rfl rfl) ?_; rintro ⟨g1, k1⟩
        refine WL2.keep (env' := [(0, .slice A y.length c), (1, v1), (5, .pointer (some ⟨gm, 0, none⟩)), (6, .bool false), (8, .int .i64 ((k : Nat) : Int)), (18, .int .i64 ((k : Nat) : Int)), (19, v1), (20, .int .i64 (l1.length : Int)), (21, .bool false), (22, .bool false), (23, undef), (24, undef), (25, .bool false), (35, xv), (36, .slice A y.length c), (37, xv3), (7, xv3), (39, xv3), (40, .tuple #[x.v, .int .i64 ((listL (xl ++ y)).2 : Int)]), (38, .tuple #[x.v, .int .i64 ((listL (xl ++ y)).2 : Int)]), (41, x.v), (42, .int .i64 ((listL (xl ++ y)).2 : Int)), (9, x.v), (10, .int .i64 ((listL (xl ++ y)).2 : Int)), (43, .int .i64 most), (44, .int .i64 (j : Int)), (45, .int .i64 ((j + 1 : Nat) : Int)), (11, .pointer (some ⟨gg, 0, none⟩)), (46, .bool true), (47, .bool false), (48, .bool false), (49, xv3), (50, .func (.func 23) #[] #[.pointer (some ⟨g1, 0, none⟩)])]) ⟨rfl, rfl, rfl, rfl, rfl, rfl, rfl, rfl, rfl, rfl, rfl, rfl, rfl, rfl, rfl, rfl, rfl, rfl, rfl, rfl, rfl, rfl, rfl, rfl, rfl, rfl, rfl, rfl, rfl, rfl, rfl, rfl, rfl, trivial⟩ ?_
        refine WL2.mid [cell g1 23 #[k1], Vec 5 1 encB k1 (xl ++ y), cell gg 25 #[.slice none 0 0], PartsT 23 x.v x.l, Vec 5 1 encB xv3 (xl ++ y), cell gm 3 #[.int .i64 ((j + 1 : Nat) : Int)]] (.refl _) ?_
        refine h_val rfl (.bool false) (fun b w hb hH => exec_fnil_eql Try.underlying36 rfl rfl rfl hb) ?_
        refine h_q hflS rfl ?_
        refine h_done (d_else rfl (d_skip (f_to ?_)))
        refine WC2.leave [0, 1] rfl rfl ?_
        refine d_new (t := PartsT 23 (.slice none 0 0) ([])) (prts_nil) ?_
        refine d_close [1, 0, 4] rfl (tldf_mk (P := (listL (xl ++ y)).1.take 0) ⟨.slice none 0 0, []⟩ rfl) rfl ?_
        refine d_reg ?_
        refine h_q hflS rfl ?_
        refine h_act rfl (a_does  [2] 0 (ent_of Try.func16 (by kernel_rfl) rfl) (all_does rd8_vec (by omega)) rfl rfl rfl (fun _ => rfl) rfl rfl rfl) ?_; rintro ⟨g2, k2⟩
        refine WL2.keep (env' := [(0, .slice A y.length c), (1, v1), (5, .pointer (some ⟨gm, 0, none⟩)), (6, .bool false), (8, .int .i64 ((k : Nat) : Int)), (18, .int .i64 ((k : Nat) : Int)), (19, v1), (20, .int .i64 (l1.length : Int)), (21, .bool false), (22, .bool false), (23, undef), (24, undef), (25, .bool false), (35, xv), (36, .slice A y.length c), (37, xv3), (7, xv3), (39, xv3), (40, .tuple #[x.v, .int .i64 ((listL (xl ++ y)).2 : Int)]), (38, .tuple #[x.v, .int .i64 ((listL (xl ++ y)).2 : Int)]), (41, x.v), (42, .int .i64 ((listL (xl ++ y)).2 : Int)), (9, x.v), (10, .int .i64 ((listL (xl ++ y)).2 : Int)), (43, .int .i64 most), (44, .int .i64 (j : Int)), (45, .int .i64 ((j + 1 : Nat) : Int)), (11, .pointer (some ⟨gg, 0, none⟩)), (46, .bool true), (47, .bool false), (48, .bool false), (49, xv3), (50, .func (.func 23) #[] #[.pointer (some ⟨g1, 0, none⟩)]), (51, .bool false), (52, .bool false), (53, xv3), (54, .func (.func 23) #[] #[.pointer (some ⟨g2, 0, none⟩)])]) ⟨rfl, rfl, rfl, rfl, rfl, rfl, rfl, rfl, rfl, rfl, rfl, rfl, rfl, rfl, rfl, rfl, rfl, rfl, rfl, rfl, rfl, rfl, rfl, rfl, rfl, rfl, rfl, rfl, rfl, rfl, rfl, rfl, rfl, rfl, rfl, rfl, rfl, trivial⟩ ?_
        refine WL2.mid [cell g2 23 #[k2], Vec 5 1 encB k2 (xl ++ y), TldF gg gm ((j + 1 : Nat) : Int) ((listL (xl ++ y)).1.take 0), PartsT 23 x.v x.l, Vec 5 1 encB xv3 (xl ++ y)] (.refl _) ?_
        refine WL2.fact 1 rfl (fun _ h => Vec.is h) ?_; rintro ⟨A9, c9, rfl⟩
        refine h_val rfl (.func (.func 17) #[] #[.pointer (some ⟨gg, 0, none⟩), .pointer (some ⟨gm, 0, none⟩)]) (fun b w hb hH => e_func rfl rfl hb) ?_
        refine h_act (post := fun _ => [cell g2 23 #[.slice A9 (xl ++ y).length c9], Vec 5 1 encB (.slice A9 (xl ++ y).length c9) (xl ++ y), TldF gg gm ((j + 1 : Nat) : Int) ((listL (xl ++ y)).1.take (j + 1)), PartsT 23 x.v x.l, Vec 5 1 encB xv3 (xl ++ y)]) rfl (a_doesc (os' := fun _ => [cell g2 23 #[.slice A9 (xl ++ y).length c9], Vec 5 1 encB (.slice A9 (xl ++ y).length c9) (xl ++ y), TldF gg gm ((j + 1 : Nat) : Int) ((listL (xl ++ y)).1.take (j + 1)), PartsT 23 x.v x.l, Vec 5 1 encB xv3 (xl ++ y)]) (vs := [.func (.func 17) #[] #[.pointer (some ⟨gg, 0, none⟩), .pointer (some ⟨gm, 0, none⟩)]]) (caps := [.pointer (some ⟨g2, 0, none⟩)]) [0, 1, 2] 0 (ent_of Try.func23 (by kernel_rfl) rfl) (all1S (N := j) g2 (by omega) rfl (list_parts _ _) 17 ([.pointer (some ⟨gg, 0, none⟩), .pointer (some ⟨gm, 0, none⟩)] : List Value) (ent_of Try.func17 (by kernel_rfl) rfl) (fun q : Nat => TldF gg gm ((j + 1 : Nat) : Int) ((listL (xl ++ y)).1.take q)) (by omega) (fun q z d hq hqj => tldf_go gg gm (j + 1) (by omega) hq (by omega) (decide_eq_true (by omega))) (fun q z d hq hqj => tldf_go gg gm (j + 1) (by omega) hq (by omega) (decide_eq_false (by omega)))) rfl rfl rfl (fun _ => rfl) rfl rfl rfl) ?_; rintro ⟨⟩
        refine h_done ?_
        refine d_open 2 rfl TldF.open_ (fun _ => rfl) ?_; rintro q
        refine WC2.fact 3 rfl (fun _ h => h.2) ?_; rintro hq
        refine WC2.leave [3] rfl rfl ?_
        have hlx := congrArg List.length hl
        rw [List.length_map] at hlx
        have hqx := congrArg List.length hq
        rw [List.length_map, List.length_take] at hqx
        refine d_seq ?_
        refine d_parS 11 2 [⟨.actv 0, [some false, some false], fun _ => .bool true, []⟩, ⟨.quiet, [some true, none], fun _ => .bool true, [0]⟩, ⟨.quiet, [some true, none], fun _ => q.v, [1]⟩, ⟨.quiet, [some true, none], fun _ => x.v, [1]⟩, ⟨.quiet, [some true, none], fun _ => .int .i64 ((j + 1 : Nat) : Int), [1]⟩, ⟨.quiet, [some true, none], fun _ => x.v, [1]⟩, ⟨.quiet, [some true, none], fun _ => .int .i64 (x.l.length : Int), [5, 1]⟩, ⟨.quiet, [some true, none], fun _ => .int .i64 (((j + 1) : Nat) : Int), [4, 6, 1]⟩, ⟨.quiet, [some true, none], fun _ => subv 1 x.v 0 (j + 1), [3, 7, 1]⟩, ⟨.actv 1, [some true, some false], fun _ => .bool true, [2, 8, 1]⟩, ⟨.quiet, [some true, some true], fun _ => .bool true, [1, 9]⟩] [(5, .pointer (some ⟨gm, 0, none⟩)), (6, .bool false), (9, x.v), (11, .pointer (some ⟨gg, 0, none⟩))] (fun ρ => match ρ with | [r0, r1] => [cell gg 25 #[q.v], PartsT 23 q.v q.l, cell gm 3 #[.int .i64 ((j + 1 : Nat) : Int)], cell g2 23 #[.slice A9 (xl ++ y).length c9], Vec 5 1 encB (.slice A9 (xl ++ y).length c9) (xl ++ y), PartsT 23 x.v x.l, Vec 5 1 encB xv3 (xl ++ y)] | _ => []) (by kernel_rfl) (by kernel_rfl) ⟨rfl, rfl, rfl, rfl, trivial⟩ rfl ?_ ?_
        · skip
          refine s_cons (by exact ⟨rfl, Acts.su (a_call (ent_of Try.func8 (by kernel_rfl) rfl) (fun w hH => known8_true w) rfl rfl rfl) rfl⟩) ?_
          refine s_cons (by intro v0_ r1_; exact ⟨rfl, fun b w hH hb => exec_q1 hflS rfl hb⟩) ?_
          refine s_cons (by intro v0_ r1_; exact ⟨rfl, fun b w hH hb => exec_load rfl rfl (reads_one ty_s_s_uint8 rfl) (hH.row 0 rfl) hb⟩) ?_
          refine s_cons (by intro v0_ r1_; exact ⟨rfl, fun b w hH hb => exec_q1 hflS rfl hb⟩) ?_
          refine s_cons (by intro v0_ r1_; exact ⟨rfl, fun b w hH hb => exec_load rfl rfl (reads_one ty_int rfl) (hH.row 2 rfl) hb⟩) ?_
          refine s_cons (by intro v0_ r1_; exact ⟨rfl, fun b w hH hb => exec_q1 hflS rfl hb⟩) ?_
          refine s_cons (by intro v0_ r1_; exact ⟨rfl, fun b w hH hb => e_plen 5 Try.underlying25 rfl rfl rfl hH hb⟩) ?_
          refine s_cons (by intro v0_ r1_; exact ⟨rfl, fun b w hH hb => exec_builtin2 rfl rfl (fun cs => (fun w cs => run_min2 (by split <;> omega) _ _ w cs) w cs) hb⟩) ?_
          refine s_cons (by intro v0_ r1_; exact ⟨rfl, fun b w hH hb => e_psub_hi 5 (b := (j + 1)) sl_s_uint8 rfl (by omega) rfl rfl rfl hH hb⟩) ?_
          refine s_cons (by intro v0_; exact ⟨rfl, Acts.su (a_does (os' := fun _ => [cell gg 25 #[q.v], PartsT 23 q.v q.l, cell gm 3 #[.int .i64 ((j + 1 : Nat) : Int)], cell g2 23 #[.slice A9 (xl ++ y).length c9], Vec 5 1 encB (.slice A9 (xl ++ y).length c9) (xl ++ y), PartsT 23 x.v x.l, Vec 5 1 encB xv3 (xl ++ y)]) [1, 5] 0 (ent_of Try.func14 (by kernel_rfl) rfl) (same_does rdPs_all (rdPs_take (by omega)) (by rw [List.length_map]; omega) (by rw [ptOf_ds, ptOf_ds, hq, List.map_take, hl, beq_self_eq_true])) rfl rfl rfl (fun _ => rfl) rfl rfl rfl) rfl⟩) ?_
          refine s_cons (by intro v0_ v1_; exact ⟨rfl, fun b w hH hb => exec_q1 hflS rfl hb⟩) ?_
          exact s_nil
        intro v0_ v1_
        refine WL2.keep (env' := [(6, .bool false), (67, .bool true)]) ⟨rfl, rfl, trivial⟩ ?_
        refine h_q hflS rfl ?_
        refine h_nil (f_to (d_ret ?_))
        exact f_fin1 (.tmp rfl) (fun w h => ⟨rfl, below0 h.up⟩) rfl
      · skip
        refine d_reg ?_
        refine h_q hflS rfl ?_
        refine h_act (post := fun gg => [cell gg 25 #[.slice none 0 0], PartsT 23 x.v x.l, Vec 5 1 encB xv3 (xl ++ y), cell gm 3 #[.int .i64 ((j + 1 : Nat) : Int)]]) rfl (a_alloc ze_s_s_uint8 rfl) ?_; rintro gg
        refine h_done (d_seq (d_reg ?_))
        refine h_q hflS rfl ?_
        refine h_act (post := fun _ => [cell gg 25 #[.slice none 0 0], PartsT 23 x.v x.l, Vec 5 1 encB xv3 (xl ++ y), cell gm 3 #[.int .i64 ((j + 1 : Nat) : Int)]]) rfl (a_call (ent_of Try.func8 (by kernel_rfl) rfl) (fun w hH => known8_true w) rfl rfl rfl) ?_; rintro ⟨⟩
        refine h_q hflS rfl ?_
        refine h_act rfl (a_does  [2] 0 (ent_of Try.func16 (by kernel_rfl) rfl) (all_does rd8_vec (by omega)) rfl rfl rfl (fun _ => rfl) rfl rfl rfl) ?_; rintro ⟨g1, k1⟩
        refine WL2.keep (env' := [(0, .slice A y.length c), (1, v1), (5, .pointer (some ⟨gm, 0, none⟩)), (6, .bool false), (8, .int .i64 ((k : Nat) : Int)), (18, .int .i64 ((k : Nat) : Int)), (19, v1), (20, .int .i64 (l1.length : Int)), (21, .bool false), (22, .bool false), (23, undef), (24, undef), (25, .bool false), (35, xv), (36, .slice A y.length c), (37, xv3), (7, xv3), (39, xv3), (40, .tuple #[x.v, .int .i64 ((listL (xl ++ y)).2 : Int)]), (38, .tuple #[x.v, .int .i64 ((listL (xl ++ y)).2 : Int)]), (41, x.v), (42, .int .i64 ((listL (xl ++ y)).2 : Int)), (9, x.v), (10, .int .i64 ((listL (xl ++ y)).2 : Int)), (43, .int .i64 most), (44, .int .i64 (j : Int)), (45, .int .i64 ((j + 1 : Nat) : Int)), (11, .pointer (some ⟨gg, 0, none⟩)), (46, .bool true), (47, .bool false), (48, .bool false), (49, xv3), (50, .func (.func 23) #[] #[.pointer (some ⟨g1, 0, none⟩)])]) ⟨rfl, rfl, rfl, rfl, rfl, rfl, rfl, rfl, rfl, rfl, rfl, rfl, rfl, rfl, rfl, rfl, rfl, rfl, rfl, rfl, rfl, rfl, rfl, rfl, rfl, rfl, rfl, rfl, rfl, rfl, rfl, rfl, rfl, trivial⟩ ?_
        refine WL2.mid [cell g1 23 #[k1], Vec 5 1 encB k1 (xl ++ y), cell gg 25 #[.slice none 0 0], PartsT 23 x.v x.l, Vec 5 1 encB xv3 (xl ++ y), cell gm 3 #[.int .i64 ((j + 1 : Nat) : Int)]] (.refl _) ?_
        refine h_val rfl (.bool false) (fun b w hb hH => exec_fnil_eql Try.underlying36 rfl rfl rfl hb) ?_
        refine h_q hflS rfl ?_
        refine h_done (d_else rfl (d_skip (f_to ?_)))
        refine WC2.leave [0, 1] rfl rfl ?_
        refine d_new (t := PartsT 23 (.slice none 0 0) ([])) (prts_nil) ?_
        refine d_close [1, 0, 4] rfl (tldf_mk (P := (listL (xl ++ y)).1.take 0) ⟨.slice none 0 0, []⟩ rfl) rfl ?_
        refine d_reg ?_
        refine h_q hflS rfl ?_
        refine h_act rfl (a_does  [2] 0 (ent_of Try.func16 (by kernel_rfl) rfl) (all_does rd8_vec (by omega)) rfl rfl rfl (fun _ => rfl) rfl rfl rfl) ?_; rintro ⟨g2, k2⟩
        refine WL2.keep (env' := [(0, .slice A y.length c), (1, v1), (5, .pointer (some ⟨gm, 0, none⟩)), (6, .bool false), (8, .int .i64 ((k : Nat) : Int)), (18, .int .i64 ((k : Nat) : Int)), (19, v1), (20, .int .i64 (l1.length : Int)), (21, .bool false), (22, .bool false), (23, undef), (24, undef), (25, .bool false), (35, xv), (36, .slice A y.length c), (37, xv3), (7, xv3), (39, xv3), (40, .tuple #[x.v, .int .i64 ((listL (xl ++ y)).2 : Int)]), (38, .tuple #[x.v, .int .i64 ((listL (xl ++ y)).2 : Int)]), (41, x.v), (42, .int .i64 ((listL (xl ++ y)).2 : Int)), (9, x.v), (10, .int .i64 ((listL (xl ++ y)).2 : Int)), (43, .int .i64 most), (44, .int .i64 (j : Int)), (45, .int .i64 ((j + 1 : Nat) : Int)), (11, .pointer (some ⟨gg, 0, none⟩)), (46, .bool true), (47, .bool false), (48, .bool false), (49, xv3), (50, .func (.func 23) #[] #[.pointer (some ⟨g1, 0, none⟩)]), (51, .bool false), (52, .bool false), (53, xv3), (54, .func (.func 23) #[] #[.pointer (some ⟨g2, 0, none⟩)])]) ⟨rfl, rfl, rfl, rfl, rfl, rfl, rfl, rfl, rfl, rfl, rfl, rfl, rfl, rfl, rfl, rfl, rfl, rfl, rfl, rfl, rfl, rfl, rfl, rfl, rfl, rfl, rfl, rfl, rfl, rfl, rfl, rfl, rfl, rfl, rfl, rfl, rfl, trivial⟩ ?_
        refine WL2.mid [cell g2 23 #[k2], Vec 5 1 encB k2 (xl ++ y), TldF gg gm ((j + 1 : Nat) : Int) ((listL (xl ++ y)).1.take 0), PartsT 23 x.v x.l, Vec 5 1 encB xv3 (xl ++ y)] (.refl _) ?_
        refine WL2.fact 1 rfl (fun _ h => Vec.is h) ?_; rintro ⟨A9, c9, rfl⟩
        refine h_val rfl (.func (.func 17) #[] #[.pointer (some ⟨gg, 0, none⟩), .pointer (some ⟨gm, 0, none⟩)]) (fun b w hb hH => e_func rfl rfl hb) ?_
        refine h_act (post := fun _ => [cell g2 23 #[.slice A9 (xl ++ y).length c9], Vec 5 1 encB (.slice A9 (xl ++ y).length c9) (xl ++ y), TldF gg gm ((j + 1 : Nat) : Int) ((listL (xl ++ y)).1.take (listL (xl ++ y)).1.length), PartsT 23 x.v x.l, Vec 5 1 encB xv3 (xl ++ y)]) rfl (a_doesc (os' := fun _ => [cell g2 23 #[.slice A9 (xl ++ y).length c9], Vec 5 1 encB (.slice A9 (xl ++ y).length c9) (xl ++ y), TldF gg gm ((j + 1 : Nat) : Int) ((listL (xl ++ y)).1.take (listL (xl ++ y)).1.length), PartsT 23 x.v x.l, Vec 5 1 encB xv3 (xl ++ y)]) (vs := [.func (.func 17) #[] #[.pointer (some ⟨gg, 0, none⟩), .pointer (some ⟨gm, 0, none⟩)]]) (caps := [.pointer (some ⟨g2, 0, none⟩)]) [0, 1, 2] 0 (ent_of Try.func23 (by kernel_rfl) rfl) (all1 g2 (by omega) rfl (list_parts _ _) 17 ([.pointer (some ⟨gg, 0, none⟩), .pointer (some ⟨gm, 0, none⟩)] : List Value) (ent_of Try.func17 (by kernel_rfl) rfl) (fun q : Nat => TldF gg gm ((j + 1 : Nat) : Int) ((listL (xl ++ y)).1.take q)) rfl (fun q z d hq => tldf_go gg gm (j + 1) (by omega) hq (by have := (List.getElem?_eq_some_iff.1 hq).1; omega) (by have := (List.getElem?_eq_some_iff.1 hq).1; exact decide_eq_true (by omega)))) rfl rfl rfl (fun _ => rfl) rfl rfl rfl) ?_; rintro ⟨⟩
        refine h_done ?_
        refine d_open 2 rfl TldF.open_ (fun _ => rfl) ?_; rintro q
        refine WC2.fact 3 rfl (fun _ h => h.2) ?_; rintro hq
        refine WC2.leave [3] rfl rfl ?_
        have hlx := congrArg List.length hl
        rw [List.length_map] at hlx
        have hqx := congrArg List.length hq
        rw [List.length_map, List.length_take] at hqx
        refine d_seq ?_
        refine d_parS 11 2 [⟨.actv 0, [some false, some false], fun _ => .bool true, []⟩, ⟨.quiet, [some true, none], fun _ => .bool true, [0]⟩, ⟨.quiet, [some true, none], fun _ => q.v, [1]⟩, ⟨.quiet, [some true, none], fun _ => x.v, [1]⟩, ⟨.quiet, [some true, none], fun _ => .int .i64 ((j + 1 : Nat) : Int), [1]⟩, ⟨.quiet, [some true, none], fun _ => x.v, [1]⟩, ⟨.quiet, [some true, none], fun _ => .int .i64 (x.l.length : Int), [5, 1]⟩, ⟨.quiet, [some true, none], fun _ => .int .i64 (((listL (xl ++ y)).1.length : Nat) : Int), [4, 6, 1]⟩, ⟨.quiet, [some true, none], fun _ => subv 1 x.v 0 ((listL (xl ++ y)).1.length), [3, 7, 1]⟩, ⟨.actv 1, [some true, some false], fun _ => .bool true, [2, 8, 1]⟩, ⟨.quiet, [some true, some true], fun _ => .bool true, [1, 9]⟩] [(5, .pointer (some ⟨gm, 0, none⟩)), (6, .bool false), (9, x.v), (11, .pointer (some ⟨gg, 0, none⟩))] (fun ρ => match ρ with | [r0, r1] => [cell gg 25 #[q.v], PartsT 23 q.v q.l, cell gm 3 #[.int .i64 ((j + 1 : Nat) : Int)], cell g2 23 #[.slice A9 (xl ++ y).length c9], Vec 5 1 encB (.slice A9 (xl ++ y).length c9) (xl ++ y), PartsT 23 x.v x.l, Vec 5 1 encB xv3 (xl ++ y)] | _ => []) (by kernel_rfl) (by kernel_rfl) ⟨rfl, rfl, rfl, rfl, trivial⟩ rfl ?_ ?_
        · skip
          refine s_cons (by exact ⟨rfl, Acts.su (a_call (ent_of Try.func8 (by kernel_rfl) rfl) (fun w hH => known8_true w) rfl rfl rfl) rfl⟩) ?_
          refine s_cons (by intro v0_ r1_; exact ⟨rfl, fun b w hH hb => exec_q1 hflS rfl hb⟩) ?_
          refine s_cons (by intro v0_ r1_; exact ⟨rfl, fun b w hH hb => exec_load rfl rfl (reads_one ty_s_s_uint8 rfl) (hH.row 0 rfl) hb⟩) ?_
          refine s_cons (by intro v0_ r1_; exact ⟨rfl, fun b w hH hb => exec_q1 hflS rfl hb⟩) ?_
          refine s_cons (by intro v0_ r1_; exact ⟨rfl, fun b w hH hb => exec_load rfl rfl (reads_one ty_int rfl) (hH.row 2 rfl) hb⟩) ?_
          refine s_cons (by intro v0_ r1_; exact ⟨rfl, fun b w hH hb => exec_q1 hflS rfl hb⟩) ?_
          refine s_cons (by intro v0_ r1_; exact ⟨rfl, fun b w hH hb => e_plen 5 Try.underlying25 rfl rfl rfl hH hb⟩) ?_
          refine s_cons (by intro v0_ r1_; exact ⟨rfl, fun b w hH hb => exec_builtin2 rfl rfl (fun cs => (fun w cs => run_min2 (by split <;> omega) _ _ w cs) w cs) hb⟩) ?_
          refine s_cons (by intro v0_ r1_; exact ⟨rfl, fun b w hH hb => e_psub_hi 5 (b := (listL (xl ++ y)).1.length) sl_s_uint8 rfl (by omega) rfl rfl rfl hH hb⟩) ?_
          refine s_cons (by intro v0_; exact ⟨rfl, Acts.su (a_does (os' := fun _ => [cell gg 25 #[q.v], PartsT 23 q.v q.l, cell gm 3 #[.int .i64 ((j + 1 : Nat) : Int)], cell g2 23 #[.slice A9 (xl ++ y).length c9], Vec 5 1 encB (.slice A9 (xl ++ y).length c9) (xl ++ y), PartsT 23 x.v x.l, Vec 5 1 encB xv3 (xl ++ y)]) [1, 5] 0 (ent_of Try.func14 (by kernel_rfl) rfl) (same_does rdPs_all (rdPs_take (by omega)) (by rw [List.length_map]; omega) (by rw [ptOf_ds, ptOf_ds, hq, List.map_take, hl, beq_self_eq_true])) rfl rfl rfl (fun _ => rfl) rfl rfl rfl) rfl⟩) ?_
          refine s_cons (by intro v0_ v1_; exact ⟨rfl, fun b w hH hb => exec_q1 hflS rfl hb⟩) ?_
          exact s_nil
        intro v0_ v1_
        refine WL2.keep (env' := [(6, .bool false), (67, .bool true)]) ⟨rfl, rfl, trivial⟩ ?_
        refine h_q hflS rfl ?_
        refine h_nil (f_to (d_ret ?_))
        exact f_fin1 (.tmp rfl) (fun w h => ⟨rfl, below0 h.up⟩) rfl
end Go.Proofs.Ythamiglbifgepaa.Sep
