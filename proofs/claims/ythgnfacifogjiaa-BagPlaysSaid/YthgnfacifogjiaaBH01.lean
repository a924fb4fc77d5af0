/-
  BagV
-/
import Derived.Test.YthgnfacifogjiaaBB01
import Derived.Test.YthgnfacifogjiaaBE01
import Derived.Test.YthgnfacifogjiaaBF02
import Derived.Test.YthgnfacifogjiaaBG01
set_option linter.unusedSimpArgs false
set_option linter.unusedVariables false

namespace Go.Proofs.Ythgnfacifogjiaa.Sep
open Go.RowKit
open Go.Proofs.Ythgnfacifogjiaa.Mem (Dist Blk Chg below0)

section
variable {α : Type}
theorem takeB_len (l : List α) (k : Int) (d : α) : (takeB l k d).1.length ≤ l.length := by
  unfold takeB; split
  · simp only [List.length_append, List.length_take, List.length_drop]; omega
  · exact Nat.le_refl _
theorem putB_len (m : Int) (l : List α) (n : Int) (x : α) (h : (l.length : Int) ≤ m) : ((putB m l n x).1.length : Int) ≤ m ∧ n ≤ (putB m l n x).2.1 ∧ (putB m l n x).2.1 ≤ n + 1 := by
  unfold putB; split
  · simp only [List.length_append, List.length_cons, List.length_nil]; omega
  · simp only; omega
theorem dblB_len (m : Int) (l : List α) (k : Int) (h : (l.length : Int) ≤ m) : ((dblB m l k).1.length : Int) ≤ m := by
  unfold dblB; split
  · have : ((l[k.toNat]?).toList).length ≤ 1 := by cases l[k.toNat]? <;> simp
    simp only [List.length_append]; omega
  · exact h
end

set_option maxHeartbeats 2000000 in
set_option maxRecDepth 100000 in
theorem plays_true (w : World) (most : Int) (sl : Value) (l : List StepB) (h1 : -9223372036854775808 ≤ most ∧ most ≤ 9223372036854775807) (hl : SlRd w 3 sl l.length (flat encG l)) (hll : l.length ≤ 9223372036854775807) (hlo : ∀ y ∈ l, y.ok) : Calls Try.prog 4 #[.int .i64 most, sl] w fun e w' => e = .returned (.bool true) ∧ Below w.heap.size w w' := by
  refine d_in (args := [.int .i64 most, sl]) 200 Try.func4 rfl rfl rfl ?_
  refine d_reg ?_
  refine h_q hflS rfl ?_
  refine h_done ?_
  by_cases hm : 1 ≤ most ∧ most ≤ 256
  · skip
    have hm256 : most ≤ 256 := hm.2
    refine d_reg ?_
    refine h_q hflS rfl ?_
    refine h_act (post := fun g => [BagT 52 3 encI g most ([]) 0]) rfl (a_does (os' := fun g => [BagT 52 3 encI g most ([]) 0]) [] 0 (ent_of Try.func7 (by kernel_rfl) rfl) (new_int most hm) rfl rfl rfl (fun _ => rfl) rfl rfl rfl) ?_; rintro g
    refine h_q hflS rfl ?_
    refine h_done (d_seq (d_reg ?_))
    refine h_q hflS rfl ?_
    refine h_act (post := fun _ => [BagT 52 3 encI g most ([]) 0]) rfl (a_call (ent_of Try.func9 (by kernel_rfl) rfl) (fun w hH => Run.known_calls w) rfl rfl rfl) ?_; rintro ⟨⟩
    refine h_q hflS rfl ?_
    refine h_done (d_else rfl (d_skip (f_to (d_seq (d_reg ?_)))))
    refine h_q hflS rfl ?_
    refine h_val rfl (.bool false) (fun b w hb hH => exec_cmp rfl rfl rfl (cmp_lss_f (by omega)) hb) ?_
    refine h_q hflS rfl ?_
    refine h_val rfl (.bool false) (fun b w hb hH => exec_cmp rfl rfl rfl (cmp_gtr_f (by omega)) hb) ?_
    refine h_q hflS rfl ?_
    refine h_done (d_else rfl (d_skip (f_to (d_seq (d_reg ?_)))))
    refine h_q hflS rfl ?_
    refine h_val rfl (.bool false) (fun b w hb hH => exec_cmp rfl rfl rfl (cmp_neq_f (by decide)) hb) ?_
    refine h_q hflS rfl ?_
    refine h_val rfl (.bool false) (fun b w hb hH => exec_pnil_eql (by kernel_rfl) rfl rfl rfl hb) ?_
    refine h_q hflS rfl ?_
    refine h_done (d_else rfl (d_skip (f_to (d_reg ?_))))
    refine h_q hflS rfl ?_
    refine h_val rfl (.agg #[.int .i64 most, .int .i64 0, .slice none 0 0]) (fun b w hb hH => exec_build rfl rfl (by kernel_rfl) hb) ?_
    refine h_act (post := fun gr => [cell gr 39 #[.int .i64 most, .int .i64 0, .slice none 0 0], BagT 52 3 encI g most ([]) 0]) rfl (a_box (cs := #[.int .i64 most, .int .i64 0, .slice none 0 0]) rfl rfl rfl) ?_; rintro gr
    refine h_q hflS rfl ?_
    refine h_done (d_seq ?_)
    refine d_nilvec 3 1 encI ?_
    refine d_reg ?_
    refine h_q hflS rfl ?_
    refine h_done (d_block ?_)
    refine d_loop (α := Nat × List Int × Int × Value) (fun ⟨i, L, N, v⟩ => [(1, sl), (4, .bool false), (5, .pointer (some ⟨g, 0, none⟩)), (7, .pointer (some ⟨gr, 0, none⟩)), (8, .int .i64 ((i : Nat) : Int))]) (fun ⟨i, L, N, v⟩ => [Vec 3 1 encI v L, cell gr 39 #[.int .i64 most, .int .i64 N, v], BagT 52 3 encI g most L N]) (fun ⟨i, L, N, v⟩ => i ≤ 800 ∧ (L.length : Int) ≤ most ∧ 0 ≤ N ∧ N ≤ (i : Int)) (fun ⟨i, L, N, v⟩ => 801 - i) (0, [], 0, .slice none 0 0) ⟨(show 0 ≤ 800 by decide), (show ((([] : List Int).length : Nat) : Int) ≤ most by simp; omega), (show (0 : Int) ≤ 0 by decide), (show (0 : Int) ≤ ((0 : Nat) : Int) by decide)⟩ ⟨rfl, rfl, rfl, rfl, rfl, trivial⟩ rfl ?_
    rintro ⟨i, L, N, v⟩ hI
    refine WC2.at_ (env' := [(1, sl), (4, .bool false), (5, .pointer (some ⟨g, 0, none⟩)), (7, .pointer (some ⟨gr, 0, none⟩)), (8, .int .i64 ((i : Nat) : Int))]) (rs' := [Vec 3 1 encI v L, cell gr 39 #[.int .i64 most, .int .i64 N, v], BagT 52 3 encI g most L N]) ⟨rfl, rfl, rfl, rfl, rfl, trivial⟩ rfl ?_
    have hI1 : i ≤ 800 := hI.1
    have hLm : (L.length : Int) ≤ most := hI.2.1
    have hI3 : 0 ≤ N ∧ N ≤ (i : Int) := hI.2.2
    have hN : -4611686018427387904 ≤ N ∧ N ≤ 4611686018427387904 := by omega
    refine d_seq ?_
    have h3 : (i < l.length ∧ i < 800) ∨ ¬ i < l.length ∨ (i < l.length ∧ ¬ i < 800) := by omega
    rcases h3 with ⟨h4, h5⟩ | h4 | ⟨h4, h5⟩
    · skip
      obtain ⟨x, hx⟩ : ∃ x, l[i]? = some x := ⟨_, List.getElem?_eq_getElem h4⟩
      have hxo := hlo x (List.mem_of_getElem? hx)
      obtain ⟨q, hq⟩ : ∃ q, x.what % 5 = q := ⟨_, rfl⟩
      have hq0 : 0 ≤ q ∧ q < 5 := by omega
      refine d_reg ?_
      refine h_q hflS rfl ?_
      refine h_val rfl (.int .i64 (l.length : Int)) (fun b w hb hH => e_slen (arg_rd hl hH) Try.underlying35 rfl rfl hb) ?_
      refine h_val rfl (.bool true) (fun b w hb hH => exec_cmp rfl rfl rfl (cmp_lss_t (by omega)) hb) ?_
      refine h_q hflS rfl ?_
      refine h_val rfl (.bool true) (fun b w hb hH => exec_cmp rfl rfl rfl (cmp_lss_t (by omega)) hb) ?_
      refine h_q hflS rfl ?_
      refine h_done (d_then rfl (d_skip (f_to (d_seq (d_block ?_)))))
      obtain ⟨xw, xk, xn⟩ := x
      cases xn
      · skip
        refine d_reg ?_
        refine h_q hflS rfl ?_
        refine h_val rfl (elp sl (i * 3)) (fun b w hb hH => e_sidx okG (arg_rd hl hH) sl_bursarlaw13_Step (j := i) hx rfl rfl rfl hb) ?_
        refine h_val rfl (elp sl (i * 3 + 1)) (fun b w hb hH => e_sfield okG (by decide) (arg_rd hl hH) (j := i) hx fd_bursarlaw13_Step_1 rfl rfl hb) ?_
        refine h_val rfl (.int .i64 xk) (fun b w hb hH => e_sload okG (by decide) (arg_rd hl hH) (j := i) hx ty_int (off := 1) rfl rfl rfl hb) ?_
        refine h_q hflS rfl ?_
        refine h_done (d_seq (d_reg ?_))
        refine h_q hflS rfl ?_
        refine h_val rfl (elp sl (i * 3)) (fun b w hb hH => e_sidx okG (arg_rd hl hH) sl_bursarlaw13_Step (j := i) hx rfl rfl rfl hb) ?_
        refine h_val rfl (elp sl (i * 3 + 2)) (fun b w hb hH => e_sfield okG (by decide) (arg_rd hl hH) (j := i) hx fd_bursarlaw13_Step_2 rfl rfl hb) ?_
        refine h_val rfl (.bool false) (fun b w hb hH => e_sload okG (by decide) (arg_rd hl hH) (j := i) hx ty_bool (off := 2) rfl rfl rfl hb) ?_
        refine h_done (d_else rfl (d_skip (f_to (d_reg ?_))))
        refine h_q hflS rfl ?_
        refine h_done (d_seq ?_)
        have hq5 : q = 2 ∨ q = 3 ∨ q = 4 ∨ (q ≠ 2 ∧ q ≠ 3 ∧ q ≠ 4) := by omega
        rcases hq5 with hw2 | hw3 | hw4 | ⟨hw2, hw3, hw4⟩
        · skip
          obtain ⟨R, hR⟩ : ∃ R, takeB L xk 0 = R := ⟨_, rfl⟩
          have hlen : (R.1.length : Int) ≤ most := by have := takeB_len L xk 0; rw [hR] at this; omega
          refine d_reg ?_
          refine h_q hflS rfl ?_
          refine h_val rfl (elp sl (i * 3)) (fun b w hb hH => e_sidx okG (arg_rd hl hH) sl_bursarlaw13_Step (j := i) hx rfl rfl rfl hb) ?_
          refine h_val rfl (elp sl (i * 3 + 0)) (fun b w hb hH => e_sfield okG (by decide) (arg_rd hl hH) (j := i) hx fd_bursarlaw13_Step_0 rfl rfl hb) ?_
          refine h_val rfl (.int .i64 xw) (fun b w hb hH => e_sload okG (by decide) (arg_rd hl hH) (j := i) hx ty_int (off := 0) rfl rfl rfl hb) ?_
          refine h_act (post := fun _ => [Vec 3 1 encI v L, cell gr 39 #[.int .i64 most, .int .i64 N, v], BagT 52 3 encI g most L N]) rfl (a_call (ent_of Try.func15 (by kernel_rfl) rfl) (fun w hH => pick w xw 5 hxo.1 (by decide) hq) rfl rfl rfl) ?_; rintro ⟨⟩
          refine h_done (d_block (d_reg ?_))
          refine h_q hflS rfl ?_
          refine h_val rfl (.bool true) (fun b w hb hH => exec_cmp rfl rfl rfl (cmp_eql_t hw2) hb) ?_
          refine h_q hflS rfl ?_
          refine h_done (d_then rfl (d_reg ?_))
          refine h_q hflS rfl ?_
          refine h_act (post := fun _ => [Vec 3 1 encI v L, cell gr 39 #[.int .i64 most, .int .i64 N, v], BagT 52 3 encI g most R.1 N]) rfl (a_does (os' := fun _ => [Vec 3 1 encI v L, cell gr 39 #[.int .i64 most, .int .i64 N, v], BagT 52 3 encI g most R.1 N]) [2] 0 (ent_of Try.func16 (by kernel_rfl) rfl) (take_int g most L N xk hm256 hLm R hR) rfl rfl rfl (fun _ => rfl) rfl rfl rfl) ?_; rintro ⟨⟩
          refine h_q hflS rfl ?_
          refine h_done (d_reg ?_)
          refine h_q hflS rfl ?_
          refine h_act (post := fun u => [Vec 3 1 encI u R.1, cell gr 39 #[.int .i64 most, .int .i64 N, u], BagT 52 3 encI g most R.1 N]) rfl (a_does (os' := fun u => [Vec 3 1 encI u R.1, cell gr 39 #[.int .i64 most, .int .i64 N, u], BagT 52 3 encI g most R.1 N]) [1, 0] 0 (ent_of Try.func17 (by kernel_rfl) rfl) (rtake gr most N v L xk hm256 hLm R hR) rfl rfl rfl (fun _ => rfl) rfl rfl rfl) ?_; rintro u
          refine h_q hflS rfl ?_
          refine h_done (d_reg1 ?_)
          refine h_q hflS rfl ?_
          refine h_val rfl (.bool true) (fun b w hb hH => exec_cmp rfl rfl rfl (cmp_eql_t rfl) hb) ?_
          refine h_q hflS rfl ?_
          refine h_val rfl (.bool true) (fun b w hb hH => exec_eqs (eqB_same _) rfl rfl rfl hb) ?_
          refine h_q hflS rfl ?_
          refine h_nil (f_block (f_to (d_seq ?_)))
          refine d_parS 21 2 [⟨.quiet, [none, none], fun _ => .bool true, []⟩, ⟨.quiet, [none, none], fun _ => .bool false, [0]⟩, ⟨.quiet, [none, none], fun _ => .bool false, [1]⟩, ⟨.quiet, [none, none], fun _ => .pointer (some ⟨g, 0, none⟩), [2]⟩, ⟨.actv 0, [some false, some false], fun _ => .int .i64 (R.1.length : Int), [3, 2]⟩, ⟨.quiet, [none, none], fun _ => .pointer (some ⟨gr, 0, none⟩), [2]⟩, ⟨.quiet, [none, none], fun _ => .pointer (some ⟨gr, 0, none⟩), [5, 2]⟩, ⟨.quiet, [none, none], fun _ => .pointer (some ⟨gr, 2, none⟩), [6, 2]⟩, ⟨.quiet, [none, none], fun _ => u, [7, 2]⟩, ⟨.quiet, [none, none], fun _ => .int .i64 (R.1.length : Int), [8, 2]⟩, ⟨.quiet, [some true, none], fun _ => .bool false, [4, 9, 2]⟩, ⟨.quiet, [some true, none], fun _ => .bool false, [2, 10]⟩, ⟨.quiet, [some true, none], fun _ => .bool false, [11]⟩, ⟨.quiet, [some true, none], fun _ => .pointer (some ⟨g, 0, none⟩), [12]⟩, ⟨.actv 1, [some true, some false], fun _ => .int .i64 N, [13, 12]⟩, ⟨.quiet, [some true, none], fun _ => .pointer (some ⟨gr, 0, none⟩), [12]⟩, ⟨.quiet, [some true, none], fun _ => .pointer (some ⟨gr, 0, none⟩), [15, 12]⟩, ⟨.quiet, [some true, none], fun _ => .pointer (some ⟨gr, 1, none⟩), [16, 12]⟩, ⟨.quiet, [some true, none], fun _ => .int .i64 N, [17, 12]⟩, ⟨.quiet, [some true, some true], fun _ => .bool false, [14, 18, 12]⟩, ⟨.quiet, [some true, some true], fun _ => .bool false, [12, 19]⟩] [(1, sl), (4, .bool false), (5, .pointer (some ⟨g, 0, none⟩)), (7, .pointer (some ⟨gr, 0, none⟩)), (8, .int .i64 ((i : Nat) : Int)), (50, .int .i64 ((i : Nat) : Int)), (51, sl), (52, .int .i64 (l.length : Int)), (53, .bool true), (54, .bool true), (55, .int .i64 ((i : Nat) : Int)), (56, .bool true), (57, .bool true), (60, sl), (61, .int .i64 ((i : Nat) : Int)), (62, elp sl (i * 3)), (63, elp sl (i * 3 + 1)), (64, .int .i64 xk), (9, .int .i64 xk), (65, sl), (66, .int .i64 ((i : Nat) : Int)), (67, elp sl (i * 3)), (68, elp sl (i * 3 + 2)), (69, .bool false), (78, sl), (79, .int .i64 ((i : Nat) : Int)), (80, elp sl (i * 3)), (81, elp sl (i * 3 + 0)), (82, .int .i64 xw), (83, .int .i64 q), (100, .bool true), (99, .bool true), (102, .pointer (some ⟨g, 0, none⟩)), (103, .int .i64 xk), (104, .tuple #[.int .i64 R.2.1, .bool R.2.2]), (101, .tuple #[.int .i64 R.2.1, .bool R.2.2]), (105, .int .i64 R.2.1), (106, .bool R.2.2), (11, .int .i64 R.2.1), (12, .bool R.2.2), (108, .pointer (some ⟨gr, 0, none⟩)), (109, .int .i64 xk), (110, .tuple #[.int .i64 R.2.1, .bool R.2.2]), (107, .tuple #[.int .i64 R.2.1, .bool R.2.2]), (111, .int .i64 R.2.1), (112, .bool R.2.2), (13, .int .i64 R.2.1), (14, .bool R.2.2), (113, .int .i64 R.2.1), (114, .int .i64 R.2.1), (115, .bool true), (116, .bool true), (117, .bool R.2.2), (118, .bool R.2.2), (119, .bool true), (120, .bool true), (10, .bool true)] (fun ρ => match ρ with | [rq0, rq1] => [Vec 3 1 encI u R.1, cell gr 39 #[.int .i64 most, .int .i64 N, u], BagT 52 3 encI g most R.1 N] | _ => []) (by kernel_rfl) (by kernel_rfl) ⟨rfl, rfl, rfl, rfl, rfl, rfl, rfl, rfl, rfl, rfl, rfl, rfl, rfl, rfl, rfl, rfl, rfl, rfl, rfl, rfl, rfl, rfl, rfl, rfl, rfl, rfl, rfl, rfl, rfl, rfl, rfl, rfl, rfl, rfl, rfl, rfl, rfl, rfl, rfl, rfl, rfl, rfl, rfl, rfl, rfl, rfl, rfl, rfl, rfl, rfl, rfl, rfl, rfl, rfl, rfl, rfl, rfl, trivial⟩ rfl ?_ ?_
          · skip
            refine s_cons (by intro r0_ r1_; exact ⟨rfl, fun b w hH hb => exec_q1 hflS rfl hb⟩) ?_
            refine s_cons (by intro r0_ r1_; exact ⟨rfl, fun b w hH hb => exec_q1 hflS rfl hb⟩) ?_
            refine s_cons (by intro r0_ r1_; exact ⟨rfl, fun b w hH hb => exec_q1 hflS rfl hb⟩) ?_
            refine s_cons (by intro r0_ r1_; exact ⟨rfl, fun b w hH hb => exec_q1 hflS rfl hb⟩) ?_
            refine s_cons (by exact ⟨rfl, Acts.su (a_does (os' := fun _ => [Vec 3 1 encI u R.1, cell gr 39 #[.int .i64 most, .int .i64 N, u], BagT 52 3 encI g most R.1 N]) [2] 0 (ent_of Try.func24 (by kernel_rfl) rfl) (len_int g most R.1 N) rfl rfl rfl (fun _ => rfl) rfl rfl rfl) rfl⟩) ?_
            refine s_cons (by intro r0_ r1_; exact ⟨rfl, fun b w hH hb => exec_q1 hflS rfl hb⟩) ?_
            refine s_cons (by intro r0_ r1_; exact ⟨rfl, fun b w hH hb => by exact exec_nilCheck rfl rfl hb⟩) ?_
            refine s_cons (by intro r0_ r1_; exact ⟨rfl, fun b w hH hb => exec_q1 hflS rfl hb⟩) ?_
            refine s_cons (by intro r0_ r1_; exact ⟨rfl, fun b w hH hb => exec_load rfl rfl (reads_one ty_s_int rfl) (hH.row 1 rfl) hb⟩) ?_
            refine s_cons (by intro r0_ r1_; exact ⟨rfl, fun b w hH hb => e_vlen 0 Try.underlying37 rfl rfl rfl hH hb⟩) ?_
            refine s_cons (by intro v0_ r1_; exact ⟨rfl, fun b w hH hb => exec_cmp rfl rfl rfl (cmp_neq_f (by simp)) hb⟩) ?_
            refine s_cons (by intro v0_ r1_; exact ⟨rfl, fun b w hH hb => exec_q1 hflS rfl hb⟩) ?_
            refine s_cons (by intro v0_ r1_; exact ⟨rfl, fun b w hH hb => exec_q1 hflS rfl hb⟩) ?_
            refine s_cons (by intro v0_ r1_; exact ⟨rfl, fun b w hH hb => exec_q1 hflS rfl hb⟩) ?_
            refine s_cons (by intro v0_; exact ⟨rfl, Acts.su (a_does (os' := fun _ => [Vec 3 1 encI u R.1, cell gr 39 #[.int .i64 most, .int .i64 N, u], BagT 52 3 encI g most R.1 N]) [2] 0 (ent_of Try.func25 (by kernel_rfl) rfl) (lost_int g most R.1 N) rfl rfl rfl (fun _ => rfl) rfl rfl rfl) rfl⟩) ?_
            refine s_cons (by intro v0_ r1_; exact ⟨rfl, fun b w hH hb => exec_q1 hflS rfl hb⟩) ?_
            refine s_cons (by intro v0_ r1_; exact ⟨rfl, fun b w hH hb => by exact exec_nilCheck rfl rfl hb⟩) ?_
            refine s_cons (by intro v0_ r1_; exact ⟨rfl, fun b w hH hb => exec_q1 hflS rfl hb⟩) ?_
            refine s_cons (by intro v0_ r1_; exact ⟨rfl, fun b w hH hb => exec_load rfl rfl (reads_one ty_int rfl) (hH.row 1 rfl) hb⟩) ?_
            refine s_cons (by intro v0_ v1_; exact ⟨rfl, fun b w hH hb => exec_cmp rfl rfl rfl (cmp_neq_f (by simp)) hb⟩) ?_
            refine s_cons (by intro v0_ v1_; exact ⟨rfl, fun b w hH hb => exec_q1 hflS rfl hb⟩) ?_
            exact s_nil
          intro v0_ v1_
          refine WL2.keep (env' := [(1, sl), (4, .bool false), (5, .pointer (some ⟨g, 0, none⟩)), (7, .pointer (some ⟨gr, 0, none⟩)), (8, .int .i64 ((i : Nat) : Int)), (50, .int .i64 ((i : Nat) : Int)), (51, sl), (52, .int .i64 (l.length : Int)), (53, .bool true), (54, .bool true), (55, .int .i64 ((i : Nat) : Int)), (56, .bool true), (57, .bool true), (60, sl), (61, .int .i64 ((i : Nat) : Int)), (62, elp sl (i * 3)), (63, elp sl (i * 3 + 1)), (64, .int .i64 xk), (9, .int .i64 xk), (65, sl), (66, .int .i64 ((i : Nat) : Int)), (67, elp sl (i * 3)), (68, elp sl (i * 3 + 2)), (69, .bool false), (78, sl), (79, .int .i64 ((i : Nat) : Int)), (80, elp sl (i * 3)), (81, elp sl (i * 3 + 0)), (82, .int .i64 xw), (83, .int .i64 q), (100, .bool true), (99, .bool true), (102, .pointer (some ⟨g, 0, none⟩)), (103, .int .i64 xk), (104, .tuple #[.int .i64 R.2.1, .bool R.2.2]), (101, .tuple #[.int .i64 R.2.1, .bool R.2.2]), (105, .int .i64 R.2.1), (106, .bool R.2.2), (11, .int .i64 R.2.1), (12, .bool R.2.2), (108, .pointer (some ⟨gr, 0, none⟩)), (109, .int .i64 xk), (110, .tuple #[.int .i64 R.2.1, .bool R.2.2]), (107, .tuple #[.int .i64 R.2.1, .bool R.2.2]), (111, .int .i64 R.2.1), (112, .bool R.2.2), (13, .int .i64 R.2.1), (14, .bool R.2.2), (113, .int .i64 R.2.1), (114, .int .i64 R.2.1), (115, .bool true), (116, .bool true), (117, .bool R.2.2), (118, .bool R.2.2), (119, .bool true), (120, .bool true), (10, .bool true), (152, .bool true), (153, .bool false), (154, .bool false), (155, .pointer (some ⟨g, 0, none⟩)), (156, .int .i64 (R.1.length : Int)), (157, .pointer (some ⟨gr, 0, none⟩)), (158, .pointer (some ⟨gr, 0, none⟩)), (159, .pointer (some ⟨gr, 2, none⟩)), (160, u), (161, .int .i64 (R.1.length : Int)), (162, .bool false), (163, .bool false), (164, .bool false), (165, .pointer (some ⟨g, 0, none⟩)), (166, .int .i64 N), (167, .pointer (some ⟨gr, 0, none⟩)), (168, .pointer (some ⟨gr, 0, none⟩)), (169, .pointer (some ⟨gr, 1, none⟩)), (170, .int .i64 N), (171, .bool false), (172, .bool false)]) ⟨rfl, rfl, rfl, rfl, rfl, rfl, rfl, rfl, rfl, rfl, rfl, rfl, rfl, rfl, rfl, rfl, rfl, rfl, rfl, rfl, rfl, rfl, rfl, rfl, rfl, rfl, rfl, rfl, rfl, rfl, rfl, rfl, rfl, rfl, rfl, rfl, rfl, rfl, rfl, rfl, rfl, rfl, rfl, rfl, rfl, rfl, rfl, rfl, rfl, rfl, rfl, rfl, rfl, rfl, rfl, rfl, rfl, rfl, rfl, rfl, rfl, rfl, rfl, rfl, rfl, rfl, rfl, rfl, rfl, rfl, rfl, rfl, rfl, rfl, rfl, rfl, rfl, rfl, trivial⟩ ?_
          refine h_nil (f_to (d_else rfl (d_skip (f_block (f_to (d_reg1 ?_))))))
          refine h_q hflS rfl ?_
          refine h_val rfl (.int .i64 ((i + 1 : Nat) : Int)) (fun b w hb hH => exec_ar rfl rfl rfl rfl (by rw [IntWalk.i64_in _ (by omega)]; omega) hb) ?_
          refine h_q hflS rfl ?_
          refine h_nil ?_
          exact f_again (i + 1, R.1, N, u) 0 ⟨show i + 1 ≤ 800 by omega, hlen, hI3.1, by omega⟩ (show 801 - (i + 1) < 801 - i by omega) ⟨rfl, rfl, rfl, rfl, rfl, trivial⟩ rfl
        · skip
          obtain ⟨R, hR⟩ : ∃ R, dblB most L xk = R := ⟨_, rfl⟩
          have hlen : (R.1.length : Int) ≤ most := by have := dblB_len most L xk hLm; rw [hR] at this; exact this
          refine d_reg ?_
          refine h_q hflS rfl ?_
          refine h_val rfl (elp sl (i * 3)) (fun b w hb hH => e_sidx okG (arg_rd hl hH) sl_bursarlaw13_Step (j := i) hx rfl rfl rfl hb) ?_
          refine h_val rfl (elp sl (i * 3 + 0)) (fun b w hb hH => e_sfield okG (by decide) (arg_rd hl hH) (j := i) hx fd_bursarlaw13_Step_0 rfl rfl hb) ?_
          refine h_val rfl (.int .i64 xw) (fun b w hb hH => e_sload okG (by decide) (arg_rd hl hH) (j := i) hx ty_int (off := 0) rfl rfl rfl hb) ?_
          refine h_act (post := fun _ => [Vec 3 1 encI v L, cell gr 39 #[.int .i64 most, .int .i64 N, v], BagT 52 3 encI g most L N]) rfl (a_call (ent_of Try.func15 (by kernel_rfl) rfl) (fun w hH => pick w xw 5 hxo.1 (by decide) hq) rfl rfl rfl) ?_; rintro ⟨⟩
          refine h_done (d_block (d_reg ?_))
          refine h_q hflS rfl ?_
          refine h_val rfl (.bool false) (fun b w hb hH => exec_cmp rfl rfl rfl (cmp_eql_f (by omega)) hb) ?_
          refine h_q hflS rfl ?_
          refine h_done (d_else rfl (d_reg ?_))
          refine h_q hflS rfl ?_
          refine h_val rfl (.bool true) (fun b w hb hH => exec_cmp rfl rfl rfl (cmp_eql_t hw3) hb) ?_
          refine h_q hflS rfl ?_
          refine h_done (d_then rfl (d_reg1 ?_))
          refine h_q hflS rfl ?_
          refine h_act (post := fun _ => [Vec 3 1 encI v L, cell gr 39 #[.int .i64 most, .int .i64 N, v], BagT 52 3 encI g most R.1 N]) rfl (a_does (os' := fun _ => [Vec 3 1 encI v L, cell gr 39 #[.int .i64 most, .int .i64 N, v], BagT 52 3 encI g most R.1 N]) [2] 0 (ent_of Try.func18 (by kernel_rfl) rfl) (dbl_int g most L N xk hm256 hLm hN R hR) rfl rfl rfl (fun _ => rfl) rfl rfl rfl) ?_; rintro ⟨⟩
          refine h_q hflS rfl ?_
          refine h_act (post := fun u => [Vec 3 1 encI u R.1, cell gr 39 #[.int .i64 most, .int .i64 N, u], BagT 52 3 encI g most R.1 N]) rfl (a_does (os' := fun u => [Vec 3 1 encI u R.1, cell gr 39 #[.int .i64 most, .int .i64 N, u], BagT 52 3 encI g most R.1 N]) [1, 0] 0 (ent_of Try.func19 (by kernel_rfl) rfl) (rdbl gr most N v L xk hm256 hLm R hR) rfl rfl rfl (fun _ => rfl) rfl rfl rfl) ?_; rintro u
          refine h_val rfl (.bool true) (fun b w hb hH => exec_eqs (eqB_same _) rfl rfl rfl hb) ?_
          refine h_q hflS rfl ?_
          refine h_nil (f_block (f_to (d_seq ?_)))
          refine d_parS 21 2 [⟨.quiet, [none, none], fun _ => .bool true, []⟩, ⟨.quiet, [none, none], fun _ => .bool false, [0]⟩, ⟨.quiet, [none, none], fun _ => .bool false, [1]⟩, ⟨.quiet, [none, none], fun _ => .pointer (some ⟨g, 0, none⟩), [2]⟩, ⟨.actv 0, [some false, some false], fun _ => .int .i64 (R.1.length : Int), [3, 2]⟩, ⟨.quiet, [none, none], fun _ => .pointer (some ⟨gr, 0, none⟩), [2]⟩, ⟨.quiet, [none, none], fun _ => .pointer (some ⟨gr, 0, none⟩), [5, 2]⟩, ⟨.quiet, [none, none], fun _ => .pointer (some ⟨gr, 2, none⟩), [6, 2]⟩, ⟨.quiet, [none, none], fun _ => u, [7, 2]⟩, ⟨.quiet, [none, none], fun _ => .int .i64 (R.1.length : Int), [8, 2]⟩, ⟨.quiet, [some true, none], fun _ => .bool false, [4, 9, 2]⟩, ⟨.quiet, [some true, none], fun _ => .bool false, [2, 10]⟩, ⟨.quiet, [some true, none], fun _ => .bool false, [11]⟩, ⟨.quiet, [some true, none], fun _ => .pointer (some ⟨g, 0, none⟩), [12]⟩, ⟨.actv 1, [some true, some false], fun _ => .int .i64 N, [13, 12]⟩, ⟨.quiet, [some true, none], fun _ => .pointer (some ⟨gr, 0, none⟩), [12]⟩, ⟨.quiet, [some true, none], fun _ => .pointer (some ⟨gr, 0, none⟩), [15, 12]⟩, ⟨.quiet, [some true, none], fun _ => .pointer (some ⟨gr, 1, none⟩), [16, 12]⟩, ⟨.quiet, [some true, none], fun _ => .int .i64 N, [17, 12]⟩, ⟨.quiet, [some true, some true], fun _ => .bool false, [14, 18, 12]⟩, ⟨.quiet, [some true, some true], fun _ => .bool false, [12, 19]⟩] [(1, sl), (4, .bool false), (5, .pointer (some ⟨g, 0, none⟩)), (7, .pointer (some ⟨gr, 0, none⟩)), (8, .int .i64 ((i : Nat) : Int)), (50, .int .i64 ((i : Nat) : Int)), (51, sl), (52, .int .i64 (l.length : Int)), (53, .bool true), (54, .bool true), (55, .int .i64 ((i : Nat) : Int)), (56, .bool true), (57, .bool true), (60, sl), (61, .int .i64 ((i : Nat) : Int)), (62, elp sl (i * 3)), (63, elp sl (i * 3 + 1)), (64, .int .i64 xk), (9, .int .i64 xk), (65, sl), (66, .int .i64 ((i : Nat) : Int)), (67, elp sl (i * 3)), (68, elp sl (i * 3 + 2)), (69, .bool false), (78, sl), (79, .int .i64 ((i : Nat) : Int)), (80, elp sl (i * 3)), (81, elp sl (i * 3 + 0)), (82, .int .i64 xw), (83, .int .i64 q), (100, .bool false), (99, .bool false), (122, .bool true), (121, .bool true), (123, .pointer (some ⟨g, 0, none⟩)), (124, .int .i64 xk), (125, .bool R.2), (126, .pointer (some ⟨gr, 0, none⟩)), (127, .int .i64 xk), (128, .bool R.2), (129, .bool true), (10, .bool true)] (fun ρ => match ρ with | [rq0, rq1] => [Vec 3 1 encI u R.1, cell gr 39 #[.int .i64 most, .int .i64 N, u], BagT 52 3 encI g most R.1 N] | _ => []) (by kernel_rfl) (by kernel_rfl) ⟨rfl, rfl, rfl, rfl, rfl, rfl, rfl, rfl, rfl, rfl, rfl, rfl, rfl, rfl, rfl, rfl, rfl, rfl, rfl, rfl, rfl, rfl, rfl, rfl, rfl, rfl, rfl, rfl, rfl, rfl, rfl, rfl, rfl, rfl, rfl, rfl, rfl, rfl, rfl, rfl, rfl, rfl, trivial⟩ rfl ?_ ?_
          · skip
            refine s_cons (by intro r0_ r1_; exact ⟨rfl, fun b w hH hb => exec_q1 hflS rfl hb⟩) ?_
            refine s_cons (by intro r0_ r1_; exact ⟨rfl, fun b w hH hb => exec_q1 hflS rfl hb⟩) ?_
            refine s_cons (by intro r0_ r1_; exact ⟨rfl, fun b w hH hb => exec_q1 hflS rfl hb⟩) ?_
            refine s_cons (by intro r0_ r1_; exact ⟨rfl, fun b w hH hb => exec_q1 hflS rfl hb⟩) ?_
            refine s_cons (by exact ⟨rfl, Acts.su (a_does (os' := fun _ => [Vec 3 1 encI u R.1, cell gr 39 #[.int .i64 most, .int .i64 N, u], BagT 52 3 encI g most R.1 N]) [2] 0 (ent_of Try.func24 (by kernel_rfl) rfl) (len_int g most R.1 N) rfl rfl rfl (fun _ => rfl) rfl rfl rfl) rfl⟩) ?_
            refine s_cons (by intro r0_ r1_; exact ⟨rfl, fun b w hH hb => exec_q1 hflS rfl hb⟩) ?_
            refine s_cons (by intro r0_ r1_; exact ⟨rfl, fun b w hH hb => by exact exec_nilCheck rfl rfl hb⟩) ?_
            refine s_cons (by intro r0_ r1_; exact ⟨rfl, fun b w hH hb => exec_q1 hflS rfl hb⟩) ?_
            refine s_cons (by intro r0_ r1_; exact ⟨rfl, fun b w hH hb => exec_load rfl rfl (reads_one ty_s_int rfl) (hH.row 1 rfl) hb⟩) ?_
            refine s_cons (by intro r0_ r1_; exact ⟨rfl, fun b w hH hb => e_vlen 0 Try.underlying37 rfl rfl rfl hH hb⟩) ?_
            refine s_cons (by intro v0_ r1_; exact ⟨rfl, fun b w hH hb => exec_cmp rfl rfl rfl (cmp_neq_f (by simp)) hb⟩) ?_
            refine s_cons (by intro v0_ r1_; exact ⟨rfl, fun b w hH hb => exec_q1 hflS rfl hb⟩) ?_
            refine s_cons (by intro v0_ r1_; exact ⟨rfl, fun b w hH hb => exec_q1 hflS rfl hb⟩) ?_
            refine s_cons (by intro v0_ r1_; exact ⟨rfl, fun b w hH hb => exec_q1 hflS rfl hb⟩) ?_
            refine s_cons (by intro v0_; exact ⟨rfl, Acts.su (a_does (os' := fun _ => [Vec 3 1 encI u R.1, cell gr 39 #[.int .i64 most, .int .i64 N, u], BagT 52 3 encI g most R.1 N]) [2] 0 (ent_of Try.func25 (by kernel_rfl) rfl) (lost_int g most R.1 N) rfl rfl rfl (fun _ => rfl) rfl rfl rfl) rfl⟩) ?_
            refine s_cons (by intro v0_ r1_; exact ⟨rfl, fun b w hH hb => exec_q1 hflS rfl hb⟩) ?_
            refine s_cons (by intro v0_ r1_; exact ⟨rfl, fun b w hH hb => by exact exec_nilCheck rfl rfl hb⟩) ?_
            refine s_cons (by intro v0_ r1_; exact ⟨rfl, fun b w hH hb => exec_q1 hflS rfl hb⟩) ?_
            refine s_cons (by intro v0_ r1_; exact ⟨rfl, fun b w hH hb => exec_load rfl rfl (reads_one ty_int rfl) (hH.row 1 rfl) hb⟩) ?_
            refine s_cons (by intro v0_ v1_; exact ⟨rfl, fun b w hH hb => exec_cmp rfl rfl rfl (cmp_neq_f (by simp)) hb⟩) ?_
            refine s_cons (by intro v0_ v1_; exact ⟨rfl, fun b w hH hb => exec_q1 hflS rfl hb⟩) ?_
            exact s_nil
          intro v0_ v1_
          refine WL2.keep (env' := [(1, sl), (4, .bool false), (5, .pointer (some ⟨g, 0, none⟩)), (7, .pointer (some ⟨gr, 0, none⟩)), (8, .int .i64 ((i : Nat) : Int)), (50, .int .i64 ((i : Nat) : Int)), (51, sl), (52, .int .i64 (l.length : Int)), (53, .bool true), (54, .bool true), (55, .int .i64 ((i : Nat) : Int)), (56, .bool true), (57, .bool true), (60, sl), (61, .int .i64 ((i : Nat) : Int)), (62, elp sl (i * 3)), (63, elp sl (i * 3 + 1)), (64, .int .i64 xk), (9, .int .i64 xk), (65, sl), (66, .int .i64 ((i : Nat) : Int)), (67, elp sl (i * 3)), (68, elp sl (i * 3 + 2)), (69, .bool false), (78, sl), (79, .int .i64 ((i : Nat) : Int)), (80, elp sl (i * 3)), (81, elp sl (i * 3 + 0)), (82, .int .i64 xw), (83, .int .i64 q), (100, .bool false), (99, .bool false), (122, .bool true), (121, .bool true), (123, .pointer (some ⟨g, 0, none⟩)), (124, .int .i64 xk), (125, .bool R.2), (126, .pointer (some ⟨gr, 0, none⟩)), (127, .int .i64 xk), (128, .bool R.2), (129, .bool true), (10, .bool true), (152, .bool true), (153, .bool false), (154, .bool false), (155, .pointer (some ⟨g, 0, none⟩)), (156, .int .i64 (R.1.length : Int)), (157, .pointer (some ⟨gr, 0, none⟩)), (158, .pointer (some ⟨gr, 0, none⟩)), (159, .pointer (some ⟨gr, 2, none⟩)), (160, u), (161, .int .i64 (R.1.length : Int)), (162, .bool false), (163, .bool false), (164, .bool false), (165, .pointer (some ⟨g, 0, none⟩)), (166, .int .i64 N), (167, .pointer (some ⟨gr, 0, none⟩)), (168, .pointer (some ⟨gr, 0, none⟩)), (169, .pointer (some ⟨gr, 1, none⟩)), (170, .int .i64 N), (171, .bool false), (172, .bool false)]) ⟨rfl, rfl, rfl, rfl, rfl, rfl, rfl, rfl, rfl, rfl, rfl, rfl, rfl, rfl, rfl, rfl, rfl, rfl, rfl, rfl, rfl, rfl, rfl, rfl, rfl, rfl, rfl, rfl, rfl, rfl, rfl, rfl, rfl, rfl, rfl, rfl, rfl, rfl, rfl, rfl, rfl, rfl, rfl, rfl, rfl, rfl, rfl, rfl, rfl, rfl, rfl, rfl, rfl, rfl, rfl, rfl, rfl, rfl, rfl, rfl, rfl, rfl, rfl, trivial⟩ ?_
          refine h_nil (f_to (d_else rfl (d_skip (f_block (f_to (d_reg1 ?_))))))
          refine h_q hflS rfl ?_
          refine h_val rfl (.int .i64 ((i + 1 : Nat) : Int)) (fun b w hb hH => exec_ar rfl rfl rfl rfl (by rw [IntWalk.i64_in _ (by omega)]; omega) hb) ?_
          refine h_q hflS rfl ?_
          refine h_nil ?_
          exact f_again (i + 1, R.1, N, u) 0 ⟨show i + 1 ≤ 800 by omega, hlen, hI3.1, by omega⟩ (show 801 - (i + 1) < 801 - i by omega) ⟨rfl, rfl, rfl, rfl, rfl, trivial⟩ rfl
        · skip
          obtain ⟨R, hR⟩ : ∃ R, peekB L xk 0 = R := ⟨_, rfl⟩
          refine d_reg ?_
          refine h_q hflS rfl ?_
          refine h_val rfl (elp sl (i * 3)) (fun b w hb hH => e_sidx okG (arg_rd hl hH) sl_bursarlaw13_Step (j := i) hx rfl rfl rfl hb) ?_
          refine h_val rfl (elp sl (i * 3 + 0)) (fun b w hb hH => e_sfield okG (by decide) (arg_rd hl hH) (j := i) hx fd_bursarlaw13_Step_0 rfl rfl hb) ?_
          refine h_val rfl (.int .i64 xw) (fun b w hb hH => e_sload okG (by decide) (arg_rd hl hH) (j := i) hx ty_int (off := 0) rfl rfl rfl hb) ?_
          refine h_act (post := fun _ => [Vec 3 1 encI v L, cell gr 39 #[.int .i64 most, .int .i64 N, v], BagT 52 3 encI g most L N]) rfl (a_call (ent_of Try.func15 (by kernel_rfl) rfl) (fun w hH => pick w xw 5 hxo.1 (by decide) hq) rfl rfl rfl) ?_; rintro ⟨⟩
          refine h_done (d_block (d_reg ?_))
          refine h_q hflS rfl ?_
          refine h_val rfl (.bool false) (fun b w hb hH => exec_cmp rfl rfl rfl (cmp_eql_f (by omega)) hb) ?_
          refine h_q hflS rfl ?_
          refine h_done (d_else rfl (d_reg ?_))
          refine h_q hflS rfl ?_
          refine h_val rfl (.bool false) (fun b w hb hH => exec_cmp rfl rfl rfl (cmp_eql_f (by omega)) hb) ?_
          refine h_q hflS rfl ?_
          refine h_done (d_else rfl (d_reg ?_))
          refine h_q hflS rfl ?_
          refine h_val rfl (.bool true) (fun b w hb hH => exec_cmp rfl rfl rfl (cmp_eql_t hw4) hb) ?_
          refine h_q hflS rfl ?_
          refine h_done (d_then rfl (d_reg ?_))
          refine h_q hflS rfl ?_
          refine h_act (post := fun _ => [Vec 3 1 encI v L, cell gr 39 #[.int .i64 most, .int .i64 N, v], BagT 52 3 encI g most L N]) rfl (a_does (os' := fun _ => [Vec 3 1 encI v L, cell gr 39 #[.int .i64 most, .int .i64 N, v], BagT 52 3 encI g most L N]) [2] 0 (ent_of Try.func20 (by kernel_rfl) rfl) (peek_int g most L N xk R hR) rfl rfl rfl (fun _ => rfl) rfl rfl rfl) ?_; rintro ⟨⟩
          refine h_q hflS rfl ?_
          refine h_done (d_reg ?_)
          refine h_q hflS rfl ?_
          refine h_act (post := fun _ => [Vec 3 1 encI v L, cell gr 39 #[.int .i64 most, .int .i64 N, v], BagT 52 3 encI g most L N]) rfl (a_does (os' := fun _ => [Vec 3 1 encI v L, cell gr 39 #[.int .i64 most, .int .i64 N, v], BagT 52 3 encI g most L N]) [1, 0] 0 (ent_of Try.func21 (by kernel_rfl) rfl) (rpeek gr most N v L xk R hR) rfl rfl rfl (fun _ => rfl) rfl rfl rfl) ?_; rintro ⟨⟩
          refine h_q hflS rfl ?_
          refine h_done (d_reg1 ?_)
          refine h_q hflS rfl ?_
          refine h_val rfl (.bool true) (fun b w hb hH => exec_cmp rfl rfl rfl (cmp_eql_t rfl) hb) ?_
          refine h_q hflS rfl ?_
          refine h_val rfl (.bool true) (fun b w hb hH => exec_eqs (eqB_same _) rfl rfl rfl hb) ?_
          refine h_q hflS rfl ?_
          refine h_nil (f_block (f_to (d_seq ?_)))
          refine d_parS 21 2 [⟨.quiet, [none, none], fun _ => .bool true, []⟩, ⟨.quiet, [none, none], fun _ => .bool false, [0]⟩, ⟨.quiet, [none, none], fun _ => .bool false, [1]⟩, ⟨.quiet, [none, none], fun _ => .pointer (some ⟨g, 0, none⟩), [2]⟩, ⟨.actv 0, [some false, some false], fun _ => .int .i64 (L.length : Int), [3, 2]⟩, ⟨.quiet, [none, none], fun _ => .pointer (some ⟨gr, 0, none⟩), [2]⟩, ⟨.quiet, [none, none], fun _ => .pointer (some ⟨gr, 0, none⟩), [5, 2]⟩, ⟨.quiet, [none, none], fun _ => .pointer (some ⟨gr, 2, none⟩), [6, 2]⟩, ⟨.quiet, [none, none], fun _ => v, [7, 2]⟩, ⟨.quiet, [none, none], fun _ => .int .i64 (L.length : Int), [8, 2]⟩, ⟨.quiet, [some true, none], fun _ => .bool false, [4, 9, 2]⟩, ⟨.quiet, [some true, none], fun _ => .bool false, [2, 10]⟩, ⟨.quiet, [some true, none], fun _ => .bool false, [11]⟩, ⟨.quiet, [some true, none], fun _ => .pointer (some ⟨g, 0, none⟩), [12]⟩, ⟨.actv 1, [some true, some false], fun _ => .int .i64 N, [13, 12]⟩, ⟨.quiet, [some true, none], fun _ => .pointer (some ⟨gr, 0, none⟩), [12]⟩, ⟨.quiet, [some true, none], fun _ => .pointer (some ⟨gr, 0, none⟩), [15, 12]⟩, ⟨.quiet, [some true, none], fun _ => .pointer (some ⟨gr, 1, none⟩), [16, 12]⟩, ⟨.quiet, [some true, none], fun _ => .int .i64 N, [17, 12]⟩, ⟨.quiet, [some true, some true], fun _ => .bool false, [14, 18, 12]⟩, ⟨.quiet, [some true, some true], fun _ => .bool false, [12, 19]⟩] [(1, sl), (4, .bool false), (5, .pointer (some ⟨g, 0, none⟩)), (7, .pointer (some ⟨gr, 0, none⟩)), (8, .int .i64 ((i : Nat) : Int)), (50, .int .i64 ((i : Nat) : Int)), (51, sl), (52, .int .i64 (l.length : Int)), (53, .bool true), (54, .bool true), (55, .int .i64 ((i : Nat) : Int)), (56, .bool true), (57, .bool true), (60, sl), (61, .int .i64 ((i : Nat) : Int)), (62, elp sl (i * 3)), (63, elp sl (i * 3 + 1)), (64, .int .i64 xk), (9, .int .i64 xk), (65, sl), (66, .int .i64 ((i : Nat) : Int)), (67, elp sl (i * 3)), (68, elp sl (i * 3 + 2)), (69, .bool false), (78, sl), (79, .int .i64 ((i : Nat) : Int)), (80, elp sl (i * 3)), (81, elp sl (i * 3 + 0)), (82, .int .i64 xw), (83, .int .i64 q), (100, .bool false), (99, .bool false), (122, .bool false), (121, .bool false), (131, .bool true), (130, .bool true), (133, .pointer (some ⟨g, 0, none⟩)), (134, .int .i64 xk), (135, .tuple #[.int .i64 R.1, .bool R.2]), (132, .tuple #[.int .i64 R.1, .bool R.2]), (136, .int .i64 R.1), (137, .bool R.2), (15, .int .i64 R.1), (16, .bool R.2), (139, .pointer (some ⟨gr, 0, none⟩)), (140, .int .i64 xk), (141, .tuple #[.int .i64 R.1, .bool R.2]), (138, .tuple #[.int .i64 R.1, .bool R.2]), (142, .int .i64 R.1), (143, .bool R.2), (17, .int .i64 R.1), (18, .bool R.2), (144, .int .i64 R.1), (145, .int .i64 R.1), (146, .bool true), (147, .bool true), (148, .bool R.2), (149, .bool R.2), (150, .bool true), (151, .bool true), (10, .bool true)] (fun ρ => match ρ with | [rq0, rq1] => [Vec 3 1 encI v L, cell gr 39 #[.int .i64 most, .int .i64 N, v], BagT 52 3 encI g most L N] | _ => []) (by kernel_rfl) (by kernel_rfl) ⟨rfl, rfl, rfl, rfl, rfl, rfl, rfl, rfl, rfl, rfl, rfl, rfl, rfl, rfl, rfl, rfl, rfl, rfl, rfl, rfl, rfl, rfl, rfl, rfl, rfl, rfl, rfl, rfl, rfl, rfl, rfl, rfl, rfl, rfl, rfl, rfl, rfl, rfl, rfl, rfl, rfl, rfl, rfl, rfl, rfl, rfl, rfl, rfl, rfl, rfl, rfl, rfl, rfl, rfl, rfl, rfl, rfl, rfl, rfl, rfl, rfl, trivial⟩ rfl ?_ ?_
          · skip
            refine s_cons (by intro r0_ r1_; exact ⟨rfl, fun b w hH hb => exec_q1 hflS rfl hb⟩) ?_
            refine s_cons (by intro r0_ r1_; exact ⟨rfl, fun b w hH hb => exec_q1 hflS rfl hb⟩) ?_
            refine s_cons (by intro r0_ r1_; exact ⟨rfl, fun b w hH hb => exec_q1 hflS rfl hb⟩) ?_
            refine s_cons (by intro r0_ r1_; exact ⟨rfl, fun b w hH hb => exec_q1 hflS rfl hb⟩) ?_
            refine s_cons (by exact ⟨rfl, Acts.su (a_does (os' := fun _ => [Vec 3 1 encI v L, cell gr 39 #[.int .i64 most, .int .i64 N, v], BagT 52 3 encI g most L N]) [2] 0 (ent_of Try.func24 (by kernel_rfl) rfl) (len_int g most L N) rfl rfl rfl (fun _ => rfl) rfl rfl rfl) rfl⟩) ?_
            refine s_cons (by intro r0_ r1_; exact ⟨rfl, fun b w hH hb => exec_q1 hflS rfl hb⟩) ?_
            refine s_cons (by intro r0_ r1_; exact ⟨rfl, fun b w hH hb => by exact exec_nilCheck rfl rfl hb⟩) ?_
            refine s_cons (by intro r0_ r1_; exact ⟨rfl, fun b w hH hb => exec_q1 hflS rfl hb⟩) ?_
            refine s_cons (by intro r0_ r1_; exact ⟨rfl, fun b w hH hb => exec_load rfl rfl (reads_one ty_s_int rfl) (hH.row 1 rfl) hb⟩) ?_
            refine s_cons (by intro r0_ r1_; exact ⟨rfl, fun b w hH hb => e_vlen 0 Try.underlying37 rfl rfl rfl hH hb⟩) ?_
            refine s_cons (by intro v0_ r1_; exact ⟨rfl, fun b w hH hb => exec_cmp rfl rfl rfl (cmp_neq_f (by simp)) hb⟩) ?_
            refine s_cons (by intro v0_ r1_; exact ⟨rfl, fun b w hH hb => exec_q1 hflS rfl hb⟩) ?_
            refine s_cons (by intro v0_ r1_; exact ⟨rfl, fun b w hH hb => exec_q1 hflS rfl hb⟩) ?_
            refine s_cons (by intro v0_ r1_; exact ⟨rfl, fun b w hH hb => exec_q1 hflS rfl hb⟩) ?_
            refine s_cons (by intro v0_; exact ⟨rfl, Acts.su (a_does (os' := fun _ => [Vec 3 1 encI v L, cell gr 39 #[.int .i64 most, .int .i64 N, v], BagT 52 3 encI g most L N]) [2] 0 (ent_of Try.func25 (by kernel_rfl) rfl) (lost_int g most L N) rfl rfl rfl (fun _ => rfl) rfl rfl rfl) rfl⟩) ?_
            refine s_cons (by intro v0_ r1_; exact ⟨rfl, fun b w hH hb => exec_q1 hflS rfl hb⟩) ?_
            refine s_cons (by intro v0_ r1_; exact ⟨rfl, fun b w hH hb => by exact exec_nilCheck rfl rfl hb⟩) ?_
            refine s_cons (by intro v0_ r1_; exact ⟨rfl, fun b w hH hb => exec_q1 hflS rfl hb⟩) ?_
            refine s_cons (by intro v0_ r1_; exact ⟨rfl, fun b w hH hb => exec_load rfl rfl (reads_one ty_int rfl) (hH.row 1 rfl) hb⟩) ?_
            refine s_cons (by intro v0_ v1_; exact ⟨rfl, fun b w hH hb => exec_cmp rfl rfl rfl (cmp_neq_f (by simp)) hb⟩) ?_
            refine s_cons (by intro v0_ v1_; exact ⟨rfl, fun b w hH hb => exec_q1 hflS rfl hb⟩) ?_
            exact s_nil
          intro v0_ v1_
          refine WL2.keep (env' := [(1, sl), (4, .bool false), (5, .pointer (some ⟨g, 0, none⟩)), (7, .pointer (some ⟨gr, 0, none⟩)), (8, .int .i64 ((i : Nat) : Int)), (50, .int .i64 ((i : Nat) : Int)), (51, sl), (52, .int .i64 (l.length : Int)), (53, .bool true), (54, .bool true), (55, .int .i64 ((i : Nat) : Int)), (56, .bool true), (57, .bool true), (60, sl), (61, .int .i64 ((i : Nat) : Int)), (62, elp sl (i * 3)), (63, elp sl (i * 3 + 1)), (64, .int .i64 xk), (9, .int .i64 xk), (65, sl), (66, .int .i64 ((i : Nat) : Int)), (67, elp sl (i * 3)), (68, elp sl (i * 3 + 2)), (69, .bool false), (78, sl), (79, .int .i64 ((i : Nat) : Int)), (80, elp sl (i * 3)), (81, elp sl (i * 3 + 0)), (82, .int .i64 xw), (83, .int .i64 q), (100, .bool false), (99, .bool false), (122, .bool false), (121, .bool false), (131, .bool true), (130, .bool true), (133, .pointer (some ⟨g, 0, none⟩)), (134, .int .i64 xk), (135, .tuple #[.int .i64 R.1, .bool R.2]), (132, .tuple #[.int .i64 R.1, .bool R.2]), (136, .int .i64 R.1), (137, .bool R.2), (15, .int .i64 R.1), (16, .bool R.2), (139, .pointer (some ⟨gr, 0, none⟩)), (140, .int .i64 xk), (141, .tuple #[.int .i64 R.1, .bool R.2]), (138, .tuple #[.int .i64 R.1, .bool R.2]), (142, .int .i64 R.1), (143, .bool R.2), (17, .int .i64 R.1), (18, .bool R.2), (144, .int .i64 R.1), (145, .int .i64 R.1), (146, .bool true), (147, .bool true), (148, .bool R.2), (149, .bool R.2), (150, .bool true), (151, .bool true), (10, .bool true), (152, .bool true), (153, .bool false), (154, .bool false), (155, .pointer (some ⟨g, 0, none⟩)), (156, .int .i64 (L.length : Int)), (157, .pointer (some ⟨gr, 0, none⟩)), (158, .pointer (some ⟨gr, 0, none⟩)), (159, .pointer (some ⟨gr, 2, none⟩)), (160, v), (161, .int .i64 (L.length : Int)), (162, .bool false), (163, .bool false), (164, .bool false), (165, .pointer (some ⟨g, 0, none⟩)), (166, .int .i64 N), (167, .pointer (some ⟨gr, 0, none⟩)), (168, .pointer (some ⟨gr, 0, none⟩)), (169, .pointer (some ⟨gr, 1, none⟩)), (170, .int .i64 N), (171, .bool false), (172, .bool false)]) ⟨rfl, rfl, rfl, rfl, rfl, rfl, rfl, rfl, rfl, rfl, rfl, rfl, rfl, rfl, rfl, rfl, rfl, rfl, rfl, rfl, rfl, rfl, rfl, rfl, rfl, rfl, rfl, rfl, rfl, rfl, rfl, rfl, rfl, rfl, rfl, rfl, rfl, rfl, rfl, rfl, rfl, rfl, rfl, rfl, rfl, rfl, rfl, rfl, rfl, rfl, rfl, rfl, rfl, rfl, rfl, rfl, rfl, rfl, rfl, rfl, rfl, rfl, rfl, rfl, rfl, rfl, rfl, rfl, rfl, rfl, rfl, rfl, rfl, rfl, rfl, rfl, rfl, rfl, rfl, rfl, rfl, rfl, trivial⟩ ?_
          refine h_nil (f_to (d_else rfl (d_skip (f_block (f_to (d_reg1 ?_))))))
          refine h_q hflS rfl ?_
          refine h_val rfl (.int .i64 ((i + 1 : Nat) : Int)) (fun b w hb hH => exec_ar rfl rfl rfl rfl (by rw [IntWalk.i64_in _ (by omega)]; omega) hb) ?_
          refine h_q hflS rfl ?_
          refine h_nil ?_
          exact f_again (i + 1, L, N, v) 0 ⟨show i + 1 ≤ 800 by omega, hLm, hI3.1, by omega⟩ (show 801 - (i + 1) < 801 - i by omega) ⟨rfl, rfl, rfl, rfl, rfl, trivial⟩ rfl
        · skip
          obtain ⟨R, hR⟩ : ∃ R, putB most L N xk = R := ⟨_, rfl⟩
          have hpl := putB_len most L N xk hLm
          rw [hR] at hpl
          have hpl2 := hpl.2
          refine d_reg ?_
          refine h_q hflS rfl ?_
          refine h_val rfl (elp sl (i * 3)) (fun b w hb hH => e_sidx okG (arg_rd hl hH) sl_bursarlaw13_Step (j := i) hx rfl rfl rfl hb) ?_
          refine h_val rfl (elp sl (i * 3 + 0)) (fun b w hb hH => e_sfield okG (by decide) (arg_rd hl hH) (j := i) hx fd_bursarlaw13_Step_0 rfl rfl hb) ?_
          refine h_val rfl (.int .i64 xw) (fun b w hb hH => e_sload okG (by decide) (arg_rd hl hH) (j := i) hx ty_int (off := 0) rfl rfl rfl hb) ?_
          refine h_act (post := fun _ => [Vec 3 1 encI v L, cell gr 39 #[.int .i64 most, .int .i64 N, v], BagT 52 3 encI g most L N]) rfl (a_call (ent_of Try.func15 (by kernel_rfl) rfl) (fun w hH => pick w xw 5 hxo.1 (by decide) hq) rfl rfl rfl) ?_; rintro ⟨⟩
          refine h_done (d_block (d_reg ?_))
          refine h_q hflS rfl ?_
          refine h_val rfl (.bool false) (fun b w hb hH => exec_cmp rfl rfl rfl (cmp_eql_f (by omega)) hb) ?_
          refine h_q hflS rfl ?_
          refine h_done (d_else rfl (d_reg ?_))
          refine h_q hflS rfl ?_
          refine h_val rfl (.bool false) (fun b w hb hH => exec_cmp rfl rfl rfl (cmp_eql_f (by omega)) hb) ?_
          refine h_q hflS rfl ?_
          refine h_done (d_else rfl (d_reg ?_))
          refine h_q hflS rfl ?_
          refine h_val rfl (.bool false) (fun b w hb hH => exec_cmp rfl rfl rfl (cmp_eql_f (by omega)) hb) ?_
          refine h_q hflS rfl ?_
          refine h_done (d_else rfl ?_)
          refine d_parS 15 2 [⟨.quiet, [none, none], fun _ => .pointer (some ⟨g, 0, none⟩), []⟩, ⟨.quiet, [none, none], fun _ => sl, []⟩, ⟨.quiet, [none, none], fun _ => .int .i64 ((i : Nat) : Int), []⟩, ⟨.quiet, [none, none], fun _ => elp sl (i * 3), [1, 2]⟩, ⟨.quiet, [none, none], fun _ => elp sl (i * 3 + 1), [3]⟩, ⟨.quiet, [none, none], fun _ => .int .i64 xk, [4]⟩, ⟨.actv 0, [some false, some false], fun _ => .bool R.2.2, [0, 5]⟩, ⟨.quiet, [none, none], fun _ => .pointer (some ⟨gr, 0, none⟩), []⟩, ⟨.quiet, [none, none], fun _ => sl, []⟩, ⟨.quiet, [none, none], fun _ => .int .i64 ((i : Nat) : Int), []⟩, ⟨.quiet, [none, none], fun _ => elp sl (i * 3), [8, 9]⟩, ⟨.quiet, [none, none], fun _ => elp sl (i * 3 + 1), [10]⟩, ⟨.quiet, [none, none], fun _ => .int .i64 xk, [11]⟩, ⟨.actv 1, [some true, some false], fun _ => .bool R.2.2, [7, 12]⟩, ⟨.quiet, [some true, some true], fun _ => .bool true, [6, 13]⟩] [(1, sl), (4, .bool false), (5, .pointer (some ⟨g, 0, none⟩)), (7, .pointer (some ⟨gr, 0, none⟩)), (8, .int .i64 ((i : Nat) : Int)), (50, .int .i64 ((i : Nat) : Int)), (51, sl), (52, .int .i64 (l.length : Int)), (53, .bool true), (54, .bool true), (55, .int .i64 ((i : Nat) : Int)), (56, .bool true), (57, .bool true), (60, sl), (61, .int .i64 ((i : Nat) : Int)), (62, elp sl (i * 3)), (63, elp sl (i * 3 + 1)), (64, .int .i64 xk), (9, .int .i64 xk), (65, sl), (66, .int .i64 ((i : Nat) : Int)), (67, elp sl (i * 3)), (68, elp sl (i * 3 + 2)), (69, .bool false), (10, .bool true), (78, sl), (79, .int .i64 ((i : Nat) : Int)), (80, elp sl (i * 3)), (81, elp sl (i * 3 + 0)), (82, .int .i64 xw), (83, .int .i64 q), (100, .bool false), (99, .bool false), (122, .bool false), (121, .bool false), (131, .bool false), (130, .bool false)] (fun ρ => match ρ with | [rq0, rq1] => [selS rq1 (fun u => Vec 3 1 encI u R.1) (Vec 3 1 encI v L), selS rq1 (fun u => cell gr 39 #[.int .i64 most, .int .i64 R.2.1, u]) (cell gr 39 #[.int .i64 most, .int .i64 N, v]), selS rq0 (fun _ => BagT 52 3 encI g most R.1 R.2.1) (BagT 52 3 encI g most L N)] | _ => []) (by kernel_rfl) (by kernel_rfl) ⟨rfl, rfl, rfl, rfl, rfl, rfl, rfl, rfl, rfl, rfl, rfl, rfl, rfl, rfl, rfl, rfl, rfl, rfl, rfl, rfl, rfl, rfl, rfl, rfl, rfl, rfl, rfl, rfl, rfl, rfl, rfl, rfl, rfl, rfl, rfl, rfl, rfl, trivial⟩ rfl ?_ ?_
          · skip
            refine s_cons (by intro r0_ r1_; exact ⟨rfl, fun b w hH hb => exec_q1 hflS rfl hb⟩) ?_
            refine s_cons (by intro r0_ r1_; exact ⟨rfl, fun b w hH hb => exec_q1 hflS rfl hb⟩) ?_
            refine s_cons (by intro r0_ r1_; exact ⟨rfl, fun b w hH hb => exec_q1 hflS rfl hb⟩) ?_
            refine s_cons (by intro r0_ r1_; exact ⟨rfl, fun b w hH hb => e_sidx okG (arg_rd hl hH) sl_bursarlaw13_Step (j := i) hx rfl rfl rfl hb⟩) ?_
            refine s_cons (by intro r0_ r1_; exact ⟨rfl, fun b w hH hb => e_sfield okG (by decide) (arg_rd hl hH) (j := i) hx fd_bursarlaw13_Step_1 rfl rfl hb⟩) ?_
            refine s_cons (by intro r0_ r1_; exact ⟨rfl, fun b w hH hb => e_sload okG (by decide) (arg_rd hl hH) (j := i) hx ty_int (off := 1) rfl rfl rfl hb⟩) ?_
            refine s_cons (by exact ⟨rfl, Acts.su (a_does (os' := fun _ => [Vec 3 1 encI v L, cell gr 39 #[.int .i64 most, .int .i64 N, v], BagT 52 3 encI g most R.1 R.2.1]) [2] 0 (ent_of Try.func22 (by kernel_rfl) rfl) (put_int g most L N xk hm256 hLm hN R hR) rfl rfl rfl (fun _ => rfl) rfl rfl rfl) rfl⟩) ?_
            refine s_cons (by intro r0_ r1_; exact ⟨rfl, fun b w hH hb => exec_q1 hflS rfl hb⟩) ?_
            refine s_cons (by intro r0_ r1_; exact ⟨rfl, fun b w hH hb => exec_q1 hflS rfl hb⟩) ?_
            refine s_cons (by intro r0_ r1_; exact ⟨rfl, fun b w hH hb => exec_q1 hflS rfl hb⟩) ?_
            refine s_cons (by intro r0_ r1_; exact ⟨rfl, fun b w hH hb => e_sidx okG (arg_rd hl hH) sl_bursarlaw13_Step (j := i) hx rfl rfl rfl hb⟩) ?_
            refine s_cons (by intro r0_ r1_; exact ⟨rfl, fun b w hH hb => e_sfield okG (by decide) (arg_rd hl hH) (j := i) hx fd_bursarlaw13_Step_1 rfl rfl hb⟩) ?_
            refine s_cons (by intro r0_ r1_; exact ⟨rfl, fun b w hH hb => e_sload okG (by decide) (arg_rd hl hH) (j := i) hx ty_int (off := 1) rfl rfl rfl hb⟩) ?_
            refine s_cons (by intro v0_; exact ⟨rfl, Acts.sw (a_does (os' := fun u => [Vec 3 1 encI u R.1, cell gr 39 #[.int .i64 most, .int .i64 R.2.1, u], BagT 52 3 encI g most R.1 R.2.1]) [1, 0] 0 (ent_of Try.func23 (by kernel_rfl) rfl) (rput gr most N v L xk hm256 hLm hN R hR) rfl rfl rfl (fun _ => rfl) rfl rfl rfl) (fun _ => rfl)⟩) ?_
            refine s_cons (by intro v0_ u; exact ⟨rfl, fun b w hH hb => exec_eqs (eqB_same _) rfl rfl rfl hb⟩) ?_
            exact s_nil
          intro v0_ u
          refine WL2.keep (env' := [(1, sl), (4, .bool false), (5, .pointer (some ⟨g, 0, none⟩)), (7, .pointer (some ⟨gr, 0, none⟩)), (8, .int .i64 ((i : Nat) : Int)), (50, .int .i64 ((i : Nat) : Int)), (51, sl), (52, .int .i64 (l.length : Int)), (53, .bool true), (54, .bool true), (55, .int .i64 ((i : Nat) : Int)), (56, .bool true), (57, .bool true), (60, sl), (61, .int .i64 ((i : Nat) : Int)), (62, elp sl (i * 3)), (63, elp sl (i * 3 + 1)), (64, .int .i64 xk), (9, .int .i64 xk), (65, sl), (66, .int .i64 ((i : Nat) : Int)), (67, elp sl (i * 3)), (68, elp sl (i * 3 + 2)), (69, .bool false), (10, .bool true), (78, sl), (79, .int .i64 ((i : Nat) : Int)), (80, elp sl (i * 3)), (81, elp sl (i * 3 + 0)), (82, .int .i64 xw), (83, .int .i64 q), (100, .bool false), (99, .bool false), (122, .bool false), (121, .bool false), (131, .bool false), (130, .bool false), (84, .pointer (some ⟨g, 0, none⟩)), (85, sl), (86, .int .i64 ((i : Nat) : Int)), (87, elp sl (i * 3)), (88, elp sl (i * 3 + 1)), (89, .int .i64 xk), (90, .bool R.2.2), (91, .pointer (some ⟨gr, 0, none⟩)), (92, sl), (93, .int .i64 ((i : Nat) : Int)), (94, elp sl (i * 3)), (95, elp sl (i * 3 + 1)), (96, .int .i64 xk), (97, .bool R.2.2), (98, .bool true)]) ⟨rfl, rfl, rfl, rfl, rfl, rfl, rfl, rfl, rfl, rfl, rfl, rfl, rfl, rfl, rfl, rfl, rfl, rfl, rfl, rfl, rfl, rfl, rfl, rfl, rfl, rfl, rfl, rfl, rfl, rfl, rfl, rfl, rfl, rfl, rfl, rfl, rfl, rfl, rfl, rfl, rfl, rfl, rfl, rfl, rfl, rfl, rfl, rfl, rfl, rfl, rfl, rfl, trivial⟩ ?_
          refine h_q hflS rfl ?_
          refine h_nil (f_block (f_to (d_seq ?_)))
          refine d_parS 21 2 [⟨.quiet, [none, none], fun _ => .bool true, []⟩, ⟨.quiet, [none, none], fun _ => .bool false, [0]⟩, ⟨.quiet, [none, none], fun _ => .bool false, [1]⟩, ⟨.quiet, [none, none], fun _ => .pointer (some ⟨g, 0, none⟩), [2]⟩, ⟨.actv 0, [some false, some false], fun _ => .int .i64 (R.1.length : Int), [3, 2]⟩, ⟨.quiet, [none, none], fun _ => .pointer (some ⟨gr, 0, none⟩), [2]⟩, ⟨.quiet, [none, none], fun _ => .pointer (some ⟨gr, 0, none⟩), [5, 2]⟩, ⟨.quiet, [none, none], fun _ => .pointer (some ⟨gr, 2, none⟩), [6, 2]⟩, ⟨.quiet, [none, none], fun _ => u, [7, 2]⟩, ⟨.quiet, [none, none], fun _ => .int .i64 (R.1.length : Int), [8, 2]⟩, ⟨.quiet, [some true, none], fun _ => .bool false, [4, 9, 2]⟩, ⟨.quiet, [some true, none], fun _ => .bool false, [2, 10]⟩, ⟨.quiet, [some true, none], fun _ => .bool false, [11]⟩, ⟨.quiet, [some true, none], fun _ => .pointer (some ⟨g, 0, none⟩), [12]⟩, ⟨.actv 1, [some true, some false], fun _ => .int .i64 R.2.1, [13, 12]⟩, ⟨.quiet, [some true, none], fun _ => .pointer (some ⟨gr, 0, none⟩), [12]⟩, ⟨.quiet, [some true, none], fun _ => .pointer (some ⟨gr, 0, none⟩), [15, 12]⟩, ⟨.quiet, [some true, none], fun _ => .pointer (some ⟨gr, 1, none⟩), [16, 12]⟩, ⟨.quiet, [some true, none], fun _ => .int .i64 R.2.1, [17, 12]⟩, ⟨.quiet, [some true, some true], fun _ => .bool false, [14, 18, 12]⟩, ⟨.quiet, [some true, some true], fun _ => .bool false, [12, 19]⟩] [(1, sl), (4, .bool false), (5, .pointer (some ⟨g, 0, none⟩)), (7, .pointer (some ⟨gr, 0, none⟩)), (8, .int .i64 ((i : Nat) : Int)), (50, .int .i64 ((i : Nat) : Int)), (51, sl), (52, .int .i64 (l.length : Int)), (53, .bool true), (54, .bool true), (55, .int .i64 ((i : Nat) : Int)), (56, .bool true), (57, .bool true), (60, sl), (61, .int .i64 ((i : Nat) : Int)), (62, elp sl (i * 3)), (63, elp sl (i * 3 + 1)), (64, .int .i64 xk), (9, .int .i64 xk), (65, sl), (66, .int .i64 ((i : Nat) : Int)), (67, elp sl (i * 3)), (68, elp sl (i * 3 + 2)), (69, .bool false), (78, sl), (79, .int .i64 ((i : Nat) : Int)), (80, elp sl (i * 3)), (81, elp sl (i * 3 + 0)), (82, .int .i64 xw), (83, .int .i64 q), (100, .bool false), (99, .bool false), (122, .bool false), (121, .bool false), (131, .bool false), (130, .bool false), (84, .pointer (some ⟨g, 0, none⟩)), (85, sl), (86, .int .i64 ((i : Nat) : Int)), (87, elp sl (i * 3)), (88, elp sl (i * 3 + 1)), (89, .int .i64 xk), (90, .bool R.2.2), (91, .pointer (some ⟨gr, 0, none⟩)), (92, sl), (93, .int .i64 ((i : Nat) : Int)), (94, elp sl (i * 3)), (95, elp sl (i * 3 + 1)), (96, .int .i64 xk), (97, .bool R.2.2), (98, .bool true), (10, .bool true)] (fun ρ => match ρ with | [rq0, rq1] => [Vec 3 1 encI u R.1, cell gr 39 #[.int .i64 most, .int .i64 R.2.1, u], BagT 52 3 encI g most R.1 R.2.1] | _ => []) (by kernel_rfl) (by kernel_rfl) ⟨rfl, rfl, rfl, rfl, rfl, rfl, rfl, rfl, rfl, rfl, rfl, rfl, rfl, rfl, rfl, rfl, rfl, rfl, rfl, rfl, rfl, rfl, rfl, rfl, rfl, rfl, rfl, rfl, rfl, rfl, rfl, rfl, rfl, rfl, rfl, rfl, rfl, rfl, rfl, rfl, rfl, rfl, rfl, rfl, rfl, rfl, rfl, rfl, rfl, rfl, rfl, rfl, trivial⟩ rfl ?_ ?_
          · skip
            refine s_cons (by intro r0_ r1_; exact ⟨rfl, fun b w hH hb => exec_q1 hflS rfl hb⟩) ?_
            refine s_cons (by intro r0_ r1_; exact ⟨rfl, fun b w hH hb => exec_q1 hflS rfl hb⟩) ?_
            refine s_cons (by intro r0_ r1_; exact ⟨rfl, fun b w hH hb => exec_q1 hflS rfl hb⟩) ?_
            refine s_cons (by intro r0_ r1_; exact ⟨rfl, fun b w hH hb => exec_q1 hflS rfl hb⟩) ?_
            refine s_cons (by exact ⟨rfl, Acts.su (a_does (os' := fun _ => [Vec 3 1 encI u R.1, cell gr 39 #[.int .i64 most, .int .i64 R.2.1, u], BagT 52 3 encI g most R.1 R.2.1]) [2] 0 (ent_of Try.func24 (by kernel_rfl) rfl) (len_int g most R.1 R.2.1) rfl rfl rfl (fun _ => rfl) rfl rfl rfl) rfl⟩) ?_
            refine s_cons (by intro r0_ r1_; exact ⟨rfl, fun b w hH hb => exec_q1 hflS rfl hb⟩) ?_
            refine s_cons (by intro r0_ r1_; exact ⟨rfl, fun b w hH hb => by exact exec_nilCheck rfl rfl hb⟩) ?_
            refine s_cons (by intro r0_ r1_; exact ⟨rfl, fun b w hH hb => exec_q1 hflS rfl hb⟩) ?_
            refine s_cons (by intro r0_ r1_; exact ⟨rfl, fun b w hH hb => exec_load rfl rfl (reads_one ty_s_int rfl) (hH.row 1 rfl) hb⟩) ?_
            refine s_cons (by intro r0_ r1_; exact ⟨rfl, fun b w hH hb => e_vlen 0 Try.underlying37 rfl rfl rfl hH hb⟩) ?_
            refine s_cons (by intro v0_ r1_; exact ⟨rfl, fun b w hH hb => exec_cmp rfl rfl rfl (cmp_neq_f (by simp)) hb⟩) ?_
            refine s_cons (by intro v0_ r1_; exact ⟨rfl, fun b w hH hb => exec_q1 hflS rfl hb⟩) ?_
            refine s_cons (by intro v0_ r1_; exact ⟨rfl, fun b w hH hb => exec_q1 hflS rfl hb⟩) ?_
            refine s_cons (by intro v0_ r1_; exact ⟨rfl, fun b w hH hb => exec_q1 hflS rfl hb⟩) ?_
            refine s_cons (by intro v0_; exact ⟨rfl, Acts.su (a_does (os' := fun _ => [Vec 3 1 encI u R.1, cell gr 39 #[.int .i64 most, .int .i64 R.2.1, u], BagT 52 3 encI g most R.1 R.2.1]) [2] 0 (ent_of Try.func25 (by kernel_rfl) rfl) (lost_int g most R.1 R.2.1) rfl rfl rfl (fun _ => rfl) rfl rfl rfl) rfl⟩) ?_
            refine s_cons (by intro v0_ r1_; exact ⟨rfl, fun b w hH hb => exec_q1 hflS rfl hb⟩) ?_
            refine s_cons (by intro v0_ r1_; exact ⟨rfl, fun b w hH hb => by exact exec_nilCheck rfl rfl hb⟩) ?_
            refine s_cons (by intro v0_ r1_; exact ⟨rfl, fun b w hH hb => exec_q1 hflS rfl hb⟩) ?_
            refine s_cons (by intro v0_ r1_; exact ⟨rfl, fun b w hH hb => exec_load rfl rfl (reads_one ty_int rfl) (hH.row 1 rfl) hb⟩) ?_
            refine s_cons (by intro v0_ v1_; exact ⟨rfl, fun b w hH hb => exec_cmp rfl rfl rfl (cmp_neq_f (by simp)) hb⟩) ?_
            refine s_cons (by intro v0_ v1_; exact ⟨rfl, fun b w hH hb => exec_q1 hflS rfl hb⟩) ?_
            exact s_nil
          intro v0_ v1_
          refine WL2.keep (env' := [(1, sl), (4, .bool false), (5, .pointer (some ⟨g, 0, none⟩)), (7, .pointer (some ⟨gr, 0, none⟩)), (8, .int .i64 ((i : Nat) : Int)), (50, .int .i64 ((i : Nat) : Int)), (51, sl), (52, .int .i64 (l.length : Int)), (53, .bool true), (54, .bool true), (55, .int .i64 ((i : Nat) : Int)), (56, .bool true), (57, .bool true), (60, sl), (61, .int .i64 ((i : Nat) : Int)), (62, elp sl (i * 3)), (63, elp sl (i * 3 + 1)), (64, .int .i64 xk), (9, .int .i64 xk), (65, sl), (66, .int .i64 ((i : Nat) : Int)), (67, elp sl (i * 3)), (68, elp sl (i * 3 + 2)), (69, .bool false), (78, sl), (79, .int .i64 ((i : Nat) : Int)), (80, elp sl (i * 3)), (81, elp sl (i * 3 + 0)), (82, .int .i64 xw), (83, .int .i64 q), (100, .bool false), (99, .bool false), (122, .bool false), (121, .bool false), (131, .bool false), (130, .bool false), (84, .pointer (some ⟨g, 0, none⟩)), (85, sl), (86, .int .i64 ((i : Nat) : Int)), (87, elp sl (i * 3)), (88, elp sl (i * 3 + 1)), (89, .int .i64 xk), (90, .bool R.2.2), (91, .pointer (some ⟨gr, 0, none⟩)), (92, sl), (93, .int .i64 ((i : Nat) : Int)), (94, elp sl (i * 3)), (95, elp sl (i * 3 + 1)), (96, .int .i64 xk), (97, .bool R.2.2), (98, .bool true), (10, .bool true), (152, .bool true), (153, .bool false), (154, .bool false), (155, .pointer (some ⟨g, 0, none⟩)), (156, .int .i64 (R.1.length : Int)), (157, .pointer (some ⟨gr, 0, none⟩)), (158, .pointer (some ⟨gr, 0, none⟩)), (159, .pointer (some ⟨gr, 2, none⟩)), (160, u), (161, .int .i64 (R.1.length : Int)), (162, .bool false), (163, .bool false), (164, .bool false), (165, .pointer (some ⟨g, 0, none⟩)), (166, .int .i64 R.2.1), (167, .pointer (some ⟨gr, 0, none⟩)), (168, .pointer (some ⟨gr, 0, none⟩)), (169, .pointer (some ⟨gr, 1, none⟩)), (170, .int .i64 R.2.1), (171, .bool false), (172, .bool false)]) ⟨rfl, rfl, rfl, rfl, rfl, rfl, rfl, rfl, rfl, rfl, rfl, rfl, rfl, rfl, rfl, rfl, rfl, rfl, rfl, rfl, rfl, rfl, rfl, rfl, rfl, rfl, rfl, rfl, rfl, rfl, rfl, rfl, rfl, rfl, rfl, rfl, rfl, rfl, rfl, rfl, rfl, rfl, rfl, rfl, rfl, rfl, rfl, rfl, rfl, rfl, rfl, rfl, rfl, rfl, rfl, rfl, rfl, rfl, rfl, rfl, rfl, rfl, rfl, rfl, rfl, rfl, rfl, rfl, rfl, rfl, rfl, rfl, rfl, trivial⟩ ?_
          refine h_nil (f_to (d_else rfl (d_skip (f_block (f_to (d_reg1 ?_))))))
          refine h_q hflS rfl ?_
          refine h_val rfl (.int .i64 ((i + 1 : Nat) : Int)) (fun b w hb hH => exec_ar rfl rfl rfl rfl (by rw [IntWalk.i64_in _ (by omega)]; omega) hb) ?_
          refine h_q hflS rfl ?_
          refine h_nil ?_
          exact f_again (i + 1, R.1, R.2.1, u) 0 ⟨show i + 1 ≤ 800 by omega, hpl.1, by omega, by omega⟩ (show 801 - (i + 1) < 801 - i by omega) ⟨rfl, rfl, rfl, rfl, rfl, trivial⟩ rfl
      · skip
        obtain ⟨kk, hkk⟩ : ∃ kk, xk % ((L.length : Int) + 1) = kk := ⟨_, rfl⟩
        refine d_reg ?_
        refine h_q hflS rfl ?_
        refine h_val rfl (elp sl (i * 3)) (fun b w hb hH => e_sidx okG (arg_rd hl hH) sl_bursarlaw13_Step (j := i) hx rfl rfl rfl hb) ?_
        refine h_val rfl (elp sl (i * 3 + 1)) (fun b w hb hH => e_sfield okG (by decide) (arg_rd hl hH) (j := i) hx fd_bursarlaw13_Step_1 rfl rfl hb) ?_
        refine h_val rfl (.int .i64 xk) (fun b w hb hH => e_sload okG (by decide) (arg_rd hl hH) (j := i) hx ty_int (off := 1) rfl rfl rfl hb) ?_
        refine h_q hflS rfl ?_
        refine h_done (d_seq (d_reg ?_))
        refine h_q hflS rfl ?_
        refine h_val rfl (elp sl (i * 3)) (fun b w hb hH => e_sidx okG (arg_rd hl hH) sl_bursarlaw13_Step (j := i) hx rfl rfl rfl hb) ?_
        refine h_val rfl (elp sl (i * 3 + 2)) (fun b w hb hH => e_sfield okG (by decide) (arg_rd hl hH) (j := i) hx fd_bursarlaw13_Step_2 rfl rfl hb) ?_
        refine h_val rfl (.bool true) (fun b w hb hH => e_sload okG (by decide) (arg_rd hl hH) (j := i) hx ty_bool (off := 2) rfl rfl rfl hb) ?_
        refine h_done (d_then rfl (d_reg1 ?_))
        refine h_q hflS rfl ?_
        refine h_val rfl (.pointer (some ⟨gr, 0, none⟩)) (fun b w hb hH => by exact exec_nilCheck rfl rfl hb) ?_
        refine h_q hflS rfl ?_
        refine h_val rfl (v) (fun b w hb hH => exec_load rfl rfl (reads_one ty_s_int rfl) (hH.row 1 rfl) hb) ?_
        refine h_val rfl (.int .i64 (L.length : Int)) (fun b w hb hH => e_vlen 0 Try.underlying37 rfl rfl rfl hH hb) ?_
        refine h_val rfl (.int .i64 ((L.length : Int) + 1)) (fun b w hb hH => exec_ar rfl rfl rfl rfl (IntWalk.i64_in _ (by omega)) hb) ?_
        refine h_act (post := fun _ => [Vec 3 1 encI v L, cell gr 39 #[.int .i64 most, .int .i64 N, v], BagT 52 3 encI g most L N]) rfl (a_call (ent_of Try.func15 (by kernel_rfl) rfl) (fun w hH => pick w xk ((L.length : Int) + 1) hxo.2 (by omega) hkk) rfl rfl rfl) ?_; rintro ⟨⟩
        refine h_q hflS rfl ?_
        refine h_nil (f_to (d_reg ?_))
        refine h_q hflS rfl ?_
        refine h_done (d_seq ?_)
        have hq5 : q = 2 ∨ q = 3 ∨ q = 4 ∨ (q ≠ 2 ∧ q ≠ 3 ∧ q ≠ 4) := by omega
        rcases hq5 with hw2 | hw3 | hw4 | ⟨hw2, hw3, hw4⟩
        · skip
          obtain ⟨R, hR⟩ : ∃ R, takeB L kk 0 = R := ⟨_, rfl⟩
          have hlen : (R.1.length : Int) ≤ most := by have := takeB_len L kk 0; rw [hR] at this; omega
          refine d_reg ?_
          refine h_q hflS rfl ?_
          refine h_val rfl (elp sl (i * 3)) (fun b w hb hH => e_sidx okG (arg_rd hl hH) sl_bursarlaw13_Step (j := i) hx rfl rfl rfl hb) ?_
          refine h_val rfl (elp sl (i * 3 + 0)) (fun b w hb hH => e_sfield okG (by decide) (arg_rd hl hH) (j := i) hx fd_bursarlaw13_Step_0 rfl rfl hb) ?_
          refine h_val rfl (.int .i64 xw) (fun b w hb hH => e_sload okG (by decide) (arg_rd hl hH) (j := i) hx ty_int (off := 0) rfl rfl rfl hb) ?_
          refine h_act (post := fun _ => [Vec 3 1 encI v L, cell gr 39 #[.int .i64 most, .int .i64 N, v], BagT 52 3 encI g most L N]) rfl (a_call (ent_of Try.func15 (by kernel_rfl) rfl) (fun w hH => pick w xw 5 hxo.1 (by decide) hq) rfl rfl rfl) ?_; rintro ⟨⟩
          refine h_done (d_block (d_reg ?_))
          refine h_q hflS rfl ?_
          refine h_val rfl (.bool true) (fun b w hb hH => exec_cmp rfl rfl rfl (cmp_eql_t hw2) hb) ?_
          refine h_q hflS rfl ?_
          refine h_done (d_then rfl (d_reg ?_))
          refine h_q hflS rfl ?_
          refine h_act (post := fun _ => [Vec 3 1 encI v L, cell gr 39 #[.int .i64 most, .int .i64 N, v], BagT 52 3 encI g most R.1 N]) rfl (a_does (os' := fun _ => [Vec 3 1 encI v L, cell gr 39 #[.int .i64 most, .int .i64 N, v], BagT 52 3 encI g most R.1 N]) [2] 0 (ent_of Try.func16 (by kernel_rfl) rfl) (take_int g most L N kk hm256 hLm R hR) rfl rfl rfl (fun _ => rfl) rfl rfl rfl) ?_; rintro ⟨⟩
          refine h_q hflS rfl ?_
          refine h_done (d_reg ?_)
          refine h_q hflS rfl ?_
          refine h_act (post := fun u => [Vec 3 1 encI u R.1, cell gr 39 #[.int .i64 most, .int .i64 N, u], BagT 52 3 encI g most R.1 N]) rfl (a_does (os' := fun u => [Vec 3 1 encI u R.1, cell gr 39 #[.int .i64 most, .int .i64 N, u], BagT 52 3 encI g most R.1 N]) [1, 0] 0 (ent_of Try.func17 (by kernel_rfl) rfl) (rtake gr most N v L kk hm256 hLm R hR) rfl rfl rfl (fun _ => rfl) rfl rfl rfl) ?_; rintro u
          refine h_q hflS rfl ?_
          refine h_done (d_reg1 ?_)
          refine h_q hflS rfl ?_
          refine h_val rfl (.bool true) (fun b w hb hH => exec_cmp rfl rfl rfl (cmp_eql_t rfl) hb) ?_
          refine h_q hflS rfl ?_
          refine h_val rfl (.bool true) (fun b w hb hH => exec_eqs (eqB_same _) rfl rfl rfl hb) ?_
          refine h_q hflS rfl ?_
          refine h_nil (f_block (f_to (d_seq ?_)))
          refine d_parS 21 2 [⟨.quiet, [none, none], fun _ => .bool true, []⟩, ⟨.quiet, [none, none], fun _ => .bool false, [0]⟩, ⟨.quiet, [none, none], fun _ => .bool false, [1]⟩, ⟨.quiet, [none, none], fun _ => .pointer (some ⟨g, 0, none⟩), [2]⟩, ⟨.actv 0, [some false, some false], fun _ => .int .i64 (R.1.length : Int), [3, 2]⟩, ⟨.quiet, [none, none], fun _ => .pointer (some ⟨gr, 0, none⟩), [2]⟩, ⟨.quiet, [none, none], fun _ => .pointer (some ⟨gr, 0, none⟩), [5, 2]⟩, ⟨.quiet, [none, none], fun _ => .pointer (some ⟨gr, 2, none⟩), [6, 2]⟩, ⟨.quiet, [none, none], fun _ => u, [7, 2]⟩, ⟨.quiet, [none, none], fun _ => .int .i64 (R.1.length : Int), [8, 2]⟩, ⟨.quiet, [some true, none], fun _ => .bool false, [4, 9, 2]⟩, ⟨.quiet, [some true, none], fun _ => .bool false, [2, 10]⟩, ⟨.quiet, [some true, none], fun _ => .bool false, [11]⟩, ⟨.quiet, [some true, none], fun _ => .pointer (some ⟨g, 0, none⟩), [12]⟩, ⟨.actv 1, [some true, some false], fun _ => .int .i64 N, [13, 12]⟩, ⟨.quiet, [some true, none], fun _ => .pointer (some ⟨gr, 0, none⟩), [12]⟩, ⟨.quiet, [some true, none], fun _ => .pointer (some ⟨gr, 0, none⟩), [15, 12]⟩, ⟨.quiet, [some true, none], fun _ => .pointer (some ⟨gr, 1, none⟩), [16, 12]⟩, ⟨.quiet, [some true, none], fun _ => .int .i64 N, [17, 12]⟩, ⟨.quiet, [some true, some true], fun _ => .bool false, [14, 18, 12]⟩, ⟨.quiet, [some true, some true], fun _ => .bool false, [12, 19]⟩] [(1, sl), (4, .bool false), (5, .pointer (some ⟨g, 0, none⟩)), (7, .pointer (some ⟨gr, 0, none⟩)), (8, .int .i64 ((i : Nat) : Int)), (50, .int .i64 ((i : Nat) : Int)), (51, sl), (52, .int .i64 (l.length : Int)), (53, .bool true), (54, .bool true), (55, .int .i64 ((i : Nat) : Int)), (56, .bool true), (57, .bool true), (60, sl), (61, .int .i64 ((i : Nat) : Int)), (62, elp sl (i * 3)), (63, elp sl (i * 3 + 1)), (64, .int .i64 xk), (65, sl), (66, .int .i64 ((i : Nat) : Int)), (67, elp sl (i * 3)), (68, elp sl (i * 3 + 2)), (69, .bool true), (70, .int .i64 xk), (71, .pointer (some ⟨gr, 0, none⟩)), (72, .pointer (some ⟨gr, 0, none⟩)), (73, .pointer (some ⟨gr, 2, none⟩)), (74, v), (75, .int .i64 (L.length : Int)), (76, .int .i64 ((L.length : Int) + 1)), (77, .int .i64 kk), (9, .int .i64 kk), (78, sl), (79, .int .i64 ((i : Nat) : Int)), (80, elp sl (i * 3)), (81, elp sl (i * 3 + 0)), (82, .int .i64 xw), (83, .int .i64 q), (100, .bool true), (99, .bool true), (102, .pointer (some ⟨g, 0, none⟩)), (103, .int .i64 kk), (104, .tuple #[.int .i64 R.2.1, .bool R.2.2]), (101, .tuple #[.int .i64 R.2.1, .bool R.2.2]), (105, .int .i64 R.2.1), (106, .bool R.2.2), (11, .int .i64 R.2.1), (12, .bool R.2.2), (108, .pointer (some ⟨gr, 0, none⟩)), (109, .int .i64 kk), (110, .tuple #[.int .i64 R.2.1, .bool R.2.2]), (107, .tuple #[.int .i64 R.2.1, .bool R.2.2]), (111, .int .i64 R.2.1), (112, .bool R.2.2), (13, .int .i64 R.2.1), (14, .bool R.2.2), (113, .int .i64 R.2.1), (114, .int .i64 R.2.1), (115, .bool true), (116, .bool true), (117, .bool R.2.2), (118, .bool R.2.2), (119, .bool true), (120, .bool true), (10, .bool true)] (fun ρ => match ρ with | [rq0, rq1] => [Vec 3 1 encI u R.1, cell gr 39 #[.int .i64 most, .int .i64 N, u], BagT 52 3 encI g most R.1 N] | _ => []) (by kernel_rfl) (by kernel_rfl) ⟨rfl, rfl, rfl, rfl, rfl, rfl, rfl, rfl, rfl, rfl, rfl, rfl, rfl, rfl, rfl, rfl, rfl, rfl, rfl, rfl, rfl, rfl, rfl, rfl, rfl, rfl, rfl, rfl, rfl, rfl, rfl, rfl, rfl, rfl, rfl, rfl, rfl, rfl, rfl, rfl, rfl, rfl, rfl, rfl, rfl, rfl, rfl, rfl, rfl, rfl, rfl, rfl, rfl, rfl, rfl, rfl, rfl, rfl, rfl, rfl, rfl, rfl, rfl, rfl, rfl, trivial⟩ rfl ?_ ?_
          · skip
            refine s_cons (by intro r0_ r1_; exact ⟨rfl, fun b w hH hb => exec_q1 hflS rfl hb⟩) ?_
            refine s_cons (by intro r0_ r1_; exact ⟨rfl, fun b w hH hb => exec_q1 hflS rfl hb⟩) ?_
            refine s_cons (by intro r0_ r1_; exact ⟨rfl, fun b w hH hb => exec_q1 hflS rfl hb⟩) ?_
            refine s_cons (by intro r0_ r1_; exact ⟨rfl, fun b w hH hb => exec_q1 hflS rfl hb⟩) ?_
            refine s_cons (by exact ⟨rfl, Acts.su (a_does (os' := fun _ => [Vec 3 1 encI u R.1, cell gr 39 #[.int .i64 most, .int .i64 N, u], BagT 52 3 encI g most R.1 N]) [2] 0 (ent_of Try.func24 (by kernel_rfl) rfl) (len_int g most R.1 N) rfl rfl rfl (fun _ => rfl) rfl rfl rfl) rfl⟩) ?_
            refine s_cons (by intro r0_ r1_; exact ⟨rfl, fun b w hH hb => exec_q1 hflS rfl hb⟩) ?_
            refine s_cons (by intro r0_ r1_; exact ⟨rfl, fun b w hH hb => by exact exec_nilCheck rfl rfl hb⟩) ?_
            refine s_cons (by intro r0_ r1_; exact ⟨rfl, fun b w hH hb => exec_q1 hflS rfl hb⟩) ?_
            refine s_cons (by intro r0_ r1_; exact ⟨rfl, fun b w hH hb => exec_load rfl rfl (reads_one ty_s_int rfl) (hH.row 1 rfl) hb⟩) ?_
            refine s_cons (by intro r0_ r1_; exact ⟨rfl, fun b w hH hb => e_vlen 0 Try.underlying37 rfl rfl rfl hH hb⟩) ?_
            refine s_cons (by intro v0_ r1_; exact ⟨rfl, fun b w hH hb => exec_cmp rfl rfl rfl (cmp_neq_f (by simp)) hb⟩) ?_
            refine s_cons (by intro v0_ r1_; exact ⟨rfl, fun b w hH hb => exec_q1 hflS rfl hb⟩) ?_
            refine s_cons (by intro v0_ r1_; exact ⟨rfl, fun b w hH hb => exec_q1 hflS rfl hb⟩) ?_
            refine s_cons (by intro v0_ r1_; exact ⟨rfl, fun b w hH hb => exec_q1 hflS rfl hb⟩) ?_
            refine s_cons (by intro v0_; exact ⟨rfl, Acts.su (a_does (os' := fun _ => [Vec 3 1 encI u R.1, cell gr 39 #[.int .i64 most, .int .i64 N, u], BagT 52 3 encI g most R.1 N]) [2] 0 (ent_of Try.func25 (by kernel_rfl) rfl) (lost_int g most R.1 N) rfl rfl rfl (fun _ => rfl) rfl rfl rfl) rfl⟩) ?_
            refine s_cons (by intro v0_ r1_; exact ⟨rfl, fun b w hH hb => exec_q1 hflS rfl hb⟩) ?_
            refine s_cons (by intro v0_ r1_; exact ⟨rfl, fun b w hH hb => by exact exec_nilCheck rfl rfl hb⟩) ?_
            refine s_cons (by intro v0_ r1_; exact ⟨rfl, fun b w hH hb => exec_q1 hflS rfl hb⟩) ?_
            refine s_cons (by intro v0_ r1_; exact ⟨rfl, fun b w hH hb => exec_load rfl rfl (reads_one ty_int rfl) (hH.row 1 rfl) hb⟩) ?_
            refine s_cons (by intro v0_ v1_; exact ⟨rfl, fun b w hH hb => exec_cmp rfl rfl rfl (cmp_neq_f (by simp)) hb⟩) ?_
            refine s_cons (by intro v0_ v1_; exact ⟨rfl, fun b w hH hb => exec_q1 hflS rfl hb⟩) ?_
            exact s_nil
          intro v0_ v1_
          refine WL2.keep (env' := [(1, sl), (4, .bool false), (5, .pointer (some ⟨g, 0, none⟩)), (7, .pointer (some ⟨gr, 0, none⟩)), (8, .int .i64 ((i : Nat) : Int)), (50, .int .i64 ((i : Nat) : Int)), (51, sl), (52, .int .i64 (l.length : Int)), (53, .bool true), (54, .bool true), (55, .int .i64 ((i : Nat) : Int)), (56, .bool true), (57, .bool true), (60, sl), (61, .int .i64 ((i : Nat) : Int)), (62, elp sl (i * 3)), (63, elp sl (i * 3 + 1)), (64, .int .i64 xk), (65, sl), (66, .int .i64 ((i : Nat) : Int)), (67, elp sl (i * 3)), (68, elp sl (i * 3 + 2)), (69, .bool true), (70, .int .i64 xk), (71, .pointer (some ⟨gr, 0, none⟩)), (72, .pointer (some ⟨gr, 0, none⟩)), (73, .pointer (some ⟨gr, 2, none⟩)), (74, v), (75, .int .i64 (L.length : Int)), (76, .int .i64 ((L.length : Int) + 1)), (77, .int .i64 kk), (9, .int .i64 kk), (78, sl), (79, .int .i64 ((i : Nat) : Int)), (80, elp sl (i * 3)), (81, elp sl (i * 3 + 0)), (82, .int .i64 xw), (83, .int .i64 q), (100, .bool true), (99, .bool true), (102, .pointer (some ⟨g, 0, none⟩)), (103, .int .i64 kk), (104, .tuple #[.int .i64 R.2.1, .bool R.2.2]), (101, .tuple #[.int .i64 R.2.1, .bool R.2.2]), (105, .int .i64 R.2.1), (106, .bool R.2.2), (11, .int .i64 R.2.1), (12, .bool R.2.2), (108, .pointer (some ⟨gr, 0, none⟩)), (109, .int .i64 kk), (110, .tuple #[.int .i64 R.2.1, .bool R.2.2]), (107, .tuple #[.int .i64 R.2.1, .bool R.2.2]), (111, .int .i64 R.2.1), (112, .bool R.2.2), (13, .int .i64 R.2.1), (14, .bool R.2.2), (113, .int .i64 R.2.1), (114, .int .i64 R.2.1), (115, .bool true), (116, .bool true), (117, .bool R.2.2), (118, .bool R.2.2), (119, .bool true), (120, .bool true), (10, .bool true), (152, .bool true), (153, .bool false), (154, .bool false), (155, .pointer (some ⟨g, 0, none⟩)), (156, .int .i64 (R.1.length : Int)), (157, .pointer (some ⟨gr, 0, none⟩)), (158, .pointer (some ⟨gr, 0, none⟩)), (159, .pointer (some ⟨gr, 2, none⟩)), (160, u), (161, .int .i64 (R.1.length : Int)), (162, .bool false), (163, .bool false), (164, .bool false), (165, .pointer (some ⟨g, 0, none⟩)), (166, .int .i64 N), (167, .pointer (some ⟨gr, 0, none⟩)), (168, .pointer (some ⟨gr, 0, none⟩)), (169, .pointer (some ⟨gr, 1, none⟩)), (170, .int .i64 N), (171, .bool false), (172, .bool false)]) ⟨rfl, rfl, rfl, rfl, rfl, rfl, rfl, rfl, rfl, rfl, rfl, rfl, rfl, rfl, rfl, rfl, rfl, rfl, rfl, rfl, rfl, rfl, rfl, rfl, rfl, rfl, rfl, rfl, rfl, rfl, rfl, rfl, rfl, rfl, rfl, rfl, rfl, rfl, rfl, rfl, rfl, rfl, rfl, rfl, rfl, rfl, rfl, rfl, rfl, rfl, rfl, rfl, rfl, rfl, rfl, rfl, rfl, rfl, rfl, rfl, rfl, rfl, rfl, rfl, rfl, rfl, rfl, rfl, rfl, rfl, rfl, rfl, rfl, rfl, rfl, rfl, rfl, rfl, rfl, rfl, rfl, rfl, rfl, rfl, rfl, rfl, trivial⟩ ?_
          refine h_nil (f_to (d_else rfl (d_skip (f_block (f_to (d_reg1 ?_))))))
          refine h_q hflS rfl ?_
          refine h_val rfl (.int .i64 ((i + 1 : Nat) : Int)) (fun b w hb hH => exec_ar rfl rfl rfl rfl (by rw [IntWalk.i64_in _ (by omega)]; omega) hb) ?_
          refine h_q hflS rfl ?_
          refine h_nil ?_
          exact f_again (i + 1, R.1, N, u) 0 ⟨show i + 1 ≤ 800 by omega, hlen, hI3.1, by omega⟩ (show 801 - (i + 1) < 801 - i by omega) ⟨rfl, rfl, rfl, rfl, rfl, trivial⟩ rfl
        · skip
          obtain ⟨R, hR⟩ : ∃ R, dblB most L kk = R := ⟨_, rfl⟩
          have hlen : (R.1.length : Int) ≤ most := by have := dblB_len most L kk hLm; rw [hR] at this; exact this
          refine d_reg ?_
          refine h_q hflS rfl ?_
          refine h_val rfl (elp sl (i * 3)) (fun b w hb hH => e_sidx okG (arg_rd hl hH) sl_bursarlaw13_Step (j := i) hx rfl rfl rfl hb) ?_
          refine h_val rfl (elp sl (i * 3 + 0)) (fun b w hb hH => e_sfield okG (by decide) (arg_rd hl hH) (j := i) hx fd_bursarlaw13_Step_0 rfl rfl hb) ?_
          refine h_val rfl (.int .i64 xw) (fun b w hb hH => e_sload okG (by decide) (arg_rd hl hH) (j := i) hx ty_int (off := 0) rfl rfl rfl hb) ?_
          refine h_act (post := fun _ => [Vec 3 1 encI v L, cell gr 39 #[.int .i64 most, .int .i64 N, v], BagT 52 3 encI g most L N]) rfl (a_call (ent_of Try.func15 (by kernel_rfl) rfl) (fun w hH => pick w xw 5 hxo.1 (by decide) hq) rfl rfl rfl) ?_; rintro ⟨⟩
          refine h_done (d_block (d_reg ?_))
          refine h_q hflS rfl ?_
          refine h_val rfl (.bool false) (fun b w hb hH => exec_cmp rfl rfl rfl (cmp_eql_f (by omega)) hb) ?_
          refine h_q hflS rfl ?_
          refine h_done (d_else rfl (d_reg ?_))
          refine h_q hflS rfl ?_
          refine h_val rfl (.bool true) (fun b w hb hH => exec_cmp rfl rfl rfl (cmp_eql_t hw3) hb) ?_
          refine h_q hflS rfl ?_
          refine h_done (d_then rfl (d_reg1 ?_))
          refine h_q hflS rfl ?_
          refine h_act (post := fun _ => [Vec 3 1 encI v L, cell gr 39 #[.int .i64 most, .int .i64 N, v], BagT 52 3 encI g most R.1 N]) rfl (a_does (os' := fun _ => [Vec 3 1 encI v L, cell gr 39 #[.int .i64 most, .int .i64 N, v], BagT 52 3 encI g most R.1 N]) [2] 0 (ent_of Try.func18 (by kernel_rfl) rfl) (dbl_int g most L N kk hm256 hLm hN R hR) rfl rfl rfl (fun _ => rfl) rfl rfl rfl) ?_; rintro ⟨⟩
          refine h_q hflS rfl ?_
          refine h_act (post := fun u => [Vec 3 1 encI u R.1, cell gr 39 #[.int .i64 most, .int .i64 N, u], BagT 52 3 encI g most R.1 N]) rfl (a_does (os' := fun u => [Vec 3 1 encI u R.1, cell gr 39 #[.int .i64 most, .int .i64 N, u], BagT 52 3 encI g most R.1 N]) [1, 0] 0 (ent_of Try.func19 (by kernel_rfl) rfl) (rdbl gr most N v L kk hm256 hLm R hR) rfl rfl rfl (fun _ => rfl) rfl rfl rfl) ?_; rintro u
          refine h_val rfl (.bool true) (fun b w hb hH => exec_eqs (eqB_same _) rfl rfl rfl hb) ?_
          refine h_q hflS rfl ?_
          refine h_nil (f_block (f_to (d_seq ?_)))
          refine d_parS 21 2 [⟨.quiet, [none, none], fun _ => .bool true, []⟩, ⟨.quiet, [none, none], fun _ => .bool false, [0]⟩, ⟨.quiet, [none, none], fun _ => .bool false, [1]⟩, ⟨.quiet, [none, none], fun _ => .pointer (some ⟨g, 0, none⟩), [2]⟩, ⟨.actv 0, [some false, some false], fun _ => .int .i64 (R.1.length : Int), [3, 2]⟩, ⟨.quiet, [none, none], fun _ => .pointer (some ⟨gr, 0, none⟩), [2]⟩, ⟨.quiet, [none, none], fun _ => .pointer (some ⟨gr, 0, none⟩), [5, 2]⟩, ⟨.quiet, [none, none], fun _ => .pointer (some ⟨gr, 2, none⟩), [6, 2]⟩, ⟨.quiet, [none, none], fun _ => u, [7, 2]⟩, ⟨.quiet, [none, none], fun _ => .int .i64 (R.1.length : Int), [8, 2]⟩, ⟨.quiet, [some true, none], fun _ => .bool false, [4, 9, 2]⟩, ⟨.quiet, [some true, none], fun _ => .bool false, [2, 10]⟩, ⟨.quiet, [some true, none], fun _ => .bool false, [11]⟩, ⟨.quiet, [some true, none], fun _ => .pointer (some ⟨g, 0, none⟩), [12]⟩, ⟨.actv 1, [some true, some false], fun _ => .int .i64 N, [13, 12]⟩, ⟨.quiet, [some true, none], fun _ => .pointer (some ⟨gr, 0, none⟩), [12]⟩, ⟨.quiet, [some true, none], fun _ => .pointer (some ⟨gr, 0, none⟩), [15, 12]⟩, ⟨.quiet, [some true, none], fun _ => .pointer (some ⟨gr, 1, none⟩), [16, 12]⟩, ⟨.quiet, [some true, none], fun _ => .int .i64 N, [17, 12]⟩, ⟨.quiet, [some true, some true], fun _ => .bool false, [14, 18, 12]⟩, ⟨.quiet, [some true, some true], fun _ => .bool false, [12, 19]⟩] [(1, sl), (4, .bool false), (5, .pointer (some ⟨g, 0, none⟩)), (7, .pointer (some ⟨gr, 0, none⟩)), (8, .int .i64 ((i : Nat) : Int)), (50, .int .i64 ((i : Nat) : Int)), (51, sl), (52, .int .i64 (l.length : Int)), (53, .bool true), (54, .bool true), (55, .int .i64 ((i : Nat) : Int)), (56, .bool true), (57, .bool true), (60, sl), (61, .int .i64 ((i : Nat) : Int)), (62, elp sl (i * 3)), (63, elp sl (i * 3 + 1)), (64, .int .i64 xk), (65, sl), (66, .int .i64 ((i : Nat) : Int)), (67, elp sl (i * 3)), (68, elp sl (i * 3 + 2)), (69, .bool true), (70, .int .i64 xk), (71, .pointer (some ⟨gr, 0, none⟩)), (72, .pointer (some ⟨gr, 0, none⟩)), (73, .pointer (some ⟨gr, 2, none⟩)), (74, v), (75, .int .i64 (L.length : Int)), (76, .int .i64 ((L.length : Int) + 1)), (77, .int .i64 kk), (9, .int .i64 kk), (78, sl), (79, .int .i64 ((i : Nat) : Int)), (80, elp sl (i * 3)), (81, elp sl (i * 3 + 0)), (82, .int .i64 xw), (83, .int .i64 q), (100, .bool false), (99, .bool false), (122, .bool true), (121, .bool true), (123, .pointer (some ⟨g, 0, none⟩)), (124, .int .i64 kk), (125, .bool R.2), (126, .pointer (some ⟨gr, 0, none⟩)), (127, .int .i64 kk), (128, .bool R.2), (129, .bool true), (10, .bool true)] (fun ρ => match ρ with | [rq0, rq1] => [Vec 3 1 encI u R.1, cell gr 39 #[.int .i64 most, .int .i64 N, u], BagT 52 3 encI g most R.1 N] | _ => []) (by kernel_rfl) (by kernel_rfl) ⟨rfl, rfl, rfl, rfl, rfl, rfl, rfl, rfl, rfl, rfl, rfl, rfl, rfl, rfl, rfl, rfl, rfl, rfl, rfl, rfl, rfl, rfl, rfl, rfl, rfl, rfl, rfl, rfl, rfl, rfl, rfl, rfl, rfl, rfl, rfl, rfl, rfl, rfl, rfl, rfl, rfl, rfl, rfl, rfl, rfl, rfl, rfl, rfl, rfl, rfl, trivial⟩ rfl ?_ ?_
          · skip
            refine s_cons (by intro r0_ r1_; exact ⟨rfl, fun b w hH hb => exec_q1 hflS rfl hb⟩) ?_
            refine s_cons (by intro r0_ r1_; exact ⟨rfl, fun b w hH hb => exec_q1 hflS rfl hb⟩) ?_
            refine s_cons (by intro r0_ r1_; exact ⟨rfl, fun b w hH hb => exec_q1 hflS rfl hb⟩) ?_
            refine s_cons (by intro r0_ r1_; exact ⟨rfl, fun b w hH hb => exec_q1 hflS rfl hb⟩) ?_
            refine s_cons (by exact ⟨rfl, Acts.su (a_does (os' := fun _ => [Vec 3 1 encI u R.1, cell gr 39 #[.int .i64 most, .int .i64 N, u], BagT 52 3 encI g most R.1 N]) [2] 0 (ent_of Try.func24 (by kernel_rfl) rfl) (len_int g most R.1 N) rfl rfl rfl (fun _ => rfl) rfl rfl rfl) rfl⟩) ?_
            refine s_cons (by intro r0_ r1_; exact ⟨rfl, fun b w hH hb => exec_q1 hflS rfl hb⟩) ?_
            refine s_cons (by intro r0_ r1_; exact ⟨rfl, fun b w hH hb => by exact exec_nilCheck rfl rfl hb⟩) ?_
            refine s_cons (by intro r0_ r1_; exact ⟨rfl, fun b w hH hb => exec_q1 hflS rfl hb⟩) ?_
            refine s_cons (by intro r0_ r1_; exact ⟨rfl, fun b w hH hb => exec_load rfl rfl (reads_one ty_s_int rfl) (hH.row 1 rfl) hb⟩) ?_
            refine s_cons (by intro r0_ r1_; exact ⟨rfl, fun b w hH hb => e_vlen 0 Try.underlying37 rfl rfl rfl hH hb⟩) ?_
            refine s_cons (by intro v0_ r1_; exact ⟨rfl, fun b w hH hb => exec_cmp rfl rfl rfl (cmp_neq_f (by simp)) hb⟩) ?_
            refine s_cons (by intro v0_ r1_; exact ⟨rfl, fun b w hH hb => exec_q1 hflS rfl hb⟩) ?_
            refine s_cons (by intro v0_ r1_; exact ⟨rfl, fun b w hH hb => exec_q1 hflS rfl hb⟩) ?_
            refine s_cons (by intro v0_ r1_; exact ⟨rfl, fun b w hH hb => exec_q1 hflS rfl hb⟩) ?_
            refine s_cons (by intro v0_; exact ⟨rfl, Acts.su (a_does (os' := fun _ => [Vec 3 1 encI u R.1, cell gr 39 #[.int .i64 most, .int .i64 N, u], BagT 52 3 encI g most R.1 N]) [2] 0 (ent_of Try.func25 (by kernel_rfl) rfl) (lost_int g most R.1 N) rfl rfl rfl (fun _ => rfl) rfl rfl rfl) rfl⟩) ?_
            refine s_cons (by intro v0_ r1_; exact ⟨rfl, fun b w hH hb => exec_q1 hflS rfl hb⟩) ?_
            refine s_cons (by intro v0_ r1_; exact ⟨rfl, fun b w hH hb => by exact exec_nilCheck rfl rfl hb⟩) ?_
            refine s_cons (by intro v0_ r1_; exact ⟨rfl, fun b w hH hb => exec_q1 hflS rfl hb⟩) ?_
            refine s_cons (by intro v0_ r1_; exact ⟨rfl, fun b w hH hb => exec_load rfl rfl (reads_one ty_int rfl) (hH.row 1 rfl) hb⟩) ?_
            refine s_cons (by intro v0_ v1_; exact ⟨rfl, fun b w hH hb => exec_cmp rfl rfl rfl (cmp_neq_f (by simp)) hb⟩) ?_
            refine s_cons (by intro v0_ v1_; exact ⟨rfl, fun b w hH hb => exec_q1 hflS rfl hb⟩) ?_
            exact s_nil
          intro v0_ v1_
          refine WL2.keep (env' := [(1, sl), (4, .bool false), (5, .pointer (some ⟨g, 0, none⟩)), (7, .pointer (some ⟨gr, 0, none⟩)), (8, .int .i64 ((i : Nat) : Int)), (50, .int .i64 ((i : Nat) : Int)), (51, sl), (52, .int .i64 (l.length : Int)), (53, .bool true), (54, .bool true), (55, .int .i64 ((i : Nat) : Int)), (56, .bool true), (57, .bool true), (60, sl), (61, .int .i64 ((i : Nat) : Int)), (62, elp sl (i * 3)), (63, elp sl (i * 3 + 1)), (64, .int .i64 xk), (65, sl), (66, .int .i64 ((i : Nat) : Int)), (67, elp sl (i * 3)), (68, elp sl (i * 3 + 2)), (69, .bool true), (70, .int .i64 xk), (71, .pointer (some ⟨gr, 0, none⟩)), (72, .pointer (some ⟨gr, 0, none⟩)), (73, .pointer (some ⟨gr, 2, none⟩)), (74, v), (75, .int .i64 (L.length : Int)), (76, .int .i64 ((L.length : Int) + 1)), (77, .int .i64 kk), (9, .int .i64 kk), (78, sl), (79, .int .i64 ((i : Nat) : Int)), (80, elp sl (i * 3)), (81, elp sl (i * 3 + 0)), (82, .int .i64 xw), (83, .int .i64 q), (100, .bool false), (99, .bool false), (122, .bool true), (121, .bool true), (123, .pointer (some ⟨g, 0, none⟩)), (124, .int .i64 kk), (125, .bool R.2), (126, .pointer (some ⟨gr, 0, none⟩)), (127, .int .i64 kk), (128, .bool R.2), (129, .bool true), (10, .bool true), (152, .bool true), (153, .bool false), (154, .bool false), (155, .pointer (some ⟨g, 0, none⟩)), (156, .int .i64 (R.1.length : Int)), (157, .pointer (some ⟨gr, 0, none⟩)), (158, .pointer (some ⟨gr, 0, none⟩)), (159, .pointer (some ⟨gr, 2, none⟩)), (160, u), (161, .int .i64 (R.1.length : Int)), (162, .bool false), (163, .bool false), (164, .bool false), (165, .pointer (some ⟨g, 0, none⟩)), (166, .int .i64 N), (167, .pointer (some ⟨gr, 0, none⟩)), (168, .pointer (some ⟨gr, 0, none⟩)), (169, .pointer (some ⟨gr, 1, none⟩)), (170, .int .i64 N), (171, .bool false), (172, .bool false)]) ⟨rfl, rfl, rfl, rfl, rfl, rfl, rfl, rfl, rfl, rfl, rfl, rfl, rfl, rfl, rfl, rfl, rfl, rfl, rfl, rfl, rfl, rfl, rfl, rfl, rfl, rfl, rfl, rfl, rfl, rfl, rfl, rfl, rfl, rfl, rfl, rfl, rfl, rfl, rfl, rfl, rfl, rfl, rfl, rfl, rfl, rfl, rfl, rfl, rfl, rfl, rfl, rfl, rfl, rfl, rfl, rfl, rfl, rfl, rfl, rfl, rfl, rfl, rfl, rfl, rfl, rfl, rfl, rfl, rfl, rfl, rfl, trivial⟩ ?_
          refine h_nil (f_to (d_else rfl (d_skip (f_block (f_to (d_reg1 ?_))))))
          refine h_q hflS rfl ?_
          refine h_val rfl (.int .i64 ((i + 1 : Nat) : Int)) (fun b w hb hH => exec_ar rfl rfl rfl rfl (by rw [IntWalk.i64_in _ (by omega)]; omega) hb) ?_
          refine h_q hflS rfl ?_
          refine h_nil ?_
          exact f_again (i + 1, R.1, N, u) 0 ⟨show i + 1 ≤ 800 by omega, hlen, hI3.1, by omega⟩ (show 801 - (i + 1) < 801 - i by omega) ⟨rfl, rfl, rfl, rfl, rfl, trivial⟩ rfl
        · skip
          obtain ⟨R, hR⟩ : ∃ R, peekB L kk 0 = R := ⟨_, rfl⟩
          refine d_reg ?_
          refine h_q hflS rfl ?_
          refine h_val rfl (elp sl (i * 3)) (fun b w hb hH => e_sidx okG (arg_rd hl hH) sl_bursarlaw13_Step (j := i) hx rfl rfl rfl hb) ?_
          refine h_val rfl (elp sl (i * 3 + 0)) (fun b w hb hH => e_sfield okG (by decide) (arg_rd hl hH) (j := i) hx fd_bursarlaw13_Step_0 rfl rfl hb) ?_
          refine h_val rfl (.int .i64 xw) (fun b w hb hH => e_sload okG (by decide) (arg_rd hl hH) (j := i) hx ty_int (off := 0) rfl rfl rfl hb) ?_
          refine h_act (post := fun _ => [Vec 3 1 encI v L, cell gr 39 #[.int .i64 most, .int .i64 N, v], BagT 52 3 encI g most L N]) rfl (a_call (ent_of Try.func15 (by kernel_rfl) rfl) (fun w hH => pick w xw 5 hxo.1 (by decide) hq) rfl rfl rfl) ?_; rintro ⟨⟩
          refine h_done (d_block (d_reg ?_))
          refine h_q hflS rfl ?_
          refine h_val rfl (.bool false) (fun b w hb hH => exec_cmp rfl rfl rfl (cmp_eql_f (by omega)) hb) ?_
          refine h_q hflS rfl ?_
          refine h_done (d_else rfl (d_reg ?_))
          refine h_q hflS rfl ?_
          refine h_val rfl (.bool false) (fun b w hb hH => exec_cmp rfl rfl rfl (cmp_eql_f (by omega)) hb) ?_
          refine h_q hflS rfl ?_
          refine h_done (d_else rfl (d_reg ?_))
          refine h_q hflS rfl ?_
          refine h_val rfl (.bool true) (fun b w hb hH => exec_cmp rfl rfl rfl (cmp_eql_t hw4) hb) ?_
          refine h_q hflS rfl ?_
          refine h_done (d_then rfl (d_reg ?_))
          refine h_q hflS rfl ?_
          refine h_act (post := fun _ => [Vec 3 1 encI v L, cell gr 39 #[.int .i64 most, .int .i64 N, v], BagT 52 3 encI g most L N]) rfl (a_does (os' := fun _ => [Vec 3 1 encI v L, cell gr 39 #[.int .i64 most, .int .i64 N, v], BagT 52 3 encI g most L N]) [2] 0 (ent_of Try.func20 (by kernel_rfl) rfl) (peek_int g most L N kk R hR) rfl rfl rfl (fun _ => rfl) rfl rfl rfl) ?_; rintro ⟨⟩
          refine h_q hflS rfl ?_
          refine h_done (d_reg ?_)
          refine h_q hflS rfl ?_
          refine h_act (post := fun _ => [Vec 3 1 encI v L, cell gr 39 #[.int .i64 most, .int .i64 N, v], BagT 52 3 encI g most L N]) rfl (a_does (os' := fun _ => [Vec 3 1 encI v L, cell gr 39 #[.int .i64 most, .int .i64 N, v], BagT 52 3 encI g most L N]) [1, 0] 0 (ent_of Try.func21 (by kernel_rfl) rfl) (rpeek gr most N v L kk R hR) rfl rfl rfl (fun _ => rfl) rfl rfl rfl) ?_; rintro ⟨⟩
          refine h_q hflS rfl ?_
          refine h_done (d_reg1 ?_)
          refine h_q hflS rfl ?_
          refine h_val rfl (.bool true) (fun b w hb hH => exec_cmp rfl rfl rfl (cmp_eql_t rfl) hb) ?_
          refine h_q hflS rfl ?_
          refine h_val rfl (.bool true) (fun b w hb hH => exec_eqs (eqB_same _) rfl rfl rfl hb) ?_
          refine h_q hflS rfl ?_
          refine h_nil (f_block (f_to (d_seq ?_)))
          refine d_parS 21 2 [⟨.quiet, [none, none], fun _ => .bool true, []⟩, ⟨.quiet, [none, none], fun _ => .bool false, [0]⟩, ⟨.quiet, [none, none], fun _ => .bool false, [1]⟩, ⟨.quiet, [none, none], fun _ => .pointer (some ⟨g, 0, none⟩), [2]⟩, ⟨.actv 0, [some false, some false], fun _ => .int .i64 (L.length : Int), [3, 2]⟩, ⟨.quiet, [none, none], fun _ => .pointer (some ⟨gr, 0, none⟩), [2]⟩, ⟨.quiet, [none, none], fun _ => .pointer (some ⟨gr, 0, none⟩), [5, 2]⟩, ⟨.quiet, [none, none], fun _ => .pointer (some ⟨gr, 2, none⟩), [6, 2]⟩, ⟨.quiet, [none, none], fun _ => v, [7, 2]⟩, ⟨.quiet, [none, none], fun _ => .int .i64 (L.length : Int), [8, 2]⟩, ⟨.quiet, [some true, none], fun _ => .bool false, [4, 9, 2]⟩, ⟨.quiet, [some true, none], fun _ => .bool false, [2, 10]⟩, ⟨.quiet, [some true, none], fun _ => .bool false, [11]⟩, ⟨.quiet, [some true, none], fun _ => .pointer (some ⟨g, 0, none⟩), [12]⟩, ⟨.actv 1, [some true, some false], fun _ => .int .i64 N, [13, 12]⟩, ⟨.quiet, [some true, none], fun _ => .pointer (some ⟨gr, 0, none⟩), [12]⟩, ⟨.quiet, [some true, none], fun _ => .pointer (some ⟨gr, 0, none⟩), [15, 12]⟩, ⟨.quiet, [some true, none], fun _ => .pointer (some ⟨gr, 1, none⟩), [16, 12]⟩, ⟨.quiet, [some true, none], fun _ => .int .i64 N, [17, 12]⟩, ⟨.quiet, [some true, some true], fun _ => .bool false, [14, 18, 12]⟩, ⟨.quiet, [some true, some true], fun _ => .bool false, [12, 19]⟩] [(1, sl), (4, .bool false), (5, .pointer (some ⟨g, 0, none⟩)), (7, .pointer (some ⟨gr, 0, none⟩)), (8, .int .i64 ((i : Nat) : Int)), (50, .int .i64 ((i : Nat) : Int)), (51, sl), (52, .int .i64 (l.length : Int)), (53, .bool true), (54, .bool true), (55, .int .i64 ((i : Nat) : Int)), (56, .bool true), (57, .bool true), (60, sl), (61, .int .i64 ((i : Nat) : Int)), (62, elp sl (i * 3)), (63, elp sl (i * 3 + 1)), (64, .int .i64 xk), (65, sl), (66, .int .i64 ((i : Nat) : Int)), (67, elp sl (i * 3)), (68, elp sl (i * 3 + 2)), (69, .bool true), (70, .int .i64 xk), (71, .pointer (some ⟨gr, 0, none⟩)), (72, .pointer (some ⟨gr, 0, none⟩)), (73, .pointer (some ⟨gr, 2, none⟩)), (74, v), (75, .int .i64 (L.length : Int)), (76, .int .i64 ((L.length : Int) + 1)), (77, .int .i64 kk), (9, .int .i64 kk), (78, sl), (79, .int .i64 ((i : Nat) : Int)), (80, elp sl (i * 3)), (81, elp sl (i * 3 + 0)), (82, .int .i64 xw), (83, .int .i64 q), (100, .bool false), (99, .bool false), (122, .bool false), (121, .bool false), (131, .bool true), (130, .bool true), (133, .pointer (some ⟨g, 0, none⟩)), (134, .int .i64 kk), (135, .tuple #[.int .i64 R.1, .bool R.2]), (132, .tuple #[.int .i64 R.1, .bool R.2]), (136, .int .i64 R.1), (137, .bool R.2), (15, .int .i64 R.1), (16, .bool R.2), (139, .pointer (some ⟨gr, 0, none⟩)), (140, .int .i64 kk), (141, .tuple #[.int .i64 R.1, .bool R.2]), (138, .tuple #[.int .i64 R.1, .bool R.2]), (142, .int .i64 R.1), (143, .bool R.2), (17, .int .i64 R.1), (18, .bool R.2), (144, .int .i64 R.1), (145, .int .i64 R.1), (146, .bool true), (147, .bool true), (148, .bool R.2), (149, .bool R.2), (150, .bool true), (151, .bool true), (10, .bool true)] (fun ρ => match ρ with | [rq0, rq1] => [Vec 3 1 encI v L, cell gr 39 #[.int .i64 most, .int .i64 N, v], BagT 52 3 encI g most L N] | _ => []) (by kernel_rfl) (by kernel_rfl) ⟨rfl, rfl, rfl, rfl, rfl, rfl, rfl, rfl, rfl, rfl, rfl, rfl, rfl, rfl, rfl, rfl, rfl, rfl, rfl, rfl, rfl, rfl, rfl, rfl, rfl, rfl, rfl, rfl, rfl, rfl, rfl, rfl, rfl, rfl, rfl, rfl, rfl, rfl, rfl, rfl, rfl, rfl, rfl, rfl, rfl, rfl, rfl, rfl, rfl, rfl, rfl, rfl, rfl, rfl, rfl, rfl, rfl, rfl, rfl, rfl, rfl, rfl, rfl, rfl, rfl, rfl, rfl, rfl, rfl, trivial⟩ rfl ?_ ?_
          · skip
            refine s_cons (by intro r0_ r1_; exact ⟨rfl, fun b w hH hb => exec_q1 hflS rfl hb⟩) ?_
            refine s_cons (by intro r0_ r1_; exact ⟨rfl, fun b w hH hb => exec_q1 hflS rfl hb⟩) ?_
            refine s_cons (by intro r0_ r1_; exact ⟨rfl, fun b w hH hb => exec_q1 hflS rfl hb⟩) ?_
            refine s_cons (by intro r0_ r1_; exact ⟨rfl, fun b w hH hb => exec_q1 hflS rfl hb⟩) ?_
            refine s_cons (by exact ⟨rfl, Acts.su (a_does (os' := fun _ => [Vec 3 1 encI v L, cell gr 39 #[.int .i64 most, .int .i64 N, v], BagT 52 3 encI g most L N]) [2] 0 (ent_of Try.func24 (by kernel_rfl) rfl) (len_int g most L N) rfl rfl rfl (fun _ => rfl) rfl rfl rfl) rfl⟩) ?_
            refine s_cons (by intro r0_ r1_; exact ⟨rfl, fun b w hH hb => exec_q1 hflS rfl hb⟩) ?_
            refine s_cons (by intro r0_ r1_; exact ⟨rfl, fun b w hH hb => by exact exec_nilCheck rfl rfl hb⟩) ?_
            refine s_cons (by intro r0_ r1_; exact ⟨rfl, fun b w hH hb => exec_q1 hflS rfl hb⟩) ?_
            refine s_cons (by intro r0_ r1_; exact ⟨rfl, fun b w hH hb => exec_load rfl rfl (reads_one ty_s_int rfl) (hH.row 1 rfl) hb⟩) ?_
            refine s_cons (by intro r0_ r1_; exact ⟨rfl, fun b w hH hb => e_vlen 0 Try.underlying37 rfl rfl rfl hH hb⟩) ?_
            refine s_cons (by intro v0_ r1_; exact ⟨rfl, fun b w hH hb => exec_cmp rfl rfl rfl (cmp_neq_f (by simp)) hb⟩) ?_
            refine s_cons (by intro v0_ r1_; exact ⟨rfl, fun b w hH hb => exec_q1 hflS rfl hb⟩) ?_
            refine s_cons (by intro v0_ r1_; exact ⟨rfl, fun b w hH hb => exec_q1 hflS rfl hb⟩) ?_
            refine s_cons (by intro v0_ r1_; exact ⟨rfl, fun b w hH hb => exec_q1 hflS rfl hb⟩) ?_
            refine s_cons (by intro v0_; exact ⟨rfl, Acts.su (a_does (os' := fun _ => [Vec 3 1 encI v L, cell gr 39 #[.int .i64 most, .int .i64 N, v], BagT 52 3 encI g most L N]) [2] 0 (ent_of Try.func25 (by kernel_rfl) rfl) (lost_int g most L N) rfl rfl rfl (fun _ => rfl) rfl rfl rfl) rfl⟩) ?_
            refine s_cons (by intro v0_ r1_; exact ⟨rfl, fun b w hH hb => exec_q1 hflS rfl hb⟩) ?_
            refine s_cons (by intro v0_ r1_; exact ⟨rfl, fun b w hH hb => by exact exec_nilCheck rfl rfl hb⟩) ?_
            refine s_cons (by intro v0_ r1_; exact ⟨rfl, fun b w hH hb => exec_q1 hflS rfl hb⟩) ?_
            refine s_cons (by intro v0_ r1_; exact ⟨rfl, fun b w hH hb => exec_load rfl rfl (reads_one ty_int rfl) (hH.row 1 rfl) hb⟩) ?_
            refine s_cons (by intro v0_ v1_; exact ⟨rfl, fun b w hH hb => exec_cmp rfl rfl rfl (cmp_neq_f (by simp)) hb⟩) ?_
            refine s_cons (by intro v0_ v1_; exact ⟨rfl, fun b w hH hb => exec_q1 hflS rfl hb⟩) ?_
            exact s_nil
          intro v0_ v1_
          refine WL2.keep (env' := [(1, sl), (4, .bool false), (5, .pointer (some ⟨g, 0, none⟩)), (7, .pointer (some ⟨gr, 0, none⟩)), (8, .int .i64 ((i : Nat) : Int)), (50, .int .i64 ((i : Nat) : Int)), (51, sl), (52, .int .i64 (l.length : Int)), (53, .bool true), (54, .bool true), (55, .int .i64 ((i : Nat) : Int)), (56, .bool true), (57, .bool true), (60, sl), (61, .int .i64 ((i : Nat) : Int)), (62, elp sl (i * 3)), (63, elp sl (i * 3 + 1)), (64, .int .i64 xk), (65, sl), (66, .int .i64 ((i : Nat) : Int)), (67, elp sl (i * 3)), (68, elp sl (i * 3 + 2)), (69, .bool true), (70, .int .i64 xk), (71, .pointer (some ⟨gr, 0, none⟩)), (72, .pointer (some ⟨gr, 0, none⟩)), (73, .pointer (some ⟨gr, 2, none⟩)), (74, v), (75, .int .i64 (L.length : Int)), (76, .int .i64 ((L.length : Int) + 1)), (77, .int .i64 kk), (9, .int .i64 kk), (78, sl), (79, .int .i64 ((i : Nat) : Int)), (80, elp sl (i * 3)), (81, elp sl (i * 3 + 0)), (82, .int .i64 xw), (83, .int .i64 q), (100, .bool false), (99, .bool false), (122, .bool false), (121, .bool false), (131, .bool true), (130, .bool true), (133, .pointer (some ⟨g, 0, none⟩)), (134, .int .i64 kk), (135, .tuple #[.int .i64 R.1, .bool R.2]), (132, .tuple #[.int .i64 R.1, .bool R.2]), (136, .int .i64 R.1), (137, .bool R.2), (15, .int .i64 R.1), (16, .bool R.2), (139, .pointer (some ⟨gr, 0, none⟩)), (140, .int .i64 kk), (141, .tuple #[.int .i64 R.1, .bool R.2]), (138, .tuple #[.int .i64 R.1, .bool R.2]), (142, .int .i64 R.1), (143, .bool R.2), (17, .int .i64 R.1), (18, .bool R.2), (144, .int .i64 R.1), (145, .int .i64 R.1), (146, .bool true), (147, .bool true), (148, .bool R.2), (149, .bool R.2), (150, .bool true), (151, .bool true), (10, .bool true), (152, .bool true), (153, .bool false), (154, .bool false), (155, .pointer (some ⟨g, 0, none⟩)), (156, .int .i64 (L.length : Int)), (157, .pointer (some ⟨gr, 0, none⟩)), (158, .pointer (some ⟨gr, 0, none⟩)), (159, .pointer (some ⟨gr, 2, none⟩)), (160, v), (161, .int .i64 (L.length : Int)), (162, .bool false), (163, .bool false), (164, .bool false), (165, .pointer (some ⟨g, 0, none⟩)), (166, .int .i64 N), (167, .pointer (some ⟨gr, 0, none⟩)), (168, .pointer (some ⟨gr, 0, none⟩)), (169, .pointer (some ⟨gr, 1, none⟩)), (170, .int .i64 N), (171, .bool false), (172, .bool false)]) ⟨rfl, rfl, rfl, rfl, rfl, rfl, rfl, rfl, rfl, rfl, rfl, rfl, rfl, rfl, rfl, rfl, rfl, rfl, rfl, rfl, rfl, rfl, rfl, rfl, rfl, rfl, rfl, rfl, rfl, rfl, rfl, rfl, rfl, rfl, rfl, rfl, rfl, rfl, rfl, rfl, rfl, rfl, rfl, rfl, rfl, rfl, rfl, rfl, rfl, rfl, rfl, rfl, rfl, rfl, rfl, rfl, rfl, rfl, rfl, rfl, rfl, rfl, rfl, rfl, rfl, rfl, rfl, rfl, rfl, rfl, rfl, rfl, rfl, rfl, rfl, rfl, rfl, rfl, rfl, rfl, rfl, rfl, rfl, rfl, rfl, rfl, rfl, rfl, rfl, rfl, trivial⟩ ?_
          refine h_nil (f_to (d_else rfl (d_skip (f_block (f_to (d_reg1 ?_))))))
          refine h_q hflS rfl ?_
          refine h_val rfl (.int .i64 ((i + 1 : Nat) : Int)) (fun b w hb hH => exec_ar rfl rfl rfl rfl (by rw [IntWalk.i64_in _ (by omega)]; omega) hb) ?_
          refine h_q hflS rfl ?_
          refine h_nil ?_
          exact f_again (i + 1, L, N, v) 0 ⟨show i + 1 ≤ 800 by omega, hLm, hI3.1, by omega⟩ (show 801 - (i + 1) < 801 - i by omega) ⟨rfl, rfl, rfl, rfl, rfl, trivial⟩ rfl
        · skip
          obtain ⟨R, hR⟩ : ∃ R, putB most L N xk = R := ⟨_, rfl⟩
          have hpl := putB_len most L N xk hLm
          rw [hR] at hpl
          have hpl2 := hpl.2
          refine d_reg ?_
          refine h_q hflS rfl ?_
          refine h_val rfl (elp sl (i * 3)) (fun b w hb hH => e_sidx okG (arg_rd hl hH) sl_bursarlaw13_Step (j := i) hx rfl rfl rfl hb) ?_
          refine h_val rfl (elp sl (i * 3 + 0)) (fun b w hb hH => e_sfield okG (by decide) (arg_rd hl hH) (j := i) hx fd_bursarlaw13_Step_0 rfl rfl hb) ?_
          refine h_val rfl (.int .i64 xw) (fun b w hb hH => e_sload okG (by decide) (arg_rd hl hH) (j := i) hx ty_int (off := 0) rfl rfl rfl hb) ?_
          refine h_act (post := fun _ => [Vec 3 1 encI v L, cell gr 39 #[.int .i64 most, .int .i64 N, v], BagT 52 3 encI g most L N]) rfl (a_call (ent_of Try.func15 (by kernel_rfl) rfl) (fun w hH => pick w xw 5 hxo.1 (by decide) hq) rfl rfl rfl) ?_; rintro ⟨⟩
          refine h_done (d_block (d_reg ?_))
          refine h_q hflS rfl ?_
          refine h_val rfl (.bool false) (fun b w hb hH => exec_cmp rfl rfl rfl (cmp_eql_f (by omega)) hb) ?_
          refine h_q hflS rfl ?_
          refine h_done (d_else rfl (d_reg ?_))
          refine h_q hflS rfl ?_
          refine h_val rfl (.bool false) (fun b w hb hH => exec_cmp rfl rfl rfl (cmp_eql_f (by omega)) hb) ?_
          refine h_q hflS rfl ?_
          refine h_done (d_else rfl (d_reg ?_))
          refine h_q hflS rfl ?_
          refine h_val rfl (.bool false) (fun b w hb hH => exec_cmp rfl rfl rfl (cmp_eql_f (by omega)) hb) ?_
          refine h_q hflS rfl ?_
          refine h_done (d_else rfl ?_)
          refine d_parS 15 2 [⟨.quiet, [none, none], fun _ => .pointer (some ⟨g, 0, none⟩), []⟩, ⟨.quiet, [none, none], fun _ => sl, []⟩, ⟨.quiet, [none, none], fun _ => .int .i64 ((i : Nat) : Int), []⟩, ⟨.quiet, [none, none], fun _ => elp sl (i * 3), [1, 2]⟩, ⟨.quiet, [none, none], fun _ => elp sl (i * 3 + 1), [3]⟩, ⟨.quiet, [none, none], fun _ => .int .i64 xk, [4]⟩, ⟨.actv 0, [some false, some false], fun _ => .bool R.2.2, [0, 5]⟩, ⟨.quiet, [none, none], fun _ => .pointer (some ⟨gr, 0, none⟩), []⟩, ⟨.quiet, [none, none], fun _ => sl, []⟩, ⟨.quiet, [none, none], fun _ => .int .i64 ((i : Nat) : Int), []⟩, ⟨.quiet, [none, none], fun _ => elp sl (i * 3), [8, 9]⟩, ⟨.quiet, [none, none], fun _ => elp sl (i * 3 + 1), [10]⟩, ⟨.quiet, [none, none], fun _ => .int .i64 xk, [11]⟩, ⟨.actv 1, [some true, some false], fun _ => .bool R.2.2, [7, 12]⟩, ⟨.quiet, [some true, some true], fun _ => .bool true, [6, 13]⟩] [(1, sl), (4, .bool false), (5, .pointer (some ⟨g, 0, none⟩)), (7, .pointer (some ⟨gr, 0, none⟩)), (8, .int .i64 ((i : Nat) : Int)), (50, .int .i64 ((i : Nat) : Int)), (51, sl), (52, .int .i64 (l.length : Int)), (53, .bool true), (54, .bool true), (55, .int .i64 ((i : Nat) : Int)), (56, .bool true), (57, .bool true), (60, sl), (61, .int .i64 ((i : Nat) : Int)), (62, elp sl (i * 3)), (63, elp sl (i * 3 + 1)), (64, .int .i64 xk), (65, sl), (66, .int .i64 ((i : Nat) : Int)), (67, elp sl (i * 3)), (68, elp sl (i * 3 + 2)), (69, .bool true), (70, .int .i64 xk), (71, .pointer (some ⟨gr, 0, none⟩)), (72, .pointer (some ⟨gr, 0, none⟩)), (73, .pointer (some ⟨gr, 2, none⟩)), (74, v), (75, .int .i64 (L.length : Int)), (76, .int .i64 ((L.length : Int) + 1)), (77, .int .i64 kk), (9, .int .i64 kk), (10, .bool true), (78, sl), (79, .int .i64 ((i : Nat) : Int)), (80, elp sl (i * 3)), (81, elp sl (i * 3 + 0)), (82, .int .i64 xw), (83, .int .i64 q), (100, .bool false), (99, .bool false), (122, .bool false), (121, .bool false), (131, .bool false), (130, .bool false)] (fun ρ => match ρ with | [rq0, rq1] => [selS rq1 (fun u => Vec 3 1 encI u R.1) (Vec 3 1 encI v L), selS rq1 (fun u => cell gr 39 #[.int .i64 most, .int .i64 R.2.1, u]) (cell gr 39 #[.int .i64 most, .int .i64 N, v]), selS rq0 (fun _ => BagT 52 3 encI g most R.1 R.2.1) (BagT 52 3 encI g most L N)] | _ => []) (by kernel_rfl) (by kernel_rfl) ⟨rfl, rfl, rfl, rfl, rfl, rfl, rfl, rfl, rfl, rfl, rfl, rfl, rfl, rfl, rfl, rfl, rfl, rfl, rfl, rfl, rfl, rfl, rfl, rfl, rfl, rfl, rfl, rfl, rfl, rfl, rfl, rfl, rfl, rfl, rfl, rfl, rfl, rfl, rfl, rfl, rfl, rfl, rfl, rfl, rfl, trivial⟩ rfl ?_ ?_
          · skip
            refine s_cons (by intro r0_ r1_; exact ⟨rfl, fun b w hH hb => exec_q1 hflS rfl hb⟩) ?_
            refine s_cons (by intro r0_ r1_; exact ⟨rfl, fun b w hH hb => exec_q1 hflS rfl hb⟩) ?_
            refine s_cons (by intro r0_ r1_; exact ⟨rfl, fun b w hH hb => exec_q1 hflS rfl hb⟩) ?_
            refine s_cons (by intro r0_ r1_; exact ⟨rfl, fun b w hH hb => e_sidx okG (arg_rd hl hH) sl_bursarlaw13_Step (j := i) hx rfl rfl rfl hb⟩) ?_
            refine s_cons (by intro r0_ r1_; exact ⟨rfl, fun b w hH hb => e_sfield okG (by decide) (arg_rd hl hH) (j := i) hx fd_bursarlaw13_Step_1 rfl rfl hb⟩) ?_
            refine s_cons (by intro r0_ r1_; exact ⟨rfl, fun b w hH hb => e_sload okG (by decide) (arg_rd hl hH) (j := i) hx ty_int (off := 1) rfl rfl rfl hb⟩) ?_
            refine s_cons (by exact ⟨rfl, Acts.su (a_does (os' := fun _ => [Vec 3 1 encI v L, cell gr 39 #[.int .i64 most, .int .i64 N, v], BagT 52 3 encI g most R.1 R.2.1]) [2] 0 (ent_of Try.func22 (by kernel_rfl) rfl) (put_int g most L N xk hm256 hLm hN R hR) rfl rfl rfl (fun _ => rfl) rfl rfl rfl) rfl⟩) ?_
            refine s_cons (by intro r0_ r1_; exact ⟨rfl, fun b w hH hb => exec_q1 hflS rfl hb⟩) ?_
            refine s_cons (by intro r0_ r1_; exact ⟨rfl, fun b w hH hb => exec_q1 hflS rfl hb⟩) ?_
            refine s_cons (by intro r0_ r1_; exact ⟨rfl, fun b w hH hb => exec_q1 hflS rfl hb⟩) ?_
            refine s_cons (by intro r0_ r1_; exact ⟨rfl, fun b w hH hb => e_sidx okG (arg_rd hl hH) sl_bursarlaw13_Step (j := i) hx rfl rfl rfl hb⟩) ?_
            refine s_cons (by intro r0_ r1_; exact ⟨rfl, fun b w hH hb => e_sfield okG (by decide) (arg_rd hl hH) (j := i) hx fd_bursarlaw13_Step_1 rfl rfl hb⟩) ?_
            refine s_cons (by intro r0_ r1_; exact ⟨rfl, fun b w hH hb => e_sload okG (by decide) (arg_rd hl hH) (j := i) hx ty_int (off := 1) rfl rfl rfl hb⟩) ?_
            refine s_cons (by intro v0_; exact ⟨rfl, Acts.sw (a_does (os' := fun u => [Vec 3 1 encI u R.1, cell gr 39 #[.int .i64 most, .int .i64 R.2.1, u], BagT 52 3 encI g most R.1 R.2.1]) [1, 0] 0 (ent_of Try.func23 (by kernel_rfl) rfl) (rput gr most N v L xk hm256 hLm hN R hR) rfl rfl rfl (fun _ => rfl) rfl rfl rfl) (fun _ => rfl)⟩) ?_
            refine s_cons (by intro v0_ u; exact ⟨rfl, fun b w hH hb => exec_eqs (eqB_same _) rfl rfl rfl hb⟩) ?_
            exact s_nil
          intro v0_ u
          refine WL2.keep (env' := [(1, sl), (4, .bool false), (5, .pointer (some ⟨g, 0, none⟩)), (7, .pointer (some ⟨gr, 0, none⟩)), (8, .int .i64 ((i : Nat) : Int)), (50, .int .i64 ((i : Nat) : Int)), (51, sl), (52, .int .i64 (l.length : Int)), (53, .bool true), (54, .bool true), (55, .int .i64 ((i : Nat) : Int)), (56, .bool true), (57, .bool true), (60, sl), (61, .int .i64 ((i : Nat) : Int)), (62, elp sl (i * 3)), (63, elp sl (i * 3 + 1)), (64, .int .i64 xk), (65, sl), (66, .int .i64 ((i : Nat) : Int)), (67, elp sl (i * 3)), (68, elp sl (i * 3 + 2)), (69, .bool true), (70, .int .i64 xk), (71, .pointer (some ⟨gr, 0, none⟩)), (72, .pointer (some ⟨gr, 0, none⟩)), (73, .pointer (some ⟨gr, 2, none⟩)), (74, v), (75, .int .i64 (L.length : Int)), (76, .int .i64 ((L.length : Int) + 1)), (77, .int .i64 kk), (9, .int .i64 kk), (10, .bool true), (78, sl), (79, .int .i64 ((i : Nat) : Int)), (80, elp sl (i * 3)), (81, elp sl (i * 3 + 0)), (82, .int .i64 xw), (83, .int .i64 q), (100, .bool false), (99, .bool false), (122, .bool false), (121, .bool false), (131, .bool false), (130, .bool false), (84, .pointer (some ⟨g, 0, none⟩)), (85, sl), (86, .int .i64 ((i : Nat) : Int)), (87, elp sl (i * 3)), (88, elp sl (i * 3 + 1)), (89, .int .i64 xk), (90, .bool R.2.2), (91, .pointer (some ⟨gr, 0, none⟩)), (92, sl), (93, .int .i64 ((i : Nat) : Int)), (94, elp sl (i * 3)), (95, elp sl (i * 3 + 1)), (96, .int .i64 xk), (97, .bool R.2.2), (98, .bool true)]) ⟨rfl, rfl, rfl, rfl, rfl, rfl, rfl, rfl, rfl, rfl, rfl, rfl, rfl, rfl, rfl, rfl, rfl, rfl, rfl, rfl, rfl, rfl, rfl, rfl, rfl, rfl, rfl, rfl, rfl, rfl, rfl, rfl, rfl, rfl, rfl, rfl, rfl, rfl, rfl, rfl, rfl, rfl, rfl, rfl, rfl, rfl, rfl, rfl, rfl, rfl, rfl, rfl, rfl, rfl, rfl, rfl, rfl, rfl, rfl, rfl, trivial⟩ ?_
          refine h_q hflS rfl ?_
          refine h_nil (f_block (f_to (d_seq ?_)))
          refine d_parS 21 2 [⟨.quiet, [none, none], fun _ => .bool true, []⟩, ⟨.quiet, [none, none], fun _ => .bool false, [0]⟩, ⟨.quiet, [none, none], fun _ => .bool false, [1]⟩, ⟨.quiet, [none, none], fun _ => .pointer (some ⟨g, 0, none⟩), [2]⟩, ⟨.actv 0, [some false, some false], fun _ => .int .i64 (R.1.length : Int), [3, 2]⟩, ⟨.quiet, [none, none], fun _ => .pointer (some ⟨gr, 0, none⟩), [2]⟩, ⟨.quiet, [none, none], fun _ => .pointer (some ⟨gr, 0, none⟩), [5, 2]⟩, ⟨.quiet, [none, none], fun _ => .pointer (some ⟨gr, 2, none⟩), [6, 2]⟩, ⟨.quiet, [none, none], fun _ => u, [7, 2]⟩, ⟨.quiet, [none, none], fun _ => .int .i64 (R.1.length : Int), [8, 2]⟩, ⟨.quiet, [some true, none], fun _ => .bool false, [4, 9, 2]⟩, ⟨.quiet, [some true, none], fun _ => .bool false, [2, 10]⟩, ⟨.quiet, [some true, none], fun _ => .bool false, [11]⟩, ⟨.quiet, [some true, none], fun _ => .pointer (some ⟨g, 0, none⟩), [12]⟩, ⟨.actv 1, [some true, some false], fun _ => .int .i64 R.2.1, [13, 12]⟩, ⟨.quiet, [some true, none], fun _ => .pointer (some ⟨gr, 0, none⟩), [12]⟩, ⟨.quiet, [some true, none], fun _ => .pointer (some ⟨gr, 0, none⟩), [15, 12]⟩, ⟨.quiet, [some true, none], fun _ => .pointer (some ⟨gr, 1, none⟩), [16, 12]⟩, ⟨.quiet, [some true, none], fun _ => .int .i64 R.2.1, [17, 12]⟩, ⟨.quiet, [some true, some true], fun _ => .bool false, [14, 18, 12]⟩, ⟨.quiet, [some true, some true], fun _ => .bool false, [12, 19]⟩] [(1, sl), (4, .bool false), (5, .pointer (some ⟨g, 0, none⟩)), (7, .pointer (some ⟨gr, 0, none⟩)), (8, .int .i64 ((i : Nat) : Int)), (50, .int .i64 ((i : Nat) : Int)), (51, sl), (52, .int .i64 (l.length : Int)), (53, .bool true), (54, .bool true), (55, .int .i64 ((i : Nat) : Int)), (56, .bool true), (57, .bool true), (60, sl), (61, .int .i64 ((i : Nat) : Int)), (62, elp sl (i * 3)), (63, elp sl (i * 3 + 1)), (64, .int .i64 xk), (65, sl), (66, .int .i64 ((i : Nat) : Int)), (67, elp sl (i * 3)), (68, elp sl (i * 3 + 2)), (69, .bool true), (70, .int .i64 xk), (71, .pointer (some ⟨gr, 0, none⟩)), (72, .pointer (some ⟨gr, 0, none⟩)), (73, .pointer (some ⟨gr, 2, none⟩)), (74, v), (75, .int .i64 (L.length : Int)), (76, .int .i64 ((L.length : Int) + 1)), (77, .int .i64 kk), (9, .int .i64 kk), (78, sl), (79, .int .i64 ((i : Nat) : Int)), (80, elp sl (i * 3)), (81, elp sl (i * 3 + 0)), (82, .int .i64 xw), (83, .int .i64 q), (100, .bool false), (99, .bool false), (122, .bool false), (121, .bool false), (131, .bool false), (130, .bool false), (84, .pointer (some ⟨g, 0, none⟩)), (85, sl), (86, .int .i64 ((i : Nat) : Int)), (87, elp sl (i * 3)), (88, elp sl (i * 3 + 1)), (89, .int .i64 xk), (90, .bool R.2.2), (91, .pointer (some ⟨gr, 0, none⟩)), (92, sl), (93, .int .i64 ((i : Nat) : Int)), (94, elp sl (i * 3)), (95, elp sl (i * 3 + 1)), (96, .int .i64 xk), (97, .bool R.2.2), (98, .bool true), (10, .bool true)] (fun ρ => match ρ with | [rq0, rq1] => [Vec 3 1 encI u R.1, cell gr 39 #[.int .i64 most, .int .i64 R.2.1, u], BagT 52 3 encI g most R.1 R.2.1] | _ => []) (by kernel_rfl) (by kernel_rfl) ⟨rfl, rfl, rfl, rfl, rfl, rfl, rfl, rfl, rfl, rfl, rfl, rfl, rfl, rfl, rfl, rfl, rfl, rfl, rfl, rfl, rfl, rfl, rfl, rfl, rfl, rfl, rfl, rfl, rfl, rfl, rfl, rfl, rfl, rfl, rfl, rfl, rfl, rfl, rfl, rfl, rfl, rfl, rfl, rfl, rfl, rfl, rfl, rfl, rfl, rfl, rfl, rfl, rfl, rfl, rfl, rfl, rfl, rfl, rfl, rfl, trivial⟩ rfl ?_ ?_
          · skip
            refine s_cons (by intro r0_ r1_; exact ⟨rfl, fun b w hH hb => exec_q1 hflS rfl hb⟩) ?_
            refine s_cons (by intro r0_ r1_; exact ⟨rfl, fun b w hH hb => exec_q1 hflS rfl hb⟩) ?_
            refine s_cons (by intro r0_ r1_; exact ⟨rfl, fun b w hH hb => exec_q1 hflS rfl hb⟩) ?_
            refine s_cons (by intro r0_ r1_; exact ⟨rfl, fun b w hH hb => exec_q1 hflS rfl hb⟩) ?_
            refine s_cons (by exact ⟨rfl, Acts.su (a_does (os' := fun _ => [Vec 3 1 encI u R.1, cell gr 39 #[.int .i64 most, .int .i64 R.2.1, u], BagT 52 3 encI g most R.1 R.2.1]) [2] 0 (ent_of Try.func24 (by kernel_rfl) rfl) (len_int g most R.1 R.2.1) rfl rfl rfl (fun _ => rfl) rfl rfl rfl) rfl⟩) ?_
            refine s_cons (by intro r0_ r1_; exact ⟨rfl, fun b w hH hb => exec_q1 hflS rfl hb⟩) ?_
            refine s_cons (by intro r0_ r1_; exact ⟨rfl, fun b w hH hb => by exact exec_nilCheck rfl rfl hb⟩) ?_
            refine s_cons (by intro r0_ r1_; exact ⟨rfl, fun b w hH hb => exec_q1 hflS rfl hb⟩) ?_
            refine s_cons (by intro r0_ r1_; exact ⟨rfl, fun b w hH hb => exec_load rfl rfl (reads_one ty_s_int rfl) (hH.row 1 rfl) hb⟩) ?_
            refine s_cons (by intro r0_ r1_; exact ⟨rfl, fun b w hH hb => e_vlen 0 Try.underlying37 rfl rfl rfl hH hb⟩) ?_
            refine s_cons (by intro v0_ r1_; exact ⟨rfl, fun b w hH hb => exec_cmp rfl rfl rfl (cmp_neq_f (by simp)) hb⟩) ?_
            refine s_cons (by intro v0_ r1_; exact ⟨rfl, fun b w hH hb => exec_q1 hflS rfl hb⟩) ?_
            refine s_cons (by intro v0_ r1_; exact ⟨rfl, fun b w hH hb => exec_q1 hflS rfl hb⟩) ?_
            refine s_cons (by intro v0_ r1_; exact ⟨rfl, fun b w hH hb => exec_q1 hflS rfl hb⟩) ?_
            refine s_cons (by intro v0_; exact ⟨rfl, Acts.su (a_does (os' := fun _ => [Vec 3 1 encI u R.1, cell gr 39 #[.int .i64 most, .int .i64 R.2.1, u], BagT 52 3 encI g most R.1 R.2.1]) [2] 0 (ent_of Try.func25 (by kernel_rfl) rfl) (lost_int g most R.1 R.2.1) rfl rfl rfl (fun _ => rfl) rfl rfl rfl) rfl⟩) ?_
            refine s_cons (by intro v0_ r1_; exact ⟨rfl, fun b w hH hb => exec_q1 hflS rfl hb⟩) ?_
            refine s_cons (by intro v0_ r1_; exact ⟨rfl, fun b w hH hb => by exact exec_nilCheck rfl rfl hb⟩) ?_
            refine s_cons (by intro v0_ r1_; exact ⟨rfl, fun b w hH hb => exec_q1 hflS rfl hb⟩) ?_
            refine s_cons (by intro v0_ r1_; exact ⟨rfl, fun b w hH hb => exec_load rfl rfl (reads_one ty_int rfl) (hH.row 1 rfl) hb⟩) ?_
            refine s_cons (by intro v0_ v1_; exact ⟨rfl, fun b w hH hb => exec_cmp rfl rfl rfl (cmp_neq_f (by simp)) hb⟩) ?_
            refine s_cons (by intro v0_ v1_; exact ⟨rfl, fun b w hH hb => exec_q1 hflS rfl hb⟩) ?_
            exact s_nil
          intro v0_ v1_
          refine WL2.keep (env' := [(1, sl), (4, .bool false), (5, .pointer (some ⟨g, 0, none⟩)), (7, .pointer (some ⟨gr, 0, none⟩)), (8, .int .i64 ((i : Nat) : Int)), (50, .int .i64 ((i : Nat) : Int)), (51, sl), (52, .int .i64 (l.length : Int)), (53, .bool true), (54, .bool true), (55, .int .i64 ((i : Nat) : Int)), (56, .bool true), (57, .bool true), (60, sl), (61, .int .i64 ((i : Nat) : Int)), (62, elp sl (i * 3)), (63, elp sl (i * 3 + 1)), (64, .int .i64 xk), (65, sl), (66, .int .i64 ((i : Nat) : Int)), (67, elp sl (i * 3)), (68, elp sl (i * 3 + 2)), (69, .bool true), (70, .int .i64 xk), (71, .pointer (some ⟨gr, 0, none⟩)), (72, .pointer (some ⟨gr, 0, none⟩)), (73, .pointer (some ⟨gr, 2, none⟩)), (74, v), (75, .int .i64 (L.length : Int)), (76, .int .i64 ((L.length : Int) + 1)), (77, .int .i64 kk), (9, .int .i64 kk), (78, sl), (79, .int .i64 ((i : Nat) : Int)), (80, elp sl (i * 3)), (81, elp sl (i * 3 + 0)), (82, .int .i64 xw), (83, .int .i64 q), (100, .bool false), (99, .bool false), (122, .bool false), (121, .bool false), (131, .bool false), (130, .bool false), (84, .pointer (some ⟨g, 0, none⟩)), (85, sl), (86, .int .i64 ((i : Nat) : Int)), (87, elp sl (i * 3)), (88, elp sl (i * 3 + 1)), (89, .int .i64 xk), (90, .bool R.2.2), (91, .pointer (some ⟨gr, 0, none⟩)), (92, sl), (93, .int .i64 ((i : Nat) : Int)), (94, elp sl (i * 3)), (95, elp sl (i * 3 + 1)), (96, .int .i64 xk), (97, .bool R.2.2), (98, .bool true), (10, .bool true), (152, .bool true), (153, .bool false), (154, .bool false), (155, .pointer (some ⟨g, 0, none⟩)), (156, .int .i64 (R.1.length : Int)), (157, .pointer (some ⟨gr, 0, none⟩)), (158, .pointer (some ⟨gr, 0, none⟩)), (159, .pointer (some ⟨gr, 2, none⟩)), (160, u), (161, .int .i64 (R.1.length : Int)), (162, .bool false), (163, .bool false), (164, .bool false), (165, .pointer (some ⟨g, 0, none⟩)), (166, .int .i64 R.2.1), (167, .pointer (some ⟨gr, 0, none⟩)), (168, .pointer (some ⟨gr, 0, none⟩)), (169, .pointer (some ⟨gr, 1, none⟩)), (170, .int .i64 R.2.1), (171, .bool false), (172, .bool false)]) ⟨rfl, rfl, rfl, rfl, rfl, rfl, rfl, rfl, rfl, rfl, rfl, rfl, rfl, rfl, rfl, rfl, rfl, rfl, rfl, rfl, rfl, rfl, rfl, rfl, rfl, rfl, rfl, rfl, rfl, rfl, rfl, rfl, rfl, rfl, rfl, rfl, rfl, rfl, rfl, rfl, rfl, rfl, rfl, rfl, rfl, rfl, rfl, rfl, rfl, rfl, rfl, rfl, rfl, rfl, rfl, rfl, rfl, rfl, rfl, rfl, rfl, rfl, rfl, rfl, rfl, rfl, rfl, rfl, rfl, rfl, rfl, rfl, rfl, rfl, rfl, rfl, rfl, rfl, rfl, rfl, rfl, trivial⟩ ?_
          refine h_nil (f_to (d_else rfl (d_skip (f_block (f_to (d_reg1 ?_))))))
          refine h_q hflS rfl ?_
          refine h_val rfl (.int .i64 ((i + 1 : Nat) : Int)) (fun b w hb hH => exec_ar rfl rfl rfl rfl (by rw [IntWalk.i64_in _ (by omega)]; omega) hb) ?_
          refine h_q hflS rfl ?_
          refine h_nil ?_
          exact f_again (i + 1, R.1, R.2.1, u) 0 ⟨show i + 1 ≤ 800 by omega, hpl.1, by omega, by omega⟩ (show 801 - (i + 1) < 801 - i by omega) ⟨rfl, rfl, rfl, rfl, rfl, trivial⟩ rfl
    · skip
      have hl34 : L.length ≤ 17179869184 := by omega
      have hk40 : L.length ≤ 1099511627776 := by omega
      refine d_reg ?_
      refine h_q hflS rfl ?_
      refine h_val rfl (.int .i64 (l.length : Int)) (fun b w hb hH => e_slen (arg_rd hl hH) Try.underlying35 rfl rfl hb) ?_
      refine h_val rfl (.bool false) (fun b w hb hH => exec_cmp rfl rfl rfl (cmp_lss_f (by omega)) hb) ?_
      refine h_q hflS rfl ?_
      refine h_done (d_else rfl (d_exit (f_then_exit (f_then_exit (f_block_exit (f_to (d_reg ?_)))))))
      refine h_q hflS rfl ?_
      refine h_act (post := fun ua => [Vec 3 1 encI ua L, Vec 3 1 encI v L, cell gr 39 #[.int .i64 most, .int .i64 N, v], BagT 52 3 encI g most L N]) rfl (a_does (os' := fun ua => [Vec 3 1 encI ua L, Vec 3 1 encI v L, cell gr 39 #[.int .i64 most, .int .i64 N, v], BagT 52 3 encI g most L N]) [2] 0 (ent_of Try.func26 (by kernel_rfl) rfl) (all_int g most L N hl34) rfl rfl rfl (fun _ => rfl) rfl rfl rfl) ?_; rintro ua
      refine h_q hflS rfl ?_
      refine h_done (d_reg ?_)
      refine h_q hflS rfl ?_
      refine h_val rfl (.pointer (some ⟨gr, 0, none⟩)) (fun b w hb hH => by exact exec_nilCheck rfl rfl hb) ?_
      refine h_q hflS rfl ?_
      refine h_val rfl (v) (fun b w hb hH => exec_load rfl rfl (reads_one ty_s_int rfl) (hH.row 2 rfl) hb) ?_
      refine h_act (post := fun _ => [Vec 3 1 encI ua L, Vec 3 1 encI v L, cell gr 39 #[.int .i64 most, .int .i64 N, v], BagT 52 3 encI g most L N]) rfl (a_does (os' := fun _ => [Vec 3 1 encI ua L, Vec 3 1 encI v L, cell gr 39 #[.int .i64 most, .int .i64 N, v], BagT 52 3 encI g most L N]) [0, 1] 0 (ent_of Try.func27 (by kernel_rfl) rfl) (same13 (Vec 3 1 encI ua L) (Vec 3 1 encI v L) ua v L (fun rs w h1 h2 => h1.all okI h2) (fun rs w h1 h2 => h1.all okI h2) hk40) rfl rfl rfl (fun _ => rfl) rfl rfl rfl) ?_; rintro ⟨⟩
      refine h_q hflS rfl ?_
      refine h_done (d_seq (d_reg ?_))
      refine h_q hflS rfl ?_
      refine h_done (d_block ?_)
      refine d_loop (α := Nat × List Int) (fun ⟨j, A⟩ => [(4, .bool false), (5, .pointer (some ⟨g, 0, none⟩)), (7, .pointer (some ⟨gr, 0, none⟩)), (19, ua), (20, .bool true), (21, .int .i64 ((j : Nat) : Int))]) (fun ⟨j, A⟩ => [Vec 3 1 encI ua A, Vec 3 1 encI v L, cell gr 39 #[.int .i64 most, .int .i64 N, v], BagT 52 3 encI g most L N]) (fun ⟨j, A⟩ => A.length = L.length) (fun ⟨j, A⟩ => L.length - j) (0, L) rfl ⟨rfl, rfl, rfl, rfl, rfl, rfl, trivial⟩ rfl ?_
      rintro ⟨j, A⟩ hJ
      refine WC2.at_ (env' := [(4, .bool false), (5, .pointer (some ⟨g, 0, none⟩)), (7, .pointer (some ⟨gr, 0, none⟩)), (19, ua), (20, .bool true), (21, .int .i64 ((j : Nat) : Int))]) (rs' := [Vec 3 1 encI ua A, Vec 3 1 encI v L, cell gr 39 #[.int .i64 most, .int .i64 N, v], BagT 52 3 encI g most L N]) ⟨rfl, rfl, rfl, rfl, rfl, rfl, trivial⟩ rfl ?_
      have hJ1 : A.length = L.length := hJ
      refine d_seq ?_
      rcases Nat.lt_or_ge j L.length with h6 | h6
      · skip
        refine d_reg ?_
        refine h_q hflS rfl ?_
        refine h_val rfl (.int .i64 (A.length : Int)) (fun b w hb hH => e_vlen 0 Try.underlying37 rfl rfl rfl hH hb) ?_
        refine h_val rfl (.bool true) (fun b w hb hH => exec_cmp rfl rfl rfl (cmp_lss_t (by omega)) hb) ?_
        refine h_done (d_then rfl (d_skip (f_to (d_seq (d_block (d_reg1 ?_))))))
        refine h_q hflS rfl ?_
        refine h_val rfl (elp ua (j * 1)) (fun b w hb hH => e_vidx 0 sl_int okI rfl j (by omega) rfl rfl rfl hH hb) ?_
        refine h_acts (post := fun _ => [Vec 3 1 encI ua (A.set j (-77)), Vec 3 1 encI v L, cell gr 39 #[.int .i64 most, .int .i64 N, v], BagT 52 3 encI g most L N]) rfl rfl (a_vstore1 0 ty_int okI rfl j (by omega) (-77) rfl rfl rfl rfl rfl) ?_; rintro ⟨⟩
        refine h_nil (f_block (f_to (d_reg1 ?_)))
        refine h_q hflS rfl ?_
        refine h_val rfl (.int .i64 ((j + 1 : Nat) : Int)) (fun b w hb hH => exec_ar rfl rfl rfl rfl (by rw [IntWalk.i64_in _ (by omega)]; omega) hb) ?_
        refine h_q hflS rfl ?_
        refine h_nil ?_
        exact f_again (j + 1, A.set j (-77)) 0 (by show (A.set j (-77)).length = L.length; rw [List.length_set]; exact hJ1) (show L.length - (j + 1) < L.length - j by omega) ⟨rfl, rfl, rfl, rfl, rfl, rfl, trivial⟩ rfl
      · skip
        refine d_reg ?_
        refine h_q hflS rfl ?_
        refine h_val rfl (.int .i64 (A.length : Int)) (fun b w hb hH => e_vlen 0 Try.underlying37 rfl rfl rfl hH hb) ?_
        refine h_val rfl (.bool false) (fun b w hb hH => exec_cmp rfl rfl rfl (cmp_lss_f (by omega)) hb) ?_
        refine h_done (d_else rfl (d_exit (f_then_exit (f_then_exit (f_block_exit (f_to (d_seq ?_)))))))
        refine d_emps 1 rfl ?_
        refine d_parS 10 2 [⟨.quiet, [none, none], fun _ => .bool true, []⟩, ⟨.quiet, [none, none], fun _ => .bool true, [0]⟩, ⟨.quiet, [none, none], fun _ => .pointer (some ⟨g, 0, none⟩), [1]⟩, ⟨.act 0, [some false, some false], fun _ => undef, [2, 1]⟩, ⟨.quiet, [none, none], fun _ => .pointer (some ⟨gr, 0, none⟩), [1]⟩, ⟨.quiet, [none, none], fun _ => .pointer (some ⟨gr, 0, none⟩), [4, 1]⟩, ⟨.quiet, [none, none], fun _ => .pointer (some ⟨gr, 2, none⟩), [5, 1]⟩, ⟨.quiet, [none, none], fun _ => v, [6, 1]⟩, ⟨.actv 1, [some true, some false], fun _ => .bool true, [3, 7, 1]⟩, ⟨.quiet, [some true, some true], fun _ => .bool true, [1, 8]⟩] [(4, .bool false), (5, .pointer (some ⟨g, 0, none⟩)), (7, .pointer (some ⟨gr, 0, none⟩)), (20, .bool true)] (fun ρ => match ρ with | [rq0, rq1] => [selS rq0 (fun ub => Vec 3 1 encI ub L) (emp), Vec 3 1 encI ua A, Vec 3 1 encI v L, cell gr 39 #[.int .i64 most, .int .i64 N, v], BagT 52 3 encI g most L N] | _ => []) (by kernel_rfl) (by kernel_rfl) ⟨rfl, rfl, rfl, rfl, trivial⟩ rfl ?_ ?_
        · skip
          refine s_cons (by intro r0_ r1_; exact ⟨rfl, fun b w hH hb => exec_q1 hflS rfl hb⟩) ?_
          refine s_cons (by intro r0_ r1_; exact ⟨rfl, fun b w hH hb => exec_q1 hflS rfl hb⟩) ?_
          refine s_cons (by intro r0_ r1_; exact ⟨rfl, fun b w hH hb => exec_q1 hflS rfl hb⟩) ?_
          refine s_cons (by exact ⟨rfl, Acts.s (a_does (os' := fun ub => [Vec 3 1 encI ub L, Vec 3 1 encI ua A, Vec 3 1 encI v L, cell gr 39 #[.int .i64 most, .int .i64 N, v], BagT 52 3 encI g most L N]) [4, 0] 1 (ent_of Try.func26 (by kernel_rfl) rfl) (all_int g most L N hl34) rfl rfl rfl (fun _ => rfl) rfl rfl rfl) (fun _ => rfl)⟩) ?_
          refine s_cons (by intro r0_ r1_; exact ⟨rfl, fun b w hH hb => exec_q1 hflS rfl hb⟩) ?_
          refine s_cons (by intro r0_ r1_; exact ⟨rfl, fun b w hH hb => by exact exec_nilCheck rfl rfl hb⟩) ?_
          refine s_cons (by intro r0_ r1_; exact ⟨rfl, fun b w hH hb => exec_q1 hflS rfl hb⟩) ?_
          refine s_cons (by intro r0_ r1_; exact ⟨rfl, fun b w hH hb => exec_load rfl rfl (reads_one ty_s_int rfl) (hH.row 3 rfl) hb⟩) ?_
          refine s_cons (by intro ub; exact ⟨rfl, Acts.su (a_does (os' := fun _ => [Vec 3 1 encI ub L, Vec 3 1 encI ua A, Vec 3 1 encI v L, cell gr 39 #[.int .i64 most, .int .i64 N, v], BagT 52 3 encI g most L N]) [0, 2] 0 (ent_of Try.func27 (by kernel_rfl) rfl) (same13 (Vec 3 1 encI ub L) (Vec 3 1 encI v L) ub v L (fun rs w h1 h2 => h1.all okI h2) (fun rs w h1 h2 => h1.all okI h2) hk40) rfl rfl rfl (fun _ => rfl) rfl rfl rfl) rfl⟩) ?_
          refine s_cons (by intro ub v1_; exact ⟨rfl, fun b w hH hb => exec_q1 hflS rfl hb⟩) ?_
          exact s_nil
        intro ub v1_
        refine WL2.keep (env' := [(4, .bool false), (199, .bool true)]) ⟨rfl, rfl, trivial⟩ ?_
        refine h_q hflS rfl ?_
        refine h_nil (f_to (d_ret ?_))
        exact f_fin1 (.tmp rfl) (fun w h => ⟨rfl, below0 h.up⟩) rfl
    · skip
      have hl34 : L.length ≤ 17179869184 := by omega
      have hk40 : L.length ≤ 1099511627776 := by omega
      refine d_reg ?_
      refine h_q hflS rfl ?_
      refine h_val rfl (.int .i64 (l.length : Int)) (fun b w hb hH => e_slen (arg_rd hl hH) Try.underlying35 rfl rfl hb) ?_
      refine h_val rfl (.bool true) (fun b w hb hH => exec_cmp rfl rfl rfl (cmp_lss_t (by omega)) hb) ?_
      refine h_q hflS rfl ?_
      refine h_val rfl (.bool false) (fun b w hb hH => exec_cmp rfl rfl rfl (cmp_lss_f (by omega)) hb) ?_
      refine h_q hflS rfl ?_
      refine h_done (d_else rfl (d_exit (f_then_exit (f_then_exit (f_block_exit (f_to (d_reg ?_)))))))
      refine h_q hflS rfl ?_
      refine h_act (post := fun ua => [Vec 3 1 encI ua L, Vec 3 1 encI v L, cell gr 39 #[.int .i64 most, .int .i64 N, v], BagT 52 3 encI g most L N]) rfl (a_does (os' := fun ua => [Vec 3 1 encI ua L, Vec 3 1 encI v L, cell gr 39 #[.int .i64 most, .int .i64 N, v], BagT 52 3 encI g most L N]) [2] 0 (ent_of Try.func26 (by kernel_rfl) rfl) (all_int g most L N hl34) rfl rfl rfl (fun _ => rfl) rfl rfl rfl) ?_; rintro ua
      refine h_q hflS rfl ?_
      refine h_done (d_reg ?_)
      refine h_q hflS rfl ?_
      refine h_val rfl (.pointer (some ⟨gr, 0, none⟩)) (fun b w hb hH => by exact exec_nilCheck rfl rfl hb) ?_
      refine h_q hflS rfl ?_
      refine h_val rfl (v) (fun b w hb hH => exec_load rfl rfl (reads_one ty_s_int rfl) (hH.row 2 rfl) hb) ?_
      refine h_act (post := fun _ => [Vec 3 1 encI ua L, Vec 3 1 encI v L, cell gr 39 #[.int .i64 most, .int .i64 N, v], BagT 52 3 encI g most L N]) rfl (a_does (os' := fun _ => [Vec 3 1 encI ua L, Vec 3 1 encI v L, cell gr 39 #[.int .i64 most, .int .i64 N, v], BagT 52 3 encI g most L N]) [0, 1] 0 (ent_of Try.func27 (by kernel_rfl) rfl) (same13 (Vec 3 1 encI ua L) (Vec 3 1 encI v L) ua v L (fun rs w h1 h2 => h1.all okI h2) (fun rs w h1 h2 => h1.all okI h2) hk40) rfl rfl rfl (fun _ => rfl) rfl rfl rfl) ?_; rintro ⟨⟩
      refine h_q hflS rfl ?_
      refine h_done (d_seq (d_reg ?_))
      refine h_q hflS rfl ?_
      refine h_done (d_block ?_)
      refine d_loop (α := Nat × List Int) (fun ⟨j, A⟩ => [(4, .bool false), (5, .pointer (some ⟨g, 0, none⟩)), (7, .pointer (some ⟨gr, 0, none⟩)), (19, ua), (20, .bool true), (21, .int .i64 ((j : Nat) : Int))]) (fun ⟨j, A⟩ => [Vec 3 1 encI ua A, Vec 3 1 encI v L, cell gr 39 #[.int .i64 most, .int .i64 N, v], BagT 52 3 encI g most L N]) (fun ⟨j, A⟩ => A.length = L.length) (fun ⟨j, A⟩ => L.length - j) (0, L) rfl ⟨rfl, rfl, rfl, rfl, rfl, rfl, trivial⟩ rfl ?_
      rintro ⟨j, A⟩ hJ
      refine WC2.at_ (env' := [(4, .bool false), (5, .pointer (some ⟨g, 0, none⟩)), (7, .pointer (some ⟨gr, 0, none⟩)), (19, ua), (20, .bool true), (21, .int .i64 ((j : Nat) : Int))]) (rs' := [Vec 3 1 encI ua A, Vec 3 1 encI v L, cell gr 39 #[.int .i64 most, .int .i64 N, v], BagT 52 3 encI g most L N]) ⟨rfl, rfl, rfl, rfl, rfl, rfl, trivial⟩ rfl ?_
      have hJ1 : A.length = L.length := hJ
      refine d_seq ?_
      rcases Nat.lt_or_ge j L.length with h6 | h6
      · skip
        refine d_reg ?_
        refine h_q hflS rfl ?_
        refine h_val rfl (.int .i64 (A.length : Int)) (fun b w hb hH => e_vlen 0 Try.underlying37 rfl rfl rfl hH hb) ?_
        refine h_val rfl (.bool true) (fun b w hb hH => exec_cmp rfl rfl rfl (cmp_lss_t (by omega)) hb) ?_
        refine h_done (d_then rfl (d_skip (f_to (d_seq (d_block (d_reg1 ?_))))))
        refine h_q hflS rfl ?_
        refine h_val rfl (elp ua (j * 1)) (fun b w hb hH => e_vidx 0 sl_int okI rfl j (by omega) rfl rfl rfl hH hb) ?_
        refine h_acts (post := fun _ => [Vec 3 1 encI ua (A.set j (-77)), Vec 3 1 encI v L, cell gr 39 #[.int .i64 most, .int .i64 N, v], BagT 52 3 encI g most L N]) rfl rfl (a_vstore1 0 ty_int okI rfl j (by omega) (-77) rfl rfl rfl rfl rfl) ?_; rintro ⟨⟩
        refine h_nil (f_block (f_to (d_reg1 ?_)))
        refine h_q hflS rfl ?_
        refine h_val rfl (.int .i64 ((j + 1 : Nat) : Int)) (fun b w hb hH => exec_ar rfl rfl rfl rfl (by rw [IntWalk.i64_in _ (by omega)]; omega) hb) ?_
        refine h_q hflS rfl ?_
        refine h_nil ?_
        exact f_again (j + 1, A.set j (-77)) 0 (by show (A.set j (-77)).length = L.length; rw [List.length_set]; exact hJ1) (show L.length - (j + 1) < L.length - j by omega) ⟨rfl, rfl, rfl, rfl, rfl, rfl, trivial⟩ rfl
      · skip
        refine d_reg ?_
        refine h_q hflS rfl ?_
        refine h_val rfl (.int .i64 (A.length : Int)) (fun b w hb hH => e_vlen 0 Try.underlying37 rfl rfl rfl hH hb) ?_
        refine h_val rfl (.bool false) (fun b w hb hH => exec_cmp rfl rfl rfl (cmp_lss_f (by omega)) hb) ?_
        refine h_done (d_else rfl (d_exit (f_then_exit (f_then_exit (f_block_exit (f_to (d_seq ?_)))))))
        refine d_emps 1 rfl ?_
        refine d_parS 10 2 [⟨.quiet, [none, none], fun _ => .bool true, []⟩, ⟨.quiet, [none, none], fun _ => .bool true, [0]⟩, ⟨.quiet, [none, none], fun _ => .pointer (some ⟨g, 0, none⟩), [1]⟩, ⟨.act 0, [some false, some false], fun _ => undef, [2, 1]⟩, ⟨.quiet, [none, none], fun _ => .pointer (some ⟨gr, 0, none⟩), [1]⟩, ⟨.quiet, [none, none], fun _ => .pointer (some ⟨gr, 0, none⟩), [4, 1]⟩, ⟨.quiet, [none, none], fun _ => .pointer (some ⟨gr, 2, none⟩), [5, 1]⟩, ⟨.quiet, [none, none], fun _ => v, [6, 1]⟩, ⟨.actv 1, [some true, some false], fun _ => .bool true, [3, 7, 1]⟩, ⟨.quiet, [some true, some true], fun _ => .bool true, [1, 8]⟩] [(4, .bool false), (5, .pointer (some ⟨g, 0, none⟩)), (7, .pointer (some ⟨gr, 0, none⟩)), (20, .bool true)] (fun ρ => match ρ with | [rq0, rq1] => [selS rq0 (fun ub => Vec 3 1 encI ub L) (emp), Vec 3 1 encI ua A, Vec 3 1 encI v L, cell gr 39 #[.int .i64 most, .int .i64 N, v], BagT 52 3 encI g most L N] | _ => []) (by kernel_rfl) (by kernel_rfl) ⟨rfl, rfl, rfl, rfl, trivial⟩ rfl ?_ ?_
        · skip
          refine s_cons (by intro r0_ r1_; exact ⟨rfl, fun b w hH hb => exec_q1 hflS rfl hb⟩) ?_
          refine s_cons (by intro r0_ r1_; exact ⟨rfl, fun b w hH hb => exec_q1 hflS rfl hb⟩) ?_
          refine s_cons (by intro r0_ r1_; exact ⟨rfl, fun b w hH hb => exec_q1 hflS rfl hb⟩) ?_
          refine s_cons (by exact ⟨rfl, Acts.s (a_does (os' := fun ub => [Vec 3 1 encI ub L, Vec 3 1 encI ua A, Vec 3 1 encI v L, cell gr 39 #[.int .i64 most, .int .i64 N, v], BagT 52 3 encI g most L N]) [4, 0] 1 (ent_of Try.func26 (by kernel_rfl) rfl) (all_int g most L N hl34) rfl rfl rfl (fun _ => rfl) rfl rfl rfl) (fun _ => rfl)⟩) ?_
          refine s_cons (by intro r0_ r1_; exact ⟨rfl, fun b w hH hb => exec_q1 hflS rfl hb⟩) ?_
          refine s_cons (by intro r0_ r1_; exact ⟨rfl, fun b w hH hb => by exact exec_nilCheck rfl rfl hb⟩) ?_
          refine s_cons (by intro r0_ r1_; exact ⟨rfl, fun b w hH hb => exec_q1 hflS rfl hb⟩) ?_
          refine s_cons (by intro r0_ r1_; exact ⟨rfl, fun b w hH hb => exec_load rfl rfl (reads_one ty_s_int rfl) (hH.row 3 rfl) hb⟩) ?_
          refine s_cons (by intro ub; exact ⟨rfl, Acts.su (a_does (os' := fun _ => [Vec 3 1 encI ub L, Vec 3 1 encI ua A, Vec 3 1 encI v L, cell gr 39 #[.int .i64 most, .int .i64 N, v], BagT 52 3 encI g most L N]) [0, 2] 0 (ent_of Try.func27 (by kernel_rfl) rfl) (same13 (Vec 3 1 encI ub L) (Vec 3 1 encI v L) ub v L (fun rs w h1 h2 => h1.all okI h2) (fun rs w h1 h2 => h1.all okI h2) hk40) rfl rfl rfl (fun _ => rfl) rfl rfl rfl) rfl⟩) ?_
          refine s_cons (by intro ub v1_; exact ⟨rfl, fun b w hH hb => exec_q1 hflS rfl hb⟩) ?_
          exact s_nil
        intro ub v1_
        refine WL2.keep (env' := [(4, .bool false), (199, .bool true)]) ⟨rfl, rfl, trivial⟩ ?_
        refine h_q hflS rfl ?_
        refine h_nil (f_to (d_ret ?_))
        exact f_fin1 (.tmp rfl) (fun w h => ⟨rfl, below0 h.up⟩) rfl
  · skip
    refine d_reg ?_
    refine h_q hflS rfl ?_
    refine h_act (post := fun _ => []) rfl (a_call (ent_of Try.func7 (by kernel_rfl) rfl) (fun w hH => new_err_int w most hm) rfl rfl rfl) ?_; rintro ⟨⟩
    refine h_q hflS rfl ?_
    refine h_done (d_seq (d_reg ?_))
    refine h_q hflS rfl ?_
    refine h_act (post := fun _ => []) rfl (a_call (ent_of Try.func9 (by kernel_rfl) rfl) (fun w hH => Run.known_calls w) rfl rfl rfl) ?_; rintro ⟨⟩
    refine h_q hflS rfl ?_
    refine h_done (d_else rfl (d_skip (f_to (d_seq ?_))))
    by_cases h1 : most < 1
    · skip
      refine d_reg ?_
      refine h_q hflS rfl ?_
      refine h_val rfl (.bool true) (fun b w hb hH => exec_cmp rfl rfl rfl (cmp_lss_t h1) hb) ?_
      refine h_q hflS rfl ?_
      refine h_done (d_then rfl (d_reg ?_))
      refine h_q hflS rfl ?_
      refine h_val rfl (.bool true) (fun b w hb hH => exec_cmp rfl rfl rfl (cmp_eql_t (by decide)) hb) ?_
      refine h_q hflS rfl ?_
      refine h_val rfl (.bool true) (fun b w hb hH => exec_pnil2_eql (by kernel_rfl) rfl rfl rfl hb) ?_
      refine h_q hflS rfl ?_
      refine h_done (d_ret (f_then_ret ?_))
      exact f_fin1 (.tmp rfl) (fun w h => ⟨rfl, below0 h.up⟩) rfl
    · skip
      refine d_reg ?_
      refine h_q hflS rfl ?_
      refine h_val rfl (.bool false) (fun b w hb hH => exec_cmp rfl rfl rfl (cmp_lss_f (by omega)) hb) ?_
      refine h_q hflS rfl ?_
      refine h_val rfl (.bool true) (fun b w hb hH => exec_cmp rfl rfl rfl (cmp_gtr_t (by omega)) hb) ?_
      refine h_q hflS rfl ?_
      refine h_done (d_then rfl (d_reg ?_))
      refine h_q hflS rfl ?_
      refine h_val rfl (.bool true) (fun b w hb hH => exec_cmp rfl rfl rfl (cmp_eql_t (by decide)) hb) ?_
      refine h_q hflS rfl ?_
      refine h_val rfl (.bool true) (fun b w hb hH => exec_pnil2_eql (by kernel_rfl) rfl rfl rfl hb) ?_
      refine h_q hflS rfl ?_
      refine h_done (d_ret (f_then_ret ?_))
      exact f_fin1 (.tmp rfl) (fun w h => ⟨rfl, below0 h.up⟩) rfl
end Go.Proofs.Ythgnfacifogjiaa.Sep
