/-
  ChkF
-/
import Derived.Test.YtikcleaicbihfaaAB01
import Derived.Test.YtikcleaicbihfaaAG01
set_option linter.unusedSimpArgs false
set_option linter.unusedVariables false

namespace Go.Proofs.Ytikcleaicbihfaa.Sep
open Go.RowKit
open Go.Proofs.Ytikcleaicbihfaa.Mem (Dist Blk Chg below0)

theorem zeros_next (i : Nat) : List.replicate (i * 256) (0 : UInt8) ++ List.replicate 256 0 = List.replicate ((i + 1) * 256) 0 := by
  rw [List.replicate_append_replicate, Nat.succ_mul]
theorem keep_next {bi bt bc : Int} {D : List UInt8} (h : (bi = 1 ∧ bt = 2 ∧ bc = 14) ∨ D = []) : keepL bi bt bc 1 2 14 D = D := by
  rcases h with ⟨rfl, rfl, rfl⟩ | rfl
  · exact keepL_same ..
  · exact keepL_nil ..
theorem keep_other (D : List UInt8) : keepL 1 2 14 2 2 14 D = [] := by unfold keepL; rw [if_neg (by omega)]

set_option maxRecDepth 100000 in
theorem full_law (X : Ass) (A : Option Addr) (c : Nat) (l : List UInt8) (hX : Rd8 X (.slice A l.length c) l) (hc : l.length ≤ c) (hl : l.length ≤ 9223372036854775807) (less : Int) : Does Try.prog 6 #[.slice A l.length c, .int .i64 less] [X] (fun (_ : Unit) => .bool true) (fun (_ : Unit) => [X]) := by
  obtain ⟨n9, hn9⟩ : ∃ n, min l.length 9 = n := ⟨_, rfl⟩
  have hX9 : Rd8 X (.slice A n9 c) (l.take n9) := fun rs w h1 h2 => by
    have h3 := (hX rs w h1 h2).takes (k := n9) (by omega)
    rwa [show (l.take n9).length = n9 by rw [List.length_take]; omega] at h3
  have hl9 : (l.take n9).length = n9 := by rw [List.length_take]; omega
  refine d_ins (args := [.slice A l.length c, .int .i64 less]) 67 Try.func6 rfl rfl rfl ?_; intro w rs
  refine d_reg ?_
  refine h_q hflS rfl ?_
  refine h_done (d_reg ?_)
  refine h_q hflS rfl ?_
  refine h_act (post := fun g => [TkT 50 g 0 0 0 ([]), X]) rfl (a_does (os' := fun g => [TkT 50 g 0 0 0 ([]), X]) [] 0 (ent_of Try.func9 (by kernel_rfl) rfl) (ck_new) rfl rfl rfl (fun _ => rfl) rfl rfl rfl) ?_; rintro g
  refine h_q hflS rfl ?_
  refine h_done (d_seq (d_reg ?_))
  refine h_q hflS rfl ?_
  refine h_act (post := fun _ => [TkT 50 g 0 0 0 ([]), X]) rfl (a_call (ent_of Try.func13 (by kernel_rfl) rfl) (fun w hH => Run.known_calls w) rfl rfl rfl) ?_; rintro ⟨⟩
  refine h_q hflS rfl ?_
  refine h_val rfl (.bool false) (fun b w hb hH => exec_pnil_eql (by kernel_rfl) rfl rfl rfl hb) ?_
  refine h_q hflS rfl ?_
  refine h_done (d_else rfl (d_skip (f_to (d_reg ?_))))
  refine h_q hflS rfl ?_
  refine h_done (d_seq (d_block ?_))
  refine d_loop (α := Nat × Int × Int × Int) (fun ⟨i, bi, bt, bc⟩ => [(0, .slice A l.length c), (4, .bool false), (5, .pointer (some ⟨g, 0, none⟩)), (6, .int .i64 ((i * 256 : Nat) : Int))]) (fun ⟨i, bi, bt, bc⟩ => [TkT 50 g bi bt bc (List.replicate (i * 256) (0 : UInt8)), X]) (fun ⟨i, bi, bt, bc⟩ => i ≤ 128 ∧ ((bi = 1 ∧ bt = 2 ∧ bc = 14) ∨ List.replicate (i * 256) (0 : UInt8) = [])) (fun ⟨i, bi, bt, bc⟩ => 128 - i) (0, 0, 0, 0) ⟨Nat.zero_le _, .inr rfl⟩ ⟨rfl, rfl, rfl, rfl, trivial⟩ rfl ?_
  rintro ⟨i, bi, bt, bc⟩ hI
  refine WC2.at_ (env' := [(0, .slice A l.length c), (4, .bool false), (5, .pointer (some ⟨g, 0, none⟩)), (6, .int .i64 ((i * 256 : Nat) : Int))]) (rs' := [TkT 50 g bi bt bc (List.replicate (i * 256) (0 : UInt8)), X]) ⟨rfl, rfl, rfl, rfl, trivial⟩ rfl ?_
  have hI1 : i ≤ 128 := hI.1
  have hI2 : (bi = 1 ∧ bt = 2 ∧ bc = 14) ∨ List.replicate (i * 256) (0 : UInt8) = [] := hI.2
  have hzl : (List.replicate (i * 256) (0 : UInt8)).length = i * 256 := List.length_replicate
  have hz2 : (List.replicate 256 (0 : UInt8)).length = 256 := List.length_replicate
  have hz3 : (List.replicate ((i + 1) * 256) (0 : UInt8)).length = (i + 1) * 256 := List.length_replicate
  refine d_seq ?_
  rcases Nat.lt_or_ge i 128 with hi | hi
  · skip
    refine d_reg ?_
    refine h_q hflS rfl ?_
    refine h_val rfl (.bool true) (fun b w hb hH => exec_cmp rfl rfl rfl (cmp_lss_t (by omega)) hb) ?_
    refine h_done (d_then rfl (d_skip (f_to (d_block (d_seq ?_)))))
    refine d_emps 1 rfl ?_
    refine d_parS 9 3 [⟨.quiet, [none, none, none], fun _ => .pointer (some ⟨g, 0, none⟩), []⟩, ⟨.actv 0, [some false, none, some false], fun _ => .agg #[.int .u64 1, .int .u64 2, .int .i64 14], []⟩, ⟨.quiet, [none, none, none], fun _ => .int .i64 ((i * 256 : Nat) : Int), []⟩, ⟨.act 1, [none, some false, some false], fun _ => undef, []⟩, ⟨.actv 2, [some true, some true, some false], fun _ => .tuple #[.bool false, .int .i64 (((i + 1) * 256 : Nat) : Int)], [0, 1, 2, 3]⟩, ⟨.quiet, [some true, some true, some true], fun _ => .tuple #[.bool false, .int .i64 (((i + 1) * 256 : Nat) : Int)], [4]⟩, ⟨.quiet, [some true, some true, some true], fun _ => .bool false, [5]⟩, ⟨.quiet, [some true, some true, some true], fun _ => .int .i64 (((i + 1) * 256 : Nat) : Int), [5]⟩, ⟨.quiet, [some true, some true, some true], fun _ => .bool false, [6]⟩] [(0, .slice A l.length c), (4, .bool false), (5, .pointer (some ⟨g, 0, none⟩)), (6, .int .i64 ((i * 256 : Nat) : Int)), (20, .int .i64 ((i * 256 : Nat) : Int)), (21, .bool true)] (fun ρ => match ρ with | [rq0, rq1, rq2] => [selS rq1 (fun zv => Vec 5 1 encB zv (List.replicate 256 0)) (emp), selS rq2 (fun _ => TkT 50 g 1 2 14 (List.replicate ((i + 1) * 256) (0 : UInt8))) (TkT 50 g bi bt bc (List.replicate (i * 256) (0 : UInt8))), X] | _ => []) (by kernel_rfl) (by kernel_rfl) ⟨rfl, rfl, rfl, rfl, rfl, rfl, trivial⟩ rfl ?_ ?_
    · skip
      refine s_cons (by intro r0_ r1_ r2_; exact ⟨rfl, fun b w hH hb => exec_q1 hflS rfl hb⟩) ?_
      refine s_cons (by intro r1_; exact ⟨rfl, Acts.su (a_call (ent_of Try.func11 (by kernel_rfl) rfl) (fun w hH => ck_b w 0 1 (by decide) (by decide)) rfl rfl rfl) rfl⟩) ?_
      refine s_cons (by intro r0_ r1_ r2_; exact ⟨rfl, fun b w hH hb => exec_q1 hflS rfl hb⟩) ?_
      refine s_cons (by intro r0_; exact ⟨rfl, Acts.s (Acts.place (val := fun zv : Value => zv) (t := fun zv => Vec 5 1 encB zv (List.replicate 256 0)) (os' := fun zv => [Vec 5 1 encB zv (List.replicate 256 0), TkT 50 g bi bt bc (List.replicate (i * 256) (0 : UInt8)), X]) 0 rfl (a_mkCk sl_uint8 (by kernel_rfl) (fun w => by kernel_rfl) (N := 256) (by decide) rfl rfl rfl) (fun _ => rfl)) (fun _ => rfl)⟩) ?_
      refine s_cons (by intro v0_ zv; exact ⟨rfl, Acts.su (a_does (os' := fun _ => [Vec 5 1 encB zv (List.replicate 256 0), TkT 50 g 1 2 14 (List.replicate ((i + 1) * 256) (0 : UInt8)), X]) [1, 0] 0 (ent_of Try.func10 (by kernel_rfl) rfl) (ck_takeN (Vec 5 1 encB zv (List.replicate 256 0)) zv (List.replicate 256 0) rd8_vec (by omega) g bi bt bc 1 2 14 (List.replicate (i * 256) (0 : UInt8)) (by omega) ((i * 256 : Nat) : Int) (by omega) false (List.replicate (i * 256) (0 : UInt8)) (keep_next hI2) false (List.replicate ((i + 1) * 256) (0 : UInt8)) (takeL_yes ⟨by omega, by omega⟩ (zeros_next i)) (((i + 1) * 256 : Nat) : Int) (by omega)) rfl rfl rfl (fun _ => rfl) rfl rfl rfl) rfl⟩) ?_
      refine s_cons (by intro v0_ zv v2_; exact ⟨rfl, fun b w hH hb => exec_q1 hflS rfl hb⟩) ?_
      refine s_cons (by intro v0_ zv v2_; exact ⟨rfl, fun b w hH hb => exec_q1 hflS rfl hb⟩) ?_
      refine s_cons (by intro v0_ zv v2_; exact ⟨rfl, fun b w hH hb => exec_q1 hflS rfl hb⟩) ?_
      refine s_cons (by intro v0_ zv v2_; exact ⟨rfl, fun b w hH hb => exec_q1 hflS rfl hb⟩) ?_
      exact s_nil
    intro v0_ zv v2_
    refine WL2.keep (env' := [(0, .slice A l.length c), (4, .bool false), (5, .pointer (some ⟨g, 0, none⟩)), (6, .int .i64 ((i * 256 : Nat) : Int)), (20, .int .i64 ((i * 256 : Nat) : Int)), (21, .bool true), (23, .pointer (some ⟨g, 0, none⟩)), (24, .agg #[.int .u64 1, .int .u64 2, .int .i64 14]), (25, .int .i64 ((i * 256 : Nat) : Int)), (26, zv), (27, .tuple #[.bool false, .int .i64 (((i + 1) * 256 : Nat) : Int)]), (22, .tuple #[.bool false, .int .i64 (((i + 1) * 256 : Nat) : Int)]), (28, .bool false), (29, .int .i64 (((i + 1) * 256 : Nat) : Int))]) ⟨rfl, rfl, rfl, rfl, rfl, rfl, rfl, rfl, rfl, rfl, rfl, rfl, rfl, rfl, trivial⟩ ?_
    refine h_q hflS rfl ?_
    refine h_nil (f_to (d_seq (d_reg ?_)))
    refine h_q hflS rfl ?_
    refine h_val rfl (.int .i64 ((i * 256 + 256 : Nat) : Int)) (fun b w hb hH => exec_ar rfl rfl rfl rfl (by rw [IntWalk.i64_in _ (by omega)]; omega) hb) ?_
    refine h_val rfl (.bool false) (fun b w hb hH => exec_cmp rfl rfl rfl (cmp_neq_f (by omega)) hb) ?_
    refine h_done (d_else rfl (d_skip (f_to (d_reg1 ?_))))
    refine h_q hflS rfl ?_
    refine h_nil (f_block ?_)
    exact f_again (i + 1, 1, 2, 14) 1 ⟨hi, .inl ⟨rfl, rfl, rfl⟩⟩ (show 128 - (i + 1) < 128 - i by omega) ⟨rfl, rfl, rfl, rfl, trivial⟩ rfl
  · skip
    have h128 : i = 128 := by omega
    refine d_reg ?_
    refine h_q hflS rfl ?_
    refine h_val rfl (.bool false) (fun b w hb hH => exec_cmp rfl rfl rfl (cmp_lss_f (by omega)) hb) ?_
    refine h_done (d_else rfl (d_exit (f_then_exit (f_then_exit (f_block_exit (f_to (d_reg ?_)))))))
    refine h_q hflS rfl ?_
    refine h_act (post := fun _ => [TkT 50 g bi bt bc (List.replicate (i * 256) (0 : UInt8)), X]) rfl (a_call (ent_of Try.func11 (by kernel_rfl) rfl) (fun w hH => ck_b w 0 1 (by decide) (by decide)) rfl rfl rfl) ?_; rintro ⟨⟩
    refine h_q hflS rfl ?_
    refine h_act (X := Value) (val := fun v : Value => v) (post := fun w1 => [Vec 5 1 encB w1 ([(1 : UInt8)]), TkT 50 g bi bt bc (List.replicate (i * 256) (0 : UInt8)), X]) rfl (by refine a_build1 (e := 5) (t := 22) (enc := encB) (x := .const (Value.int IntKind.u8 1)) (c := .int .u8 (((1 : UInt8)).toNat : Int)) ?_ ?_ (1 : UInt8) ?_ ?_ ?_; exact sl_uint8; exact okB; exact rfl; exact rfl; exact rfl) ?_; rintro w1
    refine h_act (post := fun _ => [Vec 5 1 encB w1 ([(1 : UInt8)]), TkT 50 g 1 2 14 (List.replicate (i * 256) (0 : UInt8)), X]) rfl (a_does (os' := fun _ => [Vec 5 1 encB w1 ([(1 : UInt8)]), TkT 50 g 1 2 14 (List.replicate (i * 256) (0 : UInt8)), X]) [1, 0] 0 (ent_of Try.func10 (by kernel_rfl) rfl) (ck_takeN (Vec 5 1 encB w1 ([(1 : UInt8)])) w1 ([(1 : UInt8)]) rd8_vec (by decide) g bi bt bc 1 2 14 (List.replicate (i * 256) (0 : UInt8)) (by omega) ((i * 256 : Nat) : Int) (by omega) true (List.replicate (i * 256) (0 : UInt8)) (keep_next hI2) false (List.replicate (i * 256) (0 : UInt8)) (takeL_no (fun h => by have := h.2; rw [List.length_singleton] at this; omega)) 32768 (by omega)) rfl rfl rfl (fun _ => rfl) rfl rfl rfl) ?_; rintro ⟨⟩
    refine h_q hflS rfl ?_
    refine h_done (d_seq ?_)
    refine d_parS 12 2 [⟨.quiet, [none, none], fun _ => .pointer (some ⟨g, 0, none⟩), []⟩, ⟨.actv 0, [some false, some false], fun _ => .agg #[.int .u64 2, .int .u64 2, .int .i64 14], []⟩, ⟨.quiet, [none, none], fun _ => .slice A l.length c, []⟩, ⟨.quiet, [none, none], fun _ => .slice A l.length c, []⟩, ⟨.quiet, [none, none], fun _ => .int .i64 (l.length : Int), [3]⟩, ⟨.quiet, [none, none], fun _ => .int .i64 (n9 : Int), [4]⟩, ⟨.quiet, [none, none], fun _ => .slice A n9 c, [2, 5]⟩, ⟨.actv 1, [some true, some false], fun _ => .tuple #[.bool false, .int .i64 (n9 : Int)], [0, 1, 6]⟩, ⟨.quiet, [some true, some true], fun _ => .tuple #[.bool false, .int .i64 (n9 : Int)], [7]⟩, ⟨.quiet, [some true, some true], fun _ => .bool false, [8]⟩, ⟨.quiet, [some true, some true], fun _ => .int .i64 (n9 : Int), [8]⟩, ⟨.quiet, [some true, some true], fun _ => .bool false, [9]⟩] [(0, .slice A l.length c), (4, .bool false), (5, .pointer (some ⟨g, 0, none⟩)), (9, .bool false), (10, .int .i64 32768)] (fun ρ => match ρ with | [rq0, rq1] => [Vec 5 1 encB w1 ([(1 : UInt8)]), selS rq1 (fun _ => TkT 50 g 2 2 14 (l.take n9)) (TkT 50 g 1 2 14 (List.replicate (i * 256) (0 : UInt8))), X] | _ => []) (by kernel_rfl) (by kernel_rfl) ⟨rfl, rfl, rfl, rfl, rfl, trivial⟩ rfl ?_ ?_
    · skip
      refine s_cons (by intro r0_ r1_; exact ⟨rfl, fun b w hH hb => exec_q1 hflS rfl hb⟩) ?_
      refine s_cons (by exact ⟨rfl, Acts.su (a_call (ent_of Try.func11 (by kernel_rfl) rfl) (fun w hH => ck_b w 1 2 (by decide) (by decide)) rfl rfl rfl) rfl⟩) ?_
      refine s_cons (by intro r0_ r1_; exact ⟨rfl, fun b w hH hb => exec_q1 hflS rfl hb⟩) ?_
      refine s_cons (by intro r0_ r1_; exact ⟨rfl, fun b w hH hb => exec_q1 hflS rfl hb⟩) ?_
      refine s_cons (by intro r0_ r1_; exact ⟨rfl, fun b w hH hb => e_slen ((hH.rd8 2 rfl hX).rd) Try.underlying22 rfl rfl hb⟩) ?_
      refine s_cons (by intro r0_ r1_; exact ⟨rfl, fun b w hH hb => exec_builtin2 rfl rfl (fun cs => (fun w cs => run_min2 (by split <;> omega) _ _ w cs) w cs) hb⟩) ?_
      refine s_cons (by intro r0_ r1_; exact ⟨rfl, fun b w hH hb => e_sub_hi (j := n9) sl_uint8 sub_hiCk (by omega) rfl rfl rfl hH hb⟩) ?_
      refine s_cons (by intro v0_; exact ⟨rfl, Acts.su (a_does (os' := fun _ => [Vec 5 1 encB w1 ([(1 : UInt8)]), TkT 50 g 2 2 14 (l.take n9), X]) [1, 2] 0 (ent_of Try.func10 (by kernel_rfl) rfl) (ck_takeN X (.slice A n9 c) (l.take n9) hX9 (by omega) g 1 2 14 2 2 14 (List.replicate (i * 256) (0 : UInt8)) (by omega) 0 (by decide) false ([]) (keep_other _) false (l.take n9) (takeL_yes ⟨rfl, by simp only [List.length_nil]; omega⟩ (List.nil_append _)) (n9 : Int) (by omega)) rfl rfl rfl (fun _ => rfl) rfl rfl rfl) rfl⟩) ?_
      refine s_cons (by intro v0_ v1_; exact ⟨rfl, fun b w hH hb => exec_q1 hflS rfl hb⟩) ?_
      refine s_cons (by intro v0_ v1_; exact ⟨rfl, fun b w hH hb => exec_q1 hflS rfl hb⟩) ?_
      refine s_cons (by intro v0_ v1_; exact ⟨rfl, fun b w hH hb => exec_q1 hflS rfl hb⟩) ?_
      refine s_cons (by intro v0_ v1_; exact ⟨rfl, fun b w hH hb => exec_q1 hflS rfl hb⟩) ?_
      exact s_nil
    intro v0_ v1_
    refine WL2.keep (env' := [(0, .slice A l.length c), (4, .bool false), (9, .bool false), (10, .int .i64 32768), (53, .int .i64 (n9 : Int))]) ⟨rfl, rfl, rfl, rfl, rfl, trivial⟩ ?_
    refine h_q hflS rfl ?_
    refine h_nil (f_to (d_reg ?_))
    refine h_q hflS rfl ?_
    refine h_val rfl (.bool true) (fun b w hb hH => exec_cmp rfl rfl rfl (cmp_eql_t (by decide)) hb) ?_
    refine h_q hflS rfl ?_
    refine h_val rfl (.int .i64 (l.length : Int)) (fun b w hb hH => e_slen ((hH.rd8 2 rfl hX).rd) Try.underlying22 rfl rfl hb) ?_
    refine h_val rfl (.int .i64 (n9 : Int)) (fun b w hb hH => exec_builtin2 rfl rfl (fun cs => (fun w cs => run_min2 (by split <;> omega) _ _ w cs) w cs) hb) ?_
    refine h_val rfl (.bool true) (fun b w hb hH => exec_cmp rfl rfl rfl (cmp_eql_t rfl) hb) ?_
    refine h_q hflS rfl ?_
    refine h_done (d_ret ?_)
    exact f_fin1 (.tmp rfl) (fun w h => tells () rfl [2] rfl h same_parts) rfl
end Go.Proofs.Ytikcleaicbihfaa.Sep
