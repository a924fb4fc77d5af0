/-
  ChkG
-/
import Derived.Test.YtikcleaicbihfaaAI01
import Derived.Test.YtikcleaicbihfaaAK01
set_option linter.unusedSimpArgs false
set_option linter.unusedVariables false

namespace Go.Proofs.Ytikcleaicbihfaa.Sep
open Go.RowKit
open Go.Proofs.Ytikcleaicbihfaa.Mem (Dist Blk Chg below0)

theorem back_next {x r : List UInt8} {i : Nat} (hr : (x.drop (i * 256)).take 256 = r) : x.take (i * 256) ++ r = x.take ((i + 1) * 256) := by
  rw [← hr, Nat.succ_mul, List.take_add]
theorem keep_at {bi bt bc : Int} {x : List UInt8} {i : Nat} (h : (bi = 1 ∧ bt = 2 ∧ bc = 14) ∨ i = 0) : keepL bi bt bc 1 2 14 (x.take (i * 256)) = x.take (i * 256) := by
  rcases h with ⟨rfl, rfl, rfl⟩ | rfl
  · exact keepL_same ..
  · rw [Nat.zero_mul, List.take_zero]; exact keepL_nil ..

set_option maxRecDepth 100000 in
set_option maxHeartbeats 1000000 in
theorem back_law (X : Ass) (v : Value) (b : List UInt8) (hX : Rd8 X v b) (n : Int) (hn : -9223372036854775808 ≤ n ∧ n ≤ 9223372036854775807) (v1 : Value) (l : List StepC) (hXs : Rd X 6 encSk v1 l) (hXe : ∀ y ∈ l, Rd8 X y.v y.d) (ho1 : ∀ y ∈ l, y.ok) (hl1 : l.length ≤ 9223372036854775807) : Does Try.prog 7 #[.int .i64 n, v, v1] [X] (fun (_ : Unit) => .bool true) (fun (_ : Unit) => [X]) := by
  obtain ⟨m, hm⟩ : ∃ m : Nat, n % 1500 = (m : Int) := ⟨(n % 1500).toNat, by omega⟩
  have hm1 : m < 1500 := by omega
  refine d_ins (args := [.int .i64 n, v, v1]) 109 Try.func7 rfl rfl rfl ?_; intro w rs
  refine d_reg ?_
  refine h_q hflS rfl ?_
  refine h_done (d_reg ?_)
  refine h_q hflS rfl ?_
  refine h_act (post := fun (x : DatV m) => [Vec 5 1 encB x.v x.l, X]) rfl (a_does (os' := fun (x : DatV m) => [Vec 5 1 encB x.v x.l, X]) [0] 0 (ent_of Try.func16 (by kernel_rfl) rfl) (data_does X v b hX n hn m hm) rfl rfl rfl (fun _ => rfl) rfl rfl rfl) ?_; rintro x
  refine h_q hflS rfl ?_
  refine h_done ?_
  have hxl := x.h
  refine d_reg ?_
  refine h_q hflS rfl ?_
  refine h_act (post := fun g => [TkT 50 g 0 0 0 ([]), Vec 5 1 encB x.v x.l, X]) rfl (a_does (os' := fun g => [TkT 50 g 0 0 0 ([]), Vec 5 1 encB x.v x.l, X]) [] 0 (ent_of Try.func9 (by kernel_rfl) rfl) (ck_new) rfl rfl rfl (fun _ => rfl) rfl rfl rfl) ?_; rintro g
  refine h_q hflS rfl ?_
  refine h_done (d_seq (d_reg ?_))
  refine h_q hflS rfl ?_
  refine h_act (post := fun _ => [TkT 50 g 0 0 0 ([]), Vec 5 1 encB x.v x.l, X]) rfl (a_call (ent_of Try.func13 (by kernel_rfl) rfl) (fun w hH => Run.known_calls w) rfl rfl rfl) ?_; rintro ⟨⟩
  refine h_q hflS rfl ?_
  refine h_val rfl (.bool false) (fun b w hb hH => exec_pnil_eql (by kernel_rfl) rfl rfl rfl hb) ?_
  refine h_q hflS rfl ?_
  refine h_done (d_else rfl (d_skip (f_to (d_reg ?_))))
  refine h_q hflS rfl ?_
  refine h_done (d_seq (d_reg ?_))
  refine h_q hflS rfl ?_
  refine h_done (d_block ?_)
  refine d_loop (α := Nat × Int × Int × Int) (fun ⟨i, bi, bt, bc⟩ => [(2, v1), (6, .bool false), (7, x.v), (8, .pointer (some ⟨g, 0, none⟩)), (9, .int .i64 ((i * 256 : Nat) : Int)), (10, .int .i64 (i : Int))]) (fun ⟨i, bi, bt, bc⟩ => [TkT 50 g bi bt bc (x.l.take (i * 256)), Vec 5 1 encB x.v x.l, X]) (fun ⟨i, bi, bt, bc⟩ => ((bi = 1 ∧ bt = 2 ∧ bc = 14) ∨ i = 0) ∧ i * 256 ≤ x.l.length) (fun ⟨i, bi, bt, bc⟩ => 1500 - i * 256) (0, 0, 0, 0) ⟨.inr rfl, Nat.zero_le _⟩ ⟨rfl, rfl, rfl, rfl, rfl, rfl, trivial⟩ rfl ?_
  rintro ⟨i, bi, bt, bc⟩ hI
  refine WC2.at_ (env' := [(2, v1), (6, .bool false), (7, x.v), (8, .pointer (some ⟨g, 0, none⟩)), (9, .int .i64 ((i * 256 : Nat) : Int)), (10, .int .i64 (i : Int))]) (rs' := [TkT 50 g bi bt bc (x.l.take (i * 256)), Vec 5 1 encB x.v x.l, X]) ⟨rfl, rfl, rfl, rfl, rfl, rfl, trivial⟩ rfl ?_
  have hI1 : (bi = 1 ∧ bt = 2 ∧ bc = 14) ∨ i = 0 := hI.1
  have hI2 : i * 256 ≤ x.l.length := hI.2
  have hdl : (x.l.take (i * 256)).length = i * 256 := by rw [List.length_take]; omega
  refine d_seq (d_reg ?_)
  refine h_q hflS rfl ?_
  refine h_val rfl (.bool true) (fun b w hb hH => exec_cmp rfl rfl rfl (cmp_lss_t (by omega)) hb) ?_
  refine h_done (d_then rfl (d_skip (f_to (d_seq (d_block (d_seq ?_))))))
  rcases (show l.length ≤ i ∨ i < l.length by omega) with hi | hi
  · skip
    obtain ⟨last, hla⟩ : ∃ b, decide (x.l.length ≤ i * 256 + 256) = b := ⟨_, rfl⟩
    obtain ⟨r, hr⟩ : ∃ r, (x.l.drop (i * 256)).take 256 = r := ⟨_, rfl⟩
    have hrl : r.length = min 256 (x.l.length - i * 256) := by rw [← hr, List.length_take, List.length_drop]
    obtain ⟨N9, hN9⟩ : ∃ N, i * 256 + r.length = N := ⟨_, rfl⟩
    have hnl : (x.l.take ((i + 1) * 256)).length = min ((i + 1) * 256) x.l.length := List.length_take ..
    refine d_reg ?_
    refine h_q hflS rfl ?_
    refine h_val rfl (.int .i64 (l.length : Int)) (fun b w hb hH => e_slen ((hH.rd 2 rfl hXs)) Try.underlying39 rfl rfl hb) ?_
    refine h_val rfl (.bool false) (fun b w hb hH => exec_cmp rfl rfl rfl (cmp_lss_f (by omega)) hb) ?_
    refine h_done (d_else rfl (d_skip (f_to (d_reg ?_))))
    refine h_q hflS rfl ?_
    refine h_act (post := fun u => [Vec 5 1 encB u r, TkT 50 g bi bt bc (x.l.take (i * 256)), Vec 5 1 encB x.v x.l, X]) rfl (a_does (os' := fun u => [Vec 5 1 encB u r, TkT 50 g bi bt bc (x.l.take (i * 256)), Vec 5 1 encB x.v x.l, X]) [1] 0 (ent_of Try.func8 (by kernel_rfl) rfl) (cut_does (Vec 5 1 encB x.v x.l) x.v x.l rd8_vec (by omega) (i * 256) hI2 last hla r hr) rfl rfl rfl (fun _ => rfl) rfl rfl rfl) ?_; rintro u
    refine h_q hflS rfl ?_
    refine h_done (d_reg ?_)
    refine h_q hflS rfl ?_
    refine h_act (post := fun _ => [Vec 5 1 encB u r, TkT 50 g bi bt bc (x.l.take (i * 256)), Vec 5 1 encB x.v x.l, X]) rfl (a_call (ent_of Try.func11 (by kernel_rfl) rfl) (fun w hH => ck_b w 0 1 (by decide) (by decide)) rfl rfl rfl) ?_; rintro ⟨⟩
    refine h_q hflS rfl ?_
    refine h_act (post := fun _ => [Vec 5 1 encB u r, TkT 50 g 1 2 14 (x.l.take ((i + 1) * 256)), Vec 5 1 encB x.v x.l, X]) rfl (a_does (os' := fun _ => [Vec 5 1 encB u r, TkT 50 g 1 2 14 (x.l.take ((i + 1) * 256)), Vec 5 1 encB x.v x.l, X]) [1, 0] 0 (ent_of Try.func10 (by kernel_rfl) rfl) (ck_takeN (Vec 5 1 encB u r) u r rd8_vec (by omega) g bi bt bc 1 2 14 (x.l.take (i * 256)) (by omega) ((i * 256 : Nat) : Int) (by omega) last (x.l.take (i * 256)) (keep_at hI1) last (x.l.take ((i + 1) * 256)) (takeL_yes ⟨by omega, by omega⟩ (back_next hr)) (N9 : Int) (by omega)) rfl rfl rfl (fun _ => rfl) rfl rfl rfl) ?_; rintro ⟨⟩
    refine h_q hflS rfl ?_
    refine h_done (d_seq (d_reg ?_))
    refine h_q hflS rfl ?_
    refine h_val rfl (.int .i64 (r.length : Int)) (fun b w hb hH => e_vlen 0 Try.underlying22 rfl rfl rfl hH hb) ?_
    refine h_val rfl (.int .i64 (N9 : Int)) (fun b w hb hH => exec_ar rfl rfl rfl rfl (by rw [IntWalk.i64_in _ (by omega)]; omega) hb) ?_
    refine h_val rfl (.bool false) (fun b w hb hH => exec_cmp rfl rfl rfl (cmp_neq_f (by simp)) hb) ?_
    refine h_q hflS rfl ?_
    refine h_val rfl (.bool false) (fun b w hb hH => exec_nes (neB_same _) rfl rfl rfl hb) ?_
    refine h_q hflS rfl ?_
    refine h_done (d_else rfl (d_skip (f_to (d_reg ?_))))
    refine h_q hflS rfl ?_
    refine h_done ?_
    cases last
    · skip
      have hd1 : ¬ x.l.length ≤ i * 256 + 256 := of_decide_eq_false hla
      obtain rfl : N9 = (i + 1) * 256 := by omega
      refine d_reg ?_
      refine h_q hflS rfl ?_
      refine h_done (d_else rfl (d_skip (f_block (f_to (d_reg1 ?_)))))
      refine h_q hflS rfl ?_
      refine h_val rfl (.int .i64 ((i + 1 : Nat) : Int)) (fun b w hb hH => exec_ar rfl rfl rfl rfl (by rw [IntWalk.i64_in _ (by omega)]; omega) hb) ?_
      refine h_q hflS rfl ?_
      refine h_nil ?_
      exact f_again (i + 1, 1, 2, 14) 1 ⟨.inl ⟨rfl, rfl, rfl⟩, by omega⟩ (show 1500 - (i + 1) * 256 < 1500 - i * 256 by omega) ⟨rfl, rfl, rfl, rfl, rfl, rfl, trivial⟩ rfl
    · skip
      have hd1 : x.l.length ≤ i * 256 + 256 := of_decide_eq_true hla
      have hxe : x.l.take ((i + 1) * 256) = x.l := List.take_of_length_le (by omega)
      refine d_reg ?_
      refine h_q hflS rfl ?_
      refine h_done (d_then rfl (d_seq ?_))
      refine d_emps 1 rfl ?_
      refine d_parS 12 3 [⟨.quiet, [none, none, none], fun _ => .pointer (some ⟨g, 0, none⟩), []⟩, ⟨.act 0, [some false, some false, some false], fun _ => undef, [0]⟩, ⟨.quiet, [some true, none, none], fun _ => .string (bs (x.l.take ((i + 1) * 256))), [1]⟩, ⟨.quiet, [none, none, none], fun _ => x.v, []⟩, ⟨.quiet, [none, none, none], fun _ => .string (bs x.l), [3]⟩, ⟨.quiet, [some true, none, none], fun _ => .bool true, [2, 4]⟩, ⟨.quiet, [some true, none, none], fun _ => .bool true, [5]⟩, ⟨.quiet, [some true, none, none], fun _ => .pointer (some ⟨g, 0, none⟩), [6]⟩, ⟨.actv 1, [some true, some false, some false], fun _ => .agg #[.int .u64 1, .int .u64 2, .int .i64 14], [7, 6]⟩, ⟨.actv 2, [some true, some true, some false], fun _ => .agg #[.int .u64 1, .int .u64 2, .int .i64 14], [6]⟩, ⟨.quiet, [some true, some true, some true], fun _ => .bool true, [8, 9, 6]⟩, ⟨.quiet, [some true, some true, some true], fun _ => .bool true, [6, 10]⟩] [(2, v1), (6, .bool false), (7, x.v), (8, .pointer (some ⟨g, 0, none⟩)), (10, .int .i64 (i : Int)), (29, .int .i64 (i : Int)), (30, .bool true), (33, .int .i64 (i : Int)), (34, v1), (35, .int .i64 (l.length : Int)), (36, .bool false), (65, x.v), (66, .int .i64 ((i * 256 : Nat) : Int)), (67, .tuple #[u, .bool true, .bool true]), (64, .tuple #[u, .bool true, .bool true]), (68, u), (69, .bool true), (70, .bool true), (14, u), (15, .bool true), (16, .bool true), (72, .pointer (some ⟨g, 0, none⟩)), (73, .agg #[.int .u64 1, .int .u64 2, .int .i64 14]), (74, .int .i64 ((i * 256 : Nat) : Int)), (75, u), (76, .bool true), (77, .tuple #[.bool true, .int .i64 (N9 : Int)]), (71, .tuple #[.bool true, .int .i64 (N9 : Int)]), (78, .bool true), (79, .int .i64 (N9 : Int)), (17, .bool true), (18, .int .i64 (N9 : Int)), (80, .bool true), (81, .bool false), (82, .bool false), (83, .int .i64 (N9 : Int)), (84, .int .i64 ((i * 256 : Nat) : Int)), (85, u), (86, .int .i64 (r.length : Int)), (87, .int .i64 (N9 : Int)), (88, .bool false), (89, .bool false), (90, .bool false), (91, .bool true), (92, .bool true), (93, .bool false), (94, .bool false), (95, .int .i64 (N9 : Int)), (9, .int .i64 (N9 : Int)), (96, .bool true)] (fun ρ => match ρ with | [rq0, rq1, rq2] => [selS rq0 (fun dv => Vec 5 1 encB dv (x.l.take ((i + 1) * 256))) (emp), Vec 5 1 encB u r, TkT 50 g 1 2 14 (x.l.take ((i + 1) * 256)), Vec 5 1 encB x.v x.l, X] | _ => []) (by kernel_rfl) (by kernel_rfl) ⟨rfl, rfl, rfl, rfl, rfl, rfl, rfl, rfl, rfl, rfl, rfl, rfl, rfl, rfl, rfl, rfl, rfl, rfl, rfl, rfl, rfl, rfl, rfl, rfl, rfl, rfl, rfl, rfl, rfl, rfl, rfl, rfl, rfl, rfl, rfl, rfl, rfl, rfl, rfl, rfl, rfl, rfl, rfl, rfl, rfl, rfl, rfl, rfl, rfl, rfl, trivial⟩ rfl ?_ ?_
      · skip
        refine s_cons (by intro r0_ r1_ r2_; exact ⟨rfl, fun b w hH hb => exec_q1 hflS rfl hb⟩) ?_
        refine s_cons (by exact ⟨rfl, Acts.s (a_does (os' := fun dv => [Vec 5 1 encB dv (x.l.take ((i + 1) * 256)), Vec 5 1 encB u r, TkT 50 g 1 2 14 (x.l.take ((i + 1) * 256)), Vec 5 1 encB x.v x.l, X]) [2, 0] 1 (ent_of Try.func15 (by kernel_rfl) rfl) (ck_data g 1 2 14 (x.l.take ((i + 1) * 256)) (by omega)) rfl rfl rfl (fun _ => rfl) rfl rfl rfl) (fun _ => rfl)⟩) ?_
        refine s_cons (by intro dv r1_ r2_; exact ⟨rfl, fun b w hH hb => exec_str8 Try.underlying22 Try.underlying5 (by kernel_rfl) Try.underlying9 (hH.sl8 0 rfl) rfl rfl hb⟩) ?_
        refine s_cons (by intro r0_ r1_ r2_; exact ⟨rfl, fun b w hH hb => exec_q1 hflS rfl hb⟩) ?_
        refine s_cons (by intro r0_ r1_ r2_; exact ⟨rfl, fun b w hH hb => exec_str8 Try.underlying22 Try.underlying5 (by kernel_rfl) Try.underlying9 (hH.sl8 3 rfl) rfl rfl hb⟩) ?_
        refine s_cons (by intro dv r1_ r2_; exact ⟨rfl, fun b w hH hb => exec_same rfl rfl rfl (by rw [hxe]; simp) hb⟩) ?_
        refine s_cons (by intro dv r1_ r2_; exact ⟨rfl, fun b w hH hb => exec_q1 hflS rfl hb⟩) ?_
        refine s_cons (by intro dv r1_ r2_; exact ⟨rfl, fun b w hH hb => exec_q1 hflS rfl hb⟩) ?_
        refine s_cons (by intro dv; exact ⟨rfl, Acts.su (a_does (os' := fun _ => [Vec 5 1 encB dv (x.l.take ((i + 1) * 256)), Vec 5 1 encB u r, TkT 50 g 1 2 14 (x.l.take ((i + 1) * 256)), Vec 5 1 encB x.v x.l, X]) [2] 0 (ent_of Try.func14 (by kernel_rfl) rfl) (ck_base g 1 2 14 (x.l.take ((i + 1) * 256))) rfl rfl rfl (fun _ => rfl) rfl rfl rfl) rfl⟩) ?_
        refine s_cons (by intro dv v1_; exact ⟨rfl, Acts.su (a_call (ent_of Try.func11 (by kernel_rfl) rfl) (fun w hH => ck_b w 0 1 (by decide) (by decide)) rfl rfl rfl) rfl⟩) ?_
        refine s_cons (by intro dv v1_ v2_; exact ⟨rfl, fun b w hH hb => exec_eqs (eqBaseT 1 2 14) rfl rfl rfl hb⟩) ?_
        refine s_cons (by intro dv v1_ v2_; exact ⟨rfl, fun b w hH hb => exec_q1 hflS rfl hb⟩) ?_
        exact s_nil
      intro dv v1_ v2_
      refine WL2.keep (env' := [(2, v1), (6, .bool false), (7, x.v), (8, .pointer (some ⟨g, 0, none⟩)), (10, .int .i64 (i : Int)), (29, .int .i64 (i : Int)), (30, .bool true), (33, .int .i64 (i : Int)), (34, v1), (35, .int .i64 (l.length : Int)), (36, .bool false), (65, x.v), (66, .int .i64 ((i * 256 : Nat) : Int)), (67, .tuple #[u, .bool true, .bool true]), (64, .tuple #[u, .bool true, .bool true]), (68, u), (69, .bool true), (70, .bool true), (14, u), (15, .bool true), (16, .bool true), (72, .pointer (some ⟨g, 0, none⟩)), (73, .agg #[.int .u64 1, .int .u64 2, .int .i64 14]), (74, .int .i64 ((i * 256 : Nat) : Int)), (75, u), (76, .bool true), (77, .tuple #[.bool true, .int .i64 (N9 : Int)]), (71, .tuple #[.bool true, .int .i64 (N9 : Int)]), (78, .bool true), (79, .int .i64 (N9 : Int)), (17, .bool true), (18, .int .i64 (N9 : Int)), (80, .bool true), (81, .bool false), (82, .bool false), (83, .int .i64 (N9 : Int)), (84, .int .i64 ((i * 256 : Nat) : Int)), (85, u), (86, .int .i64 (r.length : Int)), (87, .int .i64 (N9 : Int)), (88, .bool false), (89, .bool false), (90, .bool false), (91, .bool true), (92, .bool true), (93, .bool false), (94, .bool false), (95, .int .i64 (N9 : Int)), (9, .int .i64 (N9 : Int)), (96, .bool true), (97, .pointer (some ⟨g, 0, none⟩)), (98, dv), (99, .string (bs (x.l.take ((i + 1) * 256)))), (100, x.v), (101, .string (bs x.l)), (102, .bool true), (103, .bool true), (104, .pointer (some ⟨g, 0, none⟩)), (105, .agg #[.int .u64 1, .int .u64 2, .int .i64 14]), (106, .agg #[.int .u64 1, .int .u64 2, .int .i64 14]), (107, .bool true), (108, .bool true)]) ⟨rfl, rfl, rfl, rfl, rfl, rfl, rfl, rfl, rfl, rfl, rfl, rfl, rfl, rfl, rfl, rfl, rfl, rfl, rfl, rfl, rfl, rfl, rfl, rfl, rfl, rfl, rfl, rfl, rfl, rfl, rfl, rfl, rfl, rfl, rfl, rfl, rfl, rfl, rfl, rfl, rfl, rfl, rfl, rfl, rfl, rfl, rfl, rfl, rfl, rfl, rfl, rfl, rfl, rfl, rfl, rfl, rfl, rfl, rfl, rfl, rfl, rfl, trivial⟩ ?_
      refine h_q hflS rfl ?_
      refine h_nil (f_to (d_ret (f_block_ret (f_then_ret (f_then_ret (f_block_ret (f_then_ret ?_)))))))
      exact f_fin1 (.tmp rfl) (fun w h => tells () rfl [4] rfl h same_parts) rfl
  · skip
    obtain ⟨y, hy⟩ : ∃ y, l[i]? = some y := ⟨_, List.getElem?_eq_getElem hi⟩
    have hmy := List.mem_of_getElem? hy
    have hoy := ho1 y hmy
    have hoyd := hoy.hd
    have hoyo := hoy.off
    refine d_reg ?_
    refine h_q hflS rfl ?_
    refine h_val rfl (.int .i64 (l.length : Int)) (fun b w hb hH => e_slen ((hH.rd 2 rfl hXs)) Try.underlying39 rfl rfl hb) ?_
    refine h_val rfl (.bool true) (fun b w hb hH => exec_cmp rfl rfl rfl (cmp_lss_t (by omega)) hb) ?_
    refine h_done (d_then rfl (d_reg ?_))
    refine h_q hflS rfl ?_
    refine h_val rfl (elp v1 (i * 6)) (fun b w hb hH => e_sidx okSk ((hH.rd 2 rfl hXs)) sl_bursarlaw16_Step (j := i) hy rfl rfl rfl hb) ?_
    refine h_val rfl (.agg (encSk y).toArray) (fun b w hb hH => e_sagg okSk (by decide) ((hH.rd 2 rfl hXs)) (j := i) hy ty_bursarlaw16_Step rfl rfl hb) ?_
    refine h_act (post := fun g1 => [cell g1 44 #[.int .u64 0, .int .i64 0, .slice none 0 0, .bool false, .bool false, .int .i64 0], TkT 50 g bi bt bc (x.l.take (i * 256)), Vec 5 1 encB x.v x.l, X]) rfl (a_alloc ze_bursarlaw16_Step rfl) ?_; rintro g1
    refine h_acts (post := fun _ => [cell g1 44 #[.int .u64 y.b, .int .i64 y.off, .slice y.A y.d.length y.c, .bool y.la, .bool y.nr, .int .i64 y.what], TkT 50 g bi bt bc (x.l.take (i * 256)), Vec 5 1 encB x.v x.l, X]) rfl rfl (a_store 0 (v := .agg (encSk y).toArray) #[.int .u64 y.b, .int .i64 y.off, .slice y.A y.d.length y.c, .bool y.la, .bool y.nr, .int .i64 y.what] ty_bursarlaw16_Step.2 rfl rfl rfl rfl rfl rfl rfl rfl rfl) ?_; rintro ⟨⟩
    refine h_done ?_
    obtain ⟨q5, hq5⟩ : ∃ q, y.off.tmod 5 = q := ⟨_, rfl⟩
    rcases (show y.off = ((i * 256 : Nat) : Int) ∨ (¬ y.off = ((i * 256 : Nat) : Int) ∧ q5 ≤ 0) ∨ (¬ y.off = ((i * 256 : Nat) : Int) ∧ 0 < q5) by omega) with hof | ⟨hof, hq6⟩ | ⟨hof2, hq6⟩
    · skip
      obtain ⟨last, hla⟩ : ∃ b, decide (x.l.length ≤ i * 256 + 256) = b := ⟨_, rfl⟩
      obtain ⟨r, hr⟩ : ∃ r, (x.l.drop (i * 256)).take 256 = r := ⟨_, rfl⟩
      have hrl : r.length = min 256 (x.l.length - i * 256) := by rw [← hr, List.length_take, List.length_drop]
      obtain ⟨N9, hN9⟩ : ∃ N, i * 256 + r.length = N := ⟨_, rfl⟩
      have hnl : (x.l.take ((i + 1) * 256)).length = min ((i + 1) * 256) x.l.length := List.length_take ..
      refine d_reg ?_
      refine h_q hflS rfl ?_
      refine h_val rfl (.int .i64 y.off) (fun b w hb hH => exec_load rfl rfl (reads_one ty_int rfl) (hH.row 0 rfl) hb) ?_
      refine h_q hflS rfl ?_
      refine h_val rfl (.bool false) (fun b w hb hH => exec_cmp rfl rfl rfl (cmp_neq_f (by omega)) hb) ?_
      refine h_q hflS rfl ?_
      refine h_done (d_else rfl (d_skip (f_to (d_reg ?_))))
      refine h_q hflS rfl ?_
      refine h_act (post := fun u => [Vec 5 1 encB u r, cell g1 44 #[.int .u64 y.b, .int .i64 y.off, .slice y.A y.d.length y.c, .bool y.la, .bool y.nr, .int .i64 y.what], TkT 50 g bi bt bc (x.l.take (i * 256)), Vec 5 1 encB x.v x.l, X]) rfl (a_does (os' := fun u => [Vec 5 1 encB u r, cell g1 44 #[.int .u64 y.b, .int .i64 y.off, .slice y.A y.d.length y.c, .bool y.la, .bool y.nr, .int .i64 y.what], TkT 50 g bi bt bc (x.l.take (i * 256)), Vec 5 1 encB x.v x.l, X]) [2] 0 (ent_of Try.func8 (by kernel_rfl) rfl) (cut_does (Vec 5 1 encB x.v x.l) x.v x.l rd8_vec (by omega) (i * 256) hI2 last hla r hr) rfl rfl rfl (fun _ => rfl) rfl rfl rfl) ?_; rintro u
      refine h_q hflS rfl ?_
      refine h_done (d_reg ?_)
      refine h_q hflS rfl ?_
      refine h_act (post := fun _ => [Vec 5 1 encB u r, cell g1 44 #[.int .u64 y.b, .int .i64 y.off, .slice y.A y.d.length y.c, .bool y.la, .bool y.nr, .int .i64 y.what], TkT 50 g bi bt bc (x.l.take (i * 256)), Vec 5 1 encB x.v x.l, X]) rfl (a_call (ent_of Try.func11 (by kernel_rfl) rfl) (fun w hH => ck_b w 0 1 (by decide) (by decide)) rfl rfl rfl) ?_; rintro ⟨⟩
      refine h_q hflS rfl ?_
      refine h_act (post := fun _ => [Vec 5 1 encB u r, cell g1 44 #[.int .u64 y.b, .int .i64 y.off, .slice y.A y.d.length y.c, .bool y.la, .bool y.nr, .int .i64 y.what], TkT 50 g 1 2 14 (x.l.take ((i + 1) * 256)), Vec 5 1 encB x.v x.l, X]) rfl (a_does (os' := fun _ => [Vec 5 1 encB u r, cell g1 44 #[.int .u64 y.b, .int .i64 y.off, .slice y.A y.d.length y.c, .bool y.la, .bool y.nr, .int .i64 y.what], TkT 50 g 1 2 14 (x.l.take ((i + 1) * 256)), Vec 5 1 encB x.v x.l, X]) [2, 0] 0 (ent_of Try.func10 (by kernel_rfl) rfl) (ck_takeN (Vec 5 1 encB u r) u r rd8_vec (by omega) g bi bt bc 1 2 14 (x.l.take (i * 256)) (by omega) ((i * 256 : Nat) : Int) (by omega) last (x.l.take (i * 256)) (keep_at hI1) last (x.l.take ((i + 1) * 256)) (takeL_yes ⟨by omega, by omega⟩ (back_next hr)) (N9 : Int) (by omega)) rfl rfl rfl (fun _ => rfl) rfl rfl rfl) ?_; rintro ⟨⟩
      refine h_q hflS rfl ?_
      refine h_done (d_seq (d_reg ?_))
      refine h_q hflS rfl ?_
      refine h_val rfl (.int .i64 (r.length : Int)) (fun b w hb hH => e_vlen 0 Try.underlying22 rfl rfl rfl hH hb) ?_
      refine h_val rfl (.int .i64 (N9 : Int)) (fun b w hb hH => exec_ar rfl rfl rfl rfl (by rw [IntWalk.i64_in _ (by omega)]; omega) hb) ?_
      refine h_val rfl (.bool false) (fun b w hb hH => exec_cmp rfl rfl rfl (cmp_neq_f (by simp)) hb) ?_
      refine h_q hflS rfl ?_
      refine h_val rfl (.bool false) (fun b w hb hH => exec_nes (neB_same _) rfl rfl rfl hb) ?_
      refine h_q hflS rfl ?_
      refine h_done (d_else rfl (d_skip (f_to (d_reg ?_))))
      refine h_q hflS rfl ?_
      refine h_done ?_
      cases last
      · skip
        have hd1 : ¬ x.l.length ≤ i * 256 + 256 := of_decide_eq_false hla
        obtain rfl : N9 = (i + 1) * 256 := by omega
        refine d_reg ?_
        refine h_q hflS rfl ?_
        refine h_done (d_else rfl (d_skip (f_block (f_to (d_reg1 ?_)))))
        refine h_q hflS rfl ?_
        refine h_val rfl (.int .i64 ((i + 1 : Nat) : Int)) (fun b w hb hH => exec_ar rfl rfl rfl rfl (by rw [IntWalk.i64_in _ (by omega)]; omega) hb) ?_
        refine h_q hflS rfl ?_
        refine h_nil ?_
        exact f_again (i + 1, 1, 2, 14) 2 ⟨.inl ⟨rfl, rfl, rfl⟩, by omega⟩ (show 1500 - (i + 1) * 256 < 1500 - i * 256 by omega) ⟨rfl, rfl, rfl, rfl, rfl, rfl, trivial⟩ rfl
      · skip
        have hd1 : x.l.length ≤ i * 256 + 256 := of_decide_eq_true hla
        have hxe : x.l.take ((i + 1) * 256) = x.l := List.take_of_length_le (by omega)
        refine d_reg ?_
        refine h_q hflS rfl ?_
        refine h_done (d_then rfl (d_seq ?_))
        refine d_emps 1 rfl ?_
        refine d_parS 12 3 [⟨.quiet, [none, none, none], fun _ => .pointer (some ⟨g, 0, none⟩), []⟩, ⟨.act 0, [some false, some false, some false], fun _ => undef, [0]⟩, ⟨.quiet, [some true, none, none], fun _ => .string (bs (x.l.take ((i + 1) * 256))), [1]⟩, ⟨.quiet, [none, none, none], fun _ => x.v, []⟩, ⟨.quiet, [none, none, none], fun _ => .string (bs x.l), [3]⟩, ⟨.quiet, [some true, none, none], fun _ => .bool true, [2, 4]⟩, ⟨.quiet, [some true, none, none], fun _ => .bool true, [5]⟩, ⟨.quiet, [some true, none, none], fun _ => .pointer (some ⟨g, 0, none⟩), [6]⟩, ⟨.actv 1, [some true, some false, some false], fun _ => .agg #[.int .u64 1, .int .u64 2, .int .i64 14], [7, 6]⟩, ⟨.actv 2, [some true, some true, some false], fun _ => .agg #[.int .u64 1, .int .u64 2, .int .i64 14], [6]⟩, ⟨.quiet, [some true, some true, some true], fun _ => .bool true, [8, 9, 6]⟩, ⟨.quiet, [some true, some true, some true], fun _ => .bool true, [6, 10]⟩] [(2, v1), (6, .bool false), (7, x.v), (8, .pointer (some ⟨g, 0, none⟩)), (10, .int .i64 (i : Int)), (29, .int .i64 (i : Int)), (30, .bool true), (33, .int .i64 (i : Int)), (34, v1), (35, .int .i64 (l.length : Int)), (36, .bool true), (37, v1), (38, .int .i64 (i : Int)), (39, elp v1 (i * 6)), (40, .agg (encSk y).toArray), (11, .pointer (some ⟨g1, 0, none⟩)), (41, .pointer (some ⟨g1, 1, none⟩)), (42, .int .i64 y.off), (43, .int .i64 ((i * 256 : Nat) : Int)), (44, .bool false), (45, .bool false), (46, undef), (47, undef), (48, undef), (49, undef), (50, .bool false), (65, x.v), (66, .int .i64 ((i * 256 : Nat) : Int)), (67, .tuple #[u, .bool true, .bool true]), (64, .tuple #[u, .bool true, .bool true]), (68, u), (69, .bool true), (70, .bool true), (14, u), (15, .bool true), (16, .bool true), (72, .pointer (some ⟨g, 0, none⟩)), (73, .agg #[.int .u64 1, .int .u64 2, .int .i64 14]), (74, .int .i64 ((i * 256 : Nat) : Int)), (75, u), (76, .bool true), (77, .tuple #[.bool true, .int .i64 (N9 : Int)]), (71, .tuple #[.bool true, .int .i64 (N9 : Int)]), (78, .bool true), (79, .int .i64 (N9 : Int)), (17, .bool true), (18, .int .i64 (N9 : Int)), (80, .bool true), (81, .bool false), (82, .bool false), (83, .int .i64 (N9 : Int)), (84, .int .i64 ((i * 256 : Nat) : Int)), (85, u), (86, .int .i64 (r.length : Int)), (87, .int .i64 (N9 : Int)), (88, .bool false), (89, .bool false), (90, .bool false), (91, .bool true), (92, .bool true), (93, .bool false), (94, .bool false), (95, .int .i64 (N9 : Int)), (9, .int .i64 (N9 : Int)), (96, .bool true)] (fun ρ => match ρ with | [rq0, rq1, rq2] => [selS rq0 (fun dv => Vec 5 1 encB dv (x.l.take ((i + 1) * 256))) (emp), Vec 5 1 encB u r, cell g1 44 #[.int .u64 y.b, .int .i64 y.off, .slice y.A y.d.length y.c, .bool y.la, .bool y.nr, .int .i64 y.what], TkT 50 g 1 2 14 (x.l.take ((i + 1) * 256)), Vec 5 1 encB x.v x.l, X] | _ => []) (by kernel_rfl) (by kernel_rfl) ⟨rfl, rfl, rfl, rfl, rfl, rfl, rfl, rfl, rfl, rfl, rfl, rfl, rfl, rfl, rfl, rfl, rfl, rfl, rfl, rfl, rfl, rfl, rfl, rfl, rfl, rfl, rfl, rfl, rfl, rfl, rfl, rfl, rfl, rfl, rfl, rfl, rfl, rfl, rfl, rfl, rfl, rfl, rfl, rfl, rfl, rfl, rfl, rfl, rfl, rfl, rfl, rfl, rfl, rfl, rfl, rfl, rfl, rfl, rfl, rfl, rfl, rfl, rfl, rfl, rfl, trivial⟩ rfl ?_ ?_
        · skip
          refine s_cons (by intro r0_ r1_ r2_; exact ⟨rfl, fun b w hH hb => exec_q1 hflS rfl hb⟩) ?_
          refine s_cons (by exact ⟨rfl, Acts.s (a_does (os' := fun dv => [Vec 5 1 encB dv (x.l.take ((i + 1) * 256)), Vec 5 1 encB u r, cell g1 44 #[.int .u64 y.b, .int .i64 y.off, .slice y.A y.d.length y.c, .bool y.la, .bool y.nr, .int .i64 y.what], TkT 50 g 1 2 14 (x.l.take ((i + 1) * 256)), Vec 5 1 encB x.v x.l, X]) [3, 0] 1 (ent_of Try.func15 (by kernel_rfl) rfl) (ck_data g 1 2 14 (x.l.take ((i + 1) * 256)) (by omega)) rfl rfl rfl (fun _ => rfl) rfl rfl rfl) (fun _ => rfl)⟩) ?_
          refine s_cons (by intro dv r1_ r2_; exact ⟨rfl, fun b w hH hb => exec_str8 Try.underlying22 Try.underlying5 (by kernel_rfl) Try.underlying9 (hH.sl8 0 rfl) rfl rfl hb⟩) ?_
          refine s_cons (by intro r0_ r1_ r2_; exact ⟨rfl, fun b w hH hb => exec_q1 hflS rfl hb⟩) ?_
          refine s_cons (by intro r0_ r1_ r2_; exact ⟨rfl, fun b w hH hb => exec_str8 Try.underlying22 Try.underlying5 (by kernel_rfl) Try.underlying9 (hH.sl8 4 rfl) rfl rfl hb⟩) ?_
          refine s_cons (by intro dv r1_ r2_; exact ⟨rfl, fun b w hH hb => exec_same rfl rfl rfl (by rw [hxe]; simp) hb⟩) ?_
          refine s_cons (by intro dv r1_ r2_; exact ⟨rfl, fun b w hH hb => exec_q1 hflS rfl hb⟩) ?_
          refine s_cons (by intro dv r1_ r2_; exact ⟨rfl, fun b w hH hb => exec_q1 hflS rfl hb⟩) ?_
          refine s_cons (by intro dv; exact ⟨rfl, Acts.su (a_does (os' := fun _ => [Vec 5 1 encB dv (x.l.take ((i + 1) * 256)), Vec 5 1 encB u r, cell g1 44 #[.int .u64 y.b, .int .i64 y.off, .slice y.A y.d.length y.c, .bool y.la, .bool y.nr, .int .i64 y.what], TkT 50 g 1 2 14 (x.l.take ((i + 1) * 256)), Vec 5 1 encB x.v x.l, X]) [3] 0 (ent_of Try.func14 (by kernel_rfl) rfl) (ck_base g 1 2 14 (x.l.take ((i + 1) * 256))) rfl rfl rfl (fun _ => rfl) rfl rfl rfl) rfl⟩) ?_
          refine s_cons (by intro dv v1_; exact ⟨rfl, Acts.su (a_call (ent_of Try.func11 (by kernel_rfl) rfl) (fun w hH => ck_b w 0 1 (by decide) (by decide)) rfl rfl rfl) rfl⟩) ?_
          refine s_cons (by intro dv v1_ v2_; exact ⟨rfl, fun b w hH hb => exec_eqs (eqBaseT 1 2 14) rfl rfl rfl hb⟩) ?_
          refine s_cons (by intro dv v1_ v2_; exact ⟨rfl, fun b w hH hb => exec_q1 hflS rfl hb⟩) ?_
          exact s_nil
        intro dv v1_ v2_
        refine WL2.keep (env' := [(2, v1), (6, .bool false), (7, x.v), (8, .pointer (some ⟨g, 0, none⟩)), (10, .int .i64 (i : Int)), (29, .int .i64 (i : Int)), (30, .bool true), (33, .int .i64 (i : Int)), (34, v1), (35, .int .i64 (l.length : Int)), (36, .bool true), (37, v1), (38, .int .i64 (i : Int)), (39, elp v1 (i * 6)), (40, .agg (encSk y).toArray), (11, .pointer (some ⟨g1, 0, none⟩)), (41, .pointer (some ⟨g1, 1, none⟩)), (42, .int .i64 y.off), (43, .int .i64 ((i * 256 : Nat) : Int)), (44, .bool false), (45, .bool false), (46, undef), (47, undef), (48, undef), (49, undef), (50, .bool false), (65, x.v), (66, .int .i64 ((i * 256 : Nat) : Int)), (67, .tuple #[u, .bool true, .bool true]), (64, .tuple #[u, .bool true, .bool true]), (68, u), (69, .bool true), (70, .bool true), (14, u), (15, .bool true), (16, .bool true), (72, .pointer (some ⟨g, 0, none⟩)), (73, .agg #[.int .u64 1, .int .u64 2, .int .i64 14]), (74, .int .i64 ((i * 256 : Nat) : Int)), (75, u), (76, .bool true), (77, .tuple #[.bool true, .int .i64 (N9 : Int)]), (71, .tuple #[.bool true, .int .i64 (N9 : Int)]), (78, .bool true), (79, .int .i64 (N9 : Int)), (17, .bool true), (18, .int .i64 (N9 : Int)), (80, .bool true), (81, .bool false), (82, .bool false), (83, .int .i64 (N9 : Int)), (84, .int .i64 ((i * 256 : Nat) : Int)), (85, u), (86, .int .i64 (r.length : Int)), (87, .int .i64 (N9 : Int)), (88, .bool false), (89, .bool false), (90, .bool false), (91, .bool true), (92, .bool true), (93, .bool false), (94, .bool false), (95, .int .i64 (N9 : Int)), (9, .int .i64 (N9 : Int)), (96, .bool true), (97, .pointer (some ⟨g, 0, none⟩)), (98, dv), (99, .string (bs (x.l.take ((i + 1) * 256)))), (100, x.v), (101, .string (bs x.l)), (102, .bool true), (103, .bool true), (104, .pointer (some ⟨g, 0, none⟩)), (105, .agg #[.int .u64 1, .int .u64 2, .int .i64 14]), (106, .agg #[.int .u64 1, .int .u64 2, .int .i64 14]), (107, .bool true), (108, .bool true)]) ⟨rfl, rfl, rfl, rfl, rfl, rfl, rfl, rfl, rfl, rfl, rfl, rfl, rfl, rfl, rfl, rfl, rfl, rfl, rfl, rfl, rfl, rfl, rfl, rfl, rfl, rfl, rfl, rfl, rfl, rfl, rfl, rfl, rfl, rfl, rfl, rfl, rfl, rfl, rfl, rfl, rfl, rfl, rfl, rfl, rfl, rfl, rfl, rfl, rfl, rfl, rfl, rfl, rfl, rfl, rfl, rfl, rfl, rfl, rfl, rfl, rfl, rfl, rfl, rfl, rfl, rfl, rfl, rfl, rfl, rfl, rfl, rfl, rfl, rfl, rfl, rfl, rfl, trivial⟩ ?_
        refine h_q hflS rfl ?_
        refine h_nil (f_to (d_ret (f_block_ret (f_then_ret (f_then_ret (f_block_ret (f_then_ret ?_)))))))
        exact f_fin1 (.tmp rfl) (fun w h => tells () rfl [5] rfl h same_parts) rfl
    · skip
      obtain ⟨last, hla⟩ : ∃ b, decide (x.l.length ≤ i * 256 + 256) = b := ⟨_, rfl⟩
      obtain ⟨r, hr⟩ : ∃ r, (x.l.drop (i * 256)).take 256 = r := ⟨_, rfl⟩
      have hrl : r.length = min 256 (x.l.length - i * 256) := by rw [← hr, List.length_take, List.length_drop]
      obtain ⟨N9, hN9⟩ : ∃ N, i * 256 + r.length = N := ⟨_, rfl⟩
      have hnl : (x.l.take ((i + 1) * 256)).length = min ((i + 1) * 256) x.l.length := List.length_take ..
      refine d_reg ?_
      refine h_q hflS rfl ?_
      refine h_val rfl (.int .i64 y.off) (fun b w hb hH => exec_load rfl rfl (reads_one ty_int rfl) (hH.row 0 rfl) hb) ?_
      refine h_q hflS rfl ?_
      refine h_val rfl (.bool true) (fun b w hb hH => exec_cmp rfl rfl rfl (cmp_neq_t (by omega)) hb) ?_
      refine h_q hflS rfl ?_
      refine h_val rfl (.int .i64 y.off) (fun b w hb hH => exec_load rfl rfl (reads_one ty_int rfl) (hH.row 0 rfl) hb) ?_
      refine h_val rfl (.int .i64 q5) (fun b w hb hH => exec_remI rfl rfl rfl (by decide) hq5 hb) ?_
      refine h_val rfl (.bool false) (fun b w hb hH => exec_cmp rfl rfl rfl (cmp_gtr_f (by omega)) hb) ?_
      refine h_q hflS rfl ?_
      refine h_done (d_else rfl (d_skip (f_to (d_reg ?_))))
      refine h_q hflS rfl ?_
      refine h_act (post := fun u => [Vec 5 1 encB u r, cell g1 44 #[.int .u64 y.b, .int .i64 y.off, .slice y.A y.d.length y.c, .bool y.la, .bool y.nr, .int .i64 y.what], TkT 50 g bi bt bc (x.l.take (i * 256)), Vec 5 1 encB x.v x.l, X]) rfl (a_does (os' := fun u => [Vec 5 1 encB u r, cell g1 44 #[.int .u64 y.b, .int .i64 y.off, .slice y.A y.d.length y.c, .bool y.la, .bool y.nr, .int .i64 y.what], TkT 50 g bi bt bc (x.l.take (i * 256)), Vec 5 1 encB x.v x.l, X]) [2] 0 (ent_of Try.func8 (by kernel_rfl) rfl) (cut_does (Vec 5 1 encB x.v x.l) x.v x.l rd8_vec (by omega) (i * 256) hI2 last hla r hr) rfl rfl rfl (fun _ => rfl) rfl rfl rfl) ?_; rintro u
      refine h_q hflS rfl ?_
      refine h_done (d_reg ?_)
      refine h_q hflS rfl ?_
      refine h_act (post := fun _ => [Vec 5 1 encB u r, cell g1 44 #[.int .u64 y.b, .int .i64 y.off, .slice y.A y.d.length y.c, .bool y.la, .bool y.nr, .int .i64 y.what], TkT 50 g bi bt bc (x.l.take (i * 256)), Vec 5 1 encB x.v x.l, X]) rfl (a_call (ent_of Try.func11 (by kernel_rfl) rfl) (fun w hH => ck_b w 0 1 (by decide) (by decide)) rfl rfl rfl) ?_; rintro ⟨⟩
      refine h_q hflS rfl ?_
      refine h_act (post := fun _ => [Vec 5 1 encB u r, cell g1 44 #[.int .u64 y.b, .int .i64 y.off, .slice y.A y.d.length y.c, .bool y.la, .bool y.nr, .int .i64 y.what], TkT 50 g 1 2 14 (x.l.take ((i + 1) * 256)), Vec 5 1 encB x.v x.l, X]) rfl (a_does (os' := fun _ => [Vec 5 1 encB u r, cell g1 44 #[.int .u64 y.b, .int .i64 y.off, .slice y.A y.d.length y.c, .bool y.la, .bool y.nr, .int .i64 y.what], TkT 50 g 1 2 14 (x.l.take ((i + 1) * 256)), Vec 5 1 encB x.v x.l, X]) [2, 0] 0 (ent_of Try.func10 (by kernel_rfl) rfl) (ck_takeN (Vec 5 1 encB u r) u r rd8_vec (by omega) g bi bt bc 1 2 14 (x.l.take (i * 256)) (by omega) ((i * 256 : Nat) : Int) (by omega) last (x.l.take (i * 256)) (keep_at hI1) last (x.l.take ((i + 1) * 256)) (takeL_yes ⟨by omega, by omega⟩ (back_next hr)) (N9 : Int) (by omega)) rfl rfl rfl (fun _ => rfl) rfl rfl rfl) ?_; rintro ⟨⟩
      refine h_q hflS rfl ?_
      refine h_done (d_seq (d_reg ?_))
      refine h_q hflS rfl ?_
      refine h_val rfl (.int .i64 (r.length : Int)) (fun b w hb hH => e_vlen 0 Try.underlying22 rfl rfl rfl hH hb) ?_
      refine h_val rfl (.int .i64 (N9 : Int)) (fun b w hb hH => exec_ar rfl rfl rfl rfl (by rw [IntWalk.i64_in _ (by omega)]; omega) hb) ?_
      refine h_val rfl (.bool false) (fun b w hb hH => exec_cmp rfl rfl rfl (cmp_neq_f (by simp)) hb) ?_
      refine h_q hflS rfl ?_
      refine h_val rfl (.bool false) (fun b w hb hH => exec_nes (neB_same _) rfl rfl rfl hb) ?_
      refine h_q hflS rfl ?_
      refine h_done (d_else rfl (d_skip (f_to (d_reg ?_))))
      refine h_q hflS rfl ?_
      refine h_done ?_
      cases last
      · skip
        have hd1 : ¬ x.l.length ≤ i * 256 + 256 := of_decide_eq_false hla
        obtain rfl : N9 = (i + 1) * 256 := by omega
        refine d_reg ?_
        refine h_q hflS rfl ?_
        refine h_done (d_else rfl (d_skip (f_block (f_to (d_reg1 ?_)))))
        refine h_q hflS rfl ?_
        refine h_val rfl (.int .i64 ((i + 1 : Nat) : Int)) (fun b w hb hH => exec_ar rfl rfl rfl rfl (by rw [IntWalk.i64_in _ (by omega)]; omega) hb) ?_
        refine h_q hflS rfl ?_
        refine h_nil ?_
        exact f_again (i + 1, 1, 2, 14) 2 ⟨.inl ⟨rfl, rfl, rfl⟩, by omega⟩ (show 1500 - (i + 1) * 256 < 1500 - i * 256 by omega) ⟨rfl, rfl, rfl, rfl, rfl, rfl, trivial⟩ rfl
      · skip
        have hd1 : x.l.length ≤ i * 256 + 256 := of_decide_eq_true hla
        have hxe : x.l.take ((i + 1) * 256) = x.l := List.take_of_length_le (by omega)
        refine d_reg ?_
        refine h_q hflS rfl ?_
        refine h_done (d_then rfl (d_seq ?_))
        refine d_emps 1 rfl ?_
        refine d_parS 12 3 [⟨.quiet, [none, none, none], fun _ => .pointer (some ⟨g, 0, none⟩), []⟩, ⟨.act 0, [some false, some false, some false], fun _ => undef, [0]⟩, ⟨.quiet, [some true, none, none], fun _ => .string (bs (x.l.take ((i + 1) * 256))), [1]⟩, ⟨.quiet, [none, none, none], fun _ => x.v, []⟩, ⟨.quiet, [none, none, none], fun _ => .string (bs x.l), [3]⟩, ⟨.quiet, [some true, none, none], fun _ => .bool true, [2, 4]⟩, ⟨.quiet, [some true, none, none], fun _ => .bool true, [5]⟩, ⟨.quiet, [some true, none, none], fun _ => .pointer (some ⟨g, 0, none⟩), [6]⟩, ⟨.actv 1, [some true, some false, some false], fun _ => .agg #[.int .u64 1, .int .u64 2, .int .i64 14], [7, 6]⟩, ⟨.actv 2, [some true, some true, some false], fun _ => .agg #[.int .u64 1, .int .u64 2, .int .i64 14], [6]⟩, ⟨.quiet, [some true, some true, some true], fun _ => .bool true, [8, 9, 6]⟩, ⟨.quiet, [some true, some true, some true], fun _ => .bool true, [6, 10]⟩] [(2, v1), (6, .bool false), (7, x.v), (8, .pointer (some ⟨g, 0, none⟩)), (10, .int .i64 (i : Int)), (29, .int .i64 (i : Int)), (30, .bool true), (33, .int .i64 (i : Int)), (34, v1), (35, .int .i64 (l.length : Int)), (36, .bool true), (37, v1), (38, .int .i64 (i : Int)), (39, elp v1 (i * 6)), (40, .agg (encSk y).toArray), (11, .pointer (some ⟨g1, 0, none⟩)), (41, .pointer (some ⟨g1, 1, none⟩)), (42, .int .i64 y.off), (43, .int .i64 ((i * 256 : Nat) : Int)), (44, .bool true), (45, .bool true), (46, .pointer (some ⟨g1, 1, none⟩)), (47, .int .i64 y.off), (48, .int .i64 q5), (49, .bool false), (50, .bool false), (65, x.v), (66, .int .i64 ((i * 256 : Nat) : Int)), (67, .tuple #[u, .bool true, .bool true]), (64, .tuple #[u, .bool true, .bool true]), (68, u), (69, .bool true), (70, .bool true), (14, u), (15, .bool true), (16, .bool true), (72, .pointer (some ⟨g, 0, none⟩)), (73, .agg #[.int .u64 1, .int .u64 2, .int .i64 14]), (74, .int .i64 ((i * 256 : Nat) : Int)), (75, u), (76, .bool true), (77, .tuple #[.bool true, .int .i64 (N9 : Int)]), (71, .tuple #[.bool true, .int .i64 (N9 : Int)]), (78, .bool true), (79, .int .i64 (N9 : Int)), (17, .bool true), (18, .int .i64 (N9 : Int)), (80, .bool true), (81, .bool false), (82, .bool false), (83, .int .i64 (N9 : Int)), (84, .int .i64 ((i * 256 : Nat) : Int)), (85, u), (86, .int .i64 (r.length : Int)), (87, .int .i64 (N9 : Int)), (88, .bool false), (89, .bool false), (90, .bool false), (91, .bool true), (92, .bool true), (93, .bool false), (94, .bool false), (95, .int .i64 (N9 : Int)), (9, .int .i64 (N9 : Int)), (96, .bool true)] (fun ρ => match ρ with | [rq0, rq1, rq2] => [selS rq0 (fun dv => Vec 5 1 encB dv (x.l.take ((i + 1) * 256))) (emp), Vec 5 1 encB u r, cell g1 44 #[.int .u64 y.b, .int .i64 y.off, .slice y.A y.d.length y.c, .bool y.la, .bool y.nr, .int .i64 y.what], TkT 50 g 1 2 14 (x.l.take ((i + 1) * 256)), Vec 5 1 encB x.v x.l, X] | _ => []) (by kernel_rfl) (by kernel_rfl) ⟨rfl, rfl, rfl, rfl, rfl, rfl, rfl, rfl, rfl, rfl, rfl, rfl, rfl, rfl, rfl, rfl, rfl, rfl, rfl, rfl, rfl, rfl, rfl, rfl, rfl, rfl, rfl, rfl, rfl, rfl, rfl, rfl, rfl, rfl, rfl, rfl, rfl, rfl, rfl, rfl, rfl, rfl, rfl, rfl, rfl, rfl, rfl, rfl, rfl, rfl, rfl, rfl, rfl, rfl, rfl, rfl, rfl, rfl, rfl, rfl, rfl, rfl, rfl, rfl, rfl, trivial⟩ rfl ?_ ?_
        · skip
          refine s_cons (by intro r0_ r1_ r2_; exact ⟨rfl, fun b w hH hb => exec_q1 hflS rfl hb⟩) ?_
          refine s_cons (by exact ⟨rfl, Acts.s (a_does (os' := fun dv => [Vec 5 1 encB dv (x.l.take ((i + 1) * 256)), Vec 5 1 encB u r, cell g1 44 #[.int .u64 y.b, .int .i64 y.off, .slice y.A y.d.length y.c, .bool y.la, .bool y.nr, .int .i64 y.what], TkT 50 g 1 2 14 (x.l.take ((i + 1) * 256)), Vec 5 1 encB x.v x.l, X]) [3, 0] 1 (ent_of Try.func15 (by kernel_rfl) rfl) (ck_data g 1 2 14 (x.l.take ((i + 1) * 256)) (by omega)) rfl rfl rfl (fun _ => rfl) rfl rfl rfl) (fun _ => rfl)⟩) ?_
          refine s_cons (by intro dv r1_ r2_; exact ⟨rfl, fun b w hH hb => exec_str8 Try.underlying22 Try.underlying5 (by kernel_rfl) Try.underlying9 (hH.sl8 0 rfl) rfl rfl hb⟩) ?_
          refine s_cons (by intro r0_ r1_ r2_; exact ⟨rfl, fun b w hH hb => exec_q1 hflS rfl hb⟩) ?_
          refine s_cons (by intro r0_ r1_ r2_; exact ⟨rfl, fun b w hH hb => exec_str8 Try.underlying22 Try.underlying5 (by kernel_rfl) Try.underlying9 (hH.sl8 4 rfl) rfl rfl hb⟩) ?_
          refine s_cons (by intro dv r1_ r2_; exact ⟨rfl, fun b w hH hb => exec_same rfl rfl rfl (by rw [hxe]; simp) hb⟩) ?_
          refine s_cons (by intro dv r1_ r2_; exact ⟨rfl, fun b w hH hb => exec_q1 hflS rfl hb⟩) ?_
          refine s_cons (by intro dv r1_ r2_; exact ⟨rfl, fun b w hH hb => exec_q1 hflS rfl hb⟩) ?_
          refine s_cons (by intro dv; exact ⟨rfl, Acts.su (a_does (os' := fun _ => [Vec 5 1 encB dv (x.l.take ((i + 1) * 256)), Vec 5 1 encB u r, cell g1 44 #[.int .u64 y.b, .int .i64 y.off, .slice y.A y.d.length y.c, .bool y.la, .bool y.nr, .int .i64 y.what], TkT 50 g 1 2 14 (x.l.take ((i + 1) * 256)), Vec 5 1 encB x.v x.l, X]) [3] 0 (ent_of Try.func14 (by kernel_rfl) rfl) (ck_base g 1 2 14 (x.l.take ((i + 1) * 256))) rfl rfl rfl (fun _ => rfl) rfl rfl rfl) rfl⟩) ?_
          refine s_cons (by intro dv v1_; exact ⟨rfl, Acts.su (a_call (ent_of Try.func11 (by kernel_rfl) rfl) (fun w hH => ck_b w 0 1 (by decide) (by decide)) rfl rfl rfl) rfl⟩) ?_
          refine s_cons (by intro dv v1_ v2_; exact ⟨rfl, fun b w hH hb => exec_eqs (eqBaseT 1 2 14) rfl rfl rfl hb⟩) ?_
          refine s_cons (by intro dv v1_ v2_; exact ⟨rfl, fun b w hH hb => exec_q1 hflS rfl hb⟩) ?_
          exact s_nil
        intro dv v1_ v2_
        refine WL2.keep (env' := [(2, v1), (6, .bool false), (7, x.v), (8, .pointer (some ⟨g, 0, none⟩)), (10, .int .i64 (i : Int)), (29, .int .i64 (i : Int)), (30, .bool true), (33, .int .i64 (i : Int)), (34, v1), (35, .int .i64 (l.length : Int)), (36, .bool true), (37, v1), (38, .int .i64 (i : Int)), (39, elp v1 (i * 6)), (40, .agg (encSk y).toArray), (11, .pointer (some ⟨g1, 0, none⟩)), (41, .pointer (some ⟨g1, 1, none⟩)), (42, .int .i64 y.off), (43, .int .i64 ((i * 256 : Nat) : Int)), (44, .bool true), (45, .bool true), (46, .pointer (some ⟨g1, 1, none⟩)), (47, .int .i64 y.off), (48, .int .i64 q5), (49, .bool false), (50, .bool false), (65, x.v), (66, .int .i64 ((i * 256 : Nat) : Int)), (67, .tuple #[u, .bool true, .bool true]), (64, .tuple #[u, .bool true, .bool true]), (68, u), (69, .bool true), (70, .bool true), (14, u), (15, .bool true), (16, .bool true), (72, .pointer (some ⟨g, 0, none⟩)), (73, .agg #[.int .u64 1, .int .u64 2, .int .i64 14]), (74, .int .i64 ((i * 256 : Nat) : Int)), (75, u), (76, .bool true), (77, .tuple #[.bool true, .int .i64 (N9 : Int)]), (71, .tuple #[.bool true, .int .i64 (N9 : Int)]), (78, .bool true), (79, .int .i64 (N9 : Int)), (17, .bool true), (18, .int .i64 (N9 : Int)), (80, .bool true), (81, .bool false), (82, .bool false), (83, .int .i64 (N9 : Int)), (84, .int .i64 ((i * 256 : Nat) : Int)), (85, u), (86, .int .i64 (r.length : Int)), (87, .int .i64 (N9 : Int)), (88, .bool false), (89, .bool false), (90, .bool false), (91, .bool true), (92, .bool true), (93, .bool false), (94, .bool false), (95, .int .i64 (N9 : Int)), (9, .int .i64 (N9 : Int)), (96, .bool true), (97, .pointer (some ⟨g, 0, none⟩)), (98, dv), (99, .string (bs (x.l.take ((i + 1) * 256)))), (100, x.v), (101, .string (bs x.l)), (102, .bool true), (103, .bool true), (104, .pointer (some ⟨g, 0, none⟩)), (105, .agg #[.int .u64 1, .int .u64 2, .int .i64 14]), (106, .agg #[.int .u64 1, .int .u64 2, .int .i64 14]), (107, .bool true), (108, .bool true)]) ⟨rfl, rfl, rfl, rfl, rfl, rfl, rfl, rfl, rfl, rfl, rfl, rfl, rfl, rfl, rfl, rfl, rfl, rfl, rfl, rfl, rfl, rfl, rfl, rfl, rfl, rfl, rfl, rfl, rfl, rfl, rfl, rfl, rfl, rfl, rfl, rfl, rfl, rfl, rfl, rfl, rfl, rfl, rfl, rfl, rfl, rfl, rfl, rfl, rfl, rfl, rfl, rfl, rfl, rfl, rfl, rfl, rfl, rfl, rfl, rfl, rfl, rfl, rfl, rfl, rfl, rfl, rfl, rfl, rfl, rfl, rfl, rfl, rfl, rfl, rfl, rfl, rfl, trivial⟩ ?_
        refine h_q hflS rfl ?_
        refine h_nil (f_to (d_ret (f_block_ret (f_then_ret (f_then_ret (f_block_ret (f_then_ret ?_)))))))
        exact f_fin1 (.tmp rfl) (fun w h => tells () rfl [5] rfl h same_parts) rfl
    · skip
      obtain ⟨last, hla⟩ : ∃ b, decide (x.l.length ≤ i * 256 + 256) = b := ⟨_, rfl⟩
      obtain ⟨r, hr⟩ : ∃ r, (x.l.drop (i * 256)).take 256 = r := ⟨_, rfl⟩
      have hrl : r.length = min 256 (x.l.length - i * 256) := by rw [← hr, List.length_take, List.length_drop]
      obtain ⟨N9, hN9⟩ : ∃ N, i * 256 + r.length = N := ⟨_, rfl⟩
      have hnl : (x.l.take ((i + 1) * 256)).length = min ((i + 1) * 256) x.l.length := List.length_take ..
      refine d_reg ?_
      refine h_q hflS rfl ?_
      refine h_val rfl (.int .i64 y.off) (fun b w hb hH => exec_load rfl rfl (reads_one ty_int rfl) (hH.row 0 rfl) hb) ?_
      refine h_q hflS rfl ?_
      refine h_val rfl (.bool true) (fun b w hb hH => exec_cmp rfl rfl rfl (cmp_neq_t (by omega)) hb) ?_
      refine h_q hflS rfl ?_
      refine h_val rfl (.int .i64 y.off) (fun b w hb hH => exec_load rfl rfl (reads_one ty_int rfl) (hH.row 0 rfl) hb) ?_
      refine h_val rfl (.int .i64 q5) (fun b w hb hH => exec_remI rfl rfl rfl (by decide) hq5 hb) ?_
      refine h_val rfl (.bool true) (fun b w hb hH => exec_cmp rfl rfl rfl (cmp_gtr_t (by omega)) hb) ?_
      refine h_q hflS rfl ?_
      refine h_done (d_then rfl (d_seq ?_))
      refine d_parS 11 2 [⟨.quiet, [none, none], fun _ => .pointer (some ⟨g, 0, none⟩), []⟩, ⟨.actv 0, [some false, some false], fun _ => .agg #[.int .u64 1, .int .u64 2, .int .i64 14], []⟩, ⟨.quiet, [none, none], fun _ => .pointer (some ⟨g1, 1, none⟩), []⟩, ⟨.quiet, [none, none], fun _ => .int .i64 y.off, [2]⟩, ⟨.quiet, [none, none], fun _ => .pointer (some ⟨g1, 2, none⟩), []⟩, ⟨.quiet, [none, none], fun _ => .slice y.A y.d.length y.c, [4]⟩, ⟨.actv 1, [some true, some false], fun _ => .tuple #[.bool false, .int .i64 ((i * 256 : Nat) : Int)], [0, 1, 3, 5]⟩, ⟨.quiet, [some true, some true], fun _ => .tuple #[.bool false, .int .i64 ((i * 256 : Nat) : Int)], [6]⟩, ⟨.quiet, [some true, some true], fun _ => .bool false, [7]⟩, ⟨.quiet, [some true, some true], fun _ => .int .i64 ((i * 256 : Nat) : Int), [7]⟩, ⟨.quiet, [some true, some true], fun _ => .bool false, [8]⟩] [(2, v1), (6, .bool false), (7, x.v), (8, .pointer (some ⟨g, 0, none⟩)), (9, .int .i64 ((i * 256 : Nat) : Int)), (10, .int .i64 (i : Int)), (29, .int .i64 (i : Int)), (30, .bool true), (33, .int .i64 (i : Int)), (34, v1), (35, .int .i64 (l.length : Int)), (36, .bool true), (37, v1), (38, .int .i64 (i : Int)), (39, elp v1 (i * 6)), (40, .agg (encSk y).toArray), (11, .pointer (some ⟨g1, 0, none⟩)), (41, .pointer (some ⟨g1, 1, none⟩)), (42, .int .i64 y.off), (43, .int .i64 ((i * 256 : Nat) : Int)), (44, .bool true), (45, .bool true), (46, .pointer (some ⟨g1, 1, none⟩)), (47, .int .i64 y.off), (48, .int .i64 q5), (49, .bool true), (50, .bool true)] (fun ρ => match ρ with | [rq0, rq1] => [cell g1 44 #[.int .u64 y.b, .int .i64 y.off, .slice y.A y.d.length y.c, .bool y.la, .bool y.nr, .int .i64 y.what], selS rq1 (fun _ => TkT 50 g 1 2 14 (x.l.take (i * 256))) (TkT 50 g bi bt bc (x.l.take (i * 256))), Vec 5 1 encB x.v x.l, X] | _ => []) (by kernel_rfl) (by kernel_rfl) ⟨rfl, rfl, rfl, rfl, rfl, rfl, rfl, rfl, rfl, rfl, rfl, rfl, rfl, rfl, rfl, rfl, rfl, rfl, rfl, rfl, rfl, rfl, rfl, rfl, rfl, rfl, rfl, trivial⟩ rfl ?_ ?_
      · skip
        refine s_cons (by intro r0_ r1_; exact ⟨rfl, fun b w hH hb => exec_q1 hflS rfl hb⟩) ?_
        refine s_cons (by exact ⟨rfl, Acts.su (a_call (ent_of Try.func11 (by kernel_rfl) rfl) (fun w hH => ck_b w 0 1 (by decide) (by decide)) rfl rfl rfl) rfl⟩) ?_
        refine s_cons (by intro r0_ r1_; exact ⟨rfl, fun b w hH hb => exec_q1 hflS rfl hb⟩) ?_
        refine s_cons (by intro r0_ r1_; exact ⟨rfl, fun b w hH hb => exec_load rfl rfl (reads_one ty_int rfl) (hH.row 0 rfl) hb⟩) ?_
        refine s_cons (by intro r0_ r1_; exact ⟨rfl, fun b w hH hb => exec_q1 hflS rfl hb⟩) ?_
        refine s_cons (by intro r0_ r1_; exact ⟨rfl, fun b w hH hb => exec_load rfl rfl (reads_one ty_s_uint8 rfl) (hH.row 0 rfl) hb⟩) ?_
        refine s_cons (by intro v0_; exact ⟨rfl, Acts.su (a_does (os' := fun _ => [cell g1 44 #[.int .u64 y.b, .int .i64 y.off, .slice y.A y.d.length y.c, .bool y.la, .bool y.nr, .int .i64 y.what], TkT 50 g 1 2 14 (x.l.take (i * 256)), Vec 5 1 encB x.v x.l, X]) [1, 3] 0 (ent_of Try.func10 (by kernel_rfl) rfl) (ck_takeN X (.slice y.A y.d.length y.c) y.d (hXe y hmy) (by omega) g bi bt bc 1 2 14 (x.l.take (i * 256)) (by omega) y.off hoyo false (x.l.take (i * 256)) (keep_at hI1) false (x.l.take (i * 256)) (takeL_no (fun h => hof2 (by omega))) ((i * 256 : Nat) : Int) (by omega)) rfl rfl rfl (fun _ => rfl) rfl rfl rfl) rfl⟩) ?_
        refine s_cons (by intro v0_ v1_; exact ⟨rfl, fun b w hH hb => exec_q1 hflS rfl hb⟩) ?_
        refine s_cons (by intro v0_ v1_; exact ⟨rfl, fun b w hH hb => exec_q1 hflS rfl hb⟩) ?_
        refine s_cons (by intro v0_ v1_; exact ⟨rfl, fun b w hH hb => exec_q1 hflS rfl hb⟩) ?_
        refine s_cons (by intro v0_ v1_; exact ⟨rfl, fun b w hH hb => exec_q1 hflS rfl hb⟩) ?_
        exact s_nil
      intro v0_ v1_
      refine WL2.keep (env' := [(2, v1), (6, .bool false), (7, x.v), (8, .pointer (some ⟨g, 0, none⟩)), (9, .int .i64 ((i * 256 : Nat) : Int)), (10, .int .i64 (i : Int)), (29, .int .i64 (i : Int)), (30, .bool true), (33, .int .i64 (i : Int)), (34, v1), (35, .int .i64 (l.length : Int)), (36, .bool true), (37, v1), (38, .int .i64 (i : Int)), (39, elp v1 (i * 6)), (40, .agg (encSk y).toArray), (11, .pointer (some ⟨g1, 0, none⟩)), (41, .pointer (some ⟨g1, 1, none⟩)), (42, .int .i64 y.off), (43, .int .i64 ((i * 256 : Nat) : Int)), (44, .bool true), (45, .bool true), (46, .pointer (some ⟨g1, 1, none⟩)), (47, .int .i64 y.off), (48, .int .i64 q5), (49, .bool true), (50, .bool true), (52, .pointer (some ⟨g, 0, none⟩)), (53, .agg #[.int .u64 1, .int .u64 2, .int .i64 14]), (54, .pointer (some ⟨g1, 1, none⟩)), (55, .int .i64 y.off), (56, .pointer (some ⟨g1, 2, none⟩)), (57, .slice y.A y.d.length y.c), (58, .tuple #[.bool false, .int .i64 ((i * 256 : Nat) : Int)]), (51, .tuple #[.bool false, .int .i64 ((i * 256 : Nat) : Int)]), (59, .bool false), (60, .int .i64 ((i * 256 : Nat) : Int))]) ⟨rfl, rfl, rfl, rfl, rfl, rfl, rfl, rfl, rfl, rfl, rfl, rfl, rfl, rfl, rfl, rfl, rfl, rfl, rfl, rfl, rfl, rfl, rfl, rfl, rfl, rfl, rfl, rfl, rfl, rfl, rfl, rfl, rfl, rfl, rfl, rfl, rfl, trivial⟩ ?_
      refine h_q hflS rfl ?_
      refine h_nil (f_to (d_reg ?_))
      refine h_q hflS rfl ?_
      refine h_val rfl (.bool false) (fun b w hb hH => exec_cmp rfl rfl rfl (cmp_neq_f (by omega)) hb) ?_
      refine h_done (d_else rfl (d_skip (f_to (d_reg ?_))))
      refine h_q hflS rfl ?_
      refine h_act (post := fun u => [Vec 5 1 encB u r, cell g1 44 #[.int .u64 y.b, .int .i64 y.off, .slice y.A y.d.length y.c, .bool y.la, .bool y.nr, .int .i64 y.what], TkT 50 g 1 2 14 (x.l.take (i * 256)), Vec 5 1 encB x.v x.l, X]) rfl (a_does (os' := fun u => [Vec 5 1 encB u r, cell g1 44 #[.int .u64 y.b, .int .i64 y.off, .slice y.A y.d.length y.c, .bool y.la, .bool y.nr, .int .i64 y.what], TkT 50 g 1 2 14 (x.l.take (i * 256)), Vec 5 1 encB x.v x.l, X]) [2] 0 (ent_of Try.func8 (by kernel_rfl) rfl) (cut_does (Vec 5 1 encB x.v x.l) x.v x.l rd8_vec (by omega) (i * 256) hI2 last hla r hr) rfl rfl rfl (fun _ => rfl) rfl rfl rfl) ?_; rintro u
      refine h_q hflS rfl ?_
      refine h_done (d_reg ?_)
      refine h_q hflS rfl ?_
      refine h_act (post := fun _ => [Vec 5 1 encB u r, cell g1 44 #[.int .u64 y.b, .int .i64 y.off, .slice y.A y.d.length y.c, .bool y.la, .bool y.nr, .int .i64 y.what], TkT 50 g 1 2 14 (x.l.take (i * 256)), Vec 5 1 encB x.v x.l, X]) rfl (a_call (ent_of Try.func11 (by kernel_rfl) rfl) (fun w hH => ck_b w 0 1 (by decide) (by decide)) rfl rfl rfl) ?_; rintro ⟨⟩
      refine h_q hflS rfl ?_
      refine h_act (post := fun _ => [Vec 5 1 encB u r, cell g1 44 #[.int .u64 y.b, .int .i64 y.off, .slice y.A y.d.length y.c, .bool y.la, .bool y.nr, .int .i64 y.what], TkT 50 g 1 2 14 (x.l.take ((i + 1) * 256)), Vec 5 1 encB x.v x.l, X]) rfl (a_does (os' := fun _ => [Vec 5 1 encB u r, cell g1 44 #[.int .u64 y.b, .int .i64 y.off, .slice y.A y.d.length y.c, .bool y.la, .bool y.nr, .int .i64 y.what], TkT 50 g 1 2 14 (x.l.take ((i + 1) * 256)), Vec 5 1 encB x.v x.l, X]) [2, 0] 0 (ent_of Try.func10 (by kernel_rfl) rfl) (ck_takeN (Vec 5 1 encB u r) u r rd8_vec (by omega) g 1 2 14 1 2 14 (x.l.take (i * 256)) (by omega) ((i * 256 : Nat) : Int) (by omega) last (x.l.take (i * 256)) (keepL_same ..) last (x.l.take ((i + 1) * 256)) (takeL_yes ⟨by omega, by omega⟩ (back_next hr)) (N9 : Int) (by omega)) rfl rfl rfl (fun _ => rfl) rfl rfl rfl) ?_; rintro ⟨⟩
      refine h_q hflS rfl ?_
      refine h_done (d_seq (d_reg ?_))
      refine h_q hflS rfl ?_
      refine h_val rfl (.int .i64 (r.length : Int)) (fun b w hb hH => e_vlen 0 Try.underlying22 rfl rfl rfl hH hb) ?_
      refine h_val rfl (.int .i64 (N9 : Int)) (fun b w hb hH => exec_ar rfl rfl rfl rfl (by rw [IntWalk.i64_in _ (by omega)]; omega) hb) ?_
      refine h_val rfl (.bool false) (fun b w hb hH => exec_cmp rfl rfl rfl (cmp_neq_f (by simp)) hb) ?_
      refine h_q hflS rfl ?_
      refine h_val rfl (.bool false) (fun b w hb hH => exec_nes (neB_same _) rfl rfl rfl hb) ?_
      refine h_q hflS rfl ?_
      refine h_done (d_else rfl (d_skip (f_to (d_reg ?_))))
      refine h_q hflS rfl ?_
      refine h_done ?_
      cases last
      · skip
        have hd1 : ¬ x.l.length ≤ i * 256 + 256 := of_decide_eq_false hla
        obtain rfl : N9 = (i + 1) * 256 := by omega
        refine d_reg ?_
        refine h_q hflS rfl ?_
        refine h_done (d_else rfl (d_skip (f_block (f_to (d_reg1 ?_)))))
        refine h_q hflS rfl ?_
        refine h_val rfl (.int .i64 ((i + 1 : Nat) : Int)) (fun b w hb hH => exec_ar rfl rfl rfl rfl (by rw [IntWalk.i64_in _ (by omega)]; omega) hb) ?_
        refine h_q hflS rfl ?_
        refine h_nil ?_
        exact f_again (i + 1, 1, 2, 14) 2 ⟨.inl ⟨rfl, rfl, rfl⟩, by omega⟩ (show 1500 - (i + 1) * 256 < 1500 - i * 256 by omega) ⟨rfl, rfl, rfl, rfl, rfl, rfl, trivial⟩ rfl
      · skip
        have hd1 : x.l.length ≤ i * 256 + 256 := of_decide_eq_true hla
        have hxe : x.l.take ((i + 1) * 256) = x.l := List.take_of_length_le (by omega)
        refine d_reg ?_
        refine h_q hflS rfl ?_
        refine h_done (d_then rfl (d_seq ?_))
        refine d_emps 1 rfl ?_
        refine d_parS 12 3 [⟨.quiet, [none, none, none], fun _ => .pointer (some ⟨g, 0, none⟩), []⟩, ⟨.act 0, [some false, some false, some false], fun _ => undef, [0]⟩, ⟨.quiet, [some true, none, none], fun _ => .string (bs (x.l.take ((i + 1) * 256))), [1]⟩, ⟨.quiet, [none, none, none], fun _ => x.v, []⟩, ⟨.quiet, [none, none, none], fun _ => .string (bs x.l), [3]⟩, ⟨.quiet, [some true, none, none], fun _ => .bool true, [2, 4]⟩, ⟨.quiet, [some true, none, none], fun _ => .bool true, [5]⟩, ⟨.quiet, [some true, none, none], fun _ => .pointer (some ⟨g, 0, none⟩), [6]⟩, ⟨.actv 1, [some true, some false, some false], fun _ => .agg #[.int .u64 1, .int .u64 2, .int .i64 14], [7, 6]⟩, ⟨.actv 2, [some true, some true, some false], fun _ => .agg #[.int .u64 1, .int .u64 2, .int .i64 14], [6]⟩, ⟨.quiet, [some true, some true, some true], fun _ => .bool true, [8, 9, 6]⟩, ⟨.quiet, [some true, some true, some true], fun _ => .bool true, [6, 10]⟩] [(2, v1), (6, .bool false), (7, x.v), (8, .pointer (some ⟨g, 0, none⟩)), (10, .int .i64 (i : Int)), (29, .int .i64 (i : Int)), (30, .bool true), (33, .int .i64 (i : Int)), (34, v1), (35, .int .i64 (l.length : Int)), (36, .bool true), (37, v1), (38, .int .i64 (i : Int)), (39, elp v1 (i * 6)), (40, .agg (encSk y).toArray), (11, .pointer (some ⟨g1, 0, none⟩)), (41, .pointer (some ⟨g1, 1, none⟩)), (42, .int .i64 y.off), (43, .int .i64 ((i * 256 : Nat) : Int)), (44, .bool true), (45, .bool true), (46, .pointer (some ⟨g1, 1, none⟩)), (47, .int .i64 y.off), (48, .int .i64 q5), (49, .bool true), (50, .bool true), (52, .pointer (some ⟨g, 0, none⟩)), (53, .agg #[.int .u64 1, .int .u64 2, .int .i64 14]), (54, .pointer (some ⟨g1, 1, none⟩)), (55, .int .i64 y.off), (56, .pointer (some ⟨g1, 2, none⟩)), (57, .slice y.A y.d.length y.c), (58, .tuple #[.bool false, .int .i64 ((i * 256 : Nat) : Int)]), (51, .tuple #[.bool false, .int .i64 ((i * 256 : Nat) : Int)]), (59, .bool false), (60, .int .i64 ((i * 256 : Nat) : Int)), (13, .int .i64 ((i * 256 : Nat) : Int)), (61, .int .i64 ((i * 256 : Nat) : Int)), (62, .int .i64 ((i * 256 : Nat) : Int)), (63, .bool false), (65, x.v), (66, .int .i64 ((i * 256 : Nat) : Int)), (67, .tuple #[u, .bool true, .bool true]), (64, .tuple #[u, .bool true, .bool true]), (68, u), (69, .bool true), (70, .bool true), (14, u), (15, .bool true), (16, .bool true), (72, .pointer (some ⟨g, 0, none⟩)), (73, .agg #[.int .u64 1, .int .u64 2, .int .i64 14]), (74, .int .i64 ((i * 256 : Nat) : Int)), (75, u), (76, .bool true), (77, .tuple #[.bool true, .int .i64 (N9 : Int)]), (71, .tuple #[.bool true, .int .i64 (N9 : Int)]), (78, .bool true), (79, .int .i64 (N9 : Int)), (17, .bool true), (18, .int .i64 (N9 : Int)), (80, .bool true), (81, .bool false), (82, .bool false), (83, .int .i64 (N9 : Int)), (84, .int .i64 ((i * 256 : Nat) : Int)), (85, u), (86, .int .i64 (r.length : Int)), (87, .int .i64 (N9 : Int)), (88, .bool false), (89, .bool false), (90, .bool false), (91, .bool true), (92, .bool true), (93, .bool false), (94, .bool false), (95, .int .i64 (N9 : Int)), (9, .int .i64 (N9 : Int)), (96, .bool true)] (fun ρ => match ρ with | [rq0, rq1, rq2] => [selS rq0 (fun dv => Vec 5 1 encB dv (x.l.take ((i + 1) * 256))) (emp), Vec 5 1 encB u r, cell g1 44 #[.int .u64 y.b, .int .i64 y.off, .slice y.A y.d.length y.c, .bool y.la, .bool y.nr, .int .i64 y.what], TkT 50 g 1 2 14 (x.l.take ((i + 1) * 256)), Vec 5 1 encB x.v x.l, X] | _ => []) (by kernel_rfl) (by kernel_rfl) ⟨rfl, rfl, rfl, rfl, rfl, rfl, rfl, rfl, rfl, rfl, rfl, rfl, rfl, rfl, rfl, rfl, rfl, rfl, rfl, rfl, rfl, rfl, rfl, rfl, rfl, rfl, rfl, rfl, rfl, rfl, rfl, rfl, rfl, rfl, rfl, rfl, rfl, rfl, rfl, rfl, rfl, rfl, rfl, rfl, rfl, rfl, rfl, rfl, rfl, rfl, rfl, rfl, rfl, rfl, rfl, rfl, rfl, rfl, rfl, rfl, rfl, rfl, rfl, rfl, rfl, rfl, rfl, rfl, rfl, rfl, rfl, rfl, rfl, rfl, rfl, rfl, rfl, rfl, rfl, trivial⟩ rfl ?_ ?_
        · skip
          refine s_cons (by intro r0_ r1_ r2_; exact ⟨rfl, fun b w hH hb => exec_q1 hflS rfl hb⟩) ?_
          refine s_cons (by exact ⟨rfl, Acts.s (a_does (os' := fun dv => [Vec 5 1 encB dv (x.l.take ((i + 1) * 256)), Vec 5 1 encB u r, cell g1 44 #[.int .u64 y.b, .int .i64 y.off, .slice y.A y.d.length y.c, .bool y.la, .bool y.nr, .int .i64 y.what], TkT 50 g 1 2 14 (x.l.take ((i + 1) * 256)), Vec 5 1 encB x.v x.l, X]) [3, 0] 1 (ent_of Try.func15 (by kernel_rfl) rfl) (ck_data g 1 2 14 (x.l.take ((i + 1) * 256)) (by omega)) rfl rfl rfl (fun _ => rfl) rfl rfl rfl) (fun _ => rfl)⟩) ?_
          refine s_cons (by intro dv r1_ r2_; exact ⟨rfl, fun b w hH hb => exec_str8 Try.underlying22 Try.underlying5 (by kernel_rfl) Try.underlying9 (hH.sl8 0 rfl) rfl rfl hb⟩) ?_
          refine s_cons (by intro r0_ r1_ r2_; exact ⟨rfl, fun b w hH hb => exec_q1 hflS rfl hb⟩) ?_
          refine s_cons (by intro r0_ r1_ r2_; exact ⟨rfl, fun b w hH hb => exec_str8 Try.underlying22 Try.underlying5 (by kernel_rfl) Try.underlying9 (hH.sl8 4 rfl) rfl rfl hb⟩) ?_
          refine s_cons (by intro dv r1_ r2_; exact ⟨rfl, fun b w hH hb => exec_same rfl rfl rfl (by rw [hxe]; simp) hb⟩) ?_
          refine s_cons (by intro dv r1_ r2_; exact ⟨rfl, fun b w hH hb => exec_q1 hflS rfl hb⟩) ?_
          refine s_cons (by intro dv r1_ r2_; exact ⟨rfl, fun b w hH hb => exec_q1 hflS rfl hb⟩) ?_
          refine s_cons (by intro dv; exact ⟨rfl, Acts.su (a_does (os' := fun _ => [Vec 5 1 encB dv (x.l.take ((i + 1) * 256)), Vec 5 1 encB u r, cell g1 44 #[.int .u64 y.b, .int .i64 y.off, .slice y.A y.d.length y.c, .bool y.la, .bool y.nr, .int .i64 y.what], TkT 50 g 1 2 14 (x.l.take ((i + 1) * 256)), Vec 5 1 encB x.v x.l, X]) [3] 0 (ent_of Try.func14 (by kernel_rfl) rfl) (ck_base g 1 2 14 (x.l.take ((i + 1) * 256))) rfl rfl rfl (fun _ => rfl) rfl rfl rfl) rfl⟩) ?_
          refine s_cons (by intro dv v1_; exact ⟨rfl, Acts.su (a_call (ent_of Try.func11 (by kernel_rfl) rfl) (fun w hH => ck_b w 0 1 (by decide) (by decide)) rfl rfl rfl) rfl⟩) ?_
          refine s_cons (by intro dv v1_ v2_; exact ⟨rfl, fun b w hH hb => exec_eqs (eqBaseT 1 2 14) rfl rfl rfl hb⟩) ?_
          refine s_cons (by intro dv v1_ v2_; exact ⟨rfl, fun b w hH hb => exec_q1 hflS rfl hb⟩) ?_
          exact s_nil
        intro dv v1_ v2_
        refine WL2.keep (env' := [(2, v1), (6, .bool false), (7, x.v), (8, .pointer (some ⟨g, 0, none⟩)), (10, .int .i64 (i : Int)), (29, .int .i64 (i : Int)), (30, .bool true), (33, .int .i64 (i : Int)), (34, v1), (35, .int .i64 (l.length : Int)), (36, .bool true), (37, v1), (38, .int .i64 (i : Int)), (39, elp v1 (i * 6)), (40, .agg (encSk y).toArray), (11, .pointer (some ⟨g1, 0, none⟩)), (41, .pointer (some ⟨g1, 1, none⟩)), (42, .int .i64 y.off), (43, .int .i64 ((i * 256 : Nat) : Int)), (44, .bool true), (45, .bool true), (46, .pointer (some ⟨g1, 1, none⟩)), (47, .int .i64 y.off), (48, .int .i64 q5), (49, .bool true), (50, .bool true), (52, .pointer (some ⟨g, 0, none⟩)), (53, .agg #[.int .u64 1, .int .u64 2, .int .i64 14]), (54, .pointer (some ⟨g1, 1, none⟩)), (55, .int .i64 y.off), (56, .pointer (some ⟨g1, 2, none⟩)), (57, .slice y.A y.d.length y.c), (58, .tuple #[.bool false, .int .i64 ((i * 256 : Nat) : Int)]), (51, .tuple #[.bool false, .int .i64 ((i * 256 : Nat) : Int)]), (59, .bool false), (60, .int .i64 ((i * 256 : Nat) : Int)), (13, .int .i64 ((i * 256 : Nat) : Int)), (61, .int .i64 ((i * 256 : Nat) : Int)), (62, .int .i64 ((i * 256 : Nat) : Int)), (63, .bool false), (65, x.v), (66, .int .i64 ((i * 256 : Nat) : Int)), (67, .tuple #[u, .bool true, .bool true]), (64, .tuple #[u, .bool true, .bool true]), (68, u), (69, .bool true), (70, .bool true), (14, u), (15, .bool true), (16, .bool true), (72, .pointer (some ⟨g, 0, none⟩)), (73, .agg #[.int .u64 1, .int .u64 2, .int .i64 14]), (74, .int .i64 ((i * 256 : Nat) : Int)), (75, u), (76, .bool true), (77, .tuple #[.bool true, .int .i64 (N9 : Int)]), (71, .tuple #[.bool true, .int .i64 (N9 : Int)]), (78, .bool true), (79, .int .i64 (N9 : Int)), (17, .bool true), (18, .int .i64 (N9 : Int)), (80, .bool true), (81, .bool false), (82, .bool false), (83, .int .i64 (N9 : Int)), (84, .int .i64 ((i * 256 : Nat) : Int)), (85, u), (86, .int .i64 (r.length : Int)), (87, .int .i64 (N9 : Int)), (88, .bool false), (89, .bool false), (90, .bool false), (91, .bool true), (92, .bool true), (93, .bool false), (94, .bool false), (95, .int .i64 (N9 : Int)), (9, .int .i64 (N9 : Int)), (96, .bool true), (97, .pointer (some ⟨g, 0, none⟩)), (98, dv), (99, .string (bs (x.l.take ((i + 1) * 256)))), (100, x.v), (101, .string (bs x.l)), (102, .bool true), (103, .bool true), (104, .pointer (some ⟨g, 0, none⟩)), (105, .agg #[.int .u64 1, .int .u64 2, .int .i64 14]), (106, .agg #[.int .u64 1, .int .u64 2, .int .i64 14]), (107, .bool true), (108, .bool true)]) ⟨rfl, rfl, rfl, rfl, rfl, rfl, rfl, rfl, rfl, rfl, rfl, rfl, rfl, rfl, rfl, rfl, rfl, rfl, rfl, rfl, rfl, rfl, rfl, rfl, rfl, rfl, rfl, rfl, rfl, rfl, rfl, rfl, rfl, rfl, rfl, rfl, rfl, rfl, rfl, rfl, rfl, rfl, rfl, rfl, rfl, rfl, rfl, rfl, rfl, rfl, rfl, rfl, rfl, rfl, rfl, rfl, rfl, rfl, rfl, rfl, rfl, rfl, rfl, rfl, rfl, rfl, rfl, rfl, rfl, rfl, rfl, rfl, rfl, rfl, rfl, rfl, rfl, rfl, rfl, rfl, rfl, rfl, rfl, rfl, rfl, rfl, rfl, rfl, rfl, rfl, rfl, trivial⟩ ?_
        refine h_q hflS rfl ?_
        refine h_nil (f_to (d_ret (f_block_ret (f_then_ret (f_then_ret (f_block_ret (f_then_ret ?_)))))))
        exact f_fin1 (.tmp rfl) (fun w h => tells () rfl [5] rfl h same_parts) rfl
end Go.Proofs.Ytikcleaicbihfaa.Sep
