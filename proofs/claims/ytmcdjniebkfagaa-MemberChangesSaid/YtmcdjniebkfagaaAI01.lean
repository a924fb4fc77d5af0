/-
  MbC
-/
import Derived.Test.YtmcdjniebkfagaaAH01
set_option linter.unusedSimpArgs false
set_option linter.unusedVariables false

namespace Go.Proofs.Ytmcdjniebkfagaa.Sep
open Go.RowKit
open Go.Proofs.Ytmcdjniebkfagaa.Mem (Dist Blk Chg below0)

set_option maxRecDepth 100000 in
theorem changes_true (w : World) (set node : Int) (is : Bool) (hset : -9223372036854775808 ≤ set ∧ set ≤ 9223372036854775807) (hnode : -9223372036854775808 ≤ node ∧ node ≤ 9223372036854775807)  : Calls Try.prog 6 #[.int .i64 set, .int .i64 node, .bool is] w fun e w' => e = .returned (.bool true) ∧ Below w.heap.size w w' := by
  obtain ⟨s, hs0⟩ : ∃ s, nearM set is = s := ⟨_, rfl⟩
  have hss := near_i64 hset is
  rw [hs0] at hss
  refine d_in (args := [.int .i64 set, .int .i64 node, .bool is]) 93 Try.func6 rfl rfl rfl ?_
  refine d_reg ?_
  refine h_q hflS rfl ?_
  refine h_done ?_
  cases is
  · skip
    obtain ⟨A, hA⟩ : ∃ A, addM s node = A := ⟨_, rfl⟩
    obtain ⟨D, hD⟩ : ∃ D, remM s node = D := ⟨_, rfl⟩
    refine d_reg ?_
    refine h_q hflS rfl ?_
    refine h_act (post := fun _ => []) rfl (a_call (ent_of Try.func18 (by kernel_rfl) rfl) (fun w hH => near_any w set hset false s hs0) rfl rfl rfl) ?_; rintro ⟨⟩
    refine h_q hflS rfl ?_
    refine h_done (d_seq (d_reg ?_))
    refine h_q hflS rfl ?_
    refine h_done (d_else rfl (d_skip (f_to (d_reg ?_))))
    refine h_q hflS rfl ?_
    refine h_act (post := fun _ => []) rfl (a_call (ent_of Try.func13 (by kernel_rfl) rfl) (fun w hH => add_any w s hss node A hA) rfl rfl rfl) ?_; rintro ⟨⟩
    refine h_q hflS rfl ?_
    refine h_done (d_reg ?_)
    refine h_q hflS rfl ?_
    refine h_act (post := fun _ => []) rfl (a_call (ent_of Try.func27 (by kernel_rfl) rfl) (fun w hH => radd_any w s hss node A hA) rfl rfl rfl) ?_; rintro ⟨⟩
    refine h_q hflS rfl ?_
    refine h_done (d_reg ?_)
    refine h_q hflS rfl ?_
    refine h_act (post := fun _ => []) rfl (a_call (ent_of Try.func11 (by kernel_rfl) rfl) (fun w hH => rem_any w s hss node D hD) rfl rfl rfl) ?_; rintro ⟨⟩
    refine h_q hflS rfl ?_
    refine h_done (d_reg ?_)
    refine h_q hflS rfl ?_
    refine h_act (post := fun _ => []) rfl (a_call (ent_of Try.func28 (by kernel_rfl) rfl) (fun w hH => rrem_any w s hss node D hD) rfl rfl rfl) ?_; rintro ⟨⟩
    refine h_q hflS rfl ?_
    refine h_done (d_seq ?_)
    by_cases he : A.2 = 0
    obtain ⟨_, _, _, hr2, hcs⟩ := add_rem hA he
    have hr3 := rs_iff.1 hr2
    rcases hcs with ⟨h0, hq⟩ | ⟨h0, hq⟩
    · skip
      refine d_reg ?_
      refine h_q hflS rfl ?_
      refine h_act (post := fun _ => []) rfl (a_call (ent_of Try.func14 (by kernel_rfl) rfl) (fun w hH => Run.known_calls w) rfl rfl rfl) ?_; rintro ⟨⟩
      refine h_q hflS rfl ?_
      refine h_val rfl (.bool false) (fun b w hb hH => exec_cmp rfl rfl rfl (cmp_neq_f rfl) hb) ?_
      refine h_q hflS rfl ?_
      refine h_val rfl (.bool false) (fun b w hb hH => exec_cmp rfl rfl rfl (cmp_neq_f rfl) hb) ?_
      refine h_q hflS rfl ?_
      refine h_val rfl (.bool false) (fun b w hb hH => exec_cmp rfl rfl rfl (cmp_neq_f rfl) hb) ?_
      refine h_q hflS rfl ?_
      refine h_val rfl (.bool false) (fun b w hb hH => exec_cmp rfl rfl rfl (cmp_neq_f rfl) hb) ?_
      refine h_q hflS rfl ?_
      refine h_done ?_
      refine WC2.keep (env' := [(1, .int .i64 node), (6, .bool false), (0, .int .i64 s), (7, .int .i64 A.1), (8, .int .i64 A.2), (69, .bool false)]) ⟨rfl, rfl, rfl, rfl, rfl, rfl, trivial⟩ ?_
      refine d_else rfl (d_skip (f_to (d_seq (d_reg ?_))))
      refine h_q hflS rfl ?_
      refine h_val rfl (.bool false) (fun b w hb hH => exec_cmp rfl rfl rfl (cmp_neq_f he) hb) ?_
      refine h_done (d_else rfl (d_skip (f_to (d_reg ?_))))
      refine h_q hflS rfl ?_
      refine h_act (post := fun _ => []) rfl (a_call (ent_of Try.func11 (by kernel_rfl) rfl) (fun w hH => rem_any w A.1 ⟨by omega, by omega⟩ node _ hq) rfl rfl rfl) ?_; rintro ⟨⟩
      refine h_q hflS rfl ?_
      refine h_done (d_reg ?_)
      refine h_q hflS rfl ?_
      refine h_val rfl (.bool true) (fun b w hb hH => exec_cmp rfl rfl rfl (cmp_eql_t h0) hb) ?_
      refine h_q hflS rfl ?_
      refine h_val rfl (.bool true) (fun b w hb hH => exec_cmp rfl rfl rfl (cmp_eql_t rfl) hb) ?_
      refine h_q hflS rfl ?_
      refine h_done (d_ret ?_)
      exact f_fin1 (.tmp rfl) (fun w h => ⟨rfl, below0 h.up⟩) rfl
    · skip
      refine d_reg ?_
      refine h_q hflS rfl ?_
      refine h_act (post := fun _ => []) rfl (a_call (ent_of Try.func14 (by kernel_rfl) rfl) (fun w hH => Run.known_calls w) rfl rfl rfl) ?_; rintro ⟨⟩
      refine h_q hflS rfl ?_
      refine h_val rfl (.bool false) (fun b w hb hH => exec_cmp rfl rfl rfl (cmp_neq_f rfl) hb) ?_
      refine h_q hflS rfl ?_
      refine h_val rfl (.bool false) (fun b w hb hH => exec_cmp rfl rfl rfl (cmp_neq_f rfl) hb) ?_
      refine h_q hflS rfl ?_
      refine h_val rfl (.bool false) (fun b w hb hH => exec_cmp rfl rfl rfl (cmp_neq_f rfl) hb) ?_
      refine h_q hflS rfl ?_
      refine h_val rfl (.bool false) (fun b w hb hH => exec_cmp rfl rfl rfl (cmp_neq_f rfl) hb) ?_
      refine h_q hflS rfl ?_
      refine h_done ?_
      refine WC2.keep (env' := [(1, .int .i64 node), (6, .bool false), (0, .int .i64 s), (7, .int .i64 A.1), (8, .int .i64 A.2), (69, .bool false)]) ⟨rfl, rfl, rfl, rfl, rfl, rfl, trivial⟩ ?_
      refine d_else rfl (d_skip (f_to (d_seq (d_reg ?_))))
      refine h_q hflS rfl ?_
      refine h_val rfl (.bool false) (fun b w hb hH => exec_cmp rfl rfl rfl (cmp_neq_f he) hb) ?_
      refine h_done (d_else rfl (d_skip (f_to (d_reg ?_))))
      refine h_q hflS rfl ?_
      refine h_act (post := fun _ => []) rfl (a_call (ent_of Try.func11 (by kernel_rfl) rfl) (fun w hH => rem_any w A.1 ⟨by omega, by omega⟩ node _ hq) rfl rfl rfl) ?_; rintro ⟨⟩
      refine h_q hflS rfl ?_
      refine h_done (d_reg ?_)
      refine h_q hflS rfl ?_
      refine h_val rfl (.bool false) (fun b w hb hH => exec_cmp rfl rfl rfl (cmp_eql_f h0) hb) ?_
      refine h_q hflS rfl ?_
      refine h_val rfl (.bool true) (fun b w hb hH => exec_cmp rfl rfl rfl (cmp_eql_t rfl) hb) ?_
      refine h_q hflS rfl ?_
      refine h_val rfl (.bool true) (fun b w hb hH => exec_cmp rfl rfl rfl (cmp_eql_t rfl) hb) ?_
      refine h_q hflS rfl ?_
      refine h_done (d_ret ?_)
      exact f_fin1 (.tmp rfl) (fun w h => ⟨rfl, below0 h.up⟩) rfl
    · skip
      refine d_reg ?_
      refine h_q hflS rfl ?_
      refine h_act (post := fun _ => []) rfl (a_call (ent_of Try.func14 (by kernel_rfl) rfl) (fun w hH => Run.known_calls w) rfl rfl rfl) ?_; rintro ⟨⟩
      refine h_q hflS rfl ?_
      refine h_val rfl (.bool false) (fun b w hb hH => exec_cmp rfl rfl rfl (cmp_neq_f rfl) hb) ?_
      refine h_q hflS rfl ?_
      refine h_val rfl (.bool false) (fun b w hb hH => exec_cmp rfl rfl rfl (cmp_neq_f rfl) hb) ?_
      refine h_q hflS rfl ?_
      refine h_val rfl (.bool false) (fun b w hb hH => exec_cmp rfl rfl rfl (cmp_neq_f rfl) hb) ?_
      refine h_q hflS rfl ?_
      refine h_val rfl (.bool false) (fun b w hb hH => exec_cmp rfl rfl rfl (cmp_neq_f rfl) hb) ?_
      refine h_q hflS rfl ?_
      refine h_done ?_
      refine WC2.keep (env' := [(1, .int .i64 node), (6, .bool false), (0, .int .i64 s), (7, .int .i64 A.1), (8, .int .i64 A.2), (69, .bool false)]) ⟨rfl, rfl, rfl, rfl, rfl, rfl, trivial⟩ ?_
      refine d_else rfl (d_skip (f_to (d_seq (d_reg ?_))))
      refine h_q hflS rfl ?_
      refine h_val rfl (.bool true) (fun b w hb hH => exec_cmp rfl rfl rfl (cmp_neq_t he) hb) ?_
      refine h_done (d_then rfl (d_reg ?_))
      refine h_q hflS rfl ?_
      refine h_done (d_ret (f_then_ret ?_))
      exact f_fin1 (.tmp rfl) (fun w h => ⟨rfl, below0 h.up⟩) rfl
  · skip
    obtain ⟨q, hq⟩ : ∃ q, node % 10 = q := ⟨_, rfl⟩
    obtain ⟨n, hn⟩ : ∃ n, q - 1 = n := ⟨_, rfl⟩
    obtain ⟨A, hA⟩ : ∃ A, addM s n = A := ⟨_, rfl⟩
    obtain ⟨D, hD⟩ : ∃ D, remM s n = D := ⟨_, rfl⟩
    refine d_reg ?_
    refine h_q hflS rfl ?_
    refine h_act (post := fun _ => []) rfl (a_call (ent_of Try.func18 (by kernel_rfl) rfl) (fun w hH => near_any w set hset true s hs0) rfl rfl rfl) ?_; rintro ⟨⟩
    refine h_q hflS rfl ?_
    refine h_done (d_seq (d_reg ?_))
    refine h_q hflS rfl ?_
    refine h_done (d_then rfl (d_reg1 ?_))
    refine h_q hflS rfl ?_
    refine h_act (post := fun _ => []) rfl (a_call (ent_of Try.func19 (by kernel_rfl) rfl) (fun w hH => pick w node 10 hnode (by decide) hq) rfl rfl rfl) ?_; rintro ⟨⟩
    refine h_val rfl (.int .i64 n) (fun b w hb hH => exec_ar rfl rfl rfl rfl ((IntWalk.i64_in _ (by omega)).trans hn) hb) ?_
    refine h_q hflS rfl ?_
    refine h_nil (f_to (d_reg ?_))
    refine h_q hflS rfl ?_
    refine h_act (post := fun _ => []) rfl (a_call (ent_of Try.func13 (by kernel_rfl) rfl) (fun w hH => add_any w s hss n A hA) rfl rfl rfl) ?_; rintro ⟨⟩
    refine h_q hflS rfl ?_
    refine h_done (d_reg ?_)
    refine h_q hflS rfl ?_
    refine h_act (post := fun _ => []) rfl (a_call (ent_of Try.func27 (by kernel_rfl) rfl) (fun w hH => radd_any w s hss n A hA) rfl rfl rfl) ?_; rintro ⟨⟩
    refine h_q hflS rfl ?_
    refine h_done (d_reg ?_)
    refine h_q hflS rfl ?_
    refine h_act (post := fun _ => []) rfl (a_call (ent_of Try.func11 (by kernel_rfl) rfl) (fun w hH => rem_any w s hss n D hD) rfl rfl rfl) ?_; rintro ⟨⟩
    refine h_q hflS rfl ?_
    refine h_done (d_reg ?_)
    refine h_q hflS rfl ?_
    refine h_act (post := fun _ => []) rfl (a_call (ent_of Try.func28 (by kernel_rfl) rfl) (fun w hH => rrem_any w s hss n D hD) rfl rfl rfl) ?_; rintro ⟨⟩
    refine h_q hflS rfl ?_
    refine h_done (d_seq ?_)
    by_cases he : A.2 = 0
    obtain ⟨_, _, _, hr2, hcs⟩ := add_rem hA he
    have hr3 := rs_iff.1 hr2
    rcases hcs with ⟨h0, hq⟩ | ⟨h0, hq⟩
    · skip
      refine d_reg ?_
      refine h_q hflS rfl ?_
      refine h_act (post := fun _ => []) rfl (a_call (ent_of Try.func14 (by kernel_rfl) rfl) (fun w hH => Run.known_calls w) rfl rfl rfl) ?_; rintro ⟨⟩
      refine h_q hflS rfl ?_
      refine h_val rfl (.bool false) (fun b w hb hH => exec_cmp rfl rfl rfl (cmp_neq_f rfl) hb) ?_
      refine h_q hflS rfl ?_
      refine h_val rfl (.bool false) (fun b w hb hH => exec_cmp rfl rfl rfl (cmp_neq_f rfl) hb) ?_
      refine h_q hflS rfl ?_
      refine h_val rfl (.bool false) (fun b w hb hH => exec_cmp rfl rfl rfl (cmp_neq_f rfl) hb) ?_
      refine h_q hflS rfl ?_
      refine h_val rfl (.bool false) (fun b w hb hH => exec_cmp rfl rfl rfl (cmp_neq_f rfl) hb) ?_
      refine h_q hflS rfl ?_
      refine h_done ?_
      refine WC2.keep (env' := [(6, .bool false), (0, .int .i64 s), (1, .int .i64 n), (7, .int .i64 A.1), (8, .int .i64 A.2), (69, .bool false)]) ⟨rfl, rfl, rfl, rfl, rfl, rfl, trivial⟩ ?_
      refine d_else rfl (d_skip (f_to (d_seq (d_reg ?_))))
      refine h_q hflS rfl ?_
      refine h_val rfl (.bool false) (fun b w hb hH => exec_cmp rfl rfl rfl (cmp_neq_f he) hb) ?_
      refine h_done (d_else rfl (d_skip (f_to (d_reg ?_))))
      refine h_q hflS rfl ?_
      refine h_act (post := fun _ => []) rfl (a_call (ent_of Try.func11 (by kernel_rfl) rfl) (fun w hH => rem_any w A.1 ⟨by omega, by omega⟩ n _ hq) rfl rfl rfl) ?_; rintro ⟨⟩
      refine h_q hflS rfl ?_
      refine h_done (d_reg ?_)
      refine h_q hflS rfl ?_
      refine h_val rfl (.bool true) (fun b w hb hH => exec_cmp rfl rfl rfl (cmp_eql_t h0) hb) ?_
      refine h_q hflS rfl ?_
      refine h_val rfl (.bool true) (fun b w hb hH => exec_cmp rfl rfl rfl (cmp_eql_t rfl) hb) ?_
      refine h_q hflS rfl ?_
      refine h_done (d_ret ?_)
      exact f_fin1 (.tmp rfl) (fun w h => ⟨rfl, below0 h.up⟩) rfl
    · skip
      refine d_reg ?_
      refine h_q hflS rfl ?_
      refine h_act (post := fun _ => []) rfl (a_call (ent_of Try.func14 (by kernel_rfl) rfl) (fun w hH => Run.known_calls w) rfl rfl rfl) ?_; rintro ⟨⟩
      refine h_q hflS rfl ?_
      refine h_val rfl (.bool false) (fun b w hb hH => exec_cmp rfl rfl rfl (cmp_neq_f rfl) hb) ?_
      refine h_q hflS rfl ?_
      refine h_val rfl (.bool false) (fun b w hb hH => exec_cmp rfl rfl rfl (cmp_neq_f rfl) hb) ?_
      refine h_q hflS rfl ?_
      refine h_val rfl (.bool false) (fun b w hb hH => exec_cmp rfl rfl rfl (cmp_neq_f rfl) hb) ?_
      refine h_q hflS rfl ?_
      refine h_val rfl (.bool false) (fun b w hb hH => exec_cmp rfl rfl rfl (cmp_neq_f rfl) hb) ?_
      refine h_q hflS rfl ?_
      refine h_done ?_
      refine WC2.keep (env' := [(6, .bool false), (0, .int .i64 s), (1, .int .i64 n), (7, .int .i64 A.1), (8, .int .i64 A.2), (69, .bool false)]) ⟨rfl, rfl, rfl, rfl, rfl, rfl, trivial⟩ ?_
      refine d_else rfl (d_skip (f_to (d_seq (d_reg ?_))))
      refine h_q hflS rfl ?_
      refine h_val rfl (.bool false) (fun b w hb hH => exec_cmp rfl rfl rfl (cmp_neq_f he) hb) ?_
      refine h_done (d_else rfl (d_skip (f_to (d_reg ?_))))
      refine h_q hflS rfl ?_
      refine h_act (post := fun _ => []) rfl (a_call (ent_of Try.func11 (by kernel_rfl) rfl) (fun w hH => rem_any w A.1 ⟨by omega, by omega⟩ n _ hq) rfl rfl rfl) ?_; rintro ⟨⟩
      refine h_q hflS rfl ?_
      refine h_done (d_reg ?_)
      refine h_q hflS rfl ?_
      refine h_val rfl (.bool false) (fun b w hb hH => exec_cmp rfl rfl rfl (cmp_eql_f h0) hb) ?_
      refine h_q hflS rfl ?_
      refine h_val rfl (.bool true) (fun b w hb hH => exec_cmp rfl rfl rfl (cmp_eql_t rfl) hb) ?_
      refine h_q hflS rfl ?_
      refine h_val rfl (.bool true) (fun b w hb hH => exec_cmp rfl rfl rfl (cmp_eql_t rfl) hb) ?_
      refine h_q hflS rfl ?_
      refine h_done (d_ret ?_)
      exact f_fin1 (.tmp rfl) (fun w h => ⟨rfl, below0 h.up⟩) rfl
    · skip
      refine d_reg ?_
      refine h_q hflS rfl ?_
      refine h_act (post := fun _ => []) rfl (a_call (ent_of Try.func14 (by kernel_rfl) rfl) (fun w hH => Run.known_calls w) rfl rfl rfl) ?_; rintro ⟨⟩
      refine h_q hflS rfl ?_
      refine h_val rfl (.bool false) (fun b w hb hH => exec_cmp rfl rfl rfl (cmp_neq_f rfl) hb) ?_
      refine h_q hflS rfl ?_
      refine h_val rfl (.bool false) (fun b w hb hH => exec_cmp rfl rfl rfl (cmp_neq_f rfl) hb) ?_
      refine h_q hflS rfl ?_
      refine h_val rfl (.bool false) (fun b w hb hH => exec_cmp rfl rfl rfl (cmp_neq_f rfl) hb) ?_
      refine h_q hflS rfl ?_
      refine h_val rfl (.bool false) (fun b w hb hH => exec_cmp rfl rfl rfl (cmp_neq_f rfl) hb) ?_
      refine h_q hflS rfl ?_
      refine h_done ?_
      refine WC2.keep (env' := [(6, .bool false), (0, .int .i64 s), (1, .int .i64 n), (7, .int .i64 A.1), (8, .int .i64 A.2), (69, .bool false)]) ⟨rfl, rfl, rfl, rfl, rfl, rfl, trivial⟩ ?_
      refine d_else rfl (d_skip (f_to (d_seq (d_reg ?_))))
      refine h_q hflS rfl ?_
      refine h_val rfl (.bool true) (fun b w hb hH => exec_cmp rfl rfl rfl (cmp_neq_t he) hb) ?_
      refine h_done (d_then rfl (d_reg ?_))
      refine h_q hflS rfl ?_
      refine h_done (d_ret (f_then_ret ?_))
      exact f_fin1 (.tmp rfl) (fun w h => ⟨rfl, below0 h.up⟩) rfl
end Go.Proofs.Ytmcdjniebkfagaa.Sep
