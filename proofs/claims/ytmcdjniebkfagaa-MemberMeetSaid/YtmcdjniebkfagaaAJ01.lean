/-
  MbT
-/
import Derived.Test.YtmcdjniebkfagaaAH01
set_option linter.unusedSimpArgs false
set_option linter.unusedVariables false

namespace Go.Proofs.Ytmcdjniebkfagaa.Sep
open Go.RowKit
open Go.Proofs.Ytmcdjniebkfagaa.Mem (Dist Blk Chg below0)

set_option maxRecDepth 100000 in
theorem meet_true (w : World) (set node va vb : Int) (hset : -9223372036854775808 ≤ set ∧ set ≤ 9223372036854775807) (hnode : -9223372036854775808 ≤ node ∧ node ≤ 9223372036854775807) (hva : -9223372036854775808 ≤ va ∧ va ≤ 9223372036854775807) (hvb : -9223372036854775808 ≤ vb ∧ vb ≤ 9223372036854775807)  : Calls Try.prog 9 #[.int .i64 set, .int .i64 node, .int .i64 va, .int .i64 vb] w fun e w' => e = .returned (.bool true) ∧ Below w.heap.size w w' := by
  obtain ⟨s, hs⟩ : ∃ s, nearM set true = s := ⟨_, rfl⟩
  obtain ⟨a1, ha1⟩ : ∃ a1, nearM va true = a1 := ⟨_, rfl⟩
  obtain ⟨b1, hb1⟩ : ∃ b1, nearM vb true = b1 := ⟨_, rfl⟩
  have hsr := near_right set
  have har := near_right va
  have hss := near_i64 hset true
  rw [hs] at hss hsr
  rw [ha1] at har
  obtain ⟨q, hq⟩ : ∃ q, node % 7 = q := ⟨_, rfl⟩
  obtain ⟨n, hn⟩ : ∃ n, 1 + q = n := ⟨_, rfl⟩
  obtain ⟨A, hA⟩ : ∃ A, addM s n = A := ⟨_, rfl⟩
  have hm : may s n = true := may_iff.2 ⟨hsr, by omega⟩
  refine d_in (args := [.int .i64 set, .int .i64 node, .int .i64 va, .int .i64 vb]) 49 Try.func9 rfl rfl rfl ?_
  refine d_reg ?_
  refine h_q hflS rfl ?_
  refine h_done (d_reg ?_)
  refine h_q hflS rfl ?_
  refine h_act (post := fun _ => []) rfl (a_call (ent_of Try.func18 (by kernel_rfl) rfl) (fun w hH => near_any w set hset true s hs) rfl rfl rfl) ?_; rintro ⟨⟩
  refine h_q hflS rfl ?_
  refine h_done (d_reg ?_)
  refine h_q hflS rfl ?_
  refine h_act (post := fun _ => []) rfl (a_call (ent_of Try.func19 (by kernel_rfl) rfl) (fun w hH => pick w node 7 hnode (by decide) hq) rfl rfl rfl) ?_; rintro ⟨⟩
  refine h_val rfl (.int .i64 n) (fun b w hb hH => exec_ar rfl rfl rfl rfl ((IntWalk.i64_in _ (by omega)).trans hn) hb) ?_
  refine h_act (post := fun _ => []) rfl (a_call (ent_of Try.func13 (by kernel_rfl) rfl) (fun w hH => add_any w s hss n A hA) rfl rfl rfl) ?_; rintro ⟨⟩
  refine h_q hflS rfl ?_
  refine h_done (d_seq ?_)
  by_cases he : A.2 = 0
  · skip
    obtain ⟨_, hb, hA1, hr2, _⟩ := add_rem hA he
    have hr3 := rs_iff.1 hr2
    have hAi : -9223372036854775808 ≤ A.1 ∧ A.1 ≤ 9223372036854775807 := ⟨by omega, by omega⟩
    refine d_reg ?_
    refine h_q hflS rfl ?_
    refine h_act (post := fun _ => []) rfl (a_call (ent_of Try.func14 (by kernel_rfl) rfl) (fun w hH => Run.known_calls w) rfl rfl rfl) ?_; rintro ⟨⟩
    refine h_q hflS rfl ?_
    refine h_done (d_else rfl (d_skip (f_to (d_seq (d_reg ?_)))))
    refine h_q hflS rfl ?_
    refine h_val rfl (.bool false) (fun b w hb hH => exec_cmp rfl rfl rfl (cmp_neq_f he) hb) ?_
    refine h_done (d_else rfl (d_skip (f_to (d_reg ?_))))
    refine h_q hflS rfl ?_
    refine h_act (post := fun _ => []) rfl (a_call (ent_of Try.func18 (by kernel_rfl) rfl) (fun w hH => near_any w va hva true a1 ha1) rfl rfl rfl) ?_; rintro ⟨⟩
    refine h_q hflS rfl ?_
    refine h_done (d_reg ?_)
    refine h_q hflS rfl ?_
    refine h_act (post := fun _ => []) rfl (a_call (ent_of Try.func18 (by kernel_rfl) rfl) (fun w hH => near_any w vb hvb true b1 hb1) rfl rfl rfl) ?_; rintro ⟨⟩
    refine h_q hflS rfl ?_
    refine h_done ?_
    cases hMa : mst s a1
    rotate_left
    cases hMb : mst A.1 b1
    rotate_left
    · skip
      obtain ⟨k, _, hk1, hk2, hk3⟩ := most_meet hm hb hMa (by rw [← hA1]; exact hMb)
      rw [← hA1] at hk3
      have hne := meet_and (b := b1) (m := A.1) har hk1 hk2 hk3
      obtain ⟨x, hx⟩ : ∃ x, bits .and .i64 a1 b1 = x := ⟨_, rfl⟩
      obtain ⟨y, hy⟩ : ∃ y, bits .and .i64 x A.1 = y := ⟨_, rfl⟩
      rw [hx, hy] at hne
      refine d_reg ?_
      refine h_q hflS rfl ?_
      refine h_act (post := fun _ => []) rfl (a_call (ent_of Try.func16 (by kernel_rfl) rfl) (fun w hH => most_any w s hss a1 true hMa) rfl rfl rfl) ?_; rintro ⟨⟩
      refine h_q hflS rfl ?_
      refine h_act (post := fun _ => []) rfl (a_call (ent_of Try.func16 (by kernel_rfl) rfl) (fun w hH => most_any w A.1 hAi b1 true hMb) rfl rfl rfl) ?_; rintro ⟨⟩
      refine h_q hflS rfl ?_
      refine h_val rfl (.int .i64 x) (fun b w hb hH => exec_andI hx rfl rfl rfl hb) ?_
      refine h_q hflS rfl ?_
      refine h_val rfl (.int .i64 y) (fun b w hb hH => exec_andI hy rfl rfl rfl hb) ?_
      refine h_val rfl (.bool true) (fun b w hb hH => exec_cmp rfl rfl rfl (cmp_neq_t hne) hb) ?_
      refine h_q hflS rfl ?_
      refine h_done (d_ret ?_)
      exact f_fin1 (.tmp rfl) (fun w h => ⟨rfl, below0 h.up⟩) rfl
    · skip
      refine d_reg ?_
      refine h_q hflS rfl ?_
      refine h_act (post := fun _ => []) rfl (a_call (ent_of Try.func16 (by kernel_rfl) rfl) (fun w hH => most_any w s hss a1 false hMa) rfl rfl rfl) ?_; rintro ⟨⟩
      refine h_q hflS rfl ?_
      refine h_done (d_ret ?_)
      exact f_fin1 (.tmp rfl) (fun w h => ⟨rfl, below0 h.up⟩) rfl
    · skip
      refine d_reg ?_
      refine h_q hflS rfl ?_
      refine h_act (post := fun _ => []) rfl (a_call (ent_of Try.func16 (by kernel_rfl) rfl) (fun w hH => most_any w s hss a1 true hMa) rfl rfl rfl) ?_; rintro ⟨⟩
      refine h_q hflS rfl ?_
      refine h_act (post := fun _ => []) rfl (a_call (ent_of Try.func16 (by kernel_rfl) rfl) (fun w hH => most_any w A.1 hAi b1 false hMb) rfl rfl rfl) ?_; rintro ⟨⟩
      refine h_q hflS rfl ?_
      refine h_done (d_ret ?_)
      exact f_fin1 (.tmp rfl) (fun w h => ⟨rfl, below0 h.up⟩) rfl
  · skip
    refine d_reg ?_
    refine h_q hflS rfl ?_
    refine h_act (post := fun _ => []) rfl (a_call (ent_of Try.func14 (by kernel_rfl) rfl) (fun w hH => Run.known_calls w) rfl rfl rfl) ?_; rintro ⟨⟩
    refine h_q hflS rfl ?_
    refine h_done (d_else rfl (d_skip (f_to (d_seq (d_reg ?_)))))
    refine h_q hflS rfl ?_
    refine h_val rfl (.bool true) (fun b w hb hH => exec_cmp rfl rfl rfl (cmp_neq_t he) hb) ?_
    refine h_done (d_then rfl (d_reg ?_))
    refine h_q hflS rfl ?_
    refine h_val rfl (.bool true) (fun b w hb hH => exec_cmp rfl rfl rfl (cmp_eql_t (addM_not hA hm he)) hb) ?_
    refine h_q hflS rfl ?_
    refine h_done (d_ret (f_then_ret ?_))
    exact f_fin1 (.tmp rfl) (fun w h => ⟨rfl, below0 h.up⟩) rfl
end Go.Proofs.Ytmcdjniebkfagaa.Sep
