/-
  CmdA
-/
import Derived.Test.YtlkknncndgamdaaDoorB01
set_option linter.unusedSimpArgs false
set_option linter.unusedVariables false

namespace Go.Proofs.YtlkknncndgamdaaDoor.Sep
open Go.RowKit
open Go.Proofs.YtlkknncndgamdaaDoor.Mem (Dist Blk Chg below0)

set_option maxRecDepth 100000 in
theorem with_any (w : World) (h f : Nat) (hh : h < 128) (hf : f < 128) (r : Bool) (hr : wth h f = r) : Calls Tryd.prog 20 #[.int .i64 (h : Int), .int .i64 (f : Int)] w fun e w' => e = .returned (.bool r) ∧ Below w.heap.size w w' := by
  refine d_in (args := [.int .i64 (h : Int), .int .i64 (f : Int)]) 9 Tryd.func20 rfl rfl rfl ?_
  refine d_reg ?_
  refine h_q hflS rfl ?_
  refine h_done ?_
  rcases Nat.eq_zero_or_pos (h &&& f) with h0 | h0
  · skip
    obtain rfl : r = false := by rw [← hr]; simp [wth, h0]
    refine d_reg ?_
    refine h_q hflS rfl ?_
    refine h_val rfl (.int .i64 ((h &&& f : Nat) : Int)) (fun b w hb hH => exec_and (and_i64 hh hf) rfl rfl rfl hb) ?_
    refine h_val rfl (.bool false) (fun b w hb hH => exec_cmp rfl rfl rfl (cmp_neq_f (by rw [h0]; rfl)) hb) ?_
    refine h_q hflS rfl ?_
    refine h_done (d_ret ?_)
    exact f_fin1 (.tmp rfl) (fun w h => ⟨rfl, below0 h.up⟩) rfl
  · skip
    obtain rfl : r = true := by rw [← hr]; simp [wth]; omega
    refine d_reg ?_
    refine h_q hflS rfl ?_
    refine h_val rfl (.int .i64 ((h &&& f : Nat) : Int)) (fun b w hb hH => exec_and (and_i64 hh hf) rfl rfl rfl hb) ?_
    refine h_val rfl (.bool true) (fun b w hb hH => exec_cmp rfl rfl rfl (cmp_neq_t (by omega)) hb) ?_
    refine h_q hflS rfl ?_
    refine h_done (d_ret ?_)
    exact f_fin1 (.tmp rfl) (fun w h => ⟨rfl, below0 h.up⟩) rfl

set_option maxRecDepth 100000 in
theorem fieldsOf_any (w : World) (k : Int) (h : Nat) (hh : fo k = h) : Calls Tryd.prog 18 #[.int .i64 k] w fun e w' => e = .returned (.int .i64 (h : Int)) ∧ Below w.heap.size w w' := by
  refine d_in (args := [.int .i64 k]) 40 Tryd.func18 rfl rfl rfl ?_
  refine d_reg ?_
  refine h_q hflS rfl ?_
  refine h_done (d_seq (d_reg ?_))
  refine h_q hflS rfl ?_
  refine h_done (d_block (d_seq (d_block (d_seq (d_block (d_seq (d_block (d_seq (d_block (d_seq (d_block (d_seq (d_block (d_seq (d_block (d_seq (d_block (d_seq (d_seq (d_seq ?_))))))))))))))))))))
  have hk : k = 6 ∨ k = 8 ∨ k = 4 ∨ k = 5 ∨ k = 9 ∨ k = 7 ∨ k = 11 ∨ k = 3 ∨ k = 10 ∨ k = 2 ∨ k = 1 ∨ ¬ (1 ≤ k ∧ k ≤ 11) := by omega
  rcases hk with rfl | rfl | rfl | rfl | rfl | rfl | rfl | rfl | rfl | rfl | rfl | hk
  · skip
    obtain rfl : h = 31 := hh.symm.trans rfl
    refine d_reg ?_
    refine h_q hflS rfl ?_
    refine h_val rfl (.bool true) (fun b w hb hH => exec_cmp rfl rfl rfl (cmp_eql_t (by decide)) hb) ?_
    refine h_q hflS rfl ?_
    refine h_done (d_then rfl (d_skip (f_to (d_then rfl (d_exit (f_then_exit (f_then_exit (f_block_exit (f_to (d_reg1 ?_))))))))))
    refine h_q hflS rfl ?_
    refine h_val rfl (.int .i64 8) (fun b w hb hH => exec_or (by decide) rfl rfl rfl hb) ?_
    refine h_q hflS rfl ?_
    refine h_nil (f_block (f_to (d_reg1 ?_)))
    refine h_q hflS rfl ?_
    refine h_val rfl (.int .i64 24) (fun b w hb hH => exec_or (by decide) rfl rfl rfl hb) ?_
    refine h_q hflS rfl ?_
    refine h_nil (f_block (f_to (d_reg ?_)))
    refine h_q hflS rfl ?_
    refine h_val rfl (.int .i64 31) (fun b w hb hH => exec_or (by decide) rfl rfl rfl hb) ?_
    refine h_q hflS rfl ?_
    refine h_done (d_exit (f_block_other (by decide) (f_then_exit (f_block_other (by decide) (f_then_exit (f_block_other (by decide) (f_then_exit (f_block_other (by decide) (f_then_exit (f_block_other (by decide) (f_then_exit (f_block_exit (f_to (d_reg ?_))))))))))))))
    refine h_q hflS rfl ?_
    refine h_done (d_ret ?_)
    exact f_fin1 (.tmp rfl) (fun w h => ⟨rfl, below0 h.up⟩) rfl
  · skip
    obtain rfl : h = 31 := hh.symm.trans rfl
    refine d_reg ?_
    refine h_q hflS rfl ?_
    refine h_val rfl (.bool false) (fun b w hb hH => exec_cmp rfl rfl rfl (cmp_eql_f (by decide)) hb) ?_
    refine h_q hflS rfl ?_
    refine h_done (d_else rfl (d_reg1 ?_))
    refine h_q hflS rfl ?_
    refine h_val rfl (.bool true) (fun b w hb hH => exec_cmp rfl rfl rfl (cmp_eql_t (by decide)) hb) ?_
    refine h_q hflS rfl ?_
    refine h_nil (f_to (d_then rfl (d_exit (f_then_exit (f_then_exit (f_block_exit (f_to (d_reg1 ?_))))))))
    refine h_q hflS rfl ?_
    refine h_val rfl (.int .i64 8) (fun b w hb hH => exec_or (by decide) rfl rfl rfl hb) ?_
    refine h_q hflS rfl ?_
    refine h_nil (f_block (f_to (d_reg1 ?_)))
    refine h_q hflS rfl ?_
    refine h_val rfl (.int .i64 24) (fun b w hb hH => exec_or (by decide) rfl rfl rfl hb) ?_
    refine h_q hflS rfl ?_
    refine h_nil (f_block (f_to (d_reg ?_)))
    refine h_q hflS rfl ?_
    refine h_val rfl (.int .i64 31) (fun b w hb hH => exec_or (by decide) rfl rfl rfl hb) ?_
    refine h_q hflS rfl ?_
    refine h_done (d_exit (f_block_other (by decide) (f_then_exit (f_block_other (by decide) (f_then_exit (f_block_other (by decide) (f_then_exit (f_block_other (by decide) (f_then_exit (f_block_other (by decide) (f_then_exit (f_block_exit (f_to (d_reg ?_))))))))))))))
    refine h_q hflS rfl ?_
    refine h_done (d_ret ?_)
    exact f_fin1 (.tmp rfl) (fun w h => ⟨rfl, below0 h.up⟩) rfl
  · skip
    obtain rfl : h = 23 := hh.symm.trans rfl
    refine d_reg ?_
    refine h_q hflS rfl ?_
    refine h_val rfl (.bool false) (fun b w hb hH => exec_cmp rfl rfl rfl (cmp_eql_f (by decide)) hb) ?_
    refine h_q hflS rfl ?_
    refine h_done (d_else rfl (d_reg1 ?_))
    refine h_q hflS rfl ?_
    refine h_val rfl (.bool false) (fun b w hb hH => exec_cmp rfl rfl rfl (cmp_eql_f (by decide)) hb) ?_
    refine h_q hflS rfl ?_
    refine h_nil (f_to (d_else rfl (d_skip (f_to (d_seq (d_seq (d_reg ?_)))))))
    refine h_q hflS rfl ?_
    refine h_val rfl (.bool true) (fun b w hb hH => exec_cmp rfl rfl rfl (cmp_eql_t (by decide)) hb) ?_
    refine h_q hflS rfl ?_
    refine h_done (d_then rfl (d_skip (f_to (d_then rfl (d_exit (f_then_exit (f_then_exit (f_block_other (by decide) (f_then_exit (f_block_exit (f_to (d_reg1 ?_))))))))))))
    refine h_q hflS rfl ?_
    refine h_val rfl (.int .i64 16) (fun b w hb hH => exec_or (by decide) rfl rfl rfl hb) ?_
    refine h_q hflS rfl ?_
    refine h_nil (f_block (f_to (d_reg ?_)))
    refine h_q hflS rfl ?_
    refine h_val rfl (.int .i64 23) (fun b w hb hH => exec_or (by decide) rfl rfl rfl hb) ?_
    refine h_q hflS rfl ?_
    refine h_done (d_exit (f_block_other (by decide) (f_then_exit (f_block_other (by decide) (f_then_exit (f_block_other (by decide) (f_then_exit (f_block_other (by decide) (f_then_exit (f_block_other (by decide) (f_then_exit (f_block_exit (f_to (d_reg ?_))))))))))))))
    refine h_q hflS rfl ?_
    refine h_done (d_ret ?_)
    exact f_fin1 (.tmp rfl) (fun w h => ⟨rfl, below0 h.up⟩) rfl
  · skip
    obtain rfl : h = 23 := hh.symm.trans rfl
    refine d_reg ?_
    refine h_q hflS rfl ?_
    refine h_val rfl (.bool false) (fun b w hb hH => exec_cmp rfl rfl rfl (cmp_eql_f (by decide)) hb) ?_
    refine h_q hflS rfl ?_
    refine h_done (d_else rfl (d_reg1 ?_))
    refine h_q hflS rfl ?_
    refine h_val rfl (.bool false) (fun b w hb hH => exec_cmp rfl rfl rfl (cmp_eql_f (by decide)) hb) ?_
    refine h_q hflS rfl ?_
    refine h_nil (f_to (d_else rfl (d_skip (f_to (d_seq (d_seq (d_reg ?_)))))))
    refine h_q hflS rfl ?_
    refine h_val rfl (.bool false) (fun b w hb hH => exec_cmp rfl rfl rfl (cmp_eql_f (by decide)) hb) ?_
    refine h_q hflS rfl ?_
    refine h_done (d_else rfl (d_reg1 ?_))
    refine h_q hflS rfl ?_
    refine h_val rfl (.bool true) (fun b w hb hH => exec_cmp rfl rfl rfl (cmp_eql_t (by decide)) hb) ?_
    refine h_q hflS rfl ?_
    refine h_nil (f_to (d_then rfl (d_exit (f_then_exit (f_then_exit (f_block_other (by decide) (f_then_exit (f_block_exit (f_to (d_reg1 ?_))))))))))
    refine h_q hflS rfl ?_
    refine h_val rfl (.int .i64 16) (fun b w hb hH => exec_or (by decide) rfl rfl rfl hb) ?_
    refine h_q hflS rfl ?_
    refine h_nil (f_block (f_to (d_reg ?_)))
    refine h_q hflS rfl ?_
    refine h_val rfl (.int .i64 23) (fun b w hb hH => exec_or (by decide) rfl rfl rfl hb) ?_
    refine h_q hflS rfl ?_
    refine h_done (d_exit (f_block_other (by decide) (f_then_exit (f_block_other (by decide) (f_then_exit (f_block_other (by decide) (f_then_exit (f_block_other (by decide) (f_then_exit (f_block_other (by decide) (f_then_exit (f_block_exit (f_to (d_reg ?_))))))))))))))
    refine h_q hflS rfl ?_
    refine h_done (d_ret ?_)
    exact f_fin1 (.tmp rfl) (fun w h => ⟨rfl, below0 h.up⟩) rfl
  · skip
    obtain rfl : h = 7 := hh.symm.trans rfl
    refine d_reg ?_
    refine h_q hflS rfl ?_
    refine h_val rfl (.bool false) (fun b w hb hH => exec_cmp rfl rfl rfl (cmp_eql_f (by decide)) hb) ?_
    refine h_q hflS rfl ?_
    refine h_done (d_else rfl (d_reg1 ?_))
    refine h_q hflS rfl ?_
    refine h_val rfl (.bool false) (fun b w hb hH => exec_cmp rfl rfl rfl (cmp_eql_f (by decide)) hb) ?_
    refine h_q hflS rfl ?_
    refine h_nil (f_to (d_else rfl (d_skip (f_to (d_seq (d_seq (d_reg ?_)))))))
    refine h_q hflS rfl ?_
    refine h_val rfl (.bool false) (fun b w hb hH => exec_cmp rfl rfl rfl (cmp_eql_f (by decide)) hb) ?_
    refine h_q hflS rfl ?_
    refine h_done (d_else rfl (d_reg1 ?_))
    refine h_q hflS rfl ?_
    refine h_val rfl (.bool false) (fun b w hb hH => exec_cmp rfl rfl rfl (cmp_eql_f (by decide)) hb) ?_
    refine h_q hflS rfl ?_
    refine h_nil (f_to (d_else rfl (d_skip (f_to (d_seq (d_reg ?_))))))
    refine h_q hflS rfl ?_
    refine h_val rfl (.bool true) (fun b w hb hH => exec_cmp rfl rfl rfl (cmp_eql_t (by decide)) hb) ?_
    refine h_q hflS rfl ?_
    refine h_done (d_then rfl (d_exit (f_then_exit (f_then_exit (f_block_other (by decide) (f_then_exit (f_block_other (by decide) (f_then_exit (f_block_exit (f_to (d_reg ?_)))))))))))
    refine h_q hflS rfl ?_
    refine h_val rfl (.int .i64 7) (fun b w hb hH => exec_or (by decide) rfl rfl rfl hb) ?_
    refine h_q hflS rfl ?_
    refine h_done (d_exit (f_block_other (by decide) (f_then_exit (f_block_other (by decide) (f_then_exit (f_block_other (by decide) (f_then_exit (f_block_other (by decide) (f_then_exit (f_block_other (by decide) (f_then_exit (f_block_exit (f_to (d_reg ?_))))))))))))))
    refine h_q hflS rfl ?_
    refine h_done (d_ret ?_)
    exact f_fin1 (.tmp rfl) (fun w h => ⟨rfl, below0 h.up⟩) rfl
  · skip
    obtain rfl : h = 115 := hh.symm.trans rfl
    refine d_reg ?_
    refine h_q hflS rfl ?_
    refine h_val rfl (.bool false) (fun b w hb hH => exec_cmp rfl rfl rfl (cmp_eql_f (by decide)) hb) ?_
    refine h_q hflS rfl ?_
    refine h_done (d_else rfl (d_reg1 ?_))
    refine h_q hflS rfl ?_
    refine h_val rfl (.bool false) (fun b w hb hH => exec_cmp rfl rfl rfl (cmp_eql_f (by decide)) hb) ?_
    refine h_q hflS rfl ?_
    refine h_nil (f_to (d_else rfl (d_skip (f_to (d_seq (d_seq (d_reg ?_)))))))
    refine h_q hflS rfl ?_
    refine h_val rfl (.bool false) (fun b w hb hH => exec_cmp rfl rfl rfl (cmp_eql_f (by decide)) hb) ?_
    refine h_q hflS rfl ?_
    refine h_done (d_else rfl (d_reg1 ?_))
    refine h_q hflS rfl ?_
    refine h_val rfl (.bool false) (fun b w hb hH => exec_cmp rfl rfl rfl (cmp_eql_f (by decide)) hb) ?_
    refine h_q hflS rfl ?_
    refine h_nil (f_to (d_else rfl (d_skip (f_to (d_seq (d_reg ?_))))))
    refine h_q hflS rfl ?_
    refine h_val rfl (.bool false) (fun b w hb hH => exec_cmp rfl rfl rfl (cmp_eql_f (by decide)) hb) ?_
    refine h_q hflS rfl ?_
    refine h_done (d_else rfl (d_skip (f_to (d_seq (d_reg ?_)))))
    refine h_q hflS rfl ?_
    refine h_val rfl (.bool true) (fun b w hb hH => exec_cmp rfl rfl rfl (cmp_eql_t (by decide)) hb) ?_
    refine h_q hflS rfl ?_
    refine h_done (d_then rfl (d_exit (f_then_exit (f_then_exit (f_block_other (by decide) (f_then_exit (f_block_other (by decide) (f_then_exit (f_block_other (by decide) (f_then_exit (f_block_exit (f_to (d_reg1 ?_)))))))))))))
    refine h_q hflS rfl ?_
    refine h_val rfl (.int .i64 16) (fun b w hb hH => exec_or (by decide) rfl rfl rfl hb) ?_
    refine h_q hflS rfl ?_
    refine h_nil (f_block (f_to (d_reg1 ?_)))
    refine h_q hflS rfl ?_
    refine h_val rfl (.int .i64 80) (fun b w hb hH => exec_or (by decide) rfl rfl rfl hb) ?_
    refine h_q hflS rfl ?_
    refine h_nil (f_block (f_to (d_reg ?_)))
    refine h_q hflS rfl ?_
    refine h_val rfl (.int .i64 115) (fun b w hb hH => exec_or (by decide) rfl rfl rfl hb) ?_
    refine h_q hflS rfl ?_
    refine h_done (d_exit (f_block_other (by decide) (f_then_exit (f_block_other (by decide) (f_then_exit (f_block_exit (f_to (d_reg ?_))))))))
    refine h_q hflS rfl ?_
    refine h_done (d_ret ?_)
    exact f_fin1 (.tmp rfl) (fun w h => ⟨rfl, below0 h.up⟩) rfl
  · skip
    obtain rfl : h = 99 := hh.symm.trans rfl
    refine d_reg ?_
    refine h_q hflS rfl ?_
    refine h_val rfl (.bool false) (fun b w hb hH => exec_cmp rfl rfl rfl (cmp_eql_f (by decide)) hb) ?_
    refine h_q hflS rfl ?_
    refine h_done (d_else rfl (d_reg1 ?_))
    refine h_q hflS rfl ?_
    refine h_val rfl (.bool false) (fun b w hb hH => exec_cmp rfl rfl rfl (cmp_eql_f (by decide)) hb) ?_
    refine h_q hflS rfl ?_
    refine h_nil (f_to (d_else rfl (d_skip (f_to (d_seq (d_seq (d_reg ?_)))))))
    refine h_q hflS rfl ?_
    refine h_val rfl (.bool false) (fun b w hb hH => exec_cmp rfl rfl rfl (cmp_eql_f (by decide)) hb) ?_
    refine h_q hflS rfl ?_
    refine h_done (d_else rfl (d_reg1 ?_))
    refine h_q hflS rfl ?_
    refine h_val rfl (.bool false) (fun b w hb hH => exec_cmp rfl rfl rfl (cmp_eql_f (by decide)) hb) ?_
    refine h_q hflS rfl ?_
    refine h_nil (f_to (d_else rfl (d_skip (f_to (d_seq (d_reg ?_))))))
    refine h_q hflS rfl ?_
    refine h_val rfl (.bool false) (fun b w hb hH => exec_cmp rfl rfl rfl (cmp_eql_f (by decide)) hb) ?_
    refine h_q hflS rfl ?_
    refine h_done (d_else rfl (d_skip (f_to (d_seq (d_reg ?_)))))
    refine h_q hflS rfl ?_
    refine h_val rfl (.bool false) (fun b w hb hH => exec_cmp rfl rfl rfl (cmp_eql_f (by decide)) hb) ?_
    refine h_q hflS rfl ?_
    refine h_done (d_else rfl (d_skip (f_to (d_seq (d_reg ?_)))))
    refine h_q hflS rfl ?_
    refine h_val rfl (.bool true) (fun b w hb hH => exec_cmp rfl rfl rfl (cmp_eql_t (by decide)) hb) ?_
    refine h_q hflS rfl ?_
    refine h_done (d_then rfl (d_exit (f_then_exit (f_then_exit (f_block_other (by decide) (f_then_exit (f_block_other (by decide) (f_then_exit (f_block_other (by decide) (f_then_exit (f_block_other (by decide) (f_then_exit (f_block_exit (f_to (d_reg1 ?_)))))))))))))))
    refine h_q hflS rfl ?_
    refine h_val rfl (.int .i64 64) (fun b w hb hH => exec_or (by decide) rfl rfl rfl hb) ?_
    refine h_q hflS rfl ?_
    refine h_nil (f_block (f_to (d_reg ?_)))
    refine h_q hflS rfl ?_
    refine h_val rfl (.int .i64 99) (fun b w hb hH => exec_or (by decide) rfl rfl rfl hb) ?_
    refine h_q hflS rfl ?_
    refine h_done (d_exit (f_block_other (by decide) (f_then_exit (f_block_other (by decide) (f_then_exit (f_block_exit (f_to (d_reg ?_))))))))
    refine h_q hflS rfl ?_
    refine h_done (d_ret ?_)
    exact f_fin1 (.tmp rfl) (fun w h => ⟨rfl, below0 h.up⟩) rfl
  · skip
    obtain rfl : h = 35 := hh.symm.trans rfl
    refine d_reg ?_
    refine h_q hflS rfl ?_
    refine h_val rfl (.bool false) (fun b w hb hH => exec_cmp rfl rfl rfl (cmp_eql_f (by decide)) hb) ?_
    refine h_q hflS rfl ?_
    refine h_done (d_else rfl (d_reg1 ?_))
    refine h_q hflS rfl ?_
    refine h_val rfl (.bool false) (fun b w hb hH => exec_cmp rfl rfl rfl (cmp_eql_f (by decide)) hb) ?_
    refine h_q hflS rfl ?_
    refine h_nil (f_to (d_else rfl (d_skip (f_to (d_seq (d_seq (d_reg ?_)))))))
    refine h_q hflS rfl ?_
    refine h_val rfl (.bool false) (fun b w hb hH => exec_cmp rfl rfl rfl (cmp_eql_f (by decide)) hb) ?_
    refine h_q hflS rfl ?_
    refine h_done (d_else rfl (d_reg1 ?_))
    refine h_q hflS rfl ?_
    refine h_val rfl (.bool false) (fun b w hb hH => exec_cmp rfl rfl rfl (cmp_eql_f (by decide)) hb) ?_
    refine h_q hflS rfl ?_
    refine h_nil (f_to (d_else rfl (d_skip (f_to (d_seq (d_reg ?_))))))
    refine h_q hflS rfl ?_
    refine h_val rfl (.bool false) (fun b w hb hH => exec_cmp rfl rfl rfl (cmp_eql_f (by decide)) hb) ?_
    refine h_q hflS rfl ?_
    refine h_done (d_else rfl (d_skip (f_to (d_seq (d_reg ?_)))))
    refine h_q hflS rfl ?_
    refine h_val rfl (.bool false) (fun b w hb hH => exec_cmp rfl rfl rfl (cmp_eql_f (by decide)) hb) ?_
    refine h_q hflS rfl ?_
    refine h_done (d_else rfl (d_skip (f_to (d_seq (d_reg ?_)))))
    refine h_q hflS rfl ?_
    refine h_val rfl (.bool false) (fun b w hb hH => exec_cmp rfl rfl rfl (cmp_eql_f (by decide)) hb) ?_
    refine h_q hflS rfl ?_
    refine h_done (d_else rfl (d_skip (f_to (d_seq (d_seq (d_reg ?_))))))
    refine h_q hflS rfl ?_
    refine h_val rfl (.bool true) (fun b w hb hH => exec_cmp rfl rfl rfl (cmp_eql_t (by decide)) hb) ?_
    refine h_q hflS rfl ?_
    refine h_done (d_then rfl (d_skip (f_to (d_then rfl (d_exit (f_then_exit (f_then_exit (f_block_other (by decide) (f_then_exit (f_block_other (by decide) (f_then_exit (f_block_other (by decide) (f_then_exit (f_block_other (by decide) (f_then_exit (f_block_other (by decide) (f_then_exit (f_block_exit (f_to (d_reg ?_))))))))))))))))))))
    refine h_q hflS rfl ?_
    refine h_val rfl (.int .i64 35) (fun b w hb hH => exec_or (by decide) rfl rfl rfl hb) ?_
    refine h_q hflS rfl ?_
    refine h_done (d_exit (f_block_other (by decide) (f_then_exit (f_block_other (by decide) (f_then_exit (f_block_exit (f_to (d_reg ?_))))))))
    refine h_q hflS rfl ?_
    refine h_done (d_ret ?_)
    exact f_fin1 (.tmp rfl) (fun w h => ⟨rfl, below0 h.up⟩) rfl
  · skip
    obtain rfl : h = 35 := hh.symm.trans rfl
    refine d_reg ?_
    refine h_q hflS rfl ?_
    refine h_val rfl (.bool false) (fun b w hb hH => exec_cmp rfl rfl rfl (cmp_eql_f (by decide)) hb) ?_
    refine h_q hflS rfl ?_
    refine h_done (d_else rfl (d_reg1 ?_))
    refine h_q hflS rfl ?_
    refine h_val rfl (.bool false) (fun b w hb hH => exec_cmp rfl rfl rfl (cmp_eql_f (by decide)) hb) ?_
    refine h_q hflS rfl ?_
    refine h_nil (f_to (d_else rfl (d_skip (f_to (d_seq (d_seq (d_reg ?_)))))))
    refine h_q hflS rfl ?_
    refine h_val rfl (.bool false) (fun b w hb hH => exec_cmp rfl rfl rfl (cmp_eql_f (by decide)) hb) ?_
    refine h_q hflS rfl ?_
    refine h_done (d_else rfl (d_reg1 ?_))
    refine h_q hflS rfl ?_
    refine h_val rfl (.bool false) (fun b w hb hH => exec_cmp rfl rfl rfl (cmp_eql_f (by decide)) hb) ?_
    refine h_q hflS rfl ?_
    refine h_nil (f_to (d_else rfl (d_skip (f_to (d_seq (d_reg ?_))))))
    refine h_q hflS rfl ?_
    refine h_val rfl (.bool false) (fun b w hb hH => exec_cmp rfl rfl rfl (cmp_eql_f (by decide)) hb) ?_
    refine h_q hflS rfl ?_
    refine h_done (d_else rfl (d_skip (f_to (d_seq (d_reg ?_)))))
    refine h_q hflS rfl ?_
    refine h_val rfl (.bool false) (fun b w hb hH => exec_cmp rfl rfl rfl (cmp_eql_f (by decide)) hb) ?_
    refine h_q hflS rfl ?_
    refine h_done (d_else rfl (d_skip (f_to (d_seq (d_reg ?_)))))
    refine h_q hflS rfl ?_
    refine h_val rfl (.bool false) (fun b w hb hH => exec_cmp rfl rfl rfl (cmp_eql_f (by decide)) hb) ?_
    refine h_q hflS rfl ?_
    refine h_done (d_else rfl (d_skip (f_to (d_seq (d_seq (d_reg ?_))))))
    refine h_q hflS rfl ?_
    refine h_val rfl (.bool false) (fun b w hb hH => exec_cmp rfl rfl rfl (cmp_eql_f (by decide)) hb) ?_
    refine h_q hflS rfl ?_
    refine h_done (d_else rfl (d_reg1 ?_))
    refine h_q hflS rfl ?_
    refine h_val rfl (.bool true) (fun b w hb hH => exec_cmp rfl rfl rfl (cmp_eql_t (by decide)) hb) ?_
    refine h_q hflS rfl ?_
    refine h_nil (f_to (d_then rfl (d_exit (f_then_exit (f_then_exit (f_block_other (by decide) (f_then_exit (f_block_other (by decide) (f_then_exit (f_block_other (by decide) (f_then_exit (f_block_other (by decide) (f_then_exit (f_block_other (by decide) (f_then_exit (f_block_exit (f_to (d_reg ?_))))))))))))))))))
    refine h_q hflS rfl ?_
    refine h_val rfl (.int .i64 35) (fun b w hb hH => exec_or (by decide) rfl rfl rfl hb) ?_
    refine h_q hflS rfl ?_
    refine h_done (d_exit (f_block_other (by decide) (f_then_exit (f_block_other (by decide) (f_then_exit (f_block_exit (f_to (d_reg ?_))))))))
    refine h_q hflS rfl ?_
    refine h_done (d_ret ?_)
    exact f_fin1 (.tmp rfl) (fun w h => ⟨rfl, below0 h.up⟩) rfl
  · skip
    obtain rfl : h = 39 := hh.symm.trans rfl
    refine d_reg ?_
    refine h_q hflS rfl ?_
    refine h_val rfl (.bool false) (fun b w hb hH => exec_cmp rfl rfl rfl (cmp_eql_f (by decide)) hb) ?_
    refine h_q hflS rfl ?_
    refine h_done (d_else rfl (d_reg1 ?_))
    refine h_q hflS rfl ?_
    refine h_val rfl (.bool false) (fun b w hb hH => exec_cmp rfl rfl rfl (cmp_eql_f (by decide)) hb) ?_
    refine h_q hflS rfl ?_
    refine h_nil (f_to (d_else rfl (d_skip (f_to (d_seq (d_seq (d_reg ?_)))))))
    refine h_q hflS rfl ?_
    refine h_val rfl (.bool false) (fun b w hb hH => exec_cmp rfl rfl rfl (cmp_eql_f (by decide)) hb) ?_
    refine h_q hflS rfl ?_
    refine h_done (d_else rfl (d_reg1 ?_))
    refine h_q hflS rfl ?_
    refine h_val rfl (.bool false) (fun b w hb hH => exec_cmp rfl rfl rfl (cmp_eql_f (by decide)) hb) ?_
    refine h_q hflS rfl ?_
    refine h_nil (f_to (d_else rfl (d_skip (f_to (d_seq (d_reg ?_))))))
    refine h_q hflS rfl ?_
    refine h_val rfl (.bool false) (fun b w hb hH => exec_cmp rfl rfl rfl (cmp_eql_f (by decide)) hb) ?_
    refine h_q hflS rfl ?_
    refine h_done (d_else rfl (d_skip (f_to (d_seq (d_reg ?_)))))
    refine h_q hflS rfl ?_
    refine h_val rfl (.bool false) (fun b w hb hH => exec_cmp rfl rfl rfl (cmp_eql_f (by decide)) hb) ?_
    refine h_q hflS rfl ?_
    refine h_done (d_else rfl (d_skip (f_to (d_seq (d_reg ?_)))))
    refine h_q hflS rfl ?_
    refine h_val rfl (.bool false) (fun b w hb hH => exec_cmp rfl rfl rfl (cmp_eql_f (by decide)) hb) ?_
    refine h_q hflS rfl ?_
    refine h_done (d_else rfl (d_skip (f_to (d_seq (d_seq (d_reg ?_))))))
    refine h_q hflS rfl ?_
    refine h_val rfl (.bool false) (fun b w hb hH => exec_cmp rfl rfl rfl (cmp_eql_f (by decide)) hb) ?_
    refine h_q hflS rfl ?_
    refine h_done (d_else rfl (d_reg1 ?_))
    refine h_q hflS rfl ?_
    refine h_val rfl (.bool false) (fun b w hb hH => exec_cmp rfl rfl rfl (cmp_eql_f (by decide)) hb) ?_
    refine h_q hflS rfl ?_
    refine h_nil (f_to (d_else rfl (d_skip (f_to (d_seq (d_reg ?_))))))
    refine h_q hflS rfl ?_
    refine h_val rfl (.bool true) (fun b w hb hH => exec_cmp rfl rfl rfl (cmp_eql_t (by decide)) hb) ?_
    refine h_q hflS rfl ?_
    refine h_done (d_then rfl (d_exit (f_then_exit (f_then_exit (f_block_other (by decide) (f_then_exit (f_block_other (by decide) (f_then_exit (f_block_other (by decide) (f_then_exit (f_block_other (by decide) (f_then_exit (f_block_other (by decide) (f_then_exit (f_block_other (by decide) (f_then_exit (f_block_exit (f_to (d_reg ?_)))))))))))))))))))
    refine h_q hflS rfl ?_
    refine h_val rfl (.int .i64 39) (fun b w hb hH => exec_or (by decide) rfl rfl rfl hb) ?_
    refine h_q hflS rfl ?_
    refine h_done (d_exit (f_block_other (by decide) (f_then_exit (f_block_exit (f_to (d_reg ?_))))))
    refine h_q hflS rfl ?_
    refine h_done (d_ret ?_)
    exact f_fin1 (.tmp rfl) (fun w h => ⟨rfl, below0 h.up⟩) rfl
  · skip
    obtain rfl : h = 1 := hh.symm.trans rfl
    refine d_reg ?_
    refine h_q hflS rfl ?_
    refine h_val rfl (.bool false) (fun b w hb hH => exec_cmp rfl rfl rfl (cmp_eql_f (by decide)) hb) ?_
    refine h_q hflS rfl ?_
    refine h_done (d_else rfl (d_reg1 ?_))
    refine h_q hflS rfl ?_
    refine h_val rfl (.bool false) (fun b w hb hH => exec_cmp rfl rfl rfl (cmp_eql_f (by decide)) hb) ?_
    refine h_q hflS rfl ?_
    refine h_nil (f_to (d_else rfl (d_skip (f_to (d_seq (d_seq (d_reg ?_)))))))
    refine h_q hflS rfl ?_
    refine h_val rfl (.bool false) (fun b w hb hH => exec_cmp rfl rfl rfl (cmp_eql_f (by decide)) hb) ?_
    refine h_q hflS rfl ?_
    refine h_done (d_else rfl (d_reg1 ?_))
    refine h_q hflS rfl ?_
    refine h_val rfl (.bool false) (fun b w hb hH => exec_cmp rfl rfl rfl (cmp_eql_f (by decide)) hb) ?_
    refine h_q hflS rfl ?_
    refine h_nil (f_to (d_else rfl (d_skip (f_to (d_seq (d_reg ?_))))))
    refine h_q hflS rfl ?_
    refine h_val rfl (.bool false) (fun b w hb hH => exec_cmp rfl rfl rfl (cmp_eql_f (by decide)) hb) ?_
    refine h_q hflS rfl ?_
    refine h_done (d_else rfl (d_skip (f_to (d_seq (d_reg ?_)))))
    refine h_q hflS rfl ?_
    refine h_val rfl (.bool false) (fun b w hb hH => exec_cmp rfl rfl rfl (cmp_eql_f (by decide)) hb) ?_
    refine h_q hflS rfl ?_
    refine h_done (d_else rfl (d_skip (f_to (d_seq (d_reg ?_)))))
    refine h_q hflS rfl ?_
    refine h_val rfl (.bool false) (fun b w hb hH => exec_cmp rfl rfl rfl (cmp_eql_f (by decide)) hb) ?_
    refine h_q hflS rfl ?_
    refine h_done (d_else rfl (d_skip (f_to (d_seq (d_seq (d_reg ?_))))))
    refine h_q hflS rfl ?_
    refine h_val rfl (.bool false) (fun b w hb hH => exec_cmp rfl rfl rfl (cmp_eql_f (by decide)) hb) ?_
    refine h_q hflS rfl ?_
    refine h_done (d_else rfl (d_reg1 ?_))
    refine h_q hflS rfl ?_
    refine h_val rfl (.bool false) (fun b w hb hH => exec_cmp rfl rfl rfl (cmp_eql_f (by decide)) hb) ?_
    refine h_q hflS rfl ?_
    refine h_nil (f_to (d_else rfl (d_skip (f_to (d_seq (d_reg ?_))))))
    refine h_q hflS rfl ?_
    refine h_val rfl (.bool false) (fun b w hb hH => exec_cmp rfl rfl rfl (cmp_eql_f (by decide)) hb) ?_
    refine h_q hflS rfl ?_
    refine h_done (d_else rfl (d_skip (f_to (d_reg ?_))))
    refine h_q hflS rfl ?_
    refine h_val rfl (.bool true) (fun b w hb hH => exec_cmp rfl rfl rfl (cmp_eql_t (by decide)) hb) ?_
    refine h_q hflS rfl ?_
    refine h_done (d_then rfl (d_exit (f_then_exit (f_block_other (by decide) (f_then_exit (f_block_other (by decide) (f_then_exit (f_block_other (by decide) (f_then_exit (f_block_other (by decide) (f_then_exit (f_block_other (by decide) (f_then_exit (f_block_other (by decide) (f_then_exit (f_block_other (by decide) (f_then_exit (f_block_exit (f_to (d_reg ?_))))))))))))))))))))
    refine h_q hflS rfl ?_
    refine h_val rfl (.int .i64 1) (fun b w hb hH => exec_or (by decide) rfl rfl rfl hb) ?_
    refine h_q hflS rfl ?_
    refine h_done (d_exit (f_block_exit (f_to (d_reg ?_))))
    refine h_q hflS rfl ?_
    refine h_done (d_ret ?_)
    exact f_fin1 (.tmp rfl) (fun w h => ⟨rfl, below0 h.up⟩) rfl
  · skip
    obtain rfl : h = 0 := by rw [← hh]; exact fo_off (by omega)
    refine d_reg ?_
    refine h_q hflS rfl ?_
    refine h_val rfl (.bool false) (fun b w hb hH => exec_cmp rfl rfl rfl (cmp_eql_f (by omega)) hb) ?_
    refine h_q hflS rfl ?_
    refine h_done (d_else rfl (d_reg1 ?_))
    refine h_q hflS rfl ?_
    refine h_val rfl (.bool false) (fun b w hb hH => exec_cmp rfl rfl rfl (cmp_eql_f (by omega)) hb) ?_
    refine h_q hflS rfl ?_
    refine h_nil (f_to (d_else rfl (d_skip (f_to (d_seq (d_seq (d_reg ?_)))))))
    refine h_q hflS rfl ?_
    refine h_val rfl (.bool false) (fun b w hb hH => exec_cmp rfl rfl rfl (cmp_eql_f (by omega)) hb) ?_
    refine h_q hflS rfl ?_
    refine h_done (d_else rfl (d_reg1 ?_))
    refine h_q hflS rfl ?_
    refine h_val rfl (.bool false) (fun b w hb hH => exec_cmp rfl rfl rfl (cmp_eql_f (by omega)) hb) ?_
    refine h_q hflS rfl ?_
    refine h_nil (f_to (d_else rfl (d_skip (f_to (d_seq (d_reg ?_))))))
    refine h_q hflS rfl ?_
    refine h_val rfl (.bool false) (fun b w hb hH => exec_cmp rfl rfl rfl (cmp_eql_f (by omega)) hb) ?_
    refine h_q hflS rfl ?_
    refine h_done (d_else rfl (d_skip (f_to (d_seq (d_reg ?_)))))
    refine h_q hflS rfl ?_
    refine h_val rfl (.bool false) (fun b w hb hH => exec_cmp rfl rfl rfl (cmp_eql_f (by omega)) hb) ?_
    refine h_q hflS rfl ?_
    refine h_done (d_else rfl (d_skip (f_to (d_seq (d_reg ?_)))))
    refine h_q hflS rfl ?_
    refine h_val rfl (.bool false) (fun b w hb hH => exec_cmp rfl rfl rfl (cmp_eql_f (by omega)) hb) ?_
    refine h_q hflS rfl ?_
    refine h_done (d_else rfl (d_skip (f_to (d_seq (d_seq (d_reg ?_))))))
    refine h_q hflS rfl ?_
    refine h_val rfl (.bool false) (fun b w hb hH => exec_cmp rfl rfl rfl (cmp_eql_f (by omega)) hb) ?_
    refine h_q hflS rfl ?_
    refine h_done (d_else rfl (d_reg1 ?_))
    refine h_q hflS rfl ?_
    refine h_val rfl (.bool false) (fun b w hb hH => exec_cmp rfl rfl rfl (cmp_eql_f (by omega)) hb) ?_
    refine h_q hflS rfl ?_
    refine h_nil (f_to (d_else rfl (d_skip (f_to (d_seq (d_reg ?_))))))
    refine h_q hflS rfl ?_
    refine h_val rfl (.bool false) (fun b w hb hH => exec_cmp rfl rfl rfl (cmp_eql_f (by omega)) hb) ?_
    refine h_q hflS rfl ?_
    refine h_done (d_else rfl (d_skip (f_to (d_reg ?_))))
    refine h_q hflS rfl ?_
    refine h_val rfl (.bool false) (fun b w hb hH => exec_cmp rfl rfl rfl (cmp_eql_f (by omega)) hb) ?_
    refine h_q hflS rfl ?_
    refine h_done (d_else rfl (d_skip (f_to (d_exit (f_block_other (by decide) (f_then_exit (f_block_other (by decide) (f_then_exit (f_block_other (by decide) (f_then_exit (f_block_other (by decide) (f_then_exit (f_block_other (by decide) (f_then_exit (f_block_other (by decide) (f_then_exit (f_block_other (by decide) (f_then_exit (f_block_other (by decide) (f_then_exit (f_block_exit (f_to (d_reg ?_)))))))))))))))))))))))
    refine h_q hflS rfl ?_
    refine h_done (d_ret ?_)
    exact f_fin1 (.tmp rfl) (fun w h => ⟨rfl, below0 h.up⟩) rfl

set_option maxRecDepth 100000 in
theorem may_any (w : World) (has right zero r : Bool) (hr : mayB has right zero = r) : Calls Tryd.prog 19 #[.bool has, .bool right, .bool zero] w fun e w' => e = .returned (.bool r) ∧ Below w.heap.size w w' := by
  refine d_in (args := [.bool has, .bool right, .bool zero]) 10 Tryd.func19 rfl rfl rfl ?_
  refine d_reg ?_
  refine h_q hflS rfl ?_
  refine h_done (d_seq ?_)
  cases has
  · skip
    obtain rfl : zero = r := hr
    refine d_reg ?_
    refine h_q hflS rfl ?_
    refine h_done (d_else rfl (d_skip (f_to (d_reg ?_))))
    refine h_q hflS rfl ?_
    refine h_done (d_ret ?_)
    exact f_fin1 (.tmp rfl) (fun w h => ⟨rfl, below0 h.up⟩) rfl
  · skip
    obtain rfl : right = r := hr
    refine d_reg ?_
    refine h_q hflS rfl ?_
    refine h_done (d_then rfl (d_reg ?_))
    refine h_q hflS rfl ?_
    refine h_done (d_ret (f_then_ret ?_))
    exact f_fin1 (.tmp rfl) (fun w h => ⟨rfl, below0 h.up⟩) rfl

set_option maxRecDepth 100000 in
theorem number_any (w : World) (n : Int) (r : Bool) (hr : numB n = r) : Calls Tryd.prog 21 #[.int .u64 n] w fun e w' => e = .returned (.bool r) ∧ Below w.heap.size w w' := by
  refine d_in (args := [.int .u64 n]) 9 Tryd.func21 rfl rfl rfl ?_
  refine d_reg ?_
  refine h_q hflS rfl ?_
  refine h_done ?_
  have hc : n < 1 ∨ (1 ≤ n ∧ n ≤ 72057594037927935) ∨ 72057594037927935 < n := by omega
  rcases hc with h1 | ⟨h1, h2⟩ | h1
  · skip
    obtain rfl : r = false := by rw [← hr]; simp [numB]; omega
    refine d_reg ?_
    refine h_q hflS rfl ?_
    refine h_val rfl (.bool false) (fun b w hb hH => exec_cmp rfl rfl rfl (cmp_geq_f (by omega)) hb) ?_
    refine h_q hflS rfl ?_
    refine h_done (d_ret ?_)
    exact f_fin1 (.tmp rfl) (fun w h => ⟨rfl, below0 h.up⟩) rfl
  · skip
    obtain rfl : r = true := by rw [← hr]; simp [numB]; omega
    refine d_reg ?_
    refine h_q hflS rfl ?_
    refine h_val rfl (.bool true) (fun b w hb hH => exec_cmp rfl rfl rfl (cmp_geq_t (by omega)) hb) ?_
    refine h_q hflS rfl ?_
    refine h_val rfl (.bool true) (fun b w hb hH => exec_cmp rfl rfl rfl (cmp_leq_t (by omega)) hb) ?_
    refine h_q hflS rfl ?_
    refine h_done (d_ret ?_)
    exact f_fin1 (.tmp rfl) (fun w h => ⟨rfl, below0 h.up⟩) rfl
  · skip
    obtain rfl : r = false := by rw [← hr]; simp [numB]; omega
    refine d_reg ?_
    refine h_q hflS rfl ?_
    refine h_val rfl (.bool true) (fun b w hb hH => exec_cmp rfl rfl rfl (cmp_geq_t (by omega)) hb) ?_
    refine h_q hflS rfl ?_
    refine h_val rfl (.bool false) (fun b w hb hH => exec_cmp rfl rfl rfl (cmp_leq_f (by omega)) hb) ?_
    refine h_q hflS rfl ?_
    refine h_done (d_ret ?_)
    exact f_fin1 (.tmp rfl) (fun w h => ⟨rfl, below0 h.up⟩) rfl

set_option maxRecDepth 100000 in
theorem decmay_any (w : World) (n : Int) (r : Bool) (hr : scB n = r) : Calls Tryd.prog 42 #[.int .i64 n] w fun e w' => e = .returned (.bool r) ∧ Below w.heap.size w w' := by
  refine d_in (args := [.int .i64 n]) 9 Tryd.func42 rfl rfl rfl ?_
  refine d_reg ?_
  refine h_q hflS rfl ?_
  refine h_done ?_
  have hc : n < 0 ∨ (0 ≤ n ∧ n ≤ 18) ∨ 18 < n := by omega
  rcases hc with h1 | ⟨h1, h2⟩ | h1
  · skip
    obtain rfl : r = false := by rw [← hr]; simp [scB]; omega
    refine d_reg ?_
    refine h_q hflS rfl ?_
    refine h_val rfl (.bool false) (fun b w hb hH => exec_cmp rfl rfl rfl (cmp_geq_f (by omega)) hb) ?_
    refine h_q hflS rfl ?_
    refine h_done (d_ret ?_)
    exact f_fin1 (.tmp rfl) (fun w h => ⟨rfl, below0 h.up⟩) rfl
  · skip
    obtain rfl : r = true := by rw [← hr]; simp [scB]; omega
    refine d_reg ?_
    refine h_q hflS rfl ?_
    refine h_val rfl (.bool true) (fun b w hb hH => exec_cmp rfl rfl rfl (cmp_geq_t (by omega)) hb) ?_
    refine h_q hflS rfl ?_
    refine h_val rfl (.bool true) (fun b w hb hH => exec_cmp rfl rfl rfl (cmp_leq_t (by omega)) hb) ?_
    refine h_q hflS rfl ?_
    refine h_done (d_ret ?_)
    exact f_fin1 (.tmp rfl) (fun w h => ⟨rfl, below0 h.up⟩) rfl
  · skip
    obtain rfl : r = false := by rw [← hr]; simp [scB]; omega
    refine d_reg ?_
    refine h_q hflS rfl ?_
    refine h_val rfl (.bool true) (fun b w hb hH => exec_cmp rfl rfl rfl (cmp_geq_t (by omega)) hb) ?_
    refine h_q hflS rfl ?_
    refine h_val rfl (.bool false) (fun b w hb hH => exec_cmp rfl rfl rfl (cmp_leq_f (by omega)) hb) ?_
    refine h_q hflS rfl ?_
    refine h_done (d_ret ?_)
    exact f_fin1 (.tmp rfl) (fun w h => ⟨rfl, below0 h.up⟩) rfl

set_option maxRecDepth 100000 in
theorem decRight_any (w : World) (hi lo sc : Int) (r : Bool) (hr : scB sc = r) : Calls Tryd.prog 22 #[.agg #[.int .i64 hi, .int .u64 lo, .int .i64 sc]] w fun e w' => e = .returned (.bool r) ∧ Below w.heap.size w w' := by
  refine d_in (args := [.agg #[.int .i64 hi, .int .u64 lo, .int .i64 sc]]) 6 Tryd.func22 rfl rfl rfl ?_
  refine d_reg ?_
  refine h_q hflS rfl ?_
  refine h_act (post := fun g1 => [cell g1 26 #[.int .i64 hi, .int .u64 lo, .int .i64 sc]]) rfl (a_box (cs := #[.int .i64 hi, .int .u64 lo, .int .i64 sc]) rfl rfl rfl) ?_; rintro g1
  refine h_q hflS rfl ?_
  refine h_done (d_reg ?_)
  refine h_q hflS rfl ?_
  refine h_val rfl (.int .i64 sc) (fun b w hb hH => exec_load rfl rfl (reads_one ty_int rfl) (hH.row 0 rfl) hb) ?_
  refine h_act (post := fun _ => [cell g1 26 #[.int .i64 hi, .int .u64 lo, .int .i64 sc]]) rfl (a_call (ent_of Tryd.func42 (by kernel_rfl) rfl) (fun w hH => decmay_any w sc r hr) rfl rfl rfl) ?_; rintro ⟨⟩
  refine h_q hflS rfl ?_
  refine h_done (d_ret ?_)
  exact f_fin1 (.tmp rfl) (fun w h => ⟨rfl, below0 h.up⟩) rfl

theorem letB_f {x : UInt8} (h : x.toNat < 65 ∨ 90 < x.toNat) : letB x = false := by unfold letB; simp; omega
theorem letB_t {x : UInt8} (h1 : 65 ≤ x.toNat) (h2 : x.toNat ≤ 90) : letB x = true := by unfold letB; simp; omega
theorem nameB_bad {l : List UInt8} {x : UInt8} {i : Nat} (hx : l[i]? = some x) (h : letB x = false) : nameB l = false := by
  unfold nameB
  have hm : x ∈ l := List.mem_of_getElem? hx
  simp only [Bool.and_eq_false_iff, List.all_eq_false]
  exact .inr ⟨x, hm, by rw [h]; decide⟩
theorem nameB_ok {l : List UInt8} {i : Nat} (h : l.length = 3) (hi : 3 ≤ i) (ha : (l.take i).all letB = true) : nameB l = true := by
  rw [List.take_of_length_le (by omega)] at ha
  unfold nameB
  simp only [h, ha]; rfl
theorem all_step {l : List UInt8} {x : UInt8} {i : Nat} (ha : (l.take i).all letB = true) (hx : l[i]? = some x) (h : letB x = true) : (l.take (i + 1)).all letB = true := by
  rw [List.take_add_one, hx, List.all_append, ha]
  simpa using h

set_option maxRecDepth 100000 in
theorem name_any (w : World) (l : List UInt8) (r : Bool) (hr : nameB l = r) (hl : l.length ≤ 9223372036854775807) : Calls Tryd.prog 17 #[.string (bs l)] w fun e w' => e = .returned (.bool r) ∧ Below w.heap.size w w' := by
  refine d_in (args := [.string (bs l)]) 23 Tryd.func17 rfl rfl rfl ?_
  refine d_reg ?_
  refine h_q hflS rfl ?_
  refine h_done (d_seq ?_)
  by_cases h3 : l.length = 3
  · skip
    refine d_reg ?_
    refine h_q hflS rfl ?_
    refine h_val rfl (.int .i64 (l.length : Int)) (fun b w hb hH => exec_builtin2 rfl rfl (fun cs => (fun w cs => run_len_bs Tryd.underlying9 _ _ w cs) w cs) hb) ?_
    refine h_val rfl (.bool false) (fun b w hb hH => exec_cmp rfl rfl rfl (cmp_neq_f (by omega)) hb) ?_
    refine h_done (d_else rfl (d_skip (f_to (d_seq (d_reg ?_)))))
    refine h_q hflS rfl ?_
    refine h_val rfl (.int .i64 (l.length : Int)) (fun b w hb hH => exec_builtin2 rfl rfl (fun cs => (fun w cs => run_len_bs Tryd.underlying9 _ _ w cs) w cs) hb) ?_
    refine h_q hflS rfl ?_
    refine h_done (d_block ?_)
    refine d_loop (α := Nat) (fun i => [(0, .string (bs l)), (2, .bool false), (8, .int .i64 (l.length : Int)), (9, .int .i64 ((i : Nat) : Int))]) (fun i => []) (fun i => i ≤ 3 ∧ (l.take i).all letB = true) (fun i => 3 - i) 0 ⟨by omega, rfl⟩ ⟨rfl, rfl, rfl, rfl, trivial⟩ rfl ?_
    rintro i hI
    refine WC2.at_ (env' := [(0, .string (bs l)), (2, .bool false), (8, .int .i64 (l.length : Int)), (9, .int .i64 ((i : Nat) : Int))]) (rs' := []) ⟨rfl, rfl, rfl, rfl, trivial⟩ rfl ?_
    have hI1 : i ≤ 3 := hI.1
    rcases Nat.lt_or_ge i 3 with hi | hi
    · skip
      obtain ⟨x, hx⟩ : ∃ x, l[i]? = some x := ⟨_, List.getElem?_eq_getElem (by omega)⟩
      have hxl := UInt8.toNat_lt x
      refine d_reg ?_
      refine h_q hflS rfl ?_
      refine h_val rfl (.bool true) (fun b w hb hH => exec_cmp rfl rfl rfl (cmp_lss_t (by omega)) hb) ?_
      refine h_done (d_seq (d_then rfl (d_skip (f_to (d_seq (d_block (d_reg ?_)))))))
      refine h_q hflS rfl ?_
      refine h_done ?_
      have hc : x.toNat < 65 ∨ (65 ≤ x.toNat ∧ 90 < x.toNat) ∨ (65 ≤ x.toNat ∧ x.toNat ≤ 90) := by omega
      rcases hc with h4 | ⟨h4, h5⟩ | ⟨h4, h5⟩
      · skip
        obtain rfl : r = false := by rw [← hr]; exact nameB_bad hx (letB_f (by omega))
        refine d_reg ?_
        refine h_q hflS rfl ?_
        refine h_val rfl (.int .u8 (x.toNat : Int)) (fun b w hb hH => by exact exec_index (i := (i)) Tryd.underlying9 hx rfl rfl rfl hb) ?_
        refine h_val rfl (.bool true) (fun b w hb hH => exec_cmp rfl rfl rfl (cmp_lss_t (by omega)) hb) ?_
        refine h_q hflS rfl ?_
        refine h_done (d_then rfl (d_reg ?_))
        refine h_q hflS rfl ?_
        refine h_done (d_ret (f_block_ret (f_then_ret (f_then_ret (f_block_ret (f_then_ret ?_))))))
        exact f_fin1 (.tmp rfl) (fun w h => ⟨rfl, below0 h.up⟩) rfl
      · skip
        obtain rfl : r = false := by rw [← hr]; exact nameB_bad hx (letB_f (by omega))
        refine d_reg ?_
        refine h_q hflS rfl ?_
        refine h_val rfl (.int .u8 (x.toNat : Int)) (fun b w hb hH => by exact exec_index (i := (i)) Tryd.underlying9 hx rfl rfl rfl hb) ?_
        refine h_val rfl (.bool false) (fun b w hb hH => exec_cmp rfl rfl rfl (cmp_lss_f (by omega)) hb) ?_
        refine h_q hflS rfl ?_
        refine h_val rfl (.int .u8 (x.toNat : Int)) (fun b w hb hH => by exact exec_index (i := (i)) Tryd.underlying9 hx rfl rfl rfl hb) ?_
        refine h_val rfl (.bool true) (fun b w hb hH => exec_cmp rfl rfl rfl (cmp_gtr_t (by omega)) hb) ?_
        refine h_q hflS rfl ?_
        refine h_done (d_then rfl (d_reg ?_))
        refine h_q hflS rfl ?_
        refine h_done (d_ret (f_block_ret (f_then_ret (f_then_ret (f_block_ret (f_then_ret ?_))))))
        exact f_fin1 (.tmp rfl) (fun w h => ⟨rfl, below0 h.up⟩) rfl
      · skip
        refine d_reg ?_
        refine h_q hflS rfl ?_
        refine h_val rfl (.int .u8 (x.toNat : Int)) (fun b w hb hH => by exact exec_index (i := (i)) Tryd.underlying9 hx rfl rfl rfl hb) ?_
        refine h_val rfl (.bool false) (fun b w hb hH => exec_cmp rfl rfl rfl (cmp_lss_f (by omega)) hb) ?_
        refine h_q hflS rfl ?_
        refine h_val rfl (.int .u8 (x.toNat : Int)) (fun b w hb hH => by exact exec_index (i := (i)) Tryd.underlying9 hx rfl rfl rfl hb) ?_
        refine h_val rfl (.bool false) (fun b w hb hH => exec_cmp rfl rfl rfl (cmp_gtr_f (by omega)) hb) ?_
        refine h_q hflS rfl ?_
        refine h_done (d_else rfl (d_skip (f_block (f_to (d_reg1 ?_)))))
        refine h_q hflS rfl ?_
        refine h_val rfl (.int .i64 ((i + 1 : Nat) : Int)) (fun b w hb hH => exec_ar rfl rfl rfl rfl (by rw [IntWalk.i64_in _ (by omega)]; omega) hb) ?_
        refine h_q hflS rfl ?_
        refine h_nil ?_
        exact f_again (i + 1) 0 ⟨by omega, all_step hI.2 hx (letB_t h4 h5)⟩ (by omega) ⟨rfl, rfl, rfl, rfl, trivial⟩ rfl
    · skip
      obtain rfl : r = true := by rw [← hr]; exact nameB_ok h3 (by omega) hI.2
      refine d_reg ?_
      refine h_q hflS rfl ?_
      refine h_val rfl (.bool false) (fun b w hb hH => exec_cmp rfl rfl rfl (cmp_lss_f (by omega)) hb) ?_
      refine h_done (d_seq (d_else rfl (d_exit (f_then_exit (f_then_exit (f_block_exit (f_to (d_reg ?_))))))))
      refine h_q hflS rfl ?_
      refine h_done (d_ret ?_)
      exact f_fin1 (.tmp rfl) (fun w h => ⟨rfl, below0 h.up⟩) rfl
  · skip
    obtain rfl : r = false := by rw [← hr]; unfold nameB; simp [h3]
    refine d_reg ?_
    refine h_q hflS rfl ?_
    refine h_val rfl (.int .i64 (l.length : Int)) (fun b w hb hH => exec_builtin2 rfl rfl (fun cs => (fun w cs => run_len_bs Tryd.underlying9 _ _ w cs) w cs) hb) ?_
    refine h_val rfl (.bool true) (fun b w hb hH => exec_cmp rfl rfl rfl (cmp_neq_t (by omega)) hb) ?_
    refine h_done (d_then rfl (d_reg ?_))
    refine h_q hflS rfl ?_
    refine h_done (d_ret (f_then_ret ?_))
    exact f_fin1 (.tmp rfl) (fun w h => ⟨rfl, below0 h.up⟩) rfl

set_option maxRecDepth 100000 in
theorem rname_any (w : World) (l : List UInt8) (r : Bool) (hr : nameB l = r) (hl : l.length ≤ 9223372036854775807) : Calls Tryd.prog 43 #[.string (bs l)] w fun e w' => e = .returned (.bool r) ∧ Below w.heap.size w w' := by
  refine d_in (args := [.string (bs l)]) 21 Tryd.func43 rfl rfl rfl ?_
  refine d_reg ?_
  refine h_q hflS rfl ?_
  refine h_done (d_seq ?_)
  by_cases h3 : l.length = 3
  · skip
    refine d_reg ?_
    refine h_q hflS rfl ?_
    refine h_val rfl (.int .i64 (l.length : Int)) (fun b w hb hH => exec_builtin2 rfl rfl (fun cs => (fun w cs => run_len_bs Tryd.underlying9 _ _ w cs) w cs) hb) ?_
    refine h_val rfl (.bool false) (fun b w hb hH => exec_cmp rfl rfl rfl (cmp_neq_f (by omega)) hb) ?_
    refine h_done (d_else rfl (d_skip (f_to (d_seq (d_reg ?_)))))
    refine h_q hflS rfl ?_
    refine h_done (d_block ?_)
    refine d_loop (α := Nat) (fun i => [(0, .string (bs l)), (2, .bool false), (3, .int .i64 ((i : Nat) : Int))]) (fun i => []) (fun i => i ≤ 3 ∧ (l.take i).all letB = true) (fun i => 3 - i) 0 ⟨by omega, rfl⟩ ⟨rfl, rfl, rfl, trivial⟩ rfl ?_
    rintro i hI
    refine WC2.at_ (env' := [(0, .string (bs l)), (2, .bool false), (3, .int .i64 ((i : Nat) : Int))]) (rs' := []) ⟨rfl, rfl, rfl, trivial⟩ rfl ?_
    have hI1 : i ≤ 3 := hI.1
    refine d_seq ?_
    rcases Nat.lt_or_ge i 3 with hi | hi
    · skip
      obtain ⟨x, hx⟩ : ∃ x, l[i]? = some x := ⟨_, List.getElem?_eq_getElem (by omega)⟩
      have hxl := UInt8.toNat_lt x
      refine d_reg ?_
      refine h_q hflS rfl ?_
      refine h_val rfl (.bool true) (fun b w hb hH => exec_cmp rfl rfl rfl (cmp_lss_t (by omega)) hb) ?_
      refine h_done (d_then rfl (d_skip (f_to (d_seq (d_block ?_)))))
      have hc : x.toNat < 65 ∨ (65 ≤ x.toNat ∧ 90 < x.toNat) ∨ (65 ≤ x.toNat ∧ x.toNat ≤ 90) := by omega
      rcases hc with h4 | ⟨h4, h5⟩ | ⟨h4, h5⟩
      · skip
        obtain rfl : r = false := by rw [← hr]; exact nameB_bad hx (letB_f (by omega))
        refine d_reg ?_
        refine h_q hflS rfl ?_
        refine h_val rfl (.int .u8 (x.toNat : Int)) (fun b w hb hH => by exact exec_index (i := (i)) Tryd.underlying9 hx rfl rfl rfl hb) ?_
        refine h_val rfl (.bool true) (fun b w hb hH => exec_cmp rfl rfl rfl (cmp_lss_t (by omega)) hb) ?_
        refine h_q hflS rfl ?_
        refine h_done (d_then rfl (d_reg ?_))
        refine h_q hflS rfl ?_
        refine h_done (d_ret (f_block_ret (f_then_ret (f_then_ret (f_block_ret (f_then_ret ?_))))))
        exact f_fin1 (.tmp rfl) (fun w h => ⟨rfl, below0 h.up⟩) rfl
      · skip
        obtain rfl : r = false := by rw [← hr]; exact nameB_bad hx (letB_f (by omega))
        refine d_reg ?_
        refine h_q hflS rfl ?_
        refine h_val rfl (.int .u8 (x.toNat : Int)) (fun b w hb hH => by exact exec_index (i := (i)) Tryd.underlying9 hx rfl rfl rfl hb) ?_
        refine h_val rfl (.bool false) (fun b w hb hH => exec_cmp rfl rfl rfl (cmp_lss_f (by omega)) hb) ?_
        refine h_q hflS rfl ?_
        refine h_val rfl (.int .u8 (x.toNat : Int)) (fun b w hb hH => by exact exec_index (i := (i)) Tryd.underlying9 hx rfl rfl rfl hb) ?_
        refine h_val rfl (.bool true) (fun b w hb hH => exec_cmp rfl rfl rfl (cmp_gtr_t (by omega)) hb) ?_
        refine h_q hflS rfl ?_
        refine h_done (d_then rfl (d_reg ?_))
        refine h_q hflS rfl ?_
        refine h_done (d_ret (f_block_ret (f_then_ret (f_then_ret (f_block_ret (f_then_ret ?_))))))
        exact f_fin1 (.tmp rfl) (fun w h => ⟨rfl, below0 h.up⟩) rfl
      · skip
        refine d_reg ?_
        refine h_q hflS rfl ?_
        refine h_val rfl (.int .u8 (x.toNat : Int)) (fun b w hb hH => by exact exec_index (i := (i)) Tryd.underlying9 hx rfl rfl rfl hb) ?_
        refine h_val rfl (.bool false) (fun b w hb hH => exec_cmp rfl rfl rfl (cmp_lss_f (by omega)) hb) ?_
        refine h_q hflS rfl ?_
        refine h_val rfl (.int .u8 (x.toNat : Int)) (fun b w hb hH => by exact exec_index (i := (i)) Tryd.underlying9 hx rfl rfl rfl hb) ?_
        refine h_val rfl (.bool false) (fun b w hb hH => exec_cmp rfl rfl rfl (cmp_gtr_f (by omega)) hb) ?_
        refine h_q hflS rfl ?_
        refine h_done (d_else rfl (d_skip (f_block (f_to (d_reg1 ?_)))))
        refine h_q hflS rfl ?_
        refine h_val rfl (.int .i64 ((i + 1 : Nat) : Int)) (fun b w hb hH => exec_ar rfl rfl rfl rfl (by rw [IntWalk.i64_in _ (by omega)]; omega) hb) ?_
        refine h_q hflS rfl ?_
        refine h_nil ?_
        exact f_again (i + 1) 0 ⟨by omega, all_step hI.2 hx (letB_t h4 h5)⟩ (by omega) ⟨rfl, rfl, rfl, trivial⟩ rfl
    · skip
      obtain rfl : r = true := by rw [← hr]; exact nameB_ok h3 (by omega) hI.2
      refine d_reg ?_
      refine h_q hflS rfl ?_
      refine h_val rfl (.bool false) (fun b w hb hH => exec_cmp rfl rfl rfl (cmp_lss_f (by omega)) hb) ?_
      refine h_done (d_else rfl (d_exit (f_then_exit (f_then_exit (f_block_exit (f_to (d_reg ?_)))))))
      refine h_q hflS rfl ?_
      refine h_done (d_ret ?_)
      exact f_fin1 (.tmp rfl) (fun w h => ⟨rfl, below0 h.up⟩) rfl
  · skip
    obtain rfl : r = false := by rw [← hr]; unfold nameB; simp [h3]
    refine d_reg ?_
    refine h_q hflS rfl ?_
    refine h_val rfl (.int .i64 (l.length : Int)) (fun b w hb hH => exec_builtin2 rfl rfl (fun cs => (fun w cs => run_len_bs Tryd.underlying9 _ _ w cs) w cs) hb) ?_
    refine h_val rfl (.bool true) (fun b w hb hH => exec_cmp rfl rfl rfl (cmp_neq_t (by omega)) hb) ?_
    refine h_done (d_then rfl (d_reg ?_))
    refine h_q hflS rfl ?_
    refine h_done (d_ret (f_then_ret ?_))
    exact f_fin1 (.tmp rfl) (fun w h => ⟨rfl, below0 h.up⟩) rfl

set_option maxRecDepth 100000 in
theorem rnumber_f (w : World) (n : Int) (r : Bool) (hr : (n == 0) = r) : Calls Tryd.prog 24 #[.bool false, .int .u64 n] w fun e w' => e = .returned (.bool r) ∧ Below w.heap.size w w' := by
  refine d_in (args := [.bool false, .int .u64 n]) 15 Tryd.func24 rfl rfl rfl ?_
  refine d_reg ?_
  refine h_q hflS rfl ?_
  refine h_done (d_seq (d_reg ?_))
  refine h_q hflS rfl ?_
  refine h_done (d_then rfl ?_)
  by_cases h0 : n = 0
  · skip
    obtain rfl : r = true := by rw [← hr]; simp [h0]
    refine d_reg ?_
    refine h_q hflS rfl ?_
    refine h_val rfl (.bool true) (fun b w hb hH => exec_cmp rfl rfl rfl (cmp_eql_t h0) hb) ?_
    refine h_q hflS rfl ?_
    refine h_done (d_ret (f_then_ret ?_))
    exact f_fin1 (.tmp rfl) (fun w h => ⟨rfl, below0 h.up⟩) rfl
  · skip
    obtain rfl : r = false := by rw [← hr]; simp [h0]
    refine d_reg ?_
    refine h_q hflS rfl ?_
    refine h_val rfl (.bool false) (fun b w hb hH => exec_cmp rfl rfl rfl (cmp_eql_f h0) hb) ?_
    refine h_q hflS rfl ?_
    refine h_done (d_ret (f_then_ret ?_))
    exact f_fin1 (.tmp rfl) (fun w h => ⟨rfl, below0 h.up⟩) rfl

set_option maxRecDepth 100000 in
theorem rnumber_t (w : World) (n : Int) (r : Bool) (hr : numB n = r) : Calls Tryd.prog 24 #[.bool true, .int .u64 n] w fun e w' => e = .returned (.bool r) ∧ Below w.heap.size w w' := by
  refine d_in (args := [.bool true, .int .u64 n]) 15 Tryd.func24 rfl rfl rfl ?_
  refine d_reg ?_
  refine h_q hflS rfl ?_
  refine h_done (d_seq (d_reg ?_))
  refine h_q hflS rfl ?_
  refine h_done (d_else rfl (d_skip (f_to ?_)))
  have hc : n < 1 ∨ (1 ≤ n ∧ n ≤ 72057594037927935) ∨ 72057594037927935 < n := by omega
  rcases hc with h1 | ⟨h1, h2⟩ | h1
  · skip
    obtain rfl : r = false := by rw [← hr]; simp [numB]; omega
    refine d_reg ?_
    refine h_q hflS rfl ?_
    refine h_val rfl (.bool false) (fun b w hb hH => exec_cmp rfl rfl rfl (cmp_geq_f (by omega)) hb) ?_
    refine h_q hflS rfl ?_
    refine h_done (d_ret ?_)
    exact f_fin1 (.tmp rfl) (fun w h => ⟨rfl, below0 h.up⟩) rfl
  · skip
    obtain rfl : r = true := by rw [← hr]; simp [numB]; omega
    refine d_reg ?_
    refine h_q hflS rfl ?_
    refine h_val rfl (.bool true) (fun b w hb hH => exec_cmp rfl rfl rfl (cmp_geq_t (by omega)) hb) ?_
    refine h_q hflS rfl ?_
    refine h_val rfl (.bool true) (fun b w hb hH => exec_cmp rfl rfl rfl (cmp_leq_t (by omega)) hb) ?_
    refine h_q hflS rfl ?_
    refine h_done (d_ret ?_)
    exact f_fin1 (.tmp rfl) (fun w h => ⟨rfl, below0 h.up⟩) rfl
  · skip
    obtain rfl : r = false := by rw [← hr]; simp [numB]; omega
    refine d_reg ?_
    refine h_q hflS rfl ?_
    refine h_val rfl (.bool true) (fun b w hb hH => exec_cmp rfl rfl rfl (cmp_geq_t (by omega)) hb) ?_
    refine h_q hflS rfl ?_
    refine h_val rfl (.bool false) (fun b w hb hH => exec_cmp rfl rfl rfl (cmp_leq_f (by omega)) hb) ?_
    refine h_q hflS rfl ?_
    refine h_done (d_ret ?_)
    exact f_fin1 (.tmp rfl) (fun w h => ⟨rfl, below0 h.up⟩) rfl

theorem rnumber_any (w : World) (there : Bool) (n : Int) (r : Bool) (hr : mayB there (numB n) (n == 0) = r) : Calls Tryd.prog 24 #[.bool there, .int .u64 n] w fun e w' => e = .returned (.bool r) ∧ Below w.heap.size w w' := by
  cases there
  · exact rnumber_f w n r hr
  · exact rnumber_t w n r hr

set_option maxRecDepth 100000 in
theorem rnm_f (w : World) (l : List UInt8) (r : Bool) (hr : (l == []) = r) : Calls Tryd.prog 26 #[.bool false, .string (bs l)] w fun e w' => e = .returned (.bool r) ∧ Below w.heap.size w w' := by
  refine d_in (args := [.bool false, .string (bs l)]) 11 Tryd.func26 rfl rfl rfl ?_
  refine d_reg ?_
  refine h_q hflS rfl ?_
  refine h_done (d_seq (d_reg ?_))
  refine h_q hflS rfl ?_
  refine h_done (d_then rfl (d_reg ?_))
  refine h_q hflS rfl ?_
  refine h_val rfl (.bool r) (fun b w hb hH => exec_same rfl rfl rfl hr hb) ?_
  refine h_q hflS rfl ?_
  refine h_done (d_ret (f_then_ret ?_))
  exact f_fin1 (.tmp rfl) (fun w h => ⟨rfl, below0 h.up⟩) rfl

set_option maxRecDepth 100000 in
theorem rnm_t (w : World) (l : List UInt8) (r : Bool) (hr : nameB l = r) (hl : l.length ≤ 9223372036854775807) : Calls Tryd.prog 26 #[.bool true, .string (bs l)] w fun e w' => e = .returned (.bool r) ∧ Below w.heap.size w w' := by
  refine d_in (args := [.bool true, .string (bs l)]) 11 Tryd.func26 rfl rfl rfl ?_
  refine d_reg ?_
  refine h_q hflS rfl ?_
  refine h_done (d_seq (d_reg ?_))
  refine h_q hflS rfl ?_
  refine h_done (d_else rfl (d_skip (f_to (d_reg ?_))))
  refine h_q hflS rfl ?_
  refine h_act (post := fun _ => []) rfl (a_call (ent_of Tryd.func43 (by kernel_rfl) rfl) (fun w hH => rname_any w l r hr hl) rfl rfl rfl) ?_; rintro ⟨⟩
  refine h_q hflS rfl ?_
  refine h_done (d_ret ?_)
  exact f_fin1 (.tmp rfl) (fun w h => ⟨rfl, below0 h.up⟩) rfl

theorem rnm_any (w : World) (there : Bool) (l : List UInt8) (r : Bool) (hr : mayB there (nameB l) (l == []) = r) (hl : l.length ≤ 9223372036854775807) : Calls Tryd.prog 26 #[.bool there, .string (bs l)] w fun e w' => e = .returned (.bool r) ∧ Below w.heap.size w w' := by
  cases there
  · exact rnm_f w l r hr
  · exact rnm_t w l r hr hl
end Go.Proofs.YtlkknncndgamdaaDoor.Sep
