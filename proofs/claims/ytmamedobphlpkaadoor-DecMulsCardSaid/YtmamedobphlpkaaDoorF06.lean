/-
  Cmp · TextD
-/
import Derived.Test.YtmamedobphlpkaaDoorF04
import Derived.Test.YtmamedobphlpkaaDoorF05
set_option linter.unusedSimpArgs false
set_option linter.unusedVariables false

namespace Go.Proofs.YtmamedobphlpkaaDoor
open Go.RowKit

theorem right_yes (w : World) (c s : Int) (h : May s) : Calls Tryd.prog 18 #[Dc c s] w fun e w' => e = .returned (.bool true) ∧ Below w.heap.size w w' := by
  have := right_any w c s
  rwa [decide_eq_true h] at this
theorem right_no (w : World) (c s : Int) (h : ¬ May s) : Calls Tryd.prog 18 #[Dc c s] w fun e w' => e = .returned (.bool false) ∧ Below w.heap.size w w' := by
  have := right_any w c s
  rwa [decide_eq_false h] at this

theorem cmp_bad1 (w : World) (c s d t : Int) (hs : ¬ May s) : Calls Tryd.prog 20 #[Dc c s, Dc d t] w fun e w' => e = .returned (.tuple #[.int .i64 0, .int .i64 21]) ∧ Below w.heap.size w w' := by
  refine d_in (args := [Dc c s, Dc d t]) 46 Tryd.func20 rfl rfl rfl ?_
  refine d_reg ?_
  refine h_box (cs := #[hiW c, loW c, .int .i64 s]) rfl rfl rfl rfl ?_; intro g2_1
  refine h_box (cs := #[hiW d, loW d, .int .i64 t]) rfl rfl rfl rfl ?_; intro g3_2
  refine h_q hfl rfl ?_
  refine h_done (d_seq (d_reg ?_))
  refine h_load 1 (v := .agg #[hiW c, loW c, .int .i64 s]) (reads_agg (cs := [hiW c, loW c, .int .i64 s]) tyDec rfl) rfl rfl rfl rfl ?_
  refine h_call (ent_of Tryd.func18 (by kernel_rfl) rfl) (fun w hH => right_no _ c s hs) rfl rfl rfl rfl ?_
  refine h_q hfl rfl ?_
  refine h_done (d_then rfl (d_reg ?_))
  refine h_q hfl rfl ?_
  refine h_done (d_ret (f_then_ret ?_))
  exact f_fin2 (.tmp rfl) (.tmp rfl) (fun w h => ⟨rfl, h.up.below⟩) rfl

theorem cmp_bad2 (w : World) (c s d t : Int) (hs : May s) (ht : ¬ May t) : Calls Tryd.prog 20 #[Dc c s, Dc d t] w fun e w' => e = .returned (.tuple #[.int .i64 0, .int .i64 21]) ∧ Below w.heap.size w w' := by
  refine d_in (args := [Dc c s, Dc d t]) 46 Tryd.func20 rfl rfl rfl ?_
  refine d_reg ?_
  refine h_box (cs := #[hiW c, loW c, .int .i64 s]) rfl rfl rfl rfl ?_; intro g2_1
  refine h_box (cs := #[hiW d, loW d, .int .i64 t]) rfl rfl rfl rfl ?_; intro g3_2
  refine h_q hfl rfl ?_
  refine h_done (d_seq (d_reg ?_))
  refine h_load 1 (v := .agg #[hiW c, loW c, .int .i64 s]) (reads_agg (cs := [hiW c, loW c, .int .i64 s]) tyDec rfl) rfl rfl rfl rfl ?_
  refine h_call (ent_of Tryd.func18 (by kernel_rfl) rfl) (fun w hH => right_yes _ c s hs) rfl rfl rfl rfl ?_
  refine h_q hfl rfl ?_
  refine h_load 0 (v := .agg #[hiW d, loW d, .int .i64 t]) (reads_agg (cs := [hiW d, loW d, .int .i64 t]) tyDec rfl) rfl rfl rfl rfl ?_
  refine h_call (ent_of Tryd.func18 (by kernel_rfl) rfl) (fun w hH => right_no _ d t ht) rfl rfl rfl rfl ?_
  refine h_q hfl rfl ?_
  refine h_done (d_then rfl (d_reg ?_))
  refine h_q hfl rfl ?_
  refine h_done (d_ret (f_then_ret ?_))
  exact f_fin2 (.tmp rfl) (.tmp rfl) (fun w h => ⟨rfl, h.up.below⟩) rfl

theorem cmp_le_pos (w : World) (c s d t : Int) (j k : Nat) (hc : Fits c) (hd : Fits d) (hs : May s) (ht : May t) (hm : s ≤ t) (h1 : s - s = (j : Int)) (h2 : t - s = (k : Int)) (h : d / ((10 ^ k : Nat) : Int) < ceilD c ((10 ^ j : Nat) : Int)) : Calls Tryd.prog 20 #[Dc c s, Dc d t] w fun e w' => e = .returned (.tuple #[.int .i64 1, .int .i64 0]) ∧ Below w.heap.size w w' := by
  refine d_in (args := [Dc c s, Dc d t]) 46 Tryd.func20 rfl rfl rfl ?_
  refine d_reg ?_
  refine h_box (cs := #[hiW c, loW c, .int .i64 s]) rfl rfl rfl rfl ?_; intro g2_1
  refine h_box (cs := #[hiW d, loW d, .int .i64 t]) rfl rfl rfl rfl ?_; intro g3_2
  refine h_q hfl rfl ?_
  refine h_done (d_seq (d_reg ?_))
  refine h_load 1 (v := .agg #[hiW c, loW c, .int .i64 s]) (reads_agg (cs := [hiW c, loW c, .int .i64 s]) tyDec rfl) rfl rfl rfl rfl ?_
  refine h_call (ent_of Tryd.func18 (by kernel_rfl) rfl) (fun w hH => right_yes _ c s hs) rfl rfl rfl rfl ?_
  refine h_q hfl rfl ?_
  refine h_load 0 (v := .agg #[hiW d, loW d, .int .i64 t]) (reads_agg (cs := [hiW d, loW d, .int .i64 t]) tyDec rfl) rfl rfl rfl rfl ?_
  refine h_call (ent_of Tryd.func18 (by kernel_rfl) rfl) (fun w hH => right_yes _ d t ht) rfl rfl rfl rfl ?_
  refine h_q hfl rfl ?_
  refine h_done (d_else rfl (d_skip (f_to (d_reg ?_))))
  refine h_q hfl rfl ?_
  refine h_load 1 (v := .int .i64 s) (reads_one tyInt rfl) rfl rfl rfl rfl ?_
  refine h_q hfl rfl ?_
  refine h_load 0 (v := .int .i64 t) (reads_one tyInt rfl) rfl rfl rfl rfl ?_
  refine h_builtin (v := .int .i64 s) (fun w cs => run_min2 (by first | rfl | decide | (split <;> omega)) _ _ w cs) rfl rfl rfl ?_
  refine h_q hfl rfl ?_
  refine h_done (d_reg ?_)
  refine h_load 1 (v := .agg #[hiW c, loW c, .int .i64 s]) (reads_agg (cs := [hiW c, loW c, .int .i64 s]) tyDec rfl) rfl rfl rfl rfl ?_
  refine h_q hfl rfl ?_
  refine h_call (ent_of Tryd.func45 (by kernel_rfl) rfl) (fun w hH => bounds_any _ c s s j hc hs hs h1) rfl rfl rfl rfl ?_
  refine h_q hfl rfl ?_
  refine h_alloc zeWide rfl rfl ?_; intro g7_3
  refine h_alloc zeWide rfl rfl ?_; intro g8_4
  refine h_store 1 (v := WV (c / ((10 ^ j : Nat) : Int))) (#[hiW (c / ((10 ^ j : Nat) : Int)), loW (c / ((10 ^ j : Nat) : Int))]) tyWide.2 rfl rfl rfl rfl rfl rfl rfl rfl rfl rfl ?_
  refine h_store 0 (v := WV (ceilD c ((10 ^ j : Nat) : Int))) (#[hiW (ceilD c ((10 ^ j : Nat) : Int)), loW (ceilD c ((10 ^ j : Nat) : Int))]) tyWide.2 rfl rfl rfl rfl rfl rfl rfl rfl rfl rfl ?_
  refine h_done (d_reg ?_)
  refine h_load 2 (v := .agg #[hiW d, loW d, .int .i64 t]) (reads_agg (cs := [hiW d, loW d, .int .i64 t]) tyDec rfl) rfl rfl rfl rfl ?_
  refine h_q hfl rfl ?_
  refine h_call (ent_of Tryd.func45 (by kernel_rfl) rfl) (fun w hH => bounds_any _ d t s k hd ht hs h2) rfl rfl rfl rfl ?_
  refine h_q hfl rfl ?_
  refine h_alloc zeWide rfl rfl ?_; intro g9_5
  refine h_alloc zeWide rfl rfl ?_; intro g10_6
  refine h_store 1 (v := WV (d / ((10 ^ k : Nat) : Int))) (#[hiW (d / ((10 ^ k : Nat) : Int)), loW (d / ((10 ^ k : Nat) : Int))]) tyWide.2 rfl rfl rfl rfl rfl rfl rfl rfl rfl rfl ?_
  refine h_store 0 (v := WV (ceilD d ((10 ^ k : Nat) : Int))) (#[hiW (ceilD d ((10 ^ k : Nat) : Int)), loW (ceilD d ((10 ^ k : Nat) : Int))]) tyWide.2 rfl rfl rfl rfl rfl rfl rfl rfl rfl rfl ?_
  refine h_done (d_seq (d_block (d_reg ?_)))
  refine h_load 2 (v := .agg #[hiW (ceilD c ((10 ^ j : Nat) : Int)), loW (ceilD c ((10 ^ j : Nat) : Int))]) (reads_agg (cs := [hiW (ceilD c ((10 ^ j : Nat) : Int)), loW (ceilD c ((10 ^ j : Nat) : Int))]) tyWide rfl) rfl rfl rfl rfl ?_
  refine h_load 1 (v := .agg #[hiW (d / ((10 ^ k : Nat) : Int)), loW (d / ((10 ^ k : Nat) : Int))]) (reads_agg (cs := [hiW (d / ((10 ^ k : Nat) : Int)), loW (d / ((10 ^ k : Nat) : Int))]) tyWide rfl) rfl rfl rfl rfl ?_
  refine h_call (ent_of Tryd.func33 (by kernel_rfl) rfl) (fun w hH => cmp_any _ _ _ (high_fits hc j) (low_fits hd k)) rfl rfl rfl rfl ?_
  refine h_cmp (cmp_eql_t (cmp3_gt h)) rfl rfl rfl rfl ?_
  refine h_q hfl rfl ?_
  refine h_done (d_then rfl (d_reg ?_))
  refine h_q hfl rfl ?_
  refine h_done (d_ret (f_block_ret (f_then_ret ?_)))
  exact f_fin2 (.tmp rfl) (.tmp rfl) (fun w h => ⟨rfl, h.up.below⟩) rfl

theorem cmp_le_neg (w : World) (c s d t : Int) (j k : Nat) (hc : Fits c) (hd : Fits d) (hs : May s) (ht : May t) (hm : s ≤ t) (h1 : s - s = (j : Int)) (h2 : t - s = (k : Int)) (hn : ¬ d / ((10 ^ k : Nat) : Int) < ceilD c ((10 ^ j : Nat) : Int)) (h : c / ((10 ^ j : Nat) : Int) < ceilD d ((10 ^ k : Nat) : Int)) : Calls Tryd.prog 20 #[Dc c s, Dc d t] w fun e w' => e = .returned (.tuple #[.int .i64 (-1), .int .i64 0]) ∧ Below w.heap.size w w' := by
  refine d_in (args := [Dc c s, Dc d t]) 46 Tryd.func20 rfl rfl rfl ?_
  refine d_reg ?_
  refine h_box (cs := #[hiW c, loW c, .int .i64 s]) rfl rfl rfl rfl ?_; intro g2_1
  refine h_box (cs := #[hiW d, loW d, .int .i64 t]) rfl rfl rfl rfl ?_; intro g3_2
  refine h_q hfl rfl ?_
  refine h_done (d_seq (d_reg ?_))
  refine h_load 1 (v := .agg #[hiW c, loW c, .int .i64 s]) (reads_agg (cs := [hiW c, loW c, .int .i64 s]) tyDec rfl) rfl rfl rfl rfl ?_
  refine h_call (ent_of Tryd.func18 (by kernel_rfl) rfl) (fun w hH => right_yes _ c s hs) rfl rfl rfl rfl ?_
  refine h_q hfl rfl ?_
  refine h_load 0 (v := .agg #[hiW d, loW d, .int .i64 t]) (reads_agg (cs := [hiW d, loW d, .int .i64 t]) tyDec rfl) rfl rfl rfl rfl ?_
  refine h_call (ent_of Tryd.func18 (by kernel_rfl) rfl) (fun w hH => right_yes _ d t ht) rfl rfl rfl rfl ?_
  refine h_q hfl rfl ?_
  refine h_done (d_else rfl (d_skip (f_to (d_reg ?_))))
  refine h_q hfl rfl ?_
  refine h_load 1 (v := .int .i64 s) (reads_one tyInt rfl) rfl rfl rfl rfl ?_
  refine h_q hfl rfl ?_
  refine h_load 0 (v := .int .i64 t) (reads_one tyInt rfl) rfl rfl rfl rfl ?_
  refine h_builtin (v := .int .i64 s) (fun w cs => run_min2 (by first | rfl | decide | (split <;> omega)) _ _ w cs) rfl rfl rfl ?_
  refine h_q hfl rfl ?_
  refine h_done (d_reg ?_)
  refine h_load 1 (v := .agg #[hiW c, loW c, .int .i64 s]) (reads_agg (cs := [hiW c, loW c, .int .i64 s]) tyDec rfl) rfl rfl rfl rfl ?_
  refine h_q hfl rfl ?_
  refine h_call (ent_of Tryd.func45 (by kernel_rfl) rfl) (fun w hH => bounds_any _ c s s j hc hs hs h1) rfl rfl rfl rfl ?_
  refine h_q hfl rfl ?_
  refine h_alloc zeWide rfl rfl ?_; intro g7_3
  refine h_alloc zeWide rfl rfl ?_; intro g8_4
  refine h_store 1 (v := WV (c / ((10 ^ j : Nat) : Int))) (#[hiW (c / ((10 ^ j : Nat) : Int)), loW (c / ((10 ^ j : Nat) : Int))]) tyWide.2 rfl rfl rfl rfl rfl rfl rfl rfl rfl rfl ?_
  refine h_store 0 (v := WV (ceilD c ((10 ^ j : Nat) : Int))) (#[hiW (ceilD c ((10 ^ j : Nat) : Int)), loW (ceilD c ((10 ^ j : Nat) : Int))]) tyWide.2 rfl rfl rfl rfl rfl rfl rfl rfl rfl rfl ?_
  refine h_done (d_reg ?_)
  refine h_load 2 (v := .agg #[hiW d, loW d, .int .i64 t]) (reads_agg (cs := [hiW d, loW d, .int .i64 t]) tyDec rfl) rfl rfl rfl rfl ?_
  refine h_q hfl rfl ?_
  refine h_call (ent_of Tryd.func45 (by kernel_rfl) rfl) (fun w hH => bounds_any _ d t s k hd ht hs h2) rfl rfl rfl rfl ?_
  refine h_q hfl rfl ?_
  refine h_alloc zeWide rfl rfl ?_; intro g9_5
  refine h_alloc zeWide rfl rfl ?_; intro g10_6
  refine h_store 1 (v := WV (d / ((10 ^ k : Nat) : Int))) (#[hiW (d / ((10 ^ k : Nat) : Int)), loW (d / ((10 ^ k : Nat) : Int))]) tyWide.2 rfl rfl rfl rfl rfl rfl rfl rfl rfl rfl ?_
  refine h_store 0 (v := WV (ceilD d ((10 ^ k : Nat) : Int))) (#[hiW (ceilD d ((10 ^ k : Nat) : Int)), loW (ceilD d ((10 ^ k : Nat) : Int))]) tyWide.2 rfl rfl rfl rfl rfl rfl rfl rfl rfl rfl ?_
  refine h_done (d_seq (d_block (d_reg ?_)))
  refine h_load 2 (v := .agg #[hiW (ceilD c ((10 ^ j : Nat) : Int)), loW (ceilD c ((10 ^ j : Nat) : Int))]) (reads_agg (cs := [hiW (ceilD c ((10 ^ j : Nat) : Int)), loW (ceilD c ((10 ^ j : Nat) : Int))]) tyWide rfl) rfl rfl rfl rfl ?_
  refine h_load 1 (v := .agg #[hiW (d / ((10 ^ k : Nat) : Int)), loW (d / ((10 ^ k : Nat) : Int))]) (reads_agg (cs := [hiW (d / ((10 ^ k : Nat) : Int)), loW (d / ((10 ^ k : Nat) : Int))]) tyWide rfl) rfl rfl rfl rfl ?_
  refine h_call (ent_of Tryd.func33 (by kernel_rfl) rfl) (fun w hH => cmp_any _ _ _ (high_fits hc j) (low_fits hd k)) rfl rfl rfl rfl ?_
  refine h_cmp (cmp_eql_f (by rcases cmp3_cases (ceilD c ((10 ^ j : Nat) : Int)) (d / ((10 ^ k : Nat) : Int)) with ⟨h, e⟩ | ⟨h, e⟩ | ⟨h, e⟩ <;> omega)) rfl rfl rfl rfl ?_
  refine h_q hfl rfl ?_
  refine h_done (d_else rfl (d_reg ?_))
  refine h_load 3 (v := .agg #[hiW (c / ((10 ^ j : Nat) : Int)), loW (c / ((10 ^ j : Nat) : Int))]) (reads_agg (cs := [hiW (c / ((10 ^ j : Nat) : Int)), loW (c / ((10 ^ j : Nat) : Int))]) tyWide rfl) rfl rfl rfl rfl ?_
  refine h_load 0 (v := .agg #[hiW (ceilD d ((10 ^ k : Nat) : Int)), loW (ceilD d ((10 ^ k : Nat) : Int))]) (reads_agg (cs := [hiW (ceilD d ((10 ^ k : Nat) : Int)), loW (ceilD d ((10 ^ k : Nat) : Int))]) tyWide rfl) rfl rfl rfl rfl ?_
  refine h_call (ent_of Tryd.func33 (by kernel_rfl) rfl) (fun w hH => cmp_any _ _ _ (low_fits hc j) (high_fits hd k)) rfl rfl rfl rfl ?_
  refine h_cmp (cmp_eql_t (cmp3_lt h)) rfl rfl rfl rfl ?_
  refine h_q hfl rfl ?_
  refine h_done ?_
  refine WC2.keep (env' := [(4, .int .i64 0), (5, .int .i64 0), (41, .bool true)]) ⟨rfl, rfl, rfl, trivial⟩ ?_
  refine d_then rfl (d_reg ?_)
  refine h_q hfl rfl ?_
  refine h_done (d_ret (f_block_ret (f_then_ret ?_)))
  exact f_fin2 (.tmp rfl) (.tmp rfl) (fun w h => ⟨rfl, h.up.below⟩) rfl

theorem cmp_le_zero (w : World) (c s d t : Int) (j k : Nat) (hc : Fits c) (hd : Fits d) (hs : May s) (ht : May t) (hm : s ≤ t) (h1 : s - s = (j : Int)) (h2 : t - s = (k : Int)) (hn : ¬ d / ((10 ^ k : Nat) : Int) < ceilD c ((10 ^ j : Nat) : Int)) (h : ¬ c / ((10 ^ j : Nat) : Int) < ceilD d ((10 ^ k : Nat) : Int)) : Calls Tryd.prog 20 #[Dc c s, Dc d t] w fun e w' => e = .returned (.tuple #[.int .i64 0, .int .i64 0]) ∧ Below w.heap.size w w' := by
  refine d_in (args := [Dc c s, Dc d t]) 46 Tryd.func20 rfl rfl rfl ?_
  refine d_reg ?_
  refine h_box (cs := #[hiW c, loW c, .int .i64 s]) rfl rfl rfl rfl ?_; intro g2_1
  refine h_box (cs := #[hiW d, loW d, .int .i64 t]) rfl rfl rfl rfl ?_; intro g3_2
  refine h_q hfl rfl ?_
  refine h_done (d_seq (d_reg ?_))
  refine h_load 1 (v := .agg #[hiW c, loW c, .int .i64 s]) (reads_agg (cs := [hiW c, loW c, .int .i64 s]) tyDec rfl) rfl rfl rfl rfl ?_
  refine h_call (ent_of Tryd.func18 (by kernel_rfl) rfl) (fun w hH => right_yes _ c s hs) rfl rfl rfl rfl ?_
  refine h_q hfl rfl ?_
  refine h_load 0 (v := .agg #[hiW d, loW d, .int .i64 t]) (reads_agg (cs := [hiW d, loW d, .int .i64 t]) tyDec rfl) rfl rfl rfl rfl ?_
  refine h_call (ent_of Tryd.func18 (by kernel_rfl) rfl) (fun w hH => right_yes _ d t ht) rfl rfl rfl rfl ?_
  refine h_q hfl rfl ?_
  refine h_done (d_else rfl (d_skip (f_to (d_reg ?_))))
  refine h_q hfl rfl ?_
  refine h_load 1 (v := .int .i64 s) (reads_one tyInt rfl) rfl rfl rfl rfl ?_
  refine h_q hfl rfl ?_
  refine h_load 0 (v := .int .i64 t) (reads_one tyInt rfl) rfl rfl rfl rfl ?_
  refine h_builtin (v := .int .i64 s) (fun w cs => run_min2 (by first | rfl | decide | (split <;> omega)) _ _ w cs) rfl rfl rfl ?_
  refine h_q hfl rfl ?_
  refine h_done (d_reg ?_)
  refine h_load 1 (v := .agg #[hiW c, loW c, .int .i64 s]) (reads_agg (cs := [hiW c, loW c, .int .i64 s]) tyDec rfl) rfl rfl rfl rfl ?_
  refine h_q hfl rfl ?_
  refine h_call (ent_of Tryd.func45 (by kernel_rfl) rfl) (fun w hH => bounds_any _ c s s j hc hs hs h1) rfl rfl rfl rfl ?_
  refine h_q hfl rfl ?_
  refine h_alloc zeWide rfl rfl ?_; intro g7_3
  refine h_alloc zeWide rfl rfl ?_; intro g8_4
  refine h_store 1 (v := WV (c / ((10 ^ j : Nat) : Int))) (#[hiW (c / ((10 ^ j : Nat) : Int)), loW (c / ((10 ^ j : Nat) : Int))]) tyWide.2 rfl rfl rfl rfl rfl rfl rfl rfl rfl rfl ?_
  refine h_store 0 (v := WV (ceilD c ((10 ^ j : Nat) : Int))) (#[hiW (ceilD c ((10 ^ j : Nat) : Int)), loW (ceilD c ((10 ^ j : Nat) : Int))]) tyWide.2 rfl rfl rfl rfl rfl rfl rfl rfl rfl rfl ?_
  refine h_done (d_reg ?_)
  refine h_load 2 (v := .agg #[hiW d, loW d, .int .i64 t]) (reads_agg (cs := [hiW d, loW d, .int .i64 t]) tyDec rfl) rfl rfl rfl rfl ?_
  refine h_q hfl rfl ?_
  refine h_call (ent_of Tryd.func45 (by kernel_rfl) rfl) (fun w hH => bounds_any _ d t s k hd ht hs h2) rfl rfl rfl rfl ?_
  refine h_q hfl rfl ?_
  refine h_alloc zeWide rfl rfl ?_; intro g9_5
  refine h_alloc zeWide rfl rfl ?_; intro g10_6
  refine h_store 1 (v := WV (d / ((10 ^ k : Nat) : Int))) (#[hiW (d / ((10 ^ k : Nat) : Int)), loW (d / ((10 ^ k : Nat) : Int))]) tyWide.2 rfl rfl rfl rfl rfl rfl rfl rfl rfl rfl ?_
  refine h_store 0 (v := WV (ceilD d ((10 ^ k : Nat) : Int))) (#[hiW (ceilD d ((10 ^ k : Nat) : Int)), loW (ceilD d ((10 ^ k : Nat) : Int))]) tyWide.2 rfl rfl rfl rfl rfl rfl rfl rfl rfl rfl ?_
  refine h_done (d_seq (d_block (d_reg ?_)))
  refine h_load 2 (v := .agg #[hiW (ceilD c ((10 ^ j : Nat) : Int)), loW (ceilD c ((10 ^ j : Nat) : Int))]) (reads_agg (cs := [hiW (ceilD c ((10 ^ j : Nat) : Int)), loW (ceilD c ((10 ^ j : Nat) : Int))]) tyWide rfl) rfl rfl rfl rfl ?_
  refine h_load 1 (v := .agg #[hiW (d / ((10 ^ k : Nat) : Int)), loW (d / ((10 ^ k : Nat) : Int))]) (reads_agg (cs := [hiW (d / ((10 ^ k : Nat) : Int)), loW (d / ((10 ^ k : Nat) : Int))]) tyWide rfl) rfl rfl rfl rfl ?_
  refine h_call (ent_of Tryd.func33 (by kernel_rfl) rfl) (fun w hH => cmp_any _ _ _ (high_fits hc j) (low_fits hd k)) rfl rfl rfl rfl ?_
  refine h_cmp (cmp_eql_f (by rcases cmp3_cases (ceilD c ((10 ^ j : Nat) : Int)) (d / ((10 ^ k : Nat) : Int)) with ⟨h, e⟩ | ⟨h, e⟩ | ⟨h, e⟩ <;> omega)) rfl rfl rfl rfl ?_
  refine h_q hfl rfl ?_
  refine h_done (d_else rfl (d_reg ?_))
  refine h_load 3 (v := .agg #[hiW (c / ((10 ^ j : Nat) : Int)), loW (c / ((10 ^ j : Nat) : Int))]) (reads_agg (cs := [hiW (c / ((10 ^ j : Nat) : Int)), loW (c / ((10 ^ j : Nat) : Int))]) tyWide rfl) rfl rfl rfl rfl ?_
  refine h_load 0 (v := .agg #[hiW (ceilD d ((10 ^ k : Nat) : Int)), loW (ceilD d ((10 ^ k : Nat) : Int))]) (reads_agg (cs := [hiW (ceilD d ((10 ^ k : Nat) : Int)), loW (ceilD d ((10 ^ k : Nat) : Int))]) tyWide rfl) rfl rfl rfl rfl ?_
  refine h_call (ent_of Tryd.func33 (by kernel_rfl) rfl) (fun w hH => cmp_any _ _ _ (low_fits hc j) (high_fits hd k)) rfl rfl rfl rfl ?_
  refine h_cmp (cmp_eql_f (by rcases cmp3_cases (c / ((10 ^ j : Nat) : Int)) (ceilD d ((10 ^ k : Nat) : Int)) with ⟨h, e⟩ | ⟨h, e⟩ | ⟨h, e⟩ <;> omega)) rfl rfl rfl rfl ?_
  refine h_q hfl rfl ?_
  refine h_done ?_
  refine WC2.keep (env' := [(4, .int .i64 0), (5, .int .i64 0), (41, .bool false)]) ⟨rfl, rfl, rfl, trivial⟩ ?_
  refine d_else rfl (d_skip (f_block (f_to (d_reg ?_))))
  refine h_q hfl rfl ?_
  refine h_done (d_ret ?_)
  exact f_fin2 (.tmp rfl) (.tmp rfl) (fun w h => ⟨rfl, h.up.below⟩) rfl

theorem cmp_gt_pos (w : World) (c s d t : Int) (j k : Nat) (hc : Fits c) (hd : Fits d) (hs : May s) (ht : May t) (hm : t < s) (h1 : s - t = (j : Int)) (h2 : t - t = (k : Int)) (h : d / ((10 ^ k : Nat) : Int) < ceilD c ((10 ^ j : Nat) : Int)) : Calls Tryd.prog 20 #[Dc c s, Dc d t] w fun e w' => e = .returned (.tuple #[.int .i64 1, .int .i64 0]) ∧ Below w.heap.size w w' := by
  refine d_in (args := [Dc c s, Dc d t]) 46 Tryd.func20 rfl rfl rfl ?_
  refine d_reg ?_
  refine h_box (cs := #[hiW c, loW c, .int .i64 s]) rfl rfl rfl rfl ?_; intro g2_1
  refine h_box (cs := #[hiW d, loW d, .int .i64 t]) rfl rfl rfl rfl ?_; intro g3_2
  refine h_q hfl rfl ?_
  refine h_done (d_seq (d_reg ?_))
  refine h_load 1 (v := .agg #[hiW c, loW c, .int .i64 s]) (reads_agg (cs := [hiW c, loW c, .int .i64 s]) tyDec rfl) rfl rfl rfl rfl ?_
  refine h_call (ent_of Tryd.func18 (by kernel_rfl) rfl) (fun w hH => right_yes _ c s hs) rfl rfl rfl rfl ?_
  refine h_q hfl rfl ?_
  refine h_load 0 (v := .agg #[hiW d, loW d, .int .i64 t]) (reads_agg (cs := [hiW d, loW d, .int .i64 t]) tyDec rfl) rfl rfl rfl rfl ?_
  refine h_call (ent_of Tryd.func18 (by kernel_rfl) rfl) (fun w hH => right_yes _ d t ht) rfl rfl rfl rfl ?_
  refine h_q hfl rfl ?_
  refine h_done (d_else rfl (d_skip (f_to (d_reg ?_))))
  refine h_q hfl rfl ?_
  refine h_load 1 (v := .int .i64 s) (reads_one tyInt rfl) rfl rfl rfl rfl ?_
  refine h_q hfl rfl ?_
  refine h_load 0 (v := .int .i64 t) (reads_one tyInt rfl) rfl rfl rfl rfl ?_
  refine h_builtin (v := .int .i64 t) (fun w cs => run_min2 (by first | rfl | decide | (split <;> omega)) _ _ w cs) rfl rfl rfl ?_
  refine h_q hfl rfl ?_
  refine h_done (d_reg ?_)
  refine h_load 1 (v := .agg #[hiW c, loW c, .int .i64 s]) (reads_agg (cs := [hiW c, loW c, .int .i64 s]) tyDec rfl) rfl rfl rfl rfl ?_
  refine h_q hfl rfl ?_
  refine h_call (ent_of Tryd.func45 (by kernel_rfl) rfl) (fun w hH => bounds_any _ c s t j hc hs ht h1) rfl rfl rfl rfl ?_
  refine h_q hfl rfl ?_
  refine h_alloc zeWide rfl rfl ?_; intro g7_3
  refine h_alloc zeWide rfl rfl ?_; intro g8_4
  refine h_store 1 (v := WV (c / ((10 ^ j : Nat) : Int))) (#[hiW (c / ((10 ^ j : Nat) : Int)), loW (c / ((10 ^ j : Nat) : Int))]) tyWide.2 rfl rfl rfl rfl rfl rfl rfl rfl rfl rfl ?_
  refine h_store 0 (v := WV (ceilD c ((10 ^ j : Nat) : Int))) (#[hiW (ceilD c ((10 ^ j : Nat) : Int)), loW (ceilD c ((10 ^ j : Nat) : Int))]) tyWide.2 rfl rfl rfl rfl rfl rfl rfl rfl rfl rfl ?_
  refine h_done (d_reg ?_)
  refine h_load 2 (v := .agg #[hiW d, loW d, .int .i64 t]) (reads_agg (cs := [hiW d, loW d, .int .i64 t]) tyDec rfl) rfl rfl rfl rfl ?_
  refine h_q hfl rfl ?_
  refine h_call (ent_of Tryd.func45 (by kernel_rfl) rfl) (fun w hH => bounds_any _ d t t k hd ht ht h2) rfl rfl rfl rfl ?_
  refine h_q hfl rfl ?_
  refine h_alloc zeWide rfl rfl ?_; intro g9_5
  refine h_alloc zeWide rfl rfl ?_; intro g10_6
  refine h_store 1 (v := WV (d / ((10 ^ k : Nat) : Int))) (#[hiW (d / ((10 ^ k : Nat) : Int)), loW (d / ((10 ^ k : Nat) : Int))]) tyWide.2 rfl rfl rfl rfl rfl rfl rfl rfl rfl rfl ?_
  refine h_store 0 (v := WV (ceilD d ((10 ^ k : Nat) : Int))) (#[hiW (ceilD d ((10 ^ k : Nat) : Int)), loW (ceilD d ((10 ^ k : Nat) : Int))]) tyWide.2 rfl rfl rfl rfl rfl rfl rfl rfl rfl rfl ?_
  refine h_done (d_seq (d_block (d_reg ?_)))
  refine h_load 2 (v := .agg #[hiW (ceilD c ((10 ^ j : Nat) : Int)), loW (ceilD c ((10 ^ j : Nat) : Int))]) (reads_agg (cs := [hiW (ceilD c ((10 ^ j : Nat) : Int)), loW (ceilD c ((10 ^ j : Nat) : Int))]) tyWide rfl) rfl rfl rfl rfl ?_
  refine h_load 1 (v := .agg #[hiW (d / ((10 ^ k : Nat) : Int)), loW (d / ((10 ^ k : Nat) : Int))]) (reads_agg (cs := [hiW (d / ((10 ^ k : Nat) : Int)), loW (d / ((10 ^ k : Nat) : Int))]) tyWide rfl) rfl rfl rfl rfl ?_
  refine h_call (ent_of Tryd.func33 (by kernel_rfl) rfl) (fun w hH => cmp_any _ _ _ (high_fits hc j) (low_fits hd k)) rfl rfl rfl rfl ?_
  refine h_cmp (cmp_eql_t (cmp3_gt h)) rfl rfl rfl rfl ?_
  refine h_q hfl rfl ?_
  refine h_done (d_then rfl (d_reg ?_))
  refine h_q hfl rfl ?_
  refine h_done (d_ret (f_block_ret (f_then_ret ?_)))
  exact f_fin2 (.tmp rfl) (.tmp rfl) (fun w h => ⟨rfl, h.up.below⟩) rfl

theorem cmp_gt_neg (w : World) (c s d t : Int) (j k : Nat) (hc : Fits c) (hd : Fits d) (hs : May s) (ht : May t) (hm : t < s) (h1 : s - t = (j : Int)) (h2 : t - t = (k : Int)) (hn : ¬ d / ((10 ^ k : Nat) : Int) < ceilD c ((10 ^ j : Nat) : Int)) (h : c / ((10 ^ j : Nat) : Int) < ceilD d ((10 ^ k : Nat) : Int)) : Calls Tryd.prog 20 #[Dc c s, Dc d t] w fun e w' => e = .returned (.tuple #[.int .i64 (-1), .int .i64 0]) ∧ Below w.heap.size w w' := by
  refine d_in (args := [Dc c s, Dc d t]) 46 Tryd.func20 rfl rfl rfl ?_
  refine d_reg ?_
  refine h_box (cs := #[hiW c, loW c, .int .i64 s]) rfl rfl rfl rfl ?_; intro g2_1
  refine h_box (cs := #[hiW d, loW d, .int .i64 t]) rfl rfl rfl rfl ?_; intro g3_2
  refine h_q hfl rfl ?_
  refine h_done (d_seq (d_reg ?_))
  refine h_load 1 (v := .agg #[hiW c, loW c, .int .i64 s]) (reads_agg (cs := [hiW c, loW c, .int .i64 s]) tyDec rfl) rfl rfl rfl rfl ?_
  refine h_call (ent_of Tryd.func18 (by kernel_rfl) rfl) (fun w hH => right_yes _ c s hs) rfl rfl rfl rfl ?_
  refine h_q hfl rfl ?_
  refine h_load 0 (v := .agg #[hiW d, loW d, .int .i64 t]) (reads_agg (cs := [hiW d, loW d, .int .i64 t]) tyDec rfl) rfl rfl rfl rfl ?_
  refine h_call (ent_of Tryd.func18 (by kernel_rfl) rfl) (fun w hH => right_yes _ d t ht) rfl rfl rfl rfl ?_
  refine h_q hfl rfl ?_
  refine h_done (d_else rfl (d_skip (f_to (d_reg ?_))))
  refine h_q hfl rfl ?_
  refine h_load 1 (v := .int .i64 s) (reads_one tyInt rfl) rfl rfl rfl rfl ?_
  refine h_q hfl rfl ?_
  refine h_load 0 (v := .int .i64 t) (reads_one tyInt rfl) rfl rfl rfl rfl ?_
  refine h_builtin (v := .int .i64 t) (fun w cs => run_min2 (by first | rfl | decide | (split <;> omega)) _ _ w cs) rfl rfl rfl ?_
  refine h_q hfl rfl ?_
  refine h_done (d_reg ?_)
  refine h_load 1 (v := .agg #[hiW c, loW c, .int .i64 s]) (reads_agg (cs := [hiW c, loW c, .int .i64 s]) tyDec rfl) rfl rfl rfl rfl ?_
  refine h_q hfl rfl ?_
  refine h_call (ent_of Tryd.func45 (by kernel_rfl) rfl) (fun w hH => bounds_any _ c s t j hc hs ht h1) rfl rfl rfl rfl ?_
  refine h_q hfl rfl ?_
  refine h_alloc zeWide rfl rfl ?_; intro g7_3
  refine h_alloc zeWide rfl rfl ?_; intro g8_4
  refine h_store 1 (v := WV (c / ((10 ^ j : Nat) : Int))) (#[hiW (c / ((10 ^ j : Nat) : Int)), loW (c / ((10 ^ j : Nat) : Int))]) tyWide.2 rfl rfl rfl rfl rfl rfl rfl rfl rfl rfl ?_
  refine h_store 0 (v := WV (ceilD c ((10 ^ j : Nat) : Int))) (#[hiW (ceilD c ((10 ^ j : Nat) : Int)), loW (ceilD c ((10 ^ j : Nat) : Int))]) tyWide.2 rfl rfl rfl rfl rfl rfl rfl rfl rfl rfl ?_
  refine h_done (d_reg ?_)
  refine h_load 2 (v := .agg #[hiW d, loW d, .int .i64 t]) (reads_agg (cs := [hiW d, loW d, .int .i64 t]) tyDec rfl) rfl rfl rfl rfl ?_
  refine h_q hfl rfl ?_
  refine h_call (ent_of Tryd.func45 (by kernel_rfl) rfl) (fun w hH => bounds_any _ d t t k hd ht ht h2) rfl rfl rfl rfl ?_
  refine h_q hfl rfl ?_
  refine h_alloc zeWide rfl rfl ?_; intro g9_5
  refine h_alloc zeWide rfl rfl ?_; intro g10_6
  refine h_store 1 (v := WV (d / ((10 ^ k : Nat) : Int))) (#[hiW (d / ((10 ^ k : Nat) : Int)), loW (d / ((10 ^ k : Nat) : Int))]) tyWide.2 rfl rfl rfl rfl rfl rfl rfl rfl rfl rfl ?_
  refine h_store 0 (v := WV (ceilD d ((10 ^ k : Nat) : Int))) (#[hiW (ceilD d ((10 ^ k : Nat) : Int)), loW (ceilD d ((10 ^ k : Nat) : Int))]) tyWide.2 rfl rfl rfl rfl rfl rfl rfl rfl rfl rfl ?_
  refine h_done (d_seq (d_block (d_reg ?_)))
  refine h_load 2 (v := .agg #[hiW (ceilD c ((10 ^ j : Nat) : Int)), loW (ceilD c ((10 ^ j : Nat) : Int))]) (reads_agg (cs := [hiW (ceilD c ((10 ^ j : Nat) : Int)), loW (ceilD c ((10 ^ j : Nat) : Int))]) tyWide rfl) rfl rfl rfl rfl ?_
  refine h_load 1 (v := .agg #[hiW (d / ((10 ^ k : Nat) : Int)), loW (d / ((10 ^ k : Nat) : Int))]) (reads_agg (cs := [hiW (d / ((10 ^ k : Nat) : Int)), loW (d / ((10 ^ k : Nat) : Int))]) tyWide rfl) rfl rfl rfl rfl ?_
  refine h_call (ent_of Tryd.func33 (by kernel_rfl) rfl) (fun w hH => cmp_any _ _ _ (high_fits hc j) (low_fits hd k)) rfl rfl rfl rfl ?_
  refine h_cmp (cmp_eql_f (by rcases cmp3_cases (ceilD c ((10 ^ j : Nat) : Int)) (d / ((10 ^ k : Nat) : Int)) with ⟨h, e⟩ | ⟨h, e⟩ | ⟨h, e⟩ <;> omega)) rfl rfl rfl rfl ?_
  refine h_q hfl rfl ?_
  refine h_done (d_else rfl (d_reg ?_))
  refine h_load 3 (v := .agg #[hiW (c / ((10 ^ j : Nat) : Int)), loW (c / ((10 ^ j : Nat) : Int))]) (reads_agg (cs := [hiW (c / ((10 ^ j : Nat) : Int)), loW (c / ((10 ^ j : Nat) : Int))]) tyWide rfl) rfl rfl rfl rfl ?_
  refine h_load 0 (v := .agg #[hiW (ceilD d ((10 ^ k : Nat) : Int)), loW (ceilD d ((10 ^ k : Nat) : Int))]) (reads_agg (cs := [hiW (ceilD d ((10 ^ k : Nat) : Int)), loW (ceilD d ((10 ^ k : Nat) : Int))]) tyWide rfl) rfl rfl rfl rfl ?_
  refine h_call (ent_of Tryd.func33 (by kernel_rfl) rfl) (fun w hH => cmp_any _ _ _ (low_fits hc j) (high_fits hd k)) rfl rfl rfl rfl ?_
  refine h_cmp (cmp_eql_t (cmp3_lt h)) rfl rfl rfl rfl ?_
  refine h_q hfl rfl ?_
  refine h_done ?_
  refine WC2.keep (env' := [(4, .int .i64 0), (5, .int .i64 0), (41, .bool true)]) ⟨rfl, rfl, rfl, trivial⟩ ?_
  refine d_then rfl (d_reg ?_)
  refine h_q hfl rfl ?_
  refine h_done (d_ret (f_block_ret (f_then_ret ?_)))
  exact f_fin2 (.tmp rfl) (.tmp rfl) (fun w h => ⟨rfl, h.up.below⟩) rfl

theorem cmp_gt_zero (w : World) (c s d t : Int) (j k : Nat) (hc : Fits c) (hd : Fits d) (hs : May s) (ht : May t) (hm : t < s) (h1 : s - t = (j : Int)) (h2 : t - t = (k : Int)) (hn : ¬ d / ((10 ^ k : Nat) : Int) < ceilD c ((10 ^ j : Nat) : Int)) (h : ¬ c / ((10 ^ j : Nat) : Int) < ceilD d ((10 ^ k : Nat) : Int)) : Calls Tryd.prog 20 #[Dc c s, Dc d t] w fun e w' => e = .returned (.tuple #[.int .i64 0, .int .i64 0]) ∧ Below w.heap.size w w' := by
  refine d_in (args := [Dc c s, Dc d t]) 46 Tryd.func20 rfl rfl rfl ?_
  refine d_reg ?_
  refine h_box (cs := #[hiW c, loW c, .int .i64 s]) rfl rfl rfl rfl ?_; intro g2_1
  refine h_box (cs := #[hiW d, loW d, .int .i64 t]) rfl rfl rfl rfl ?_; intro g3_2
  refine h_q hfl rfl ?_
  refine h_done (d_seq (d_reg ?_))
  refine h_load 1 (v := .agg #[hiW c, loW c, .int .i64 s]) (reads_agg (cs := [hiW c, loW c, .int .i64 s]) tyDec rfl) rfl rfl rfl rfl ?_
  refine h_call (ent_of Tryd.func18 (by kernel_rfl) rfl) (fun w hH => right_yes _ c s hs) rfl rfl rfl rfl ?_
  refine h_q hfl rfl ?_
  refine h_load 0 (v := .agg #[hiW d, loW d, .int .i64 t]) (reads_agg (cs := [hiW d, loW d, .int .i64 t]) tyDec rfl) rfl rfl rfl rfl ?_
  refine h_call (ent_of Tryd.func18 (by kernel_rfl) rfl) (fun w hH => right_yes _ d t ht) rfl rfl rfl rfl ?_
  refine h_q hfl rfl ?_
  refine h_done (d_else rfl (d_skip (f_to (d_reg ?_))))
  refine h_q hfl rfl ?_
  refine h_load 1 (v := .int .i64 s) (reads_one tyInt rfl) rfl rfl rfl rfl ?_
  refine h_q hfl rfl ?_
  refine h_load 0 (v := .int .i64 t) (reads_one tyInt rfl) rfl rfl rfl rfl ?_
  refine h_builtin (v := .int .i64 t) (fun w cs => run_min2 (by first | rfl | decide | (split <;> omega)) _ _ w cs) rfl rfl rfl ?_
  refine h_q hfl rfl ?_
  refine h_done (d_reg ?_)
  refine h_load 1 (v := .agg #[hiW c, loW c, .int .i64 s]) (reads_agg (cs := [hiW c, loW c, .int .i64 s]) tyDec rfl) rfl rfl rfl rfl ?_
  refine h_q hfl rfl ?_
  refine h_call (ent_of Tryd.func45 (by kernel_rfl) rfl) (fun w hH => bounds_any _ c s t j hc hs ht h1) rfl rfl rfl rfl ?_
  refine h_q hfl rfl ?_
  refine h_alloc zeWide rfl rfl ?_; intro g7_3
  refine h_alloc zeWide rfl rfl ?_; intro g8_4
  refine h_store 1 (v := WV (c / ((10 ^ j : Nat) : Int))) (#[hiW (c / ((10 ^ j : Nat) : Int)), loW (c / ((10 ^ j : Nat) : Int))]) tyWide.2 rfl rfl rfl rfl rfl rfl rfl rfl rfl rfl ?_
  refine h_store 0 (v := WV (ceilD c ((10 ^ j : Nat) : Int))) (#[hiW (ceilD c ((10 ^ j : Nat) : Int)), loW (ceilD c ((10 ^ j : Nat) : Int))]) tyWide.2 rfl rfl rfl rfl rfl rfl rfl rfl rfl rfl ?_
  refine h_done (d_reg ?_)
  refine h_load 2 (v := .agg #[hiW d, loW d, .int .i64 t]) (reads_agg (cs := [hiW d, loW d, .int .i64 t]) tyDec rfl) rfl rfl rfl rfl ?_
  refine h_q hfl rfl ?_
  refine h_call (ent_of Tryd.func45 (by kernel_rfl) rfl) (fun w hH => bounds_any _ d t t k hd ht ht h2) rfl rfl rfl rfl ?_
  refine h_q hfl rfl ?_
  refine h_alloc zeWide rfl rfl ?_; intro g9_5
  refine h_alloc zeWide rfl rfl ?_; intro g10_6
  refine h_store 1 (v := WV (d / ((10 ^ k : Nat) : Int))) (#[hiW (d / ((10 ^ k : Nat) : Int)), loW (d / ((10 ^ k : Nat) : Int))]) tyWide.2 rfl rfl rfl rfl rfl rfl rfl rfl rfl rfl ?_
  refine h_store 0 (v := WV (ceilD d ((10 ^ k : Nat) : Int))) (#[hiW (ceilD d ((10 ^ k : Nat) : Int)), loW (ceilD d ((10 ^ k : Nat) : Int))]) tyWide.2 rfl rfl rfl rfl rfl rfl rfl rfl rfl rfl ?_
  refine h_done (d_seq (d_block (d_reg ?_)))
  refine h_load 2 (v := .agg #[hiW (ceilD c ((10 ^ j : Nat) : Int)), loW (ceilD c ((10 ^ j : Nat) : Int))]) (reads_agg (cs := [hiW (ceilD c ((10 ^ j : Nat) : Int)), loW (ceilD c ((10 ^ j : Nat) : Int))]) tyWide rfl) rfl rfl rfl rfl ?_
  refine h_load 1 (v := .agg #[hiW (d / ((10 ^ k : Nat) : Int)), loW (d / ((10 ^ k : Nat) : Int))]) (reads_agg (cs := [hiW (d / ((10 ^ k : Nat) : Int)), loW (d / ((10 ^ k : Nat) : Int))]) tyWide rfl) rfl rfl rfl rfl ?_
  refine h_call (ent_of Tryd.func33 (by kernel_rfl) rfl) (fun w hH => cmp_any _ _ _ (high_fits hc j) (low_fits hd k)) rfl rfl rfl rfl ?_
  refine h_cmp (cmp_eql_f (by rcases cmp3_cases (ceilD c ((10 ^ j : Nat) : Int)) (d / ((10 ^ k : Nat) : Int)) with ⟨h, e⟩ | ⟨h, e⟩ | ⟨h, e⟩ <;> omega)) rfl rfl rfl rfl ?_
  refine h_q hfl rfl ?_
  refine h_done (d_else rfl (d_reg ?_))
  refine h_load 3 (v := .agg #[hiW (c / ((10 ^ j : Nat) : Int)), loW (c / ((10 ^ j : Nat) : Int))]) (reads_agg (cs := [hiW (c / ((10 ^ j : Nat) : Int)), loW (c / ((10 ^ j : Nat) : Int))]) tyWide rfl) rfl rfl rfl rfl ?_
  refine h_load 0 (v := .agg #[hiW (ceilD d ((10 ^ k : Nat) : Int)), loW (ceilD d ((10 ^ k : Nat) : Int))]) (reads_agg (cs := [hiW (ceilD d ((10 ^ k : Nat) : Int)), loW (ceilD d ((10 ^ k : Nat) : Int))]) tyWide rfl) rfl rfl rfl rfl ?_
  refine h_call (ent_of Tryd.func33 (by kernel_rfl) rfl) (fun w hH => cmp_any _ _ _ (low_fits hc j) (high_fits hd k)) rfl rfl rfl rfl ?_
  refine h_cmp (cmp_eql_f (by rcases cmp3_cases (c / ((10 ^ j : Nat) : Int)) (ceilD d ((10 ^ k : Nat) : Int)) with ⟨h, e⟩ | ⟨h, e⟩ | ⟨h, e⟩ <;> omega)) rfl rfl rfl rfl ?_
  refine h_q hfl rfl ?_
  refine h_done ?_
  refine WC2.keep (env' := [(4, .int .i64 0), (5, .int .i64 0), (41, .bool false)]) ⟨rfl, rfl, rfl, trivial⟩ ?_
  refine d_else rfl (d_skip (f_block (f_to (d_reg ?_))))
  refine h_q hfl rfl ?_
  refine h_done (d_ret ?_)
  exact f_fin2 (.tmp rfl) (.tmp rfl) (fun w h => ⟨rfl, h.up.below⟩) rfl

/-- how two decimals lie -/
def cmpD (c s d t : Int) : Int := cmp3 (c * ((10 ^ (max s t - s).toNat : Nat) : Int)) (d * ((10 ^ (max s t - t).toNat : Nat) : Int))
theorem ceil_one (c : Int) : ceilD c ((10 ^ 0 : Nat) : Int) = c := by unfold ceilD; simp
theorem low_one (c : Int) : c / ((10 ^ 0 : Nat) : Int) = c := by simp
theorem low_lt {c d p : Int} (hp : 0 < p) : d / p < c ↔ d < c * p := Int.ediv_lt_iff_lt_mul hp
theorem lt_high {c d p : Int} (hp : 0 < p) : c < ceilD d p ↔ c * p < d := by
  unfold ceilD
  have h := low_lt (c := -c) (d := -d) hp
  rw [Int.neg_mul] at h
  constructor
  · intro hh
    have := h.1 (by omega)
    omega
  · intro hh
    have := h.2 (by omega)
    omega
theorem cmpd_any (w : World) (c s d t : Int) (hc : Fits c) (hd : Fits d) (hs : May s) (ht : May t) : Calls Tryd.prog 20 #[Dc c s, Dc d t] w fun e w' => e = .returned (.tuple #[.int .i64 (cmpD c s d t), .int .i64 0]) ∧ Below w.heap.size w w' := by
  unfold cmpD
  by_cases hm : s ≤ t
  · rw [show max s t = t by omega, show (t - t).toNat = 0 by omega]
    have h1 : s - s = ((0 : Nat) : Int) := by omega
    obtain ⟨k, hk⟩ : ∃ k, k = (t - s).toNat := ⟨_, rfl⟩
    have h2 : t - s = (k : Int) := by omega
    rw [← hk]
    have e1 := low_lt (c := ceilD c ((10 ^ 0 : Nat) : Int)) (d := d) (ten_pos k)
    have e2 := lt_high (c := c / ((10 ^ 0 : Nat) : Int)) (d := d) (ten_pos k)
    rw [ceil_one] at e1
    rw [low_one] at e2
    have e0 : d * ((10 ^ 0 : Nat) : Int) = d := by simp
    rw [e0]
    rcases cmp3_cases (c * ((10 ^ k : Nat) : Int)) d with ⟨h, e⟩ | ⟨h, e⟩ | ⟨h, e⟩ <;> rw [e]
    · exact cmp_le_neg w c s d t 0 k hc hd hs ht hm h1 h2 (by rw [ceil_one, e1]; omega) (by rw [low_one, e2]; exact h)
    · exact cmp_le_pos w c s d t 0 k hc hd hs ht hm h1 h2 (by rw [ceil_one, e1]; exact h)
    · exact cmp_le_zero w c s d t 0 k hc hd hs ht hm h1 h2 (by rw [ceil_one, e1]; omega) (by rw [low_one, e2]; omega)
  · rw [show max s t = s by omega, show (s - s).toNat = 0 by omega]
    have h2 : t - t = ((0 : Nat) : Int) := by omega
    obtain ⟨j, hj⟩ : ∃ j, j = (s - t).toNat := ⟨_, rfl⟩
    have h1 : s - t = (j : Int) := by omega
    rw [← hj]
    have e1 := lt_high (c := d / ((10 ^ 0 : Nat) : Int)) (d := c) (ten_pos j)
    have e2 := low_lt (c := ceilD d ((10 ^ 0 : Nat) : Int)) (d := c) (ten_pos j)
    rw [low_one] at e1
    rw [ceil_one] at e2
    have e0 : c * ((10 ^ 0 : Nat) : Int) = c := by simp
    rw [e0]
    rcases cmp3_cases c (d * ((10 ^ j : Nat) : Int)) with ⟨h, e⟩ | ⟨h, e⟩ | ⟨h, e⟩ <;> rw [e]
    · exact cmp_gt_neg w c s d t j 0 hc hd hs ht (by omega) h1 h2 (by rw [low_one, e1]; omega) (by rw [ceil_one, e2]; exact h)
    · exact cmp_gt_pos w c s d t j 0 hc hd hs ht (by omega) h1 h2 (by rw [low_one, e1]; exact h)
    · exact cmp_gt_zero w c s d t j 0 hc hd hs ht (by omega) h1 h2 (by rw [low_one, e1]; omega) (by rw [ceil_one, e2]; omega)
end Go.Proofs.YtmamedobphlpkaaDoor

namespace Go.Proofs.YtmamedobphlpkaaDoor
open Go.RowKit

theorem digit_ge {k : Nat} (h : k < 10) : (digit k).toNat = 48 + k := by
  unfold digit
  simp only [UInt8.toNat_ofNat']
  omega
theorem dd_digits : ∀ u, ∀ x ∈ Lib.decDigits u, 48 ≤ x.toNat ∧ x.toNat ≤ 57 := by
  intro u
  induction u using Nat.strongRecOn with
  | _ u ih =>
    intro x hx
    by_cases h : u < 10
    · rw [dd_small h] at hx
      have : x = digit u := by simpa using hx
      rw [this, digit_ge h]; omega
    · rw [dd_big h] at hx
      rcases List.mem_append.1 hx with hx | hx
      · exact ih (u / 10) (by omega) x hx
      · have : x = digit (u % 10) := by simpa using hx
        rw [this, digit_ge (by omega)]; omega
theorem trim_text (c : Int) : Lib.trimPrefix (textZ c) [45] = Lib.decDigits c.natAbs := by
  unfold textZ Lib.trimPrefix
  split
  · simp [Lib.hasPrefix]
  · obtain ⟨x, r, h⟩ : ∃ x r, Lib.decDigits c.natAbs = x :: r := by
      have := dd_pos c.natAbs
      cases h : Lib.decDigits c.natAbs with
      | nil => rw [h] at this; simp at this
      | cons x r => exact ⟨x, r, rfl⟩
    have hx := dd_digits c.natAbs x (by rw [h]; simp)
    have hne : x ≠ 45 := by rintro rfl; revert hx; decide
    rw [h]
    have hb : ((45 : UInt8) == x) = false := by simpa using fun h : (45 : UInt8) = x => hne h.symm
    have : Lib.hasPrefix (x :: r) [45] = false := by
      show ((45 : UInt8) == x && List.isPrefixOf [] r) = false
      rw [hb]
      rfl
    rw [this]
    rfl
/-- the digits of a decimal, at least one more than its scale -/
def digD (c : Int) (k : Nat) : List UInt8 := Lib.repeatL [48] (k + 1 - (Lib.decDigits c.natAbs).length) ++ Lib.decDigits c.natAbs
def pointD (c : Int) (k : Nat) : List UInt8 := if k = 0 then digD c k else (digD c k).take ((digD c k).length - k) ++ [46] ++ (digD c k).drop ((digD c k).length - k)
/-- a decimal's text -/
def textD (c : Int) (k : Nat) : List UInt8 := if c < 0 then 45 :: pointD c k else pointD c k
theorem digD_length (c : Int) (k : Nat) : k + 1 ≤ (digD c k).length ∧ (digD c k).length ≤ k + 1 + (Lib.decDigits c.natAbs).length := by
  unfold digD
  rw [List.length_append, Lib.repeatL_length]
  simp only [List.length_cons, List.length_nil]
  omega
theorem fits_nat {c : Int} (hc : Fits c) : c.natAbs < 10 ^ 39 := by unfold Fits at hc; omega
theorem repeatD (w : World) (m : Nat) (hm : m ≤ 100) : Calls Tryd.prog 68 #[.string (bs [48]), .int .i64 (m : Int)] w fun e w' => e = .returned (.string (bs (Lib.repeatL [48] m))) ∧ Below w.heap.size w w' := by
  have := repeat_any w (bs [48]) m (by omega) (by rw [bs_size]; simp only [List.length_cons, List.length_nil]; omega)
  rwa [bs_data] at this
theorem trimD (w : World) (c : Int) : Calls Tryd.prog 66 #[.string (bs (textZ c)), .string (bs [45])] w fun e w' => e = .returned (.string (bs (Lib.decDigits c.natAbs))) ∧ Below w.heap.size w w' := by
  have := trimPrefix_any w (bs (textZ c)) (bs [45])
  rwa [bs_data, bs_data, trim_text] at this

theorem textd_00 (w : World) (c : Int) (k : Nat) (hc : Fits c) (hk : k ≤ 18) (hk0 : k = 0) (hneg : ¬ c < 0) (htab : Lib.TabIs Tryd.prog w "internal/strconv.uint64pow10" .u64 Lib.pow10Tab) (hg : 2 < w.heap.size) : Calls Tryd.prog 43 #[Dc c (k : Int)] w fun e w' => e = .returned (.tuple #[.string (bs (textD c k)), .int .i64 0]) ∧ Below w.heap.size w w' := by
  have hdl := dd_length (u := c.natAbs) (k := 39) (by decide) (fits_nat hc)
  have hdp := dd_pos c.natAbs
  obtain ⟨D, hD⟩ : ∃ D, D = digD c k := ⟨_, rfl⟩
  have hDl := digD_length c k
  rw [← hD] at hDl
  refine d_in (args := [Dc c (k : Int)]) 46 Tryd.func43 rfl rfl rfl ?_
  refine d_reg ?_
  refine h_box (cs := #[hiW c, loW c, .int .i64 (k : Int)]) rfl rfl rfl rfl ?_; intro g1_1
  refine h_q hfl rfl ?_
  refine h_done (d_seq (d_reg ?_))
  refine h_load 0 (v := .agg #[hiW c, loW c, .int .i64 (k : Int)]) (reads_agg (cs := [hiW c, loW c, .int .i64 (k : Int)]) tyDec rfl) rfl rfl rfl rfl ?_
  refine h_call (ent_of Tryd.func18 (by kernel_rfl) rfl) (fun w hH => right_yes _ c (k : Int) (by omega)) rfl rfl rfl rfl ?_
  refine h_q hfl rfl ?_
  refine h_done (d_else rfl (d_skip (f_to (d_reg ?_))))
  refine h_q hfl rfl ?_
  refine h_load 0 (v := .agg #[hiW c, loW c]) (reads_agg (cs := [hiW c, loW c, .int .i64 (k : Int)]) tyWide rfl) rfl rfl rfl rfl ?_
  refine h_call (ent_of Tryd.func67 (by kernel_rfl) rfl) (fun w hH => textW_any _ c hc (tab_below htab hH.up.below hg) (Nat.lt_of_lt_of_le hg hH.up.size)) rfl rfl rfl rfl ?_
  refine h_call (ent_of Tryd.func66 (by kernel_rfl) rfl) (fun w hH => trimD _ c) rfl rfl rfl rfl ?_
  refine h_q hfl rfl ?_
  refine h_done (d_reg ?_)
  refine h_q hfl rfl ?_
  refine h_load 0 (v := .int .i64 (k : Int)) (reads_one tyInt rfl) rfl rfl rfl rfl ?_
  refine h_ar (z' := (k : Int) + 1) (IntWalk.i64_in _ (by omega)) rfl rfl rfl rfl rfl ?_
  refine h_q hfl rfl ?_
  refine h_builtin (v := .int .i64 ((Lib.decDigits c.natAbs).length : Int)) (fun w cs => run_len_bs Tryd.underlying9 _ _ w cs) rfl rfl rfl ?_
  refine h_ar (z' := ((k : Int) + 1) - ((Lib.decDigits c.natAbs).length : Int)) (IntWalk.i64_in _ (by omega)) rfl rfl rfl rfl rfl ?_
  refine h_builtin (v := .int .i64 ((k + 1 - (Lib.decDigits c.natAbs).length : Nat) : Int)) (fun w cs => run_max2 (by first | rfl | decide | (split <;> omega)) _ _ w cs) rfl rfl rfl ?_
  refine h_call (ent_of Tryd.func68 (by kernel_rfl) rfl) (fun w hH => repeatD _ (k + 1 - (Lib.decDigits c.natAbs).length) (by omega)) rfl rfl rfl rfl ?_
  refine h_q hfl rfl ?_
  refine h_cat (r := D) hD.symm (by simp only [List.length_append, List.length_cons, List.length_nil, List.length_take, List.length_drop, Lib.repeatL_length]; omega) rfl rfl rfl rfl ?_
  refine h_q hfl rfl ?_
  refine h_done (d_seq (d_reg ?_))
  refine h_q hfl rfl ?_
  refine h_builtin (v := .int .i64 (D.length : Int)) (fun w cs => run_len_bs Tryd.underlying9 _ _ w cs) rfl rfl rfl ?_
  refine h_q hfl rfl ?_
  refine h_load 0 (v := .int .i64 (k : Int)) (reads_one tyInt rfl) rfl rfl rfl rfl ?_
  refine h_ar (z' := ((D.length - k : Nat) : Int)) (by rw [IntWalk.i64_in _ (by omega)]; omega) rfl rfl rfl rfl rfl ?_
  refine h_q hfl rfl ?_
  refine h_done (d_reg ?_)
  refine h_q hfl rfl ?_
  refine h_load 0 (v := .int .i64 (k : Int)) (reads_one tyInt rfl) rfl rfl rfl rfl ?_
  refine h_cmp (cmp_gtr_f (by omega)) rfl rfl rfl rfl ?_
  refine h_done (d_else rfl (d_skip (f_to (d_seq (d_reg ?_)))))
  refine h_q hfl rfl ?_
  refine h_load 0 (v := .agg #[hiW c, loW c]) (reads_agg (cs := [hiW c, loW c, .int .i64 (k : Int)]) tyWide rfl) rfl rfl rfl rfl ?_
  refine h_call (ent_of Tryd.func31 (by kernel_rfl) rfl) (fun w hH => sign_any _ c hc) rfl rfl rfl rfl ?_
  refine h_cmp (cmp_eql_f (by rcases cmp3_cases c 0 with ⟨h, e⟩ | ⟨h, e⟩ | ⟨h, e⟩ <;> omega)) rfl rfl rfl rfl ?_
  refine h_done (d_else rfl (d_skip (f_to (d_reg ?_))))
  refine h_q hfl rfl ?_
  refine h_done (d_ret ?_)
  exact f_fin2 (.tmp rfl) (.tmp rfl) (fun w h => ⟨by unfold textD pointD; rw [if_neg hneg, ← hD, if_pos hk0] <;> rfl, h.up.below⟩) rfl

theorem textd_0n (w : World) (c : Int) (k : Nat) (hc : Fits c) (hk : k ≤ 18) (hk0 : k = 0) (hneg : c < 0) (htab : Lib.TabIs Tryd.prog w "internal/strconv.uint64pow10" .u64 Lib.pow10Tab) (hg : 2 < w.heap.size) : Calls Tryd.prog 43 #[Dc c (k : Int)] w fun e w' => e = .returned (.tuple #[.string (bs (textD c k)), .int .i64 0]) ∧ Below w.heap.size w w' := by
  have hdl := dd_length (u := c.natAbs) (k := 39) (by decide) (fits_nat hc)
  have hdp := dd_pos c.natAbs
  obtain ⟨D, hD⟩ : ∃ D, D = digD c k := ⟨_, rfl⟩
  have hDl := digD_length c k
  rw [← hD] at hDl
  refine d_in (args := [Dc c (k : Int)]) 46 Tryd.func43 rfl rfl rfl ?_
  refine d_reg ?_
  refine h_box (cs := #[hiW c, loW c, .int .i64 (k : Int)]) rfl rfl rfl rfl ?_; intro g1_1
  refine h_q hfl rfl ?_
  refine h_done (d_seq (d_reg ?_))
  refine h_load 0 (v := .agg #[hiW c, loW c, .int .i64 (k : Int)]) (reads_agg (cs := [hiW c, loW c, .int .i64 (k : Int)]) tyDec rfl) rfl rfl rfl rfl ?_
  refine h_call (ent_of Tryd.func18 (by kernel_rfl) rfl) (fun w hH => right_yes _ c (k : Int) (by omega)) rfl rfl rfl rfl ?_
  refine h_q hfl rfl ?_
  refine h_done (d_else rfl (d_skip (f_to (d_reg ?_))))
  refine h_q hfl rfl ?_
  refine h_load 0 (v := .agg #[hiW c, loW c]) (reads_agg (cs := [hiW c, loW c, .int .i64 (k : Int)]) tyWide rfl) rfl rfl rfl rfl ?_
  refine h_call (ent_of Tryd.func67 (by kernel_rfl) rfl) (fun w hH => textW_any _ c hc (tab_below htab hH.up.below hg) (Nat.lt_of_lt_of_le hg hH.up.size)) rfl rfl rfl rfl ?_
  refine h_call (ent_of Tryd.func66 (by kernel_rfl) rfl) (fun w hH => trimD _ c) rfl rfl rfl rfl ?_
  refine h_q hfl rfl ?_
  refine h_done (d_reg ?_)
  refine h_q hfl rfl ?_
  refine h_load 0 (v := .int .i64 (k : Int)) (reads_one tyInt rfl) rfl rfl rfl rfl ?_
  refine h_ar (z' := (k : Int) + 1) (IntWalk.i64_in _ (by omega)) rfl rfl rfl rfl rfl ?_
  refine h_q hfl rfl ?_
  refine h_builtin (v := .int .i64 ((Lib.decDigits c.natAbs).length : Int)) (fun w cs => run_len_bs Tryd.underlying9 _ _ w cs) rfl rfl rfl ?_
  refine h_ar (z' := ((k : Int) + 1) - ((Lib.decDigits c.natAbs).length : Int)) (IntWalk.i64_in _ (by omega)) rfl rfl rfl rfl rfl ?_
  refine h_builtin (v := .int .i64 ((k + 1 - (Lib.decDigits c.natAbs).length : Nat) : Int)) (fun w cs => run_max2 (by first | rfl | decide | (split <;> omega)) _ _ w cs) rfl rfl rfl ?_
  refine h_call (ent_of Tryd.func68 (by kernel_rfl) rfl) (fun w hH => repeatD _ (k + 1 - (Lib.decDigits c.natAbs).length) (by omega)) rfl rfl rfl rfl ?_
  refine h_q hfl rfl ?_
  refine h_cat (r := D) hD.symm (by simp only [List.length_append, List.length_cons, List.length_nil, List.length_take, List.length_drop, Lib.repeatL_length]; omega) rfl rfl rfl rfl ?_
  refine h_q hfl rfl ?_
  refine h_done (d_seq (d_reg ?_))
  refine h_q hfl rfl ?_
  refine h_builtin (v := .int .i64 (D.length : Int)) (fun w cs => run_len_bs Tryd.underlying9 _ _ w cs) rfl rfl rfl ?_
  refine h_q hfl rfl ?_
  refine h_load 0 (v := .int .i64 (k : Int)) (reads_one tyInt rfl) rfl rfl rfl rfl ?_
  refine h_ar (z' := ((D.length - k : Nat) : Int)) (by rw [IntWalk.i64_in _ (by omega)]; omega) rfl rfl rfl rfl rfl ?_
  refine h_q hfl rfl ?_
  refine h_done (d_reg ?_)
  refine h_q hfl rfl ?_
  refine h_load 0 (v := .int .i64 (k : Int)) (reads_one tyInt rfl) rfl rfl rfl rfl ?_
  refine h_cmp (cmp_gtr_f (by omega)) rfl rfl rfl rfl ?_
  refine h_done (d_else rfl (d_skip (f_to (d_seq (d_reg ?_)))))
  refine h_q hfl rfl ?_
  refine h_load 0 (v := .agg #[hiW c, loW c]) (reads_agg (cs := [hiW c, loW c, .int .i64 (k : Int)]) tyWide rfl) rfl rfl rfl rfl ?_
  refine h_call (ent_of Tryd.func31 (by kernel_rfl) rfl) (fun w hH => sign_any _ c hc) rfl rfl rfl rfl ?_
  refine h_cmp (cmp_eql_t (cmp3_lt hneg)) rfl rfl rfl rfl ?_
  refine h_done (d_then rfl (d_reg1 ?_))
  refine h_q hfl rfl ?_
  refine h_cat (r := ([45]) ++ D) rfl (by simp only [List.length_append, List.length_cons, List.length_nil, List.length_take, List.length_drop, Lib.repeatL_length]; omega) rfl rfl rfl rfl ?_
  refine h_q hfl rfl ?_
  refine h_nil (f_to (d_reg ?_))
  refine h_q hfl rfl ?_
  refine h_done (d_ret ?_)
  exact f_fin2 (.tmp rfl) (.tmp rfl) (fun w h => ⟨by unfold textD pointD; rw [if_pos hneg, ← hD, if_pos hk0] <;> rfl, h.up.below⟩) rfl

theorem textd_p0 (w : World) (c : Int) (k : Nat) (hc : Fits c) (hk : k ≤ 18) (hk0 : 0 < k) (hneg : ¬ c < 0) (htab : Lib.TabIs Tryd.prog w "internal/strconv.uint64pow10" .u64 Lib.pow10Tab) (hg : 2 < w.heap.size) : Calls Tryd.prog 43 #[Dc c (k : Int)] w fun e w' => e = .returned (.tuple #[.string (bs (textD c k)), .int .i64 0]) ∧ Below w.heap.size w w' := by
  have hdl := dd_length (u := c.natAbs) (k := 39) (by decide) (fits_nat hc)
  have hdp := dd_pos c.natAbs
  obtain ⟨D, hD⟩ : ∃ D, D = digD c k := ⟨_, rfl⟩
  have hDl := digD_length c k
  rw [← hD] at hDl
  refine d_in (args := [Dc c (k : Int)]) 46 Tryd.func43 rfl rfl rfl ?_
  refine d_reg ?_
  refine h_box (cs := #[hiW c, loW c, .int .i64 (k : Int)]) rfl rfl rfl rfl ?_; intro g1_1
  refine h_q hfl rfl ?_
  refine h_done (d_seq (d_reg ?_))
  refine h_load 0 (v := .agg #[hiW c, loW c, .int .i64 (k : Int)]) (reads_agg (cs := [hiW c, loW c, .int .i64 (k : Int)]) tyDec rfl) rfl rfl rfl rfl ?_
  refine h_call (ent_of Tryd.func18 (by kernel_rfl) rfl) (fun w hH => right_yes _ c (k : Int) (by omega)) rfl rfl rfl rfl ?_
  refine h_q hfl rfl ?_
  refine h_done (d_else rfl (d_skip (f_to (d_reg ?_))))
  refine h_q hfl rfl ?_
  refine h_load 0 (v := .agg #[hiW c, loW c]) (reads_agg (cs := [hiW c, loW c, .int .i64 (k : Int)]) tyWide rfl) rfl rfl rfl rfl ?_
  refine h_call (ent_of Tryd.func67 (by kernel_rfl) rfl) (fun w hH => textW_any _ c hc (tab_below htab hH.up.below hg) (Nat.lt_of_lt_of_le hg hH.up.size)) rfl rfl rfl rfl ?_
  refine h_call (ent_of Tryd.func66 (by kernel_rfl) rfl) (fun w hH => trimD _ c) rfl rfl rfl rfl ?_
  refine h_q hfl rfl ?_
  refine h_done (d_reg ?_)
  refine h_q hfl rfl ?_
  refine h_load 0 (v := .int .i64 (k : Int)) (reads_one tyInt rfl) rfl rfl rfl rfl ?_
  refine h_ar (z' := (k : Int) + 1) (IntWalk.i64_in _ (by omega)) rfl rfl rfl rfl rfl ?_
  refine h_q hfl rfl ?_
  refine h_builtin (v := .int .i64 ((Lib.decDigits c.natAbs).length : Int)) (fun w cs => run_len_bs Tryd.underlying9 _ _ w cs) rfl rfl rfl ?_
  refine h_ar (z' := ((k : Int) + 1) - ((Lib.decDigits c.natAbs).length : Int)) (IntWalk.i64_in _ (by omega)) rfl rfl rfl rfl rfl ?_
  refine h_builtin (v := .int .i64 ((k + 1 - (Lib.decDigits c.natAbs).length : Nat) : Int)) (fun w cs => run_max2 (by first | rfl | decide | (split <;> omega)) _ _ w cs) rfl rfl rfl ?_
  refine h_call (ent_of Tryd.func68 (by kernel_rfl) rfl) (fun w hH => repeatD _ (k + 1 - (Lib.decDigits c.natAbs).length) (by omega)) rfl rfl rfl rfl ?_
  refine h_q hfl rfl ?_
  refine h_cat (r := D) hD.symm (by simp only [List.length_append, List.length_cons, List.length_nil, List.length_take, List.length_drop, Lib.repeatL_length]; omega) rfl rfl rfl rfl ?_
  refine h_q hfl rfl ?_
  refine h_done (d_seq (d_reg ?_))
  refine h_q hfl rfl ?_
  refine h_builtin (v := .int .i64 (D.length : Int)) (fun w cs => run_len_bs Tryd.underlying9 _ _ w cs) rfl rfl rfl ?_
  refine h_q hfl rfl ?_
  refine h_load 0 (v := .int .i64 (k : Int)) (reads_one tyInt rfl) rfl rfl rfl rfl ?_
  refine h_ar (z' := ((D.length - k : Nat) : Int)) (by rw [IntWalk.i64_in _ (by omega)]; omega) rfl rfl rfl rfl rfl ?_
  refine h_q hfl rfl ?_
  refine h_done (d_reg ?_)
  refine h_q hfl rfl ?_
  refine h_load 0 (v := .int .i64 (k : Int)) (reads_one tyInt rfl) rfl rfl rfl rfl ?_
  refine h_cmp (cmp_gtr_t (by omega)) rfl rfl rfl rfl ?_
  refine h_done (d_then rfl ?_)
  refine d_par 8 0 [⟨.quiet, 0, fun _ => .string (bs D), []⟩, ⟨.quiet, 0, fun _ => .int .i64 ((D.length - k : Nat) : Int), []⟩, ⟨.quiet, 0, fun _ => .string (bs (D.take (D.length - k))), [0, 1]⟩, ⟨.quiet, 0, fun _ => .string (bs ((D.take (D.length - k)) ++ ([46]))), [2]⟩, ⟨.quiet, 0, fun _ => .string (bs D), []⟩, ⟨.quiet, 0, fun _ => .int .i64 ((D.length - k : Nat) : Int), []⟩, ⟨.quiet, 0, fun _ => .string (bs (D.drop (D.length - k))), [4, 5]⟩, ⟨.quiet, 0, fun _ => .string (bs (((D.take (D.length - k)) ++ ([46])) ++ (D.drop (D.length - k)))), [3, 6]⟩] [(1, .pointer (some ⟨g1_1, 0, none⟩)), (2, .string (bs ([]))), (3, .int .i64 0), (4, .string (bs D)), (5, .int .i64 ((D.length - k : Nat) : Int))] (by kernel_rfl) (by kernel_rfl) ⟨rfl, rfl, rfl, rfl, rfl, trivial⟩ ?_ ?_
  · skip
    refine o_cons (o_q hfl (fun _ _ => rfl) (fun _ _ => rfl)) ?_
    refine o_cons (o_q hfl (fun _ _ => rfl) (fun _ _ => rfl)) ?_
    refine o_cons (o_cut (i := 0) (j := D.length - k) (r := D.take (D.length - k)) Tryd.underlying9 (by simp) (by omega) (by omega) (fun _ _ => rfl) rfl (fun _ _ => rfl) (fun _ _ => rfl) (fun _ _ => ⟨_, rfl⟩)) ?_
    refine o_cons (o_cat (r := (D.take (D.length - k)) ++ ([46])) rfl (by simp only [List.length_append, List.length_cons, List.length_nil, List.length_take, List.length_drop, Lib.repeatL_length]; omega) (fun _ _ => rfl) rfl (fun _ _ => rfl) (fun _ _ => rfl)) ?_
    refine o_cons (o_q hfl (fun _ _ => rfl) (fun _ _ => rfl)) ?_
    refine o_cons (o_q hfl (fun _ _ => rfl) (fun _ _ => rfl)) ?_
    refine o_cons (o_cut (i := D.length - k) (j := D.length) (r := D.drop (D.length - k)) Tryd.underlying9 (by rw [List.take_length]) (by omega) (by omega) (fun _ _ => rfl) rfl (fun _ _ => rfl) (fun _ _ => ⟨_, rfl⟩) (fun _ _ => rfl)) ?_
    refine o_cons (o_cat (r := ((D.take (D.length - k)) ++ ([46])) ++ (D.drop (D.length - k))) rfl (by simp only [List.length_append, List.length_cons, List.length_nil, List.length_take, List.length_drop, Lib.repeatL_length]; omega) (fun _ _ => rfl) rfl (fun _ _ => rfl) (fun _ _ => rfl)) ?_
    exact o_nil
  intro σ2 gs2
  refine WL2.keep (env' := [(1, .pointer (some ⟨g1_1, 0, none⟩)), (2, .string (bs ([]))), (3, .int .i64 0), (4, .string (bs D)), (38, .string (bs (((D.take (D.length - k)) ++ ([46])) ++ (D.drop (D.length - k)))))]) ⟨rfl, rfl, rfl, rfl, rfl, trivial⟩ ?_
  refine h_q hfl rfl ?_
  refine h_nil (f_to (d_seq (d_reg ?_)))
  refine h_q hfl rfl ?_
  refine h_load 0 (v := .agg #[hiW c, loW c]) (reads_agg (cs := [hiW c, loW c, .int .i64 (k : Int)]) tyWide rfl) rfl rfl rfl rfl ?_
  refine h_call (ent_of Tryd.func31 (by kernel_rfl) rfl) (fun w hH => sign_any _ c hc) rfl rfl rfl rfl ?_
  refine h_cmp (cmp_eql_f (by rcases cmp3_cases c 0 with ⟨h, e⟩ | ⟨h, e⟩ | ⟨h, e⟩ <;> omega)) rfl rfl rfl rfl ?_
  refine h_done (d_else rfl (d_skip (f_to (d_reg ?_))))
  refine h_q hfl rfl ?_
  refine h_done (d_ret ?_)
  exact f_fin2 (.tmp rfl) (.tmp rfl) (fun w h => ⟨by unfold textD pointD; rw [if_neg hneg, ← hD, if_neg (by omega)] <;> rfl, h.up.below⟩) rfl

theorem textd_pn (w : World) (c : Int) (k : Nat) (hc : Fits c) (hk : k ≤ 18) (hk0 : 0 < k) (hneg : c < 0) (htab : Lib.TabIs Tryd.prog w "internal/strconv.uint64pow10" .u64 Lib.pow10Tab) (hg : 2 < w.heap.size) : Calls Tryd.prog 43 #[Dc c (k : Int)] w fun e w' => e = .returned (.tuple #[.string (bs (textD c k)), .int .i64 0]) ∧ Below w.heap.size w w' := by
  have hdl := dd_length (u := c.natAbs) (k := 39) (by decide) (fits_nat hc)
  have hdp := dd_pos c.natAbs
  obtain ⟨D, hD⟩ : ∃ D, D = digD c k := ⟨_, rfl⟩
  have hDl := digD_length c k
  rw [← hD] at hDl
  refine d_in (args := [Dc c (k : Int)]) 46 Tryd.func43 rfl rfl rfl ?_
  refine d_reg ?_
  refine h_box (cs := #[hiW c, loW c, .int .i64 (k : Int)]) rfl rfl rfl rfl ?_; intro g1_1
  refine h_q hfl rfl ?_
  refine h_done (d_seq (d_reg ?_))
  refine h_load 0 (v := .agg #[hiW c, loW c, .int .i64 (k : Int)]) (reads_agg (cs := [hiW c, loW c, .int .i64 (k : Int)]) tyDec rfl) rfl rfl rfl rfl ?_
  refine h_call (ent_of Tryd.func18 (by kernel_rfl) rfl) (fun w hH => right_yes _ c (k : Int) (by omega)) rfl rfl rfl rfl ?_
  refine h_q hfl rfl ?_
  refine h_done (d_else rfl (d_skip (f_to (d_reg ?_))))
  refine h_q hfl rfl ?_
  refine h_load 0 (v := .agg #[hiW c, loW c]) (reads_agg (cs := [hiW c, loW c, .int .i64 (k : Int)]) tyWide rfl) rfl rfl rfl rfl ?_
  refine h_call (ent_of Tryd.func67 (by kernel_rfl) rfl) (fun w hH => textW_any _ c hc (tab_below htab hH.up.below hg) (Nat.lt_of_lt_of_le hg hH.up.size)) rfl rfl rfl rfl ?_
  refine h_call (ent_of Tryd.func66 (by kernel_rfl) rfl) (fun w hH => trimD _ c) rfl rfl rfl rfl ?_
  refine h_q hfl rfl ?_
  refine h_done (d_reg ?_)
  refine h_q hfl rfl ?_
  refine h_load 0 (v := .int .i64 (k : Int)) (reads_one tyInt rfl) rfl rfl rfl rfl ?_
  refine h_ar (z' := (k : Int) + 1) (IntWalk.i64_in _ (by omega)) rfl rfl rfl rfl rfl ?_
  refine h_q hfl rfl ?_
  refine h_builtin (v := .int .i64 ((Lib.decDigits c.natAbs).length : Int)) (fun w cs => run_len_bs Tryd.underlying9 _ _ w cs) rfl rfl rfl ?_
  refine h_ar (z' := ((k : Int) + 1) - ((Lib.decDigits c.natAbs).length : Int)) (IntWalk.i64_in _ (by omega)) rfl rfl rfl rfl rfl ?_
  refine h_builtin (v := .int .i64 ((k + 1 - (Lib.decDigits c.natAbs).length : Nat) : Int)) (fun w cs => run_max2 (by first | rfl | decide | (split <;> omega)) _ _ w cs) rfl rfl rfl ?_
  refine h_call (ent_of Tryd.func68 (by kernel_rfl) rfl) (fun w hH => repeatD _ (k + 1 - (Lib.decDigits c.natAbs).length) (by omega)) rfl rfl rfl rfl ?_
  refine h_q hfl rfl ?_
  refine h_cat (r := D) hD.symm (by simp only [List.length_append, List.length_cons, List.length_nil, List.length_take, List.length_drop, Lib.repeatL_length]; omega) rfl rfl rfl rfl ?_
  refine h_q hfl rfl ?_
  refine h_done (d_seq (d_reg ?_))
  refine h_q hfl rfl ?_
  refine h_builtin (v := .int .i64 (D.length : Int)) (fun w cs => run_len_bs Tryd.underlying9 _ _ w cs) rfl rfl rfl ?_
  refine h_q hfl rfl ?_
  refine h_load 0 (v := .int .i64 (k : Int)) (reads_one tyInt rfl) rfl rfl rfl rfl ?_
  refine h_ar (z' := ((D.length - k : Nat) : Int)) (by rw [IntWalk.i64_in _ (by omega)]; omega) rfl rfl rfl rfl rfl ?_
  refine h_q hfl rfl ?_
  refine h_done (d_reg ?_)
  refine h_q hfl rfl ?_
  refine h_load 0 (v := .int .i64 (k : Int)) (reads_one tyInt rfl) rfl rfl rfl rfl ?_
  refine h_cmp (cmp_gtr_t (by omega)) rfl rfl rfl rfl ?_
  refine h_done (d_then rfl ?_)
  refine d_par 8 0 [⟨.quiet, 0, fun _ => .string (bs D), []⟩, ⟨.quiet, 0, fun _ => .int .i64 ((D.length - k : Nat) : Int), []⟩, ⟨.quiet, 0, fun _ => .string (bs (D.take (D.length - k))), [0, 1]⟩, ⟨.quiet, 0, fun _ => .string (bs ((D.take (D.length - k)) ++ ([46]))), [2]⟩, ⟨.quiet, 0, fun _ => .string (bs D), []⟩, ⟨.quiet, 0, fun _ => .int .i64 ((D.length - k : Nat) : Int), []⟩, ⟨.quiet, 0, fun _ => .string (bs (D.drop (D.length - k))), [4, 5]⟩, ⟨.quiet, 0, fun _ => .string (bs (((D.take (D.length - k)) ++ ([46])) ++ (D.drop (D.length - k)))), [3, 6]⟩] [(1, .pointer (some ⟨g1_1, 0, none⟩)), (2, .string (bs ([]))), (3, .int .i64 0), (4, .string (bs D)), (5, .int .i64 ((D.length - k : Nat) : Int))] (by kernel_rfl) (by kernel_rfl) ⟨rfl, rfl, rfl, rfl, rfl, trivial⟩ ?_ ?_
  · skip
    refine o_cons (o_q hfl (fun _ _ => rfl) (fun _ _ => rfl)) ?_
    refine o_cons (o_q hfl (fun _ _ => rfl) (fun _ _ => rfl)) ?_
    refine o_cons (o_cut (i := 0) (j := D.length - k) (r := D.take (D.length - k)) Tryd.underlying9 (by simp) (by omega) (by omega) (fun _ _ => rfl) rfl (fun _ _ => rfl) (fun _ _ => rfl) (fun _ _ => ⟨_, rfl⟩)) ?_
    refine o_cons (o_cat (r := (D.take (D.length - k)) ++ ([46])) rfl (by simp only [List.length_append, List.length_cons, List.length_nil, List.length_take, List.length_drop, Lib.repeatL_length]; omega) (fun _ _ => rfl) rfl (fun _ _ => rfl) (fun _ _ => rfl)) ?_
    refine o_cons (o_q hfl (fun _ _ => rfl) (fun _ _ => rfl)) ?_
    refine o_cons (o_q hfl (fun _ _ => rfl) (fun _ _ => rfl)) ?_
    refine o_cons (o_cut (i := D.length - k) (j := D.length) (r := D.drop (D.length - k)) Tryd.underlying9 (by rw [List.take_length]) (by omega) (by omega) (fun _ _ => rfl) rfl (fun _ _ => rfl) (fun _ _ => ⟨_, rfl⟩) (fun _ _ => rfl)) ?_
    refine o_cons (o_cat (r := ((D.take (D.length - k)) ++ ([46])) ++ (D.drop (D.length - k))) rfl (by simp only [List.length_append, List.length_cons, List.length_nil, List.length_take, List.length_drop, Lib.repeatL_length]; omega) (fun _ _ => rfl) rfl (fun _ _ => rfl) (fun _ _ => rfl)) ?_
    exact o_nil
  intro σ2 gs2
  refine WL2.keep (env' := [(1, .pointer (some ⟨g1_1, 0, none⟩)), (2, .string (bs ([]))), (3, .int .i64 0), (4, .string (bs D)), (38, .string (bs (((D.take (D.length - k)) ++ ([46])) ++ (D.drop (D.length - k)))))]) ⟨rfl, rfl, rfl, rfl, rfl, trivial⟩ ?_
  refine h_q hfl rfl ?_
  refine h_nil (f_to (d_seq (d_reg ?_)))
  refine h_q hfl rfl ?_
  refine h_load 0 (v := .agg #[hiW c, loW c]) (reads_agg (cs := [hiW c, loW c, .int .i64 (k : Int)]) tyWide rfl) rfl rfl rfl rfl ?_
  refine h_call (ent_of Tryd.func31 (by kernel_rfl) rfl) (fun w hH => sign_any _ c hc) rfl rfl rfl rfl ?_
  refine h_cmp (cmp_eql_t (cmp3_lt hneg)) rfl rfl rfl rfl ?_
  refine h_done (d_then rfl (d_reg1 ?_))
  refine h_q hfl rfl ?_
  refine h_cat (r := ([45]) ++ (((D.take (D.length - k)) ++ ([46])) ++ (D.drop (D.length - k)))) rfl (by simp only [List.length_append, List.length_cons, List.length_nil, List.length_take, List.length_drop, Lib.repeatL_length]; omega) rfl rfl rfl rfl ?_
  refine h_q hfl rfl ?_
  refine h_nil (f_to (d_reg ?_))
  refine h_q hfl rfl ?_
  refine h_done (d_ret ?_)
  exact f_fin2 (.tmp rfl) (.tmp rfl) (fun w h => ⟨by unfold textD pointD; rw [if_pos hneg, ← hD, if_neg (by omega)] <;> rfl, h.up.below⟩) rfl

theorem textd_any (w : World) (c : Int) (k : Nat) (hc : Fits c) (hk : k ≤ 18) (htab : Lib.TabIs Tryd.prog w "internal/strconv.uint64pow10" .u64 Lib.pow10Tab) (hg : 2 < w.heap.size) : Calls Tryd.prog 43 #[Dc c (k : Int)] w fun e w' => e = .returned (.tuple #[.string (bs (textD c k)), .int .i64 0]) ∧ Below w.heap.size w w' := by
  by_cases h0 : k = 0 <;> by_cases hn : c < 0
  · exact textd_0n w c k hc hk h0 hn htab hg
  · exact textd_00 w c k hc hk h0 hn htab hg
  · exact textd_pn w c k hc hk (by omega) hn htab hg
  · exact textd_p0 w c k hc hk (by omega) hn htab hg
end Go.Proofs.YtmamedobphlpkaaDoor
