/-
  Muls
-/
import Derived.Test.YtmamedobphlpkaaDoorF06
set_option linter.unusedSimpArgs false
set_option linter.unusedVariables false

namespace Go.Proofs.YtmamedobphlpkaaDoor
open Go.RowKit

/-- the scale that is answered -/
def rs (z s : Int) : Int := if Fits z then s else 0
theorem made_r (w : World) (z s : Int) : Calls Tryd.prog 40 #[WV (rz z), .int .i64 s, .int .i64 (rE z)] w fun e w' => e = .returned (.tuple #[Dc (rz z) (rs z s), .int .i64 (rE z)]) ∧ Below w.heap.size w w' := by
  by_cases h : Fits z
  · rw [rE_fit h, show rs z s = s from if_pos h]
    exact made_ok w _ s
  · rw [rE_over h, rz_over h, show rs z s = 0 from if_neg h]
    exact made_no w 0 s 20 (by decide)
theorem may_t (w : World) (s : Int) (h : May s) : Calls Tryd.prog 44 #[.int .i64 s] w fun e w' => e = .returned (.bool true) ∧ Below w.heap.size w w' := by
  have := may_any w s
  rwa [decide_eq_true h] at this
theorem may_f (w : World) (s : Int) (h : ¬ May s) : Calls Tryd.prog 44 #[.int .i64 s] w fun e w' => e = .returned (.bool false) ∧ Below w.heap.size w w' := by
  have := may_any w s
  rwa [decide_eq_false h] at this

theorem resc_bad1 (w : World) (c s t : Int) (hs : ¬ May s) : Calls Tryd.prog 25 #[Dc c s, .int .i64 t] w fun e w' => e = .returned (.tuple #[Dc 0 0, .int .i64 21]) ∧ Below w.heap.size w w' := by
  refine d_in (args := [Dc c s, .int .i64 t]) 29 Tryd.func25 rfl rfl rfl ?_
  refine d_reg ?_
  refine h_box (cs := #[hiW c, loW c, .int .i64 s]) rfl rfl rfl rfl ?_; intro g2_1
  refine h_alloc zeDec rfl rfl ?_; intro g4_2
  refine h_q hfl rfl ?_
  refine h_done (d_seq (d_reg ?_))
  refine h_load 1 (v := .agg #[hiW c, loW c, .int .i64 s]) (reads_agg (cs := [hiW c, loW c, .int .i64 s]) tyDec rfl) rfl rfl rfl rfl ?_
  refine h_call (ent_of Tryd.func18 (by kernel_rfl) rfl) (fun w hH => right_no _ c s hs) rfl rfl rfl rfl ?_
  refine h_q hfl rfl ?_
  refine h_done (d_then rfl (d_reg ?_))
  refine h_build (cs := #[.int .i64 0, .int .u64 0, .int .i64 0]) (by kernel_rfl) rfl rfl rfl ?_
  refine h_store 0 (v := .agg #[.int .i64 0, .int .u64 0, .int .i64 0]) (#[.int .i64 0, .int .u64 0, .int .i64 0]) tyDec.2 rfl rfl rfl rfl rfl rfl rfl rfl rfl rfl ?_
  refine h_q hfl rfl ?_
  refine h_done (d_ret (f_then_ret ?_))
  exact f_fin2 (.cell 0 (v := .agg #[.int .i64 0, .int .u64 0, .int .i64 0]) (reads_agg (cs := [.int .i64 0, .int .u64 0, .int .i64 0]) tyDec rfl) rfl rfl) (.tmp rfl) (fun w h => ⟨rfl, h.up.below⟩) rfl

theorem resc_bad2 (w : World) (c s t : Int) (hs : May s) (ht : ¬ May t) : Calls Tryd.prog 25 #[Dc c s, .int .i64 t] w fun e w' => e = .returned (.tuple #[Dc 0 0, .int .i64 21]) ∧ Below w.heap.size w w' := by
  refine d_in (args := [Dc c s, .int .i64 t]) 29 Tryd.func25 rfl rfl rfl ?_
  refine d_reg ?_
  refine h_box (cs := #[hiW c, loW c, .int .i64 s]) rfl rfl rfl rfl ?_; intro g2_1
  refine h_alloc zeDec rfl rfl ?_; intro g4_2
  refine h_q hfl rfl ?_
  refine h_done (d_seq (d_reg ?_))
  refine h_load 1 (v := .agg #[hiW c, loW c, .int .i64 s]) (reads_agg (cs := [hiW c, loW c, .int .i64 s]) tyDec rfl) rfl rfl rfl rfl ?_
  refine h_call (ent_of Tryd.func18 (by kernel_rfl) rfl) (fun w hH => right_yes _ c s hs) rfl rfl rfl rfl ?_
  refine h_q hfl rfl ?_
  refine h_call (ent_of Tryd.func44 (by kernel_rfl) rfl) (fun w hH => may_f _ t ht) rfl rfl rfl rfl ?_
  refine h_q hfl rfl ?_
  refine h_done (d_then rfl (d_reg ?_))
  refine h_build (cs := #[.int .i64 0, .int .u64 0, .int .i64 0]) (by kernel_rfl) rfl rfl rfl ?_
  refine h_store 0 (v := .agg #[.int .i64 0, .int .u64 0, .int .i64 0]) (#[.int .i64 0, .int .u64 0, .int .i64 0]) tyDec.2 rfl rfl rfl rfl rfl rfl rfl rfl rfl rfl ?_
  refine h_q hfl rfl ?_
  refine h_done (d_ret (f_then_ret ?_))
  exact f_fin2 (.cell 0 (v := .agg #[.int .i64 0, .int .u64 0, .int .i64 0]) (reads_agg (cs := [.int .i64 0, .int .u64 0, .int .i64 0]) tyDec rfl) rfl rfl) (.tmp rfl) (fun w h => ⟨rfl, h.up.below⟩) rfl

theorem resc_any (w : World) (c s t : Int) (hc : Fits c) (hs : May s) (ht : May t) : Calls Tryd.prog 25 #[Dc c s, .int .i64 t] w fun e w' => e = .returned (.tuple #[Dc (rz (roundZ c (s - t))) (rs (roundZ c (s - t)) t), .int .i64 (rE (roundZ c (s - t)))]) ∧ Below w.heap.size w w' := by
  refine d_in (args := [Dc c s, .int .i64 t]) 29 Tryd.func25 rfl rfl rfl ?_
  refine d_reg ?_
  refine h_box (cs := #[hiW c, loW c, .int .i64 s]) rfl rfl rfl rfl ?_; intro g2_1
  refine h_alloc zeDec rfl rfl ?_; intro g4_2
  refine h_q hfl rfl ?_
  refine h_done (d_seq (d_reg ?_))
  refine h_load 1 (v := .agg #[hiW c, loW c, .int .i64 s]) (reads_agg (cs := [hiW c, loW c, .int .i64 s]) tyDec rfl) rfl rfl rfl rfl ?_
  refine h_call (ent_of Tryd.func18 (by kernel_rfl) rfl) (fun w hH => right_yes _ c s hs) rfl rfl rfl rfl ?_
  refine h_q hfl rfl ?_
  refine h_call (ent_of Tryd.func44 (by kernel_rfl) rfl) (fun w hH => may_t _ t ht) rfl rfl rfl rfl ?_
  refine h_q hfl rfl ?_
  refine h_done (d_else rfl (d_skip (f_to (d_reg ?_))))
  refine h_load 1 (v := .agg #[hiW c, loW c, .int .i64 s]) (reads_agg (cs := [hiW c, loW c, .int .i64 s]) tyDec rfl) rfl rfl rfl rfl ?_
  refine h_q hfl rfl ?_
  refine h_call (ent_of Tryd.func50 (by kernel_rfl) rfl) (fun w hH => at_half _ c s t hc hs ht) rfl rfl rfl rfl ?_
  refine h_q hfl rfl ?_
  refine h_alloc zeWide rfl rfl ?_; intro g6_3
  refine h_store 0 (v := WV (rz (roundZ c (s - t)))) (#[hiW (rz (roundZ c (s - t))), loW (rz (roundZ c (s - t)))]) tyWide.2 rfl rfl rfl rfl rfl rfl rfl rfl rfl rfl ?_
  refine h_q hfl rfl ?_
  refine h_done (d_reg ?_)
  refine h_load 0 (v := .agg #[hiW (rz (roundZ c (s - t))), loW (rz (roundZ c (s - t)))]) (reads_agg (cs := [hiW (rz (roundZ c (s - t))), loW (rz (roundZ c (s - t)))]) tyWide rfl) rfl rfl rfl rfl ?_
  refine h_q hfl rfl ?_
  refine h_call (ent_of Tryd.func40 (by kernel_rfl) rfl) (fun w hH => made_r _ (roundZ c (s - t)) t) rfl rfl rfl rfl ?_
  refine h_q hfl rfl ?_
  refine h_store 1 (v := Dc (rz (roundZ c (s - t))) (rs (roundZ c (s - t)) t)) (#[hiW (rz (roundZ c (s - t))), loW (rz (roundZ c (s - t))), .int .i64 (rs (roundZ c (s - t)) t)]) tyDec.2 rfl rfl rfl rfl rfl rfl rfl rfl rfl rfl ?_
  refine h_q hfl rfl ?_
  refine h_done (d_ret ?_)
  exact f_fin2 (.cell 1 (v := .agg #[hiW (rz (roundZ c (s - t))), loW (rz (roundZ c (s - t))), .int .i64 (rs (roundZ c (s - t)) t)]) (reads_agg (cs := [hiW (rz (roundZ c (s - t))), loW (rz (roundZ c (s - t))), .int .i64 (rs (roundZ c (s - t)) t)]) tyDec rfl) rfl rfl) (.tmp rfl) (fun w h => ⟨rfl, h.up.below⟩) rfl

theorem negd_bad (w : World) (c s : Int) (hs : ¬ May s) : Calls Tryd.prog 15 #[Dc c s] w fun e w' => e = .returned (.tuple #[Dc 0 0, .int .i64 21]) ∧ Below w.heap.size w w' := by
  refine d_in (args := [Dc c s]) 23 Tryd.func15 rfl rfl rfl ?_
  refine d_reg ?_
  refine h_box (cs := #[hiW c, loW c, .int .i64 s]) rfl rfl rfl rfl ?_; intro g1_1
  refine h_alloc zeDec rfl rfl ?_; intro g2_2
  refine h_q hfl rfl ?_
  refine h_done (d_seq (d_reg ?_))
  refine h_load 1 (v := .agg #[hiW c, loW c, .int .i64 s]) (reads_agg (cs := [hiW c, loW c, .int .i64 s]) tyDec rfl) rfl rfl rfl rfl ?_
  refine h_call (ent_of Tryd.func18 (by kernel_rfl) rfl) (fun w hH => right_no _ c s hs) rfl rfl rfl rfl ?_
  refine h_q hfl rfl ?_
  refine h_done (d_then rfl (d_reg ?_))
  refine h_build (cs := #[.int .i64 0, .int .u64 0, .int .i64 0]) (by kernel_rfl) rfl rfl rfl ?_
  refine h_store 0 (v := .agg #[.int .i64 0, .int .u64 0, .int .i64 0]) (#[.int .i64 0, .int .u64 0, .int .i64 0]) tyDec.2 rfl rfl rfl rfl rfl rfl rfl rfl rfl rfl ?_
  refine h_q hfl rfl ?_
  refine h_done (d_ret (f_then_ret ?_))
  exact f_fin2 (.cell 0 (v := .agg #[.int .i64 0, .int .u64 0, .int .i64 0]) (reads_agg (cs := [.int .i64 0, .int .u64 0, .int .i64 0]) tyDec rfl) rfl rfl) (.tmp rfl) (fun w h => ⟨rfl, h.up.below⟩) rfl

theorem negd_any (w : World) (c s : Int) (hc : Fits c) (hs : May s) : Calls Tryd.prog 15 #[Dc c s] w fun e w' => e = .returned (.tuple #[Dc (rz (-c)) (rs (-c) s), .int .i64 (rE (-c))]) ∧ Below w.heap.size w w' := by
  refine d_in (args := [Dc c s]) 23 Tryd.func15 rfl rfl rfl ?_
  refine d_reg ?_
  refine h_box (cs := #[hiW c, loW c, .int .i64 s]) rfl rfl rfl rfl ?_; intro g1_1
  refine h_alloc zeDec rfl rfl ?_; intro g2_2
  refine h_q hfl rfl ?_
  refine h_done (d_seq (d_reg ?_))
  refine h_load 1 (v := .agg #[hiW c, loW c, .int .i64 s]) (reads_agg (cs := [hiW c, loW c, .int .i64 s]) tyDec rfl) rfl rfl rfl rfl ?_
  refine h_call (ent_of Tryd.func18 (by kernel_rfl) rfl) (fun w hH => right_yes _ c s hs) rfl rfl rfl rfl ?_
  refine h_q hfl rfl ?_
  refine h_done (d_else rfl (d_skip (f_to (d_reg ?_))))
  refine h_q hfl rfl ?_
  refine h_load 1 (v := .agg #[hiW c, loW c]) (reads_agg (cs := [hiW c, loW c, .int .i64 s]) tyWide rfl) rfl rfl rfl rfl ?_
  refine h_call (ent_of Tryd.func32 (by kernel_rfl) rfl) (fun w hH => neg_r _ c hc) rfl rfl rfl rfl ?_
  refine h_q hfl rfl ?_
  refine h_alloc zeWide rfl rfl ?_; intro g4_3
  refine h_store 0 (v := WV (rz (-c))) (#[hiW (rz (-c)), loW (rz (-c))]) tyWide.2 rfl rfl rfl rfl rfl rfl rfl rfl rfl rfl ?_
  refine h_q hfl rfl ?_
  refine h_done (d_reg ?_)
  refine h_load 0 (v := .agg #[hiW (rz (-c)), loW (rz (-c))]) (reads_agg (cs := [hiW (rz (-c)), loW (rz (-c))]) tyWide rfl) rfl rfl rfl rfl ?_
  refine h_q hfl rfl ?_
  refine h_load 2 (v := .int .i64 s) (reads_one tyInt rfl) rfl rfl rfl rfl ?_
  refine h_q hfl rfl ?_
  refine h_call (ent_of Tryd.func40 (by kernel_rfl) rfl) (fun w hH => made_r _ (-c) s) rfl rfl rfl rfl ?_
  refine h_q hfl rfl ?_
  refine h_store 1 (v := Dc (rz (-c)) (rs (-c) s)) (#[hiW (rz (-c)), loW (rz (-c)), .int .i64 (rs (-c) s)]) tyDec.2 rfl rfl rfl rfl rfl rfl rfl rfl rfl rfl ?_
  refine h_q hfl rfl ?_
  refine h_done (d_ret ?_)
  exact f_fin2 (.cell 1 (v := .agg #[hiW (rz (-c)), loW (rz (-c)), .int .i64 (rs (-c) s)]) (reads_agg (cs := [hiW (rz (-c)), loW (rz (-c)), .int .i64 (rs (-c) s)]) tyDec rfl) rfl rfl) (.tmp rfl) (fun w h => ⟨rfl, h.up.below⟩) rfl

theorem muld_bad1 (w : World) (c s d t u : Int) (hs : ¬ May s) : Calls Tryd.prog 23 #[Dc c s, Dc d t, .int .i64 u] w fun e w' => e = .returned (.tuple #[Dc 0 0, .int .i64 21]) ∧ Below w.heap.size w w' := by
  refine d_in (args := [Dc c s, Dc d t, .int .i64 u]) 71 Tryd.func23 rfl rfl rfl ?_
  refine d_reg ?_
  refine h_box (cs := #[hiW c, loW c, .int .i64 s]) rfl rfl rfl rfl ?_; intro g3_1
  refine h_box (cs := #[hiW d, loW d, .int .i64 t]) rfl rfl rfl rfl ?_; intro g4_2
  refine h_alloc zeDec rfl rfl ?_; intro g6_3
  refine h_q hfl rfl ?_
  refine h_done (d_seq (d_reg ?_))
  refine h_load 2 (v := .agg #[hiW c, loW c, .int .i64 s]) (reads_agg (cs := [hiW c, loW c, .int .i64 s]) tyDec rfl) rfl rfl rfl rfl ?_
  refine h_call (ent_of Tryd.func18 (by kernel_rfl) rfl) (fun w hH => right_no _ c s hs) rfl rfl rfl rfl ?_
  refine h_q hfl rfl ?_
  refine h_done (d_then rfl (d_reg ?_))
  refine h_build (cs := #[.int .i64 0, .int .u64 0, .int .i64 0]) (by kernel_rfl) rfl rfl rfl ?_
  refine h_store 0 (v := .agg #[.int .i64 0, .int .u64 0, .int .i64 0]) (#[.int .i64 0, .int .u64 0, .int .i64 0]) tyDec.2 rfl rfl rfl rfl rfl rfl rfl rfl rfl rfl ?_
  refine h_q hfl rfl ?_
  refine h_done (d_ret (f_then_ret ?_))
  exact f_fin2 (.cell 0 (v := .agg #[.int .i64 0, .int .u64 0, .int .i64 0]) (reads_agg (cs := [.int .i64 0, .int .u64 0, .int .i64 0]) tyDec rfl) rfl rfl) (.tmp rfl) (fun w h => ⟨rfl, h.up.below⟩) rfl

theorem muld_bad2 (w : World) (c s d t u : Int) (hs : May s) (ht : ¬ May t) : Calls Tryd.prog 23 #[Dc c s, Dc d t, .int .i64 u] w fun e w' => e = .returned (.tuple #[Dc 0 0, .int .i64 21]) ∧ Below w.heap.size w w' := by
  refine d_in (args := [Dc c s, Dc d t, .int .i64 u]) 71 Tryd.func23 rfl rfl rfl ?_
  refine d_reg ?_
  refine h_box (cs := #[hiW c, loW c, .int .i64 s]) rfl rfl rfl rfl ?_; intro g3_1
  refine h_box (cs := #[hiW d, loW d, .int .i64 t]) rfl rfl rfl rfl ?_; intro g4_2
  refine h_alloc zeDec rfl rfl ?_; intro g6_3
  refine h_q hfl rfl ?_
  refine h_done (d_seq (d_reg ?_))
  refine h_load 2 (v := .agg #[hiW c, loW c, .int .i64 s]) (reads_agg (cs := [hiW c, loW c, .int .i64 s]) tyDec rfl) rfl rfl rfl rfl ?_
  refine h_call (ent_of Tryd.func18 (by kernel_rfl) rfl) (fun w hH => right_yes _ c s hs) rfl rfl rfl rfl ?_
  refine h_q hfl rfl ?_
  refine h_load 1 (v := .agg #[hiW d, loW d, .int .i64 t]) (reads_agg (cs := [hiW d, loW d, .int .i64 t]) tyDec rfl) rfl rfl rfl rfl ?_
  refine h_call (ent_of Tryd.func18 (by kernel_rfl) rfl) (fun w hH => right_no _ d t ht) rfl rfl rfl rfl ?_
  refine h_q hfl rfl ?_
  refine h_done (d_then rfl (d_reg ?_))
  refine h_build (cs := #[.int .i64 0, .int .u64 0, .int .i64 0]) (by kernel_rfl) rfl rfl rfl ?_
  refine h_store 0 (v := .agg #[.int .i64 0, .int .u64 0, .int .i64 0]) (#[.int .i64 0, .int .u64 0, .int .i64 0]) tyDec.2 rfl rfl rfl rfl rfl rfl rfl rfl rfl rfl ?_
  refine h_q hfl rfl ?_
  refine h_done (d_ret (f_then_ret ?_))
  exact f_fin2 (.cell 0 (v := .agg #[.int .i64 0, .int .u64 0, .int .i64 0]) (reads_agg (cs := [.int .i64 0, .int .u64 0, .int .i64 0]) tyDec rfl) rfl rfl) (.tmp rfl) (fun w h => ⟨rfl, h.up.below⟩) rfl

theorem muld_bad3 (w : World) (c s d t u : Int) (hs : May s) (ht : May t) (hu : ¬ May u) : Calls Tryd.prog 23 #[Dc c s, Dc d t, .int .i64 u] w fun e w' => e = .returned (.tuple #[Dc 0 0, .int .i64 21]) ∧ Below w.heap.size w w' := by
  refine d_in (args := [Dc c s, Dc d t, .int .i64 u]) 71 Tryd.func23 rfl rfl rfl ?_
  refine d_reg ?_
  refine h_box (cs := #[hiW c, loW c, .int .i64 s]) rfl rfl rfl rfl ?_; intro g3_1
  refine h_box (cs := #[hiW d, loW d, .int .i64 t]) rfl rfl rfl rfl ?_; intro g4_2
  refine h_alloc zeDec rfl rfl ?_; intro g6_3
  refine h_q hfl rfl ?_
  refine h_done (d_seq (d_reg ?_))
  refine h_load 2 (v := .agg #[hiW c, loW c, .int .i64 s]) (reads_agg (cs := [hiW c, loW c, .int .i64 s]) tyDec rfl) rfl rfl rfl rfl ?_
  refine h_call (ent_of Tryd.func18 (by kernel_rfl) rfl) (fun w hH => right_yes _ c s hs) rfl rfl rfl rfl ?_
  refine h_q hfl rfl ?_
  refine h_load 1 (v := .agg #[hiW d, loW d, .int .i64 t]) (reads_agg (cs := [hiW d, loW d, .int .i64 t]) tyDec rfl) rfl rfl rfl rfl ?_
  refine h_call (ent_of Tryd.func18 (by kernel_rfl) rfl) (fun w hH => right_yes _ d t ht) rfl rfl rfl rfl ?_
  refine h_q hfl rfl ?_
  refine h_call (ent_of Tryd.func44 (by kernel_rfl) rfl) (fun w hH => may_f _ u hu) rfl rfl rfl rfl ?_
  refine h_q hfl rfl ?_
  refine h_done (d_then rfl (d_reg ?_))
  refine h_build (cs := #[.int .i64 0, .int .u64 0, .int .i64 0]) (by kernel_rfl) rfl rfl rfl ?_
  refine h_store 0 (v := .agg #[.int .i64 0, .int .u64 0, .int .i64 0]) (#[.int .i64 0, .int .u64 0, .int .i64 0]) tyDec.2 rfl rfl rfl rfl rfl rfl rfl rfl rfl rfl ?_
  refine h_q hfl rfl ?_
  refine h_done (d_ret (f_then_ret ?_))
  exact f_fin2 (.cell 0 (v := .agg #[.int .i64 0, .int .u64 0, .int .i64 0]) (reads_agg (cs := [.int .i64 0, .int .u64 0, .int .i64 0]) tyDec rfl) rfl rfl) (.tmp rfl) (fun w h => ⟨rfl, h.up.below⟩) rfl

theorem muld_down (w : World) (c s d t u : Int) (hc : Fits c) (hd : Fits d) (hs : May s) (ht : May t) (hu : May u) (h : s + t ≥ u) : Calls Tryd.prog 23 #[Dc c s, Dc d t, .int .i64 u] w fun e w' => e = .returned (.tuple #[Dc (rz (roundZ (c * d) (s + t - u))) (rs (roundZ (c * d) (s + t - u)) u), .int .i64 (rE (roundZ (c * d) (s + t - u)))]) ∧ Below w.heap.size w w' := by
  refine d_in (args := [Dc c s, Dc d t, .int .i64 u]) 71 Tryd.func23 rfl rfl rfl ?_
  refine d_reg ?_
  refine h_box (cs := #[hiW c, loW c, .int .i64 s]) rfl rfl rfl rfl ?_; intro g3_1
  refine h_box (cs := #[hiW d, loW d, .int .i64 t]) rfl rfl rfl rfl ?_; intro g4_2
  refine h_alloc zeDec rfl rfl ?_; intro g6_3
  refine h_q hfl rfl ?_
  refine h_done (d_seq (d_reg ?_))
  refine h_load 2 (v := .agg #[hiW c, loW c, .int .i64 s]) (reads_agg (cs := [hiW c, loW c, .int .i64 s]) tyDec rfl) rfl rfl rfl rfl ?_
  refine h_call (ent_of Tryd.func18 (by kernel_rfl) rfl) (fun w hH => right_yes _ c s hs) rfl rfl rfl rfl ?_
  refine h_q hfl rfl ?_
  refine h_load 1 (v := .agg #[hiW d, loW d, .int .i64 t]) (reads_agg (cs := [hiW d, loW d, .int .i64 t]) tyDec rfl) rfl rfl rfl rfl ?_
  refine h_call (ent_of Tryd.func18 (by kernel_rfl) rfl) (fun w hH => right_yes _ d t ht) rfl rfl rfl rfl ?_
  refine h_q hfl rfl ?_
  refine h_call (ent_of Tryd.func44 (by kernel_rfl) rfl) (fun w hH => may_t _ u hu) rfl rfl rfl rfl ?_
  refine h_q hfl rfl ?_
  refine h_done (d_else rfl (d_skip (f_to (d_reg ?_))))
  refine h_q hfl rfl ?_
  refine h_load 2 (v := .int .i64 s) (reads_one tyInt rfl) rfl rfl rfl rfl ?_
  refine h_q hfl rfl ?_
  refine h_load 1 (v := .int .i64 t) (reads_one tyInt rfl) rfl rfl rfl rfl ?_
  refine h_ar (z' := s + t) (IntWalk.i64_in _ (by omega)) rfl rfl rfl rfl rfl ?_
  refine h_q hfl rfl ?_
  refine h_done (d_seq (d_reg ?_))
  refine h_q hfl rfl ?_
  refine h_cmp (cmp_geq_t (by omega)) rfl rfl rfl rfl ?_
  refine h_done (d_then rfl (d_reg ?_))
  refine h_q hfl rfl ?_
  refine h_load 2 (v := .agg #[hiW c, loW c]) (reads_agg (cs := [hiW c, loW c, .int .i64 s]) tyWide rfl) rfl rfl rfl rfl ?_
  refine h_q hfl rfl ?_
  refine h_load 1 (v := .agg #[hiW d, loW d]) (reads_agg (cs := [hiW d, loW d, .int .i64 t]) tyWide rfl) rfl rfl rfl rfl ?_
  refine h_q hfl rfl ?_
  refine h_ar (z' := (s + t) - u) (IntWalk.i64_in _ (by omega)) rfl rfl rfl rfl rfl ?_
  refine h_call (ent_of Tryd.func47 (by kernel_rfl) rfl) (fun w hH => scaled_r _ c d (s + t - u) hc hd (by omega)) rfl rfl rfl rfl ?_
  refine h_q hfl rfl ?_
  refine h_alloc zeWide rfl rfl ?_; intro g9_4
  refine h_store 0 (v := WV (rz (roundZ (c * d) (s + t - u)))) (#[hiW (rz (roundZ (c * d) (s + t - u))), loW (rz (roundZ (c * d) (s + t - u)))]) tyWide.2 rfl rfl rfl rfl rfl rfl rfl rfl rfl rfl ?_
  refine h_q hfl rfl ?_
  refine h_done (d_reg ?_)
  refine h_load 0 (v := .agg #[hiW (rz (roundZ (c * d) (s + t - u))), loW (rz (roundZ (c * d) (s + t - u)))]) (reads_agg (cs := [hiW (rz (roundZ (c * d) (s + t - u))), loW (rz (roundZ (c * d) (s + t - u)))]) tyWide rfl) rfl rfl rfl rfl ?_
  refine h_q hfl rfl ?_
  refine h_call (ent_of Tryd.func40 (by kernel_rfl) rfl) (fun w hH => made_r _ (roundZ (c * d) (s + t - u)) u) rfl rfl rfl rfl ?_
  refine h_q hfl rfl ?_
  refine h_store 1 (v := Dc (rz (roundZ (c * d) (s + t - u))) (rs (roundZ (c * d) (s + t - u)) u)) (#[hiW (rz (roundZ (c * d) (s + t - u))), loW (rz (roundZ (c * d) (s + t - u))), .int .i64 (rs (roundZ (c * d) (s + t - u)) u)]) tyDec.2 rfl rfl rfl rfl rfl rfl rfl rfl rfl rfl ?_
  refine h_q hfl rfl ?_
  refine h_done ?_
  refine WC2.keep (env' := [(2, .int .i64 u), (3, .pointer (some ⟨g3_1, 0, none⟩)), (4, .pointer (some ⟨g4_2, 0, none⟩)), (6, .pointer (some ⟨g6_3, 0, none⟩)), (8, .int .i64 (s + t)), (7, .int .i64 (rE (roundZ (c * d) (s + t - u))))]) ⟨rfl, rfl, rfl, rfl, rfl, rfl, trivial⟩ ?_
  refine d_ret (f_then_ret ?_)
  exact f_fin2 (.cell 1 (v := .agg #[hiW (rz (roundZ (c * d) (s + t - u))), loW (rz (roundZ (c * d) (s + t - u))), .int .i64 (rs (roundZ (c * d) (s + t - u)) u)]) (reads_agg (cs := [hiW (rz (roundZ (c * d) (s + t - u))), loW (rz (roundZ (c * d) (s + t - u))), .int .i64 (rs (roundZ (c * d) (s + t - u)) u)]) tyDec rfl) rfl rfl) (.tmp rfl) (fun w h => ⟨rfl, h.up.below⟩) rfl

theorem muld_over (w : World) (c s d t u : Int) (hc : Fits c) (hd : Fits d) (hs : May s) (ht : May t) (hu : May u) (h : ¬ s + t ≥ u) (hf : ¬ Fits (c * d)) : Calls Tryd.prog 23 #[Dc c s, Dc d t, .int .i64 u] w fun e w' => e = .returned (.tuple #[Dc 0 0, .int .i64 20]) ∧ Below w.heap.size w w' := by
  refine d_in (args := [Dc c s, Dc d t, .int .i64 u]) 71 Tryd.func23 rfl rfl rfl ?_
  refine d_reg ?_
  refine h_box (cs := #[hiW c, loW c, .int .i64 s]) rfl rfl rfl rfl ?_; intro g3_1
  refine h_box (cs := #[hiW d, loW d, .int .i64 t]) rfl rfl rfl rfl ?_; intro g4_2
  refine h_alloc zeDec rfl rfl ?_; intro g6_3
  refine h_q hfl rfl ?_
  refine h_done (d_seq (d_reg ?_))
  refine h_load 2 (v := .agg #[hiW c, loW c, .int .i64 s]) (reads_agg (cs := [hiW c, loW c, .int .i64 s]) tyDec rfl) rfl rfl rfl rfl ?_
  refine h_call (ent_of Tryd.func18 (by kernel_rfl) rfl) (fun w hH => right_yes _ c s hs) rfl rfl rfl rfl ?_
  refine h_q hfl rfl ?_
  refine h_load 1 (v := .agg #[hiW d, loW d, .int .i64 t]) (reads_agg (cs := [hiW d, loW d, .int .i64 t]) tyDec rfl) rfl rfl rfl rfl ?_
  refine h_call (ent_of Tryd.func18 (by kernel_rfl) rfl) (fun w hH => right_yes _ d t ht) rfl rfl rfl rfl ?_
  refine h_q hfl rfl ?_
  refine h_call (ent_of Tryd.func44 (by kernel_rfl) rfl) (fun w hH => may_t _ u hu) rfl rfl rfl rfl ?_
  refine h_q hfl rfl ?_
  refine h_done (d_else rfl (d_skip (f_to (d_reg ?_))))
  refine h_q hfl rfl ?_
  refine h_load 2 (v := .int .i64 s) (reads_one tyInt rfl) rfl rfl rfl rfl ?_
  refine h_q hfl rfl ?_
  refine h_load 1 (v := .int .i64 t) (reads_one tyInt rfl) rfl rfl rfl rfl ?_
  refine h_ar (z' := s + t) (IntWalk.i64_in _ (by omega)) rfl rfl rfl rfl rfl ?_
  refine h_q hfl rfl ?_
  refine h_done (d_seq (d_reg ?_))
  refine h_q hfl rfl ?_
  refine h_cmp (cmp_geq_f (by omega)) rfl rfl rfl rfl ?_
  refine h_done (d_else rfl (d_skip (f_to (d_reg ?_))))
  refine h_q hfl rfl ?_
  refine h_load 2 (v := .agg #[hiW c, loW c]) (reads_agg (cs := [hiW c, loW c, .int .i64 s]) tyWide rfl) rfl rfl rfl rfl ?_
  refine h_q hfl rfl ?_
  refine h_load 1 (v := .agg #[hiW d, loW d]) (reads_agg (cs := [hiW d, loW d, .int .i64 t]) tyWide rfl) rfl rfl rfl rfl ?_
  refine h_call (ent_of Tryd.func28 (by kernel_rfl) rfl) (fun w hH => mul_r _ c d hc hd) rfl rfl rfl rfl ?_
  refine h_q hfl rfl ?_
  refine h_alloc zeWide rfl rfl ?_; intro g11_4
  refine h_store 0 (v := WV (rz (c * d))) (#[hiW (rz (c * d)), loW (rz (c * d))]) tyWide.2 rfl rfl rfl rfl rfl rfl rfl rfl rfl rfl ?_
  refine h_q hfl rfl ?_
  refine h_done (d_seq (d_reg ?_))
  refine h_q hfl rfl ?_
  refine h_cmp (cmp_neq_t (rE_ne hf)) rfl rfl rfl rfl ?_
  refine h_done (d_then rfl (d_reg ?_))
  refine h_build (cs := #[.int .i64 0, .int .u64 0, .int .i64 0]) (by kernel_rfl) rfl rfl rfl ?_
  refine h_q hfl rfl ?_
  refine h_store 1 (v := .agg #[.int .i64 0, .int .u64 0, .int .i64 0]) (#[.int .i64 0, .int .u64 0, .int .i64 0]) tyDec.2 rfl rfl rfl rfl rfl rfl rfl rfl rfl rfl ?_
  refine h_q hfl rfl ?_
  refine h_done (d_ret (f_then_ret ?_))
  exact f_fin2 (.cell 1 (v := .agg #[.int .i64 0, .int .u64 0, .int .i64 0]) (reads_agg (cs := [.int .i64 0, .int .u64 0, .int .i64 0]) tyDec rfl) rfl rfl) (.tmp rfl) (fun w h => by rw [rE_over hf]; exact ⟨rfl, h.up.below⟩) rfl

theorem muld_up (w : World) (c s d t u : Int) (hc : Fits c) (hd : Fits d) (hs : May s) (ht : May t) (hu : May u) (h : ¬ s + t ≥ u) (hf : Fits (c * d)) : Calls Tryd.prog 23 #[Dc c s, Dc d t, .int .i64 u] w fun e w' => e = .returned (.tuple #[Dc (rz (roundZ (rz (c * d)) (s + t - u))) (rs (roundZ (rz (c * d)) (s + t - u)) u), .int .i64 (rE (roundZ (rz (c * d)) (s + t - u)))]) ∧ Below w.heap.size w w' := by
  refine d_in (args := [Dc c s, Dc d t, .int .i64 u]) 71 Tryd.func23 rfl rfl rfl ?_
  refine d_reg ?_
  refine h_box (cs := #[hiW c, loW c, .int .i64 s]) rfl rfl rfl rfl ?_; intro g3_1
  refine h_box (cs := #[hiW d, loW d, .int .i64 t]) rfl rfl rfl rfl ?_; intro g4_2
  refine h_alloc zeDec rfl rfl ?_; intro g6_3
  refine h_q hfl rfl ?_
  refine h_done (d_seq (d_reg ?_))
  refine h_load 2 (v := .agg #[hiW c, loW c, .int .i64 s]) (reads_agg (cs := [hiW c, loW c, .int .i64 s]) tyDec rfl) rfl rfl rfl rfl ?_
  refine h_call (ent_of Tryd.func18 (by kernel_rfl) rfl) (fun w hH => right_yes _ c s hs) rfl rfl rfl rfl ?_
  refine h_q hfl rfl ?_
  refine h_load 1 (v := .agg #[hiW d, loW d, .int .i64 t]) (reads_agg (cs := [hiW d, loW d, .int .i64 t]) tyDec rfl) rfl rfl rfl rfl ?_
  refine h_call (ent_of Tryd.func18 (by kernel_rfl) rfl) (fun w hH => right_yes _ d t ht) rfl rfl rfl rfl ?_
  refine h_q hfl rfl ?_
  refine h_call (ent_of Tryd.func44 (by kernel_rfl) rfl) (fun w hH => may_t _ u hu) rfl rfl rfl rfl ?_
  refine h_q hfl rfl ?_
  refine h_done (d_else rfl (d_skip (f_to (d_reg ?_))))
  refine h_q hfl rfl ?_
  refine h_load 2 (v := .int .i64 s) (reads_one tyInt rfl) rfl rfl rfl rfl ?_
  refine h_q hfl rfl ?_
  refine h_load 1 (v := .int .i64 t) (reads_one tyInt rfl) rfl rfl rfl rfl ?_
  refine h_ar (z' := s + t) (IntWalk.i64_in _ (by omega)) rfl rfl rfl rfl rfl ?_
  refine h_q hfl rfl ?_
  refine h_done (d_seq (d_reg ?_))
  refine h_q hfl rfl ?_
  refine h_cmp (cmp_geq_f (by omega)) rfl rfl rfl rfl ?_
  refine h_done (d_else rfl (d_skip (f_to (d_reg ?_))))
  refine h_q hfl rfl ?_
  refine h_load 2 (v := .agg #[hiW c, loW c]) (reads_agg (cs := [hiW c, loW c, .int .i64 s]) tyWide rfl) rfl rfl rfl rfl ?_
  refine h_q hfl rfl ?_
  refine h_load 1 (v := .agg #[hiW d, loW d]) (reads_agg (cs := [hiW d, loW d, .int .i64 t]) tyWide rfl) rfl rfl rfl rfl ?_
  refine h_call (ent_of Tryd.func28 (by kernel_rfl) rfl) (fun w hH => mul_r _ c d hc hd) rfl rfl rfl rfl ?_
  refine h_q hfl rfl ?_
  refine h_alloc zeWide rfl rfl ?_; intro g11_4
  refine h_store 0 (v := WV (rz (c * d))) (#[hiW (rz (c * d)), loW (rz (c * d))]) tyWide.2 rfl rfl rfl rfl rfl rfl rfl rfl rfl rfl ?_
  refine h_q hfl rfl ?_
  refine h_done (d_seq (d_reg ?_))
  refine h_q hfl rfl ?_
  refine h_cmp (cmp_neq_f (rE_fit hf)) rfl rfl rfl rfl ?_
  refine h_done (d_else rfl (d_skip (f_to (d_reg ?_))))
  refine h_load 0 (v := .agg #[hiW (rz (c * d)), loW (rz (c * d))]) (reads_agg (cs := [hiW (rz (c * d)), loW (rz (c * d))]) tyWide rfl) rfl rfl rfl rfl ?_
  refine h_q hfl rfl ?_
  refine h_build (cs := #[hiW (rz (c * d)), loW (rz (c * d)), .int .i64 (s + t)]) (by kernel_rfl) rfl rfl rfl ?_
  refine h_q hfl rfl ?_
  refine h_call (ent_of Tryd.func25 (by kernel_rfl) rfl) (fun w hH => resc_any _ _ _ u (rz_fits _) (by omega) hu) rfl rfl rfl rfl ?_
  refine h_q hfl rfl ?_
  refine h_store 1 (v := Dc (rz (roundZ (rz (c * d)) (s + t - u))) (rs (roundZ (rz (c * d)) (s + t - u)) u)) (#[hiW (rz (roundZ (rz (c * d)) (s + t - u))), loW (rz (roundZ (rz (c * d)) (s + t - u))), .int .i64 (rs (roundZ (rz (c * d)) (s + t - u)) u)]) tyDec.2 rfl rfl rfl rfl rfl rfl rfl rfl rfl rfl ?_
  refine h_q hfl rfl ?_
  refine h_done ?_
  refine WC2.keep (env' := [(6, .pointer (some ⟨g6_3, 0, none⟩)), (7, .int .i64 (rE (roundZ (rz (c * d)) (s + t - u))))]) ⟨rfl, rfl, trivial⟩ ?_
  refine d_ret ?_
  exact f_fin2 (.cell 1 (v := .agg #[hiW (rz (roundZ (rz (c * d)) (s + t - u))), loW (rz (roundZ (rz (c * d)) (s + t - u))), .int .i64 (rs (roundZ (rz (c * d)) (s + t - u)) u)]) (reads_agg (cs := [hiW (rz (roundZ (rz (c * d)) (s + t - u))), loW (rz (roundZ (rz (c * d)) (s + t - u))), .int .i64 (rs (roundZ (rz (c * d)) (s + t - u)) u)]) tyDec rfl) rfl rfl) (.tmp rfl) (fun w h => ⟨rfl, h.up.below⟩) rfl

theorem grow_over {z : Int} {j : Nat} (h : ¬ Fits z) : ¬ Fits (z * ((10 ^ j : Nat) : Int)) := by
  have hp := ten_pos j
  intro hf
  apply h
  obtain ⟨p, hpe⟩ : ∃ p, p = ((10 ^ j : Nat) : Int) := ⟨_, rfl⟩
  rw [← hpe] at hp hf
  unfold Fits at hf ⊢
  rcases Int.le_total 0 z with hz | hz
  · have : z * 1 ≤ z * p := Int.mul_le_mul_of_nonneg_left (by omega) hz
    omega
  · have : z * p ≤ z * 1 := Int.mul_le_mul_of_nonpos_left hz (by omega)
    omega
theorem muld_any (w : World) (c s d t u : Int) (hc : Fits c) (hd : Fits d) (hs : May s) (ht : May t) (hu : May u) : Calls Tryd.prog 23 #[Dc c s, Dc d t, .int .i64 u] w fun e w' => e = .returned (.tuple #[Dc (rz (roundZ (c * d) (s + t - u))) (rs (roundZ (c * d) (s + t - u)) u), .int .i64 (rE (roundZ (c * d) (s + t - u)))]) ∧ Below w.heap.size w w' := by
  by_cases h : s + t ≥ u
  · exact muld_down w c s d t u hc hd hs ht hu h
  · by_cases hf : Fits (c * d)
    · have := muld_up w c s d t u hc hd hs ht hu h hf
      rwa [rz_fit hf] at this
    · have h' : s + t - u = -((u - (s + t)).toNat : Int) := by omega
      rw [round_up_eq _ _ _ h']
      have hg := grow_over (j := (u - (s + t)).toNat) hf
      rw [rz_over hg, rE_over hg, show rs (c * d * ((10 ^ (u - (s + t)).toNat : Nat) : Int)) u = 0 from if_neg hg]
      exact muld_over w c s d t u hc hd hs ht hu h hf
theorem add_le_over1 (w : World) (c s d t : Int) (hc : Fits c) (hd : Fits d) (hs : May s) (ht : May t) (hm : s ≤ t) (h1 : ¬ Fits (roundZ c (s - t))) : Calls Tryd.prog 34 #[Dc c s, Dc d t, .func (.func 30) #[] #[]] w fun e w' => e = .returned (.tuple #[Dc 0 0, .int .i64 20]) ∧ Below w.heap.size w w' := by
  refine d_in (args := [Dc c s, Dc d t, .func (.func 30) #[] #[]]) 60 Tryd.func34 rfl rfl rfl ?_
  refine d_reg ?_
  refine h_box (cs := #[hiW c, loW c, .int .i64 s]) rfl rfl rfl rfl ?_; intro g3_1
  refine h_box (cs := #[hiW d, loW d, .int .i64 t]) rfl rfl rfl rfl ?_; intro g4_2
  refine h_alloc zeDec rfl rfl ?_; intro g6_3
  refine h_q hfl rfl ?_
  refine h_done (d_seq (d_reg ?_))
  refine h_load 2 (v := .agg #[hiW c, loW c, .int .i64 s]) (reads_agg (cs := [hiW c, loW c, .int .i64 s]) tyDec rfl) rfl rfl rfl rfl ?_
  refine h_call (ent_of Tryd.func18 (by kernel_rfl) rfl) (fun w hH => right_yes _ c s hs) rfl rfl rfl rfl ?_
  refine h_q hfl rfl ?_
  refine h_load 1 (v := .agg #[hiW d, loW d, .int .i64 t]) (reads_agg (cs := [hiW d, loW d, .int .i64 t]) tyDec rfl) rfl rfl rfl rfl ?_
  refine h_call (ent_of Tryd.func18 (by kernel_rfl) rfl) (fun w hH => right_yes _ d t ht) rfl rfl rfl rfl ?_
  refine h_q hfl rfl ?_
  refine h_done (d_else rfl (d_skip (f_to (d_reg ?_))))
  refine h_q hfl rfl ?_
  refine h_load 2 (v := .int .i64 s) (reads_one tyInt rfl) rfl rfl rfl rfl ?_
  refine h_q hfl rfl ?_
  refine h_load 1 (v := .int .i64 t) (reads_one tyInt rfl) rfl rfl rfl rfl ?_
  refine h_builtin (v := .int .i64 t) (fun w cs => run_max2 (by first | rfl | decide | (split <;> omega)) _ _ w cs) rfl rfl rfl ?_
  refine h_q hfl rfl ?_
  refine h_done (d_reg ?_)
  refine h_load 2 (v := .agg #[hiW c, loW c, .int .i64 s]) (reads_agg (cs := [hiW c, loW c, .int .i64 s]) tyDec rfl) rfl rfl rfl rfl ?_
  refine h_q hfl rfl ?_
  refine h_call (ent_of Tryd.func50 (by kernel_rfl) rfl) (fun w hH => at_half _ c s t hc hs ht) rfl rfl rfl rfl ?_
  refine h_q hfl rfl ?_
  refine h_alloc zeWide rfl rfl ?_; intro g9_4
  refine h_store 0 (v := WV (rz (roundZ c (s - t)))) (#[hiW (rz (roundZ c (s - t))), loW (rz (roundZ c (s - t)))]) tyWide.2 rfl rfl rfl rfl rfl rfl rfl rfl rfl rfl ?_
  refine h_q hfl rfl ?_
  refine h_done (d_seq (d_reg ?_))
  refine h_q hfl rfl ?_
  refine h_cmp (cmp_neq_t (rE_ne h1)) rfl rfl rfl rfl ?_
  refine h_done (d_then rfl (d_reg ?_))
  refine h_build (cs := #[.int .i64 0, .int .u64 0, .int .i64 0]) (by kernel_rfl) rfl rfl rfl ?_
  refine h_q hfl rfl ?_
  refine h_store 1 (v := .agg #[.int .i64 0, .int .u64 0, .int .i64 0]) (#[.int .i64 0, .int .u64 0, .int .i64 0]) tyDec.2 rfl rfl rfl rfl rfl rfl rfl rfl rfl rfl ?_
  refine h_q hfl rfl ?_
  refine h_done (d_ret (f_then_ret ?_))
  exact f_fin2 (.cell 1 (v := .agg #[.int .i64 0, .int .u64 0, .int .i64 0]) (reads_agg (cs := [.int .i64 0, .int .u64 0, .int .i64 0]) tyDec rfl) rfl rfl) (.tmp rfl) (fun w h => by rw [rE_over h1]; exact ⟨rfl, h.up.below⟩) rfl

theorem add_le_over2 (w : World) (c s d t : Int) (hc : Fits c) (hd : Fits d) (hs : May s) (ht : May t) (hm : s ≤ t) (h1 : Fits (roundZ c (s - t))) (h2 : ¬ Fits (roundZ d (t - t))) : Calls Tryd.prog 34 #[Dc c s, Dc d t, .func (.func 30) #[] #[]] w fun e w' => e = .returned (.tuple #[Dc 0 0, .int .i64 20]) ∧ Below w.heap.size w w' := by
  refine d_in (args := [Dc c s, Dc d t, .func (.func 30) #[] #[]]) 60 Tryd.func34 rfl rfl rfl ?_
  refine d_reg ?_
  refine h_box (cs := #[hiW c, loW c, .int .i64 s]) rfl rfl rfl rfl ?_; intro g3_1
  refine h_box (cs := #[hiW d, loW d, .int .i64 t]) rfl rfl rfl rfl ?_; intro g4_2
  refine h_alloc zeDec rfl rfl ?_; intro g6_3
  refine h_q hfl rfl ?_
  refine h_done (d_seq (d_reg ?_))
  refine h_load 2 (v := .agg #[hiW c, loW c, .int .i64 s]) (reads_agg (cs := [hiW c, loW c, .int .i64 s]) tyDec rfl) rfl rfl rfl rfl ?_
  refine h_call (ent_of Tryd.func18 (by kernel_rfl) rfl) (fun w hH => right_yes _ c s hs) rfl rfl rfl rfl ?_
  refine h_q hfl rfl ?_
  refine h_load 1 (v := .agg #[hiW d, loW d, .int .i64 t]) (reads_agg (cs := [hiW d, loW d, .int .i64 t]) tyDec rfl) rfl rfl rfl rfl ?_
  refine h_call (ent_of Tryd.func18 (by kernel_rfl) rfl) (fun w hH => right_yes _ d t ht) rfl rfl rfl rfl ?_
  refine h_q hfl rfl ?_
  refine h_done (d_else rfl (d_skip (f_to (d_reg ?_))))
  refine h_q hfl rfl ?_
  refine h_load 2 (v := .int .i64 s) (reads_one tyInt rfl) rfl rfl rfl rfl ?_
  refine h_q hfl rfl ?_
  refine h_load 1 (v := .int .i64 t) (reads_one tyInt rfl) rfl rfl rfl rfl ?_
  refine h_builtin (v := .int .i64 t) (fun w cs => run_max2 (by first | rfl | decide | (split <;> omega)) _ _ w cs) rfl rfl rfl ?_
  refine h_q hfl rfl ?_
  refine h_done (d_reg ?_)
  refine h_load 2 (v := .agg #[hiW c, loW c, .int .i64 s]) (reads_agg (cs := [hiW c, loW c, .int .i64 s]) tyDec rfl) rfl rfl rfl rfl ?_
  refine h_q hfl rfl ?_
  refine h_call (ent_of Tryd.func50 (by kernel_rfl) rfl) (fun w hH => at_half _ c s t hc hs ht) rfl rfl rfl rfl ?_
  refine h_q hfl rfl ?_
  refine h_alloc zeWide rfl rfl ?_; intro g9_4
  refine h_store 0 (v := WV (rz (roundZ c (s - t)))) (#[hiW (rz (roundZ c (s - t))), loW (rz (roundZ c (s - t)))]) tyWide.2 rfl rfl rfl rfl rfl rfl rfl rfl rfl rfl ?_
  refine h_q hfl rfl ?_
  refine h_done (d_seq (d_reg ?_))
  refine h_q hfl rfl ?_
  refine h_cmp (cmp_neq_f (rE_fit h1)) rfl rfl rfl rfl ?_
  refine h_done (d_else rfl (d_skip (f_to (d_reg ?_))))
  refine h_load 2 (v := .agg #[hiW d, loW d, .int .i64 t]) (reads_agg (cs := [hiW d, loW d, .int .i64 t]) tyDec rfl) rfl rfl rfl rfl ?_
  refine h_q hfl rfl ?_
  refine h_call (ent_of Tryd.func50 (by kernel_rfl) rfl) (fun w hH => at_half _ d t t hd ht ht) rfl rfl rfl rfl ?_
  refine h_q hfl rfl ?_
  refine h_alloc zeWide rfl rfl ?_; intro g11_5
  refine h_store 0 (v := WV (rz (roundZ d (t - t)))) (#[hiW (rz (roundZ d (t - t))), loW (rz (roundZ d (t - t)))]) tyWide.2 rfl rfl rfl rfl rfl rfl rfl rfl rfl rfl ?_
  refine h_q hfl rfl ?_
  refine h_done (d_seq (d_reg ?_))
  refine h_q hfl rfl ?_
  refine h_cmp (cmp_neq_t (rE_ne h2)) rfl rfl rfl rfl ?_
  refine h_done (d_then rfl (d_reg ?_))
  refine h_build (cs := #[.int .i64 0, .int .u64 0, .int .i64 0]) (by kernel_rfl) rfl rfl rfl ?_
  refine h_q hfl rfl ?_
  refine h_store 2 (v := .agg #[.int .i64 0, .int .u64 0, .int .i64 0]) (#[.int .i64 0, .int .u64 0, .int .i64 0]) tyDec.2 rfl rfl rfl rfl rfl rfl rfl rfl rfl rfl ?_
  refine h_q hfl rfl ?_
  refine h_done (d_ret (f_then_ret ?_))
  exact f_fin2 (.cell 2 (v := .agg #[.int .i64 0, .int .u64 0, .int .i64 0]) (reads_agg (cs := [.int .i64 0, .int .u64 0, .int .i64 0]) tyDec rfl) rfl rfl) (.tmp rfl) (fun w h => by rw [rE_over h2]; exact ⟨rfl, h.up.below⟩) rfl

theorem add_le_ok (w : World) (c s d t : Int) (hc : Fits c) (hd : Fits d) (hs : May s) (ht : May t) (hm : s ≤ t) (h1 : Fits (roundZ c (s - t))) (h2 : Fits (roundZ d (t - t))) : Calls Tryd.prog 34 #[Dc c s, Dc d t, .func (.func 30) #[] #[]] w fun e w' => e = .returned (.tuple #[Dc (rz (rz (roundZ c (s - t)) + rz (roundZ d (t - t)))) (rs (rz (roundZ c (s - t)) + rz (roundZ d (t - t))) t), .int .i64 (rE (rz (roundZ c (s - t)) + rz (roundZ d (t - t))))]) ∧ Below w.heap.size w w' := by
  refine d_in (args := [Dc c s, Dc d t, .func (.func 30) #[] #[]]) 60 Tryd.func34 rfl rfl rfl ?_
  refine d_reg ?_
  refine h_box (cs := #[hiW c, loW c, .int .i64 s]) rfl rfl rfl rfl ?_; intro g3_1
  refine h_box (cs := #[hiW d, loW d, .int .i64 t]) rfl rfl rfl rfl ?_; intro g4_2
  refine h_alloc zeDec rfl rfl ?_; intro g6_3
  refine h_q hfl rfl ?_
  refine h_done (d_seq (d_reg ?_))
  refine h_load 2 (v := .agg #[hiW c, loW c, .int .i64 s]) (reads_agg (cs := [hiW c, loW c, .int .i64 s]) tyDec rfl) rfl rfl rfl rfl ?_
  refine h_call (ent_of Tryd.func18 (by kernel_rfl) rfl) (fun w hH => right_yes _ c s hs) rfl rfl rfl rfl ?_
  refine h_q hfl rfl ?_
  refine h_load 1 (v := .agg #[hiW d, loW d, .int .i64 t]) (reads_agg (cs := [hiW d, loW d, .int .i64 t]) tyDec rfl) rfl rfl rfl rfl ?_
  refine h_call (ent_of Tryd.func18 (by kernel_rfl) rfl) (fun w hH => right_yes _ d t ht) rfl rfl rfl rfl ?_
  refine h_q hfl rfl ?_
  refine h_done (d_else rfl (d_skip (f_to (d_reg ?_))))
  refine h_q hfl rfl ?_
  refine h_load 2 (v := .int .i64 s) (reads_one tyInt rfl) rfl rfl rfl rfl ?_
  refine h_q hfl rfl ?_
  refine h_load 1 (v := .int .i64 t) (reads_one tyInt rfl) rfl rfl rfl rfl ?_
  refine h_builtin (v := .int .i64 t) (fun w cs => run_max2 (by first | rfl | decide | (split <;> omega)) _ _ w cs) rfl rfl rfl ?_
  refine h_q hfl rfl ?_
  refine h_done (d_reg ?_)
  refine h_load 2 (v := .agg #[hiW c, loW c, .int .i64 s]) (reads_agg (cs := [hiW c, loW c, .int .i64 s]) tyDec rfl) rfl rfl rfl rfl ?_
  refine h_q hfl rfl ?_
  refine h_call (ent_of Tryd.func50 (by kernel_rfl) rfl) (fun w hH => at_half _ c s t hc hs ht) rfl rfl rfl rfl ?_
  refine h_q hfl rfl ?_
  refine h_alloc zeWide rfl rfl ?_; intro g9_4
  refine h_store 0 (v := WV (rz (roundZ c (s - t)))) (#[hiW (rz (roundZ c (s - t))), loW (rz (roundZ c (s - t)))]) tyWide.2 rfl rfl rfl rfl rfl rfl rfl rfl rfl rfl ?_
  refine h_q hfl rfl ?_
  refine h_done (d_seq (d_reg ?_))
  refine h_q hfl rfl ?_
  refine h_cmp (cmp_neq_f (rE_fit h1)) rfl rfl rfl rfl ?_
  refine h_done (d_else rfl (d_skip (f_to (d_reg ?_))))
  refine h_load 2 (v := .agg #[hiW d, loW d, .int .i64 t]) (reads_agg (cs := [hiW d, loW d, .int .i64 t]) tyDec rfl) rfl rfl rfl rfl ?_
  refine h_q hfl rfl ?_
  refine h_call (ent_of Tryd.func50 (by kernel_rfl) rfl) (fun w hH => at_half _ d t t hd ht ht) rfl rfl rfl rfl ?_
  refine h_q hfl rfl ?_
  refine h_alloc zeWide rfl rfl ?_; intro g11_5
  refine h_store 0 (v := WV (rz (roundZ d (t - t)))) (#[hiW (rz (roundZ d (t - t))), loW (rz (roundZ d (t - t)))]) tyWide.2 rfl rfl rfl rfl rfl rfl rfl rfl rfl rfl ?_
  refine h_q hfl rfl ?_
  refine h_done (d_seq (d_reg ?_))
  refine h_q hfl rfl ?_
  refine h_cmp (cmp_neq_f (rE_fit h2)) rfl rfl rfl rfl ?_
  refine h_done (d_else rfl (d_skip (f_to (d_reg ?_))))
  refine h_q hfl rfl ?_
  refine h_load 1 (v := .agg #[hiW (rz (roundZ c (s - t))), loW (rz (roundZ c (s - t)))]) (reads_agg (cs := [hiW (rz (roundZ c (s - t))), loW (rz (roundZ c (s - t)))]) tyWide rfl) rfl rfl rfl rfl ?_
  refine h_load 0 (v := .agg #[hiW (rz (roundZ d (t - t))), loW (rz (roundZ d (t - t)))]) (reads_agg (cs := [hiW (rz (roundZ d (t - t))), loW (rz (roundZ d (t - t)))]) tyWide rfl) rfl rfl rfl rfl ?_
  refine h_call (ent_of Tryd.func30 (by kernel_rfl) rfl) (fun w hH => add_r _ _ _ (rz_fits _) (rz_fits _)) rfl rfl rfl rfl ?_
  refine h_q hfl rfl ?_
  refine h_alloc zeWide rfl rfl ?_; intro g12_6
  refine h_store 0 (v := WV (rz (rz (roundZ c (s - t)) + rz (roundZ d (t - t))))) (#[hiW (rz (rz (roundZ c (s - t)) + rz (roundZ d (t - t)))), loW (rz (rz (roundZ c (s - t)) + rz (roundZ d (t - t))))]) tyWide.2 rfl rfl rfl rfl rfl rfl rfl rfl rfl rfl ?_
  refine h_q hfl rfl ?_
  refine h_done ?_
  refine WC2.keep (env' := [(6, .pointer (some ⟨g6_3, 0, none⟩)), (7, .int .i64 0), (8, .int .i64 t), (12, .pointer (some ⟨g12_6, 0, none⟩)), (10, .int .i64 (rE (rz (roundZ c (s - t)) + rz (roundZ d (t - t)))))]) ⟨rfl, rfl, rfl, rfl, rfl, trivial⟩ ?_
  refine d_reg ?_
  refine h_load 0 (v := .agg #[hiW (rz (rz (roundZ c (s - t)) + rz (roundZ d (t - t)))), loW (rz (rz (roundZ c (s - t)) + rz (roundZ d (t - t))))]) (reads_agg (cs := [hiW (rz (rz (roundZ c (s - t)) + rz (roundZ d (t - t)))), loW (rz (rz (roundZ c (s - t)) + rz (roundZ d (t - t))))]) tyWide rfl) rfl rfl rfl rfl ?_
  refine h_q hfl rfl ?_
  refine h_call (ent_of Tryd.func40 (by kernel_rfl) rfl) (fun w hH => made_r _ (rz (roundZ c (s - t)) + rz (roundZ d (t - t))) t) rfl rfl rfl rfl ?_
  refine h_q hfl rfl ?_
  refine h_store 3 (v := Dc (rz (rz (roundZ c (s - t)) + rz (roundZ d (t - t)))) (rs (rz (roundZ c (s - t)) + rz (roundZ d (t - t))) t)) (#[hiW (rz (rz (roundZ c (s - t)) + rz (roundZ d (t - t)))), loW (rz (rz (roundZ c (s - t)) + rz (roundZ d (t - t)))), .int .i64 (rs (rz (roundZ c (s - t)) + rz (roundZ d (t - t))) t)]) tyDec.2 rfl rfl rfl rfl rfl rfl rfl rfl rfl rfl ?_
  refine h_q hfl rfl ?_
  refine h_done (d_ret ?_)
  exact f_fin2 (.cell 3 (v := .agg #[hiW (rz (rz (roundZ c (s - t)) + rz (roundZ d (t - t)))), loW (rz (rz (roundZ c (s - t)) + rz (roundZ d (t - t)))), .int .i64 (rs (rz (roundZ c (s - t)) + rz (roundZ d (t - t))) t)]) (reads_agg (cs := [hiW (rz (rz (roundZ c (s - t)) + rz (roundZ d (t - t)))), loW (rz (rz (roundZ c (s - t)) + rz (roundZ d (t - t)))), .int .i64 (rs (rz (roundZ c (s - t)) + rz (roundZ d (t - t))) t)]) tyDec rfl) rfl rfl) (.tmp rfl) (fun w h => ⟨rfl, h.up.below⟩) rfl

theorem add_gt_over1 (w : World) (c s d t : Int) (hc : Fits c) (hd : Fits d) (hs : May s) (ht : May t) (hm : t < s) (h1 : ¬ Fits (roundZ c (s - s))) : Calls Tryd.prog 34 #[Dc c s, Dc d t, .func (.func 30) #[] #[]] w fun e w' => e = .returned (.tuple #[Dc 0 0, .int .i64 20]) ∧ Below w.heap.size w w' := by
  refine d_in (args := [Dc c s, Dc d t, .func (.func 30) #[] #[]]) 60 Tryd.func34 rfl rfl rfl ?_
  refine d_reg ?_
  refine h_box (cs := #[hiW c, loW c, .int .i64 s]) rfl rfl rfl rfl ?_; intro g3_1
  refine h_box (cs := #[hiW d, loW d, .int .i64 t]) rfl rfl rfl rfl ?_; intro g4_2
  refine h_alloc zeDec rfl rfl ?_; intro g6_3
  refine h_q hfl rfl ?_
  refine h_done (d_seq (d_reg ?_))
  refine h_load 2 (v := .agg #[hiW c, loW c, .int .i64 s]) (reads_agg (cs := [hiW c, loW c, .int .i64 s]) tyDec rfl) rfl rfl rfl rfl ?_
  refine h_call (ent_of Tryd.func18 (by kernel_rfl) rfl) (fun w hH => right_yes _ c s hs) rfl rfl rfl rfl ?_
  refine h_q hfl rfl ?_
  refine h_load 1 (v := .agg #[hiW d, loW d, .int .i64 t]) (reads_agg (cs := [hiW d, loW d, .int .i64 t]) tyDec rfl) rfl rfl rfl rfl ?_
  refine h_call (ent_of Tryd.func18 (by kernel_rfl) rfl) (fun w hH => right_yes _ d t ht) rfl rfl rfl rfl ?_
  refine h_q hfl rfl ?_
  refine h_done (d_else rfl (d_skip (f_to (d_reg ?_))))
  refine h_q hfl rfl ?_
  refine h_load 2 (v := .int .i64 s) (reads_one tyInt rfl) rfl rfl rfl rfl ?_
  refine h_q hfl rfl ?_
  refine h_load 1 (v := .int .i64 t) (reads_one tyInt rfl) rfl rfl rfl rfl ?_
  refine h_builtin (v := .int .i64 s) (fun w cs => run_max2 (by first | rfl | decide | (split <;> omega)) _ _ w cs) rfl rfl rfl ?_
  refine h_q hfl rfl ?_
  refine h_done (d_reg ?_)
  refine h_load 2 (v := .agg #[hiW c, loW c, .int .i64 s]) (reads_agg (cs := [hiW c, loW c, .int .i64 s]) tyDec rfl) rfl rfl rfl rfl ?_
  refine h_q hfl rfl ?_
  refine h_call (ent_of Tryd.func50 (by kernel_rfl) rfl) (fun w hH => at_half _ c s s hc hs hs) rfl rfl rfl rfl ?_
  refine h_q hfl rfl ?_
  refine h_alloc zeWide rfl rfl ?_; intro g9_4
  refine h_store 0 (v := WV (rz (roundZ c (s - s)))) (#[hiW (rz (roundZ c (s - s))), loW (rz (roundZ c (s - s)))]) tyWide.2 rfl rfl rfl rfl rfl rfl rfl rfl rfl rfl ?_
  refine h_q hfl rfl ?_
  refine h_done (d_seq (d_reg ?_))
  refine h_q hfl rfl ?_
  refine h_cmp (cmp_neq_t (rE_ne h1)) rfl rfl rfl rfl ?_
  refine h_done (d_then rfl (d_reg ?_))
  refine h_build (cs := #[.int .i64 0, .int .u64 0, .int .i64 0]) (by kernel_rfl) rfl rfl rfl ?_
  refine h_q hfl rfl ?_
  refine h_store 1 (v := .agg #[.int .i64 0, .int .u64 0, .int .i64 0]) (#[.int .i64 0, .int .u64 0, .int .i64 0]) tyDec.2 rfl rfl rfl rfl rfl rfl rfl rfl rfl rfl ?_
  refine h_q hfl rfl ?_
  refine h_done (d_ret (f_then_ret ?_))
  exact f_fin2 (.cell 1 (v := .agg #[.int .i64 0, .int .u64 0, .int .i64 0]) (reads_agg (cs := [.int .i64 0, .int .u64 0, .int .i64 0]) tyDec rfl) rfl rfl) (.tmp rfl) (fun w h => by rw [rE_over h1]; exact ⟨rfl, h.up.below⟩) rfl

theorem add_gt_over2 (w : World) (c s d t : Int) (hc : Fits c) (hd : Fits d) (hs : May s) (ht : May t) (hm : t < s) (h1 : Fits (roundZ c (s - s))) (h2 : ¬ Fits (roundZ d (t - s))) : Calls Tryd.prog 34 #[Dc c s, Dc d t, .func (.func 30) #[] #[]] w fun e w' => e = .returned (.tuple #[Dc 0 0, .int .i64 20]) ∧ Below w.heap.size w w' := by
  refine d_in (args := [Dc c s, Dc d t, .func (.func 30) #[] #[]]) 60 Tryd.func34 rfl rfl rfl ?_
  refine d_reg ?_
  refine h_box (cs := #[hiW c, loW c, .int .i64 s]) rfl rfl rfl rfl ?_; intro g3_1
  refine h_box (cs := #[hiW d, loW d, .int .i64 t]) rfl rfl rfl rfl ?_; intro g4_2
  refine h_alloc zeDec rfl rfl ?_; intro g6_3
  refine h_q hfl rfl ?_
  refine h_done (d_seq (d_reg ?_))
  refine h_load 2 (v := .agg #[hiW c, loW c, .int .i64 s]) (reads_agg (cs := [hiW c, loW c, .int .i64 s]) tyDec rfl) rfl rfl rfl rfl ?_
  refine h_call (ent_of Tryd.func18 (by kernel_rfl) rfl) (fun w hH => right_yes _ c s hs) rfl rfl rfl rfl ?_
  refine h_q hfl rfl ?_
  refine h_load 1 (v := .agg #[hiW d, loW d, .int .i64 t]) (reads_agg (cs := [hiW d, loW d, .int .i64 t]) tyDec rfl) rfl rfl rfl rfl ?_
  refine h_call (ent_of Tryd.func18 (by kernel_rfl) rfl) (fun w hH => right_yes _ d t ht) rfl rfl rfl rfl ?_
  refine h_q hfl rfl ?_
  refine h_done (d_else rfl (d_skip (f_to (d_reg ?_))))
  refine h_q hfl rfl ?_
  refine h_load 2 (v := .int .i64 s) (reads_one tyInt rfl) rfl rfl rfl rfl ?_
  refine h_q hfl rfl ?_
  refine h_load 1 (v := .int .i64 t) (reads_one tyInt rfl) rfl rfl rfl rfl ?_
  refine h_builtin (v := .int .i64 s) (fun w cs => run_max2 (by first | rfl | decide | (split <;> omega)) _ _ w cs) rfl rfl rfl ?_
  refine h_q hfl rfl ?_
  refine h_done (d_reg ?_)
  refine h_load 2 (v := .agg #[hiW c, loW c, .int .i64 s]) (reads_agg (cs := [hiW c, loW c, .int .i64 s]) tyDec rfl) rfl rfl rfl rfl ?_
  refine h_q hfl rfl ?_
  refine h_call (ent_of Tryd.func50 (by kernel_rfl) rfl) (fun w hH => at_half _ c s s hc hs hs) rfl rfl rfl rfl ?_
  refine h_q hfl rfl ?_
  refine h_alloc zeWide rfl rfl ?_; intro g9_4
  refine h_store 0 (v := WV (rz (roundZ c (s - s)))) (#[hiW (rz (roundZ c (s - s))), loW (rz (roundZ c (s - s)))]) tyWide.2 rfl rfl rfl rfl rfl rfl rfl rfl rfl rfl ?_
  refine h_q hfl rfl ?_
  refine h_done (d_seq (d_reg ?_))
  refine h_q hfl rfl ?_
  refine h_cmp (cmp_neq_f (rE_fit h1)) rfl rfl rfl rfl ?_
  refine h_done (d_else rfl (d_skip (f_to (d_reg ?_))))
  refine h_load 2 (v := .agg #[hiW d, loW d, .int .i64 t]) (reads_agg (cs := [hiW d, loW d, .int .i64 t]) tyDec rfl) rfl rfl rfl rfl ?_
  refine h_q hfl rfl ?_
  refine h_call (ent_of Tryd.func50 (by kernel_rfl) rfl) (fun w hH => at_half _ d t s hd ht hs) rfl rfl rfl rfl ?_
  refine h_q hfl rfl ?_
  refine h_alloc zeWide rfl rfl ?_; intro g11_5
  refine h_store 0 (v := WV (rz (roundZ d (t - s)))) (#[hiW (rz (roundZ d (t - s))), loW (rz (roundZ d (t - s)))]) tyWide.2 rfl rfl rfl rfl rfl rfl rfl rfl rfl rfl ?_
  refine h_q hfl rfl ?_
  refine h_done (d_seq (d_reg ?_))
  refine h_q hfl rfl ?_
  refine h_cmp (cmp_neq_t (rE_ne h2)) rfl rfl rfl rfl ?_
  refine h_done (d_then rfl (d_reg ?_))
  refine h_build (cs := #[.int .i64 0, .int .u64 0, .int .i64 0]) (by kernel_rfl) rfl rfl rfl ?_
  refine h_q hfl rfl ?_
  refine h_store 2 (v := .agg #[.int .i64 0, .int .u64 0, .int .i64 0]) (#[.int .i64 0, .int .u64 0, .int .i64 0]) tyDec.2 rfl rfl rfl rfl rfl rfl rfl rfl rfl rfl ?_
  refine h_q hfl rfl ?_
  refine h_done (d_ret (f_then_ret ?_))
  exact f_fin2 (.cell 2 (v := .agg #[.int .i64 0, .int .u64 0, .int .i64 0]) (reads_agg (cs := [.int .i64 0, .int .u64 0, .int .i64 0]) tyDec rfl) rfl rfl) (.tmp rfl) (fun w h => by rw [rE_over h2]; exact ⟨rfl, h.up.below⟩) rfl

theorem add_gt_ok (w : World) (c s d t : Int) (hc : Fits c) (hd : Fits d) (hs : May s) (ht : May t) (hm : t < s) (h1 : Fits (roundZ c (s - s))) (h2 : Fits (roundZ d (t - s))) : Calls Tryd.prog 34 #[Dc c s, Dc d t, .func (.func 30) #[] #[]] w fun e w' => e = .returned (.tuple #[Dc (rz (rz (roundZ c (s - s)) + rz (roundZ d (t - s)))) (rs (rz (roundZ c (s - s)) + rz (roundZ d (t - s))) s), .int .i64 (rE (rz (roundZ c (s - s)) + rz (roundZ d (t - s))))]) ∧ Below w.heap.size w w' := by
  refine d_in (args := [Dc c s, Dc d t, .func (.func 30) #[] #[]]) 60 Tryd.func34 rfl rfl rfl ?_
  refine d_reg ?_
  refine h_box (cs := #[hiW c, loW c, .int .i64 s]) rfl rfl rfl rfl ?_; intro g3_1
  refine h_box (cs := #[hiW d, loW d, .int .i64 t]) rfl rfl rfl rfl ?_; intro g4_2
  refine h_alloc zeDec rfl rfl ?_; intro g6_3
  refine h_q hfl rfl ?_
  refine h_done (d_seq (d_reg ?_))
  refine h_load 2 (v := .agg #[hiW c, loW c, .int .i64 s]) (reads_agg (cs := [hiW c, loW c, .int .i64 s]) tyDec rfl) rfl rfl rfl rfl ?_
  refine h_call (ent_of Tryd.func18 (by kernel_rfl) rfl) (fun w hH => right_yes _ c s hs) rfl rfl rfl rfl ?_
  refine h_q hfl rfl ?_
  refine h_load 1 (v := .agg #[hiW d, loW d, .int .i64 t]) (reads_agg (cs := [hiW d, loW d, .int .i64 t]) tyDec rfl) rfl rfl rfl rfl ?_
  refine h_call (ent_of Tryd.func18 (by kernel_rfl) rfl) (fun w hH => right_yes _ d t ht) rfl rfl rfl rfl ?_
  refine h_q hfl rfl ?_
  refine h_done (d_else rfl (d_skip (f_to (d_reg ?_))))
  refine h_q hfl rfl ?_
  refine h_load 2 (v := .int .i64 s) (reads_one tyInt rfl) rfl rfl rfl rfl ?_
  refine h_q hfl rfl ?_
  refine h_load 1 (v := .int .i64 t) (reads_one tyInt rfl) rfl rfl rfl rfl ?_
  refine h_builtin (v := .int .i64 s) (fun w cs => run_max2 (by first | rfl | decide | (split <;> omega)) _ _ w cs) rfl rfl rfl ?_
  refine h_q hfl rfl ?_
  refine h_done (d_reg ?_)
  refine h_load 2 (v := .agg #[hiW c, loW c, .int .i64 s]) (reads_agg (cs := [hiW c, loW c, .int .i64 s]) tyDec rfl) rfl rfl rfl rfl ?_
  refine h_q hfl rfl ?_
  refine h_call (ent_of Tryd.func50 (by kernel_rfl) rfl) (fun w hH => at_half _ c s s hc hs hs) rfl rfl rfl rfl ?_
  refine h_q hfl rfl ?_
  refine h_alloc zeWide rfl rfl ?_; intro g9_4
  refine h_store 0 (v := WV (rz (roundZ c (s - s)))) (#[hiW (rz (roundZ c (s - s))), loW (rz (roundZ c (s - s)))]) tyWide.2 rfl rfl rfl rfl rfl rfl rfl rfl rfl rfl ?_
  refine h_q hfl rfl ?_
  refine h_done (d_seq (d_reg ?_))
  refine h_q hfl rfl ?_
  refine h_cmp (cmp_neq_f (rE_fit h1)) rfl rfl rfl rfl ?_
  refine h_done (d_else rfl (d_skip (f_to (d_reg ?_))))
  refine h_load 2 (v := .agg #[hiW d, loW d, .int .i64 t]) (reads_agg (cs := [hiW d, loW d, .int .i64 t]) tyDec rfl) rfl rfl rfl rfl ?_
  refine h_q hfl rfl ?_
  refine h_call (ent_of Tryd.func50 (by kernel_rfl) rfl) (fun w hH => at_half _ d t s hd ht hs) rfl rfl rfl rfl ?_
  refine h_q hfl rfl ?_
  refine h_alloc zeWide rfl rfl ?_; intro g11_5
  refine h_store 0 (v := WV (rz (roundZ d (t - s)))) (#[hiW (rz (roundZ d (t - s))), loW (rz (roundZ d (t - s)))]) tyWide.2 rfl rfl rfl rfl rfl rfl rfl rfl rfl rfl ?_
  refine h_q hfl rfl ?_
  refine h_done (d_seq (d_reg ?_))
  refine h_q hfl rfl ?_
  refine h_cmp (cmp_neq_f (rE_fit h2)) rfl rfl rfl rfl ?_
  refine h_done (d_else rfl (d_skip (f_to (d_reg ?_))))
  refine h_q hfl rfl ?_
  refine h_load 1 (v := .agg #[hiW (rz (roundZ c (s - s))), loW (rz (roundZ c (s - s)))]) (reads_agg (cs := [hiW (rz (roundZ c (s - s))), loW (rz (roundZ c (s - s)))]) tyWide rfl) rfl rfl rfl rfl ?_
  refine h_load 0 (v := .agg #[hiW (rz (roundZ d (t - s))), loW (rz (roundZ d (t - s)))]) (reads_agg (cs := [hiW (rz (roundZ d (t - s))), loW (rz (roundZ d (t - s)))]) tyWide rfl) rfl rfl rfl rfl ?_
  refine h_call (ent_of Tryd.func30 (by kernel_rfl) rfl) (fun w hH => add_r _ _ _ (rz_fits _) (rz_fits _)) rfl rfl rfl rfl ?_
  refine h_q hfl rfl ?_
  refine h_alloc zeWide rfl rfl ?_; intro g12_6
  refine h_store 0 (v := WV (rz (rz (roundZ c (s - s)) + rz (roundZ d (t - s))))) (#[hiW (rz (rz (roundZ c (s - s)) + rz (roundZ d (t - s)))), loW (rz (rz (roundZ c (s - s)) + rz (roundZ d (t - s))))]) tyWide.2 rfl rfl rfl rfl rfl rfl rfl rfl rfl rfl ?_
  refine h_q hfl rfl ?_
  refine h_done ?_
  refine WC2.keep (env' := [(6, .pointer (some ⟨g6_3, 0, none⟩)), (7, .int .i64 0), (8, .int .i64 s), (12, .pointer (some ⟨g12_6, 0, none⟩)), (10, .int .i64 (rE (rz (roundZ c (s - s)) + rz (roundZ d (t - s)))))]) ⟨rfl, rfl, rfl, rfl, rfl, trivial⟩ ?_
  refine d_reg ?_
  refine h_load 0 (v := .agg #[hiW (rz (rz (roundZ c (s - s)) + rz (roundZ d (t - s)))), loW (rz (rz (roundZ c (s - s)) + rz (roundZ d (t - s))))]) (reads_agg (cs := [hiW (rz (rz (roundZ c (s - s)) + rz (roundZ d (t - s)))), loW (rz (rz (roundZ c (s - s)) + rz (roundZ d (t - s))))]) tyWide rfl) rfl rfl rfl rfl ?_
  refine h_q hfl rfl ?_
  refine h_call (ent_of Tryd.func40 (by kernel_rfl) rfl) (fun w hH => made_r _ (rz (roundZ c (s - s)) + rz (roundZ d (t - s))) s) rfl rfl rfl rfl ?_
  refine h_q hfl rfl ?_
  refine h_store 3 (v := Dc (rz (rz (roundZ c (s - s)) + rz (roundZ d (t - s)))) (rs (rz (roundZ c (s - s)) + rz (roundZ d (t - s))) s)) (#[hiW (rz (rz (roundZ c (s - s)) + rz (roundZ d (t - s)))), loW (rz (rz (roundZ c (s - s)) + rz (roundZ d (t - s)))), .int .i64 (rs (rz (roundZ c (s - s)) + rz (roundZ d (t - s))) s)]) tyDec.2 rfl rfl rfl rfl rfl rfl rfl rfl rfl rfl ?_
  refine h_q hfl rfl ?_
  refine h_done (d_ret ?_)
  exact f_fin2 (.cell 3 (v := .agg #[hiW (rz (rz (roundZ c (s - s)) + rz (roundZ d (t - s)))), loW (rz (rz (roundZ c (s - s)) + rz (roundZ d (t - s)))), .int .i64 (rs (rz (roundZ c (s - s)) + rz (roundZ d (t - s))) s)]) (reads_agg (cs := [hiW (rz (rz (roundZ c (s - s)) + rz (roundZ d (t - s)))), loW (rz (rz (roundZ c (s - s)) + rz (roundZ d (t - s)))), .int .i64 (rs (rz (roundZ c (s - s)) + rz (roundZ d (t - s))) s)]) tyDec rfl) rfl rfl) (.tmp rfl) (fun w h => ⟨rfl, h.up.below⟩) rfl

theorem addj_bad1 (w : World) (c s d t : Int) (hs : ¬ May s) : Calls Tryd.prog 34 #[Dc c s, Dc d t, .func (.func 30) #[] #[]] w fun e w' => e = .returned (.tuple #[Dc 0 0, .int .i64 21]) ∧ Below w.heap.size w w' := by
  refine d_in (args := [Dc c s, Dc d t, .func (.func 30) #[] #[]]) 60 Tryd.func34 rfl rfl rfl ?_
  refine d_reg ?_
  refine h_box (cs := #[hiW c, loW c, .int .i64 s]) rfl rfl rfl rfl ?_; intro g3_1
  refine h_box (cs := #[hiW d, loW d, .int .i64 t]) rfl rfl rfl rfl ?_; intro g4_2
  refine h_alloc zeDec rfl rfl ?_; intro g6_3
  refine h_q hfl rfl ?_
  refine h_done (d_seq (d_reg ?_))
  refine h_load 2 (v := .agg #[hiW c, loW c, .int .i64 s]) (reads_agg (cs := [hiW c, loW c, .int .i64 s]) tyDec rfl) rfl rfl rfl rfl ?_
  refine h_call (ent_of Tryd.func18 (by kernel_rfl) rfl) (fun w hH => right_no _ c s hs) rfl rfl rfl rfl ?_
  refine h_q hfl rfl ?_
  refine h_done (d_then rfl (d_reg ?_))
  refine h_build (cs := #[.int .i64 0, .int .u64 0, .int .i64 0]) (by kernel_rfl) rfl rfl rfl ?_
  refine h_store 0 (v := .agg #[.int .i64 0, .int .u64 0, .int .i64 0]) (#[.int .i64 0, .int .u64 0, .int .i64 0]) tyDec.2 rfl rfl rfl rfl rfl rfl rfl rfl rfl rfl ?_
  refine h_q hfl rfl ?_
  refine h_done (d_ret (f_then_ret ?_))
  exact f_fin2 (.cell 0 (v := .agg #[.int .i64 0, .int .u64 0, .int .i64 0]) (reads_agg (cs := [.int .i64 0, .int .u64 0, .int .i64 0]) tyDec rfl) rfl rfl) (.tmp rfl) (fun w h => ⟨rfl, h.up.below⟩) rfl

theorem addj_bad2 (w : World) (c s d t : Int) (hs : May s) (ht : ¬ May t) : Calls Tryd.prog 34 #[Dc c s, Dc d t, .func (.func 30) #[] #[]] w fun e w' => e = .returned (.tuple #[Dc 0 0, .int .i64 21]) ∧ Below w.heap.size w w' := by
  refine d_in (args := [Dc c s, Dc d t, .func (.func 30) #[] #[]]) 60 Tryd.func34 rfl rfl rfl ?_
  refine d_reg ?_
  refine h_box (cs := #[hiW c, loW c, .int .i64 s]) rfl rfl rfl rfl ?_; intro g3_1
  refine h_box (cs := #[hiW d, loW d, .int .i64 t]) rfl rfl rfl rfl ?_; intro g4_2
  refine h_alloc zeDec rfl rfl ?_; intro g6_3
  refine h_q hfl rfl ?_
  refine h_done (d_seq (d_reg ?_))
  refine h_load 2 (v := .agg #[hiW c, loW c, .int .i64 s]) (reads_agg (cs := [hiW c, loW c, .int .i64 s]) tyDec rfl) rfl rfl rfl rfl ?_
  refine h_call (ent_of Tryd.func18 (by kernel_rfl) rfl) (fun w hH => right_yes _ c s hs) rfl rfl rfl rfl ?_
  refine h_q hfl rfl ?_
  refine h_load 1 (v := .agg #[hiW d, loW d, .int .i64 t]) (reads_agg (cs := [hiW d, loW d, .int .i64 t]) tyDec rfl) rfl rfl rfl rfl ?_
  refine h_call (ent_of Tryd.func18 (by kernel_rfl) rfl) (fun w hH => right_no _ d t ht) rfl rfl rfl rfl ?_
  refine h_q hfl rfl ?_
  refine h_done (d_then rfl (d_reg ?_))
  refine h_build (cs := #[.int .i64 0, .int .u64 0, .int .i64 0]) (by kernel_rfl) rfl rfl rfl ?_
  refine h_store 0 (v := .agg #[.int .i64 0, .int .u64 0, .int .i64 0]) (#[.int .i64 0, .int .u64 0, .int .i64 0]) tyDec.2 rfl rfl rfl rfl rfl rfl rfl rfl rfl rfl ?_
  refine h_q hfl rfl ?_
  refine h_done (d_ret (f_then_ret ?_))
  exact f_fin2 (.cell 0 (v := .agg #[.int .i64 0, .int .u64 0, .int .i64 0]) (reads_agg (cs := [.int .i64 0, .int .u64 0, .int .i64 0]) tyDec rfl) rfl rfl) (.tmp rfl) (fun w h => ⟨rfl, h.up.below⟩) rfl

theorem sub_le_over1 (w : World) (c s d t : Int) (hc : Fits c) (hd : Fits d) (hs : May s) (ht : May t) (hm : s ≤ t) (h1 : ¬ Fits (roundZ c (s - t))) : Calls Tryd.prog 34 #[Dc c s, Dc d t, .func (.func 29) #[] #[]] w fun e w' => e = .returned (.tuple #[Dc 0 0, .int .i64 20]) ∧ Below w.heap.size w w' := by
  refine d_in (args := [Dc c s, Dc d t, .func (.func 29) #[] #[]]) 60 Tryd.func34 rfl rfl rfl ?_
  refine d_reg ?_
  refine h_box (cs := #[hiW c, loW c, .int .i64 s]) rfl rfl rfl rfl ?_; intro g3_1
  refine h_box (cs := #[hiW d, loW d, .int .i64 t]) rfl rfl rfl rfl ?_; intro g4_2
  refine h_alloc zeDec rfl rfl ?_; intro g6_3
  refine h_q hfl rfl ?_
  refine h_done (d_seq (d_reg ?_))
  refine h_load 2 (v := .agg #[hiW c, loW c, .int .i64 s]) (reads_agg (cs := [hiW c, loW c, .int .i64 s]) tyDec rfl) rfl rfl rfl rfl ?_
  refine h_call (ent_of Tryd.func18 (by kernel_rfl) rfl) (fun w hH => right_yes _ c s hs) rfl rfl rfl rfl ?_
  refine h_q hfl rfl ?_
  refine h_load 1 (v := .agg #[hiW d, loW d, .int .i64 t]) (reads_agg (cs := [hiW d, loW d, .int .i64 t]) tyDec rfl) rfl rfl rfl rfl ?_
  refine h_call (ent_of Tryd.func18 (by kernel_rfl) rfl) (fun w hH => right_yes _ d t ht) rfl rfl rfl rfl ?_
  refine h_q hfl rfl ?_
  refine h_done (d_else rfl (d_skip (f_to (d_reg ?_))))
  refine h_q hfl rfl ?_
  refine h_load 2 (v := .int .i64 s) (reads_one tyInt rfl) rfl rfl rfl rfl ?_
  refine h_q hfl rfl ?_
  refine h_load 1 (v := .int .i64 t) (reads_one tyInt rfl) rfl rfl rfl rfl ?_
  refine h_builtin (v := .int .i64 t) (fun w cs => run_max2 (by first | rfl | decide | (split <;> omega)) _ _ w cs) rfl rfl rfl ?_
  refine h_q hfl rfl ?_
  refine h_done (d_reg ?_)
  refine h_load 2 (v := .agg #[hiW c, loW c, .int .i64 s]) (reads_agg (cs := [hiW c, loW c, .int .i64 s]) tyDec rfl) rfl rfl rfl rfl ?_
  refine h_q hfl rfl ?_
  refine h_call (ent_of Tryd.func50 (by kernel_rfl) rfl) (fun w hH => at_half _ c s t hc hs ht) rfl rfl rfl rfl ?_
  refine h_q hfl rfl ?_
  refine h_alloc zeWide rfl rfl ?_; intro g9_4
  refine h_store 0 (v := WV (rz (roundZ c (s - t)))) (#[hiW (rz (roundZ c (s - t))), loW (rz (roundZ c (s - t)))]) tyWide.2 rfl rfl rfl rfl rfl rfl rfl rfl rfl rfl ?_
  refine h_q hfl rfl ?_
  refine h_done (d_seq (d_reg ?_))
  refine h_q hfl rfl ?_
  refine h_cmp (cmp_neq_t (rE_ne h1)) rfl rfl rfl rfl ?_
  refine h_done (d_then rfl (d_reg ?_))
  refine h_build (cs := #[.int .i64 0, .int .u64 0, .int .i64 0]) (by kernel_rfl) rfl rfl rfl ?_
  refine h_q hfl rfl ?_
  refine h_store 1 (v := .agg #[.int .i64 0, .int .u64 0, .int .i64 0]) (#[.int .i64 0, .int .u64 0, .int .i64 0]) tyDec.2 rfl rfl rfl rfl rfl rfl rfl rfl rfl rfl ?_
  refine h_q hfl rfl ?_
  refine h_done (d_ret (f_then_ret ?_))
  exact f_fin2 (.cell 1 (v := .agg #[.int .i64 0, .int .u64 0, .int .i64 0]) (reads_agg (cs := [.int .i64 0, .int .u64 0, .int .i64 0]) tyDec rfl) rfl rfl) (.tmp rfl) (fun w h => by rw [rE_over h1]; exact ⟨rfl, h.up.below⟩) rfl

theorem sub_le_over2 (w : World) (c s d t : Int) (hc : Fits c) (hd : Fits d) (hs : May s) (ht : May t) (hm : s ≤ t) (h1 : Fits (roundZ c (s - t))) (h2 : ¬ Fits (roundZ d (t - t))) : Calls Tryd.prog 34 #[Dc c s, Dc d t, .func (.func 29) #[] #[]] w fun e w' => e = .returned (.tuple #[Dc 0 0, .int .i64 20]) ∧ Below w.heap.size w w' := by
  refine d_in (args := [Dc c s, Dc d t, .func (.func 29) #[] #[]]) 60 Tryd.func34 rfl rfl rfl ?_
  refine d_reg ?_
  refine h_box (cs := #[hiW c, loW c, .int .i64 s]) rfl rfl rfl rfl ?_; intro g3_1
  refine h_box (cs := #[hiW d, loW d, .int .i64 t]) rfl rfl rfl rfl ?_; intro g4_2
  refine h_alloc zeDec rfl rfl ?_; intro g6_3
  refine h_q hfl rfl ?_
  refine h_done (d_seq (d_reg ?_))
  refine h_load 2 (v := .agg #[hiW c, loW c, .int .i64 s]) (reads_agg (cs := [hiW c, loW c, .int .i64 s]) tyDec rfl) rfl rfl rfl rfl ?_
  refine h_call (ent_of Tryd.func18 (by kernel_rfl) rfl) (fun w hH => right_yes _ c s hs) rfl rfl rfl rfl ?_
  refine h_q hfl rfl ?_
  refine h_load 1 (v := .agg #[hiW d, loW d, .int .i64 t]) (reads_agg (cs := [hiW d, loW d, .int .i64 t]) tyDec rfl) rfl rfl rfl rfl ?_
  refine h_call (ent_of Tryd.func18 (by kernel_rfl) rfl) (fun w hH => right_yes _ d t ht) rfl rfl rfl rfl ?_
  refine h_q hfl rfl ?_
  refine h_done (d_else rfl (d_skip (f_to (d_reg ?_))))
  refine h_q hfl rfl ?_
  refine h_load 2 (v := .int .i64 s) (reads_one tyInt rfl) rfl rfl rfl rfl ?_
  refine h_q hfl rfl ?_
  refine h_load 1 (v := .int .i64 t) (reads_one tyInt rfl) rfl rfl rfl rfl ?_
  refine h_builtin (v := .int .i64 t) (fun w cs => run_max2 (by first | rfl | decide | (split <;> omega)) _ _ w cs) rfl rfl rfl ?_
  refine h_q hfl rfl ?_
  refine h_done (d_reg ?_)
  refine h_load 2 (v := .agg #[hiW c, loW c, .int .i64 s]) (reads_agg (cs := [hiW c, loW c, .int .i64 s]) tyDec rfl) rfl rfl rfl rfl ?_
  refine h_q hfl rfl ?_
  refine h_call (ent_of Tryd.func50 (by kernel_rfl) rfl) (fun w hH => at_half _ c s t hc hs ht) rfl rfl rfl rfl ?_
  refine h_q hfl rfl ?_
  refine h_alloc zeWide rfl rfl ?_; intro g9_4
  refine h_store 0 (v := WV (rz (roundZ c (s - t)))) (#[hiW (rz (roundZ c (s - t))), loW (rz (roundZ c (s - t)))]) tyWide.2 rfl rfl rfl rfl rfl rfl rfl rfl rfl rfl ?_
  refine h_q hfl rfl ?_
  refine h_done (d_seq (d_reg ?_))
  refine h_q hfl rfl ?_
  refine h_cmp (cmp_neq_f (rE_fit h1)) rfl rfl rfl rfl ?_
  refine h_done (d_else rfl (d_skip (f_to (d_reg ?_))))
  refine h_load 2 (v := .agg #[hiW d, loW d, .int .i64 t]) (reads_agg (cs := [hiW d, loW d, .int .i64 t]) tyDec rfl) rfl rfl rfl rfl ?_
  refine h_q hfl rfl ?_
  refine h_call (ent_of Tryd.func50 (by kernel_rfl) rfl) (fun w hH => at_half _ d t t hd ht ht) rfl rfl rfl rfl ?_
  refine h_q hfl rfl ?_
  refine h_alloc zeWide rfl rfl ?_; intro g11_5
  refine h_store 0 (v := WV (rz (roundZ d (t - t)))) (#[hiW (rz (roundZ d (t - t))), loW (rz (roundZ d (t - t)))]) tyWide.2 rfl rfl rfl rfl rfl rfl rfl rfl rfl rfl ?_
  refine h_q hfl rfl ?_
  refine h_done (d_seq (d_reg ?_))
  refine h_q hfl rfl ?_
  refine h_cmp (cmp_neq_t (rE_ne h2)) rfl rfl rfl rfl ?_
  refine h_done (d_then rfl (d_reg ?_))
  refine h_build (cs := #[.int .i64 0, .int .u64 0, .int .i64 0]) (by kernel_rfl) rfl rfl rfl ?_
  refine h_q hfl rfl ?_
  refine h_store 2 (v := .agg #[.int .i64 0, .int .u64 0, .int .i64 0]) (#[.int .i64 0, .int .u64 0, .int .i64 0]) tyDec.2 rfl rfl rfl rfl rfl rfl rfl rfl rfl rfl ?_
  refine h_q hfl rfl ?_
  refine h_done (d_ret (f_then_ret ?_))
  exact f_fin2 (.cell 2 (v := .agg #[.int .i64 0, .int .u64 0, .int .i64 0]) (reads_agg (cs := [.int .i64 0, .int .u64 0, .int .i64 0]) tyDec rfl) rfl rfl) (.tmp rfl) (fun w h => by rw [rE_over h2]; exact ⟨rfl, h.up.below⟩) rfl

theorem sub_le_ok (w : World) (c s d t : Int) (hc : Fits c) (hd : Fits d) (hs : May s) (ht : May t) (hm : s ≤ t) (h1 : Fits (roundZ c (s - t))) (h2 : Fits (roundZ d (t - t))) : Calls Tryd.prog 34 #[Dc c s, Dc d t, .func (.func 29) #[] #[]] w fun e w' => e = .returned (.tuple #[Dc (rz (rz (roundZ c (s - t)) - rz (roundZ d (t - t)))) (rs (rz (roundZ c (s - t)) - rz (roundZ d (t - t))) t), .int .i64 (rE (rz (roundZ c (s - t)) - rz (roundZ d (t - t))))]) ∧ Below w.heap.size w w' := by
  refine d_in (args := [Dc c s, Dc d t, .func (.func 29) #[] #[]]) 60 Tryd.func34 rfl rfl rfl ?_
  refine d_reg ?_
  refine h_box (cs := #[hiW c, loW c, .int .i64 s]) rfl rfl rfl rfl ?_; intro g3_1
  refine h_box (cs := #[hiW d, loW d, .int .i64 t]) rfl rfl rfl rfl ?_; intro g4_2
  refine h_alloc zeDec rfl rfl ?_; intro g6_3
  refine h_q hfl rfl ?_
  refine h_done (d_seq (d_reg ?_))
  refine h_load 2 (v := .agg #[hiW c, loW c, .int .i64 s]) (reads_agg (cs := [hiW c, loW c, .int .i64 s]) tyDec rfl) rfl rfl rfl rfl ?_
  refine h_call (ent_of Tryd.func18 (by kernel_rfl) rfl) (fun w hH => right_yes _ c s hs) rfl rfl rfl rfl ?_
  refine h_q hfl rfl ?_
  refine h_load 1 (v := .agg #[hiW d, loW d, .int .i64 t]) (reads_agg (cs := [hiW d, loW d, .int .i64 t]) tyDec rfl) rfl rfl rfl rfl ?_
  refine h_call (ent_of Tryd.func18 (by kernel_rfl) rfl) (fun w hH => right_yes _ d t ht) rfl rfl rfl rfl ?_
  refine h_q hfl rfl ?_
  refine h_done (d_else rfl (d_skip (f_to (d_reg ?_))))
  refine h_q hfl rfl ?_
  refine h_load 2 (v := .int .i64 s) (reads_one tyInt rfl) rfl rfl rfl rfl ?_
  refine h_q hfl rfl ?_
  refine h_load 1 (v := .int .i64 t) (reads_one tyInt rfl) rfl rfl rfl rfl ?_
  refine h_builtin (v := .int .i64 t) (fun w cs => run_max2 (by first | rfl | decide | (split <;> omega)) _ _ w cs) rfl rfl rfl ?_
  refine h_q hfl rfl ?_
  refine h_done (d_reg ?_)
  refine h_load 2 (v := .agg #[hiW c, loW c, .int .i64 s]) (reads_agg (cs := [hiW c, loW c, .int .i64 s]) tyDec rfl) rfl rfl rfl rfl ?_
  refine h_q hfl rfl ?_
  refine h_call (ent_of Tryd.func50 (by kernel_rfl) rfl) (fun w hH => at_half _ c s t hc hs ht) rfl rfl rfl rfl ?_
  refine h_q hfl rfl ?_
  refine h_alloc zeWide rfl rfl ?_; intro g9_4
  refine h_store 0 (v := WV (rz (roundZ c (s - t)))) (#[hiW (rz (roundZ c (s - t))), loW (rz (roundZ c (s - t)))]) tyWide.2 rfl rfl rfl rfl rfl rfl rfl rfl rfl rfl ?_
  refine h_q hfl rfl ?_
  refine h_done (d_seq (d_reg ?_))
  refine h_q hfl rfl ?_
  refine h_cmp (cmp_neq_f (rE_fit h1)) rfl rfl rfl rfl ?_
  refine h_done (d_else rfl (d_skip (f_to (d_reg ?_))))
  refine h_load 2 (v := .agg #[hiW d, loW d, .int .i64 t]) (reads_agg (cs := [hiW d, loW d, .int .i64 t]) tyDec rfl) rfl rfl rfl rfl ?_
  refine h_q hfl rfl ?_
  refine h_call (ent_of Tryd.func50 (by kernel_rfl) rfl) (fun w hH => at_half _ d t t hd ht ht) rfl rfl rfl rfl ?_
  refine h_q hfl rfl ?_
  refine h_alloc zeWide rfl rfl ?_; intro g11_5
  refine h_store 0 (v := WV (rz (roundZ d (t - t)))) (#[hiW (rz (roundZ d (t - t))), loW (rz (roundZ d (t - t)))]) tyWide.2 rfl rfl rfl rfl rfl rfl rfl rfl rfl rfl ?_
  refine h_q hfl rfl ?_
  refine h_done (d_seq (d_reg ?_))
  refine h_q hfl rfl ?_
  refine h_cmp (cmp_neq_f (rE_fit h2)) rfl rfl rfl rfl ?_
  refine h_done (d_else rfl (d_skip (f_to (d_reg ?_))))
  refine h_q hfl rfl ?_
  refine h_load 1 (v := .agg #[hiW (rz (roundZ c (s - t))), loW (rz (roundZ c (s - t)))]) (reads_agg (cs := [hiW (rz (roundZ c (s - t))), loW (rz (roundZ c (s - t)))]) tyWide rfl) rfl rfl rfl rfl ?_
  refine h_load 0 (v := .agg #[hiW (rz (roundZ d (t - t))), loW (rz (roundZ d (t - t)))]) (reads_agg (cs := [hiW (rz (roundZ d (t - t))), loW (rz (roundZ d (t - t)))]) tyWide rfl) rfl rfl rfl rfl ?_
  refine h_call (ent_of Tryd.func29 (by kernel_rfl) rfl) (fun w hH => sub_r _ _ _ (rz_fits _) (rz_fits _)) rfl rfl rfl rfl ?_
  refine h_q hfl rfl ?_
  refine h_alloc zeWide rfl rfl ?_; intro g12_6
  refine h_store 0 (v := WV (rz (rz (roundZ c (s - t)) - rz (roundZ d (t - t))))) (#[hiW (rz (rz (roundZ c (s - t)) - rz (roundZ d (t - t)))), loW (rz (rz (roundZ c (s - t)) - rz (roundZ d (t - t))))]) tyWide.2 rfl rfl rfl rfl rfl rfl rfl rfl rfl rfl ?_
  refine h_q hfl rfl ?_
  refine h_done ?_
  refine WC2.keep (env' := [(6, .pointer (some ⟨g6_3, 0, none⟩)), (7, .int .i64 0), (8, .int .i64 t), (12, .pointer (some ⟨g12_6, 0, none⟩)), (10, .int .i64 (rE (rz (roundZ c (s - t)) - rz (roundZ d (t - t)))))]) ⟨rfl, rfl, rfl, rfl, rfl, trivial⟩ ?_
  refine d_reg ?_
  refine h_load 0 (v := .agg #[hiW (rz (rz (roundZ c (s - t)) - rz (roundZ d (t - t)))), loW (rz (rz (roundZ c (s - t)) - rz (roundZ d (t - t))))]) (reads_agg (cs := [hiW (rz (rz (roundZ c (s - t)) - rz (roundZ d (t - t)))), loW (rz (rz (roundZ c (s - t)) - rz (roundZ d (t - t))))]) tyWide rfl) rfl rfl rfl rfl ?_
  refine h_q hfl rfl ?_
  refine h_call (ent_of Tryd.func40 (by kernel_rfl) rfl) (fun w hH => made_r _ (rz (roundZ c (s - t)) - rz (roundZ d (t - t))) t) rfl rfl rfl rfl ?_
  refine h_q hfl rfl ?_
  refine h_store 3 (v := Dc (rz (rz (roundZ c (s - t)) - rz (roundZ d (t - t)))) (rs (rz (roundZ c (s - t)) - rz (roundZ d (t - t))) t)) (#[hiW (rz (rz (roundZ c (s - t)) - rz (roundZ d (t - t)))), loW (rz (rz (roundZ c (s - t)) - rz (roundZ d (t - t)))), .int .i64 (rs (rz (roundZ c (s - t)) - rz (roundZ d (t - t))) t)]) tyDec.2 rfl rfl rfl rfl rfl rfl rfl rfl rfl rfl ?_
  refine h_q hfl rfl ?_
  refine h_done (d_ret ?_)
  exact f_fin2 (.cell 3 (v := .agg #[hiW (rz (rz (roundZ c (s - t)) - rz (roundZ d (t - t)))), loW (rz (rz (roundZ c (s - t)) - rz (roundZ d (t - t)))), .int .i64 (rs (rz (roundZ c (s - t)) - rz (roundZ d (t - t))) t)]) (reads_agg (cs := [hiW (rz (rz (roundZ c (s - t)) - rz (roundZ d (t - t)))), loW (rz (rz (roundZ c (s - t)) - rz (roundZ d (t - t)))), .int .i64 (rs (rz (roundZ c (s - t)) - rz (roundZ d (t - t))) t)]) tyDec rfl) rfl rfl) (.tmp rfl) (fun w h => ⟨rfl, h.up.below⟩) rfl

theorem sub_gt_over1 (w : World) (c s d t : Int) (hc : Fits c) (hd : Fits d) (hs : May s) (ht : May t) (hm : t < s) (h1 : ¬ Fits (roundZ c (s - s))) : Calls Tryd.prog 34 #[Dc c s, Dc d t, .func (.func 29) #[] #[]] w fun e w' => e = .returned (.tuple #[Dc 0 0, .int .i64 20]) ∧ Below w.heap.size w w' := by
  refine d_in (args := [Dc c s, Dc d t, .func (.func 29) #[] #[]]) 60 Tryd.func34 rfl rfl rfl ?_
  refine d_reg ?_
  refine h_box (cs := #[hiW c, loW c, .int .i64 s]) rfl rfl rfl rfl ?_; intro g3_1
  refine h_box (cs := #[hiW d, loW d, .int .i64 t]) rfl rfl rfl rfl ?_; intro g4_2
  refine h_alloc zeDec rfl rfl ?_; intro g6_3
  refine h_q hfl rfl ?_
  refine h_done (d_seq (d_reg ?_))
  refine h_load 2 (v := .agg #[hiW c, loW c, .int .i64 s]) (reads_agg (cs := [hiW c, loW c, .int .i64 s]) tyDec rfl) rfl rfl rfl rfl ?_
  refine h_call (ent_of Tryd.func18 (by kernel_rfl) rfl) (fun w hH => right_yes _ c s hs) rfl rfl rfl rfl ?_
  refine h_q hfl rfl ?_
  refine h_load 1 (v := .agg #[hiW d, loW d, .int .i64 t]) (reads_agg (cs := [hiW d, loW d, .int .i64 t]) tyDec rfl) rfl rfl rfl rfl ?_
  refine h_call (ent_of Tryd.func18 (by kernel_rfl) rfl) (fun w hH => right_yes _ d t ht) rfl rfl rfl rfl ?_
  refine h_q hfl rfl ?_
  refine h_done (d_else rfl (d_skip (f_to (d_reg ?_))))
  refine h_q hfl rfl ?_
  refine h_load 2 (v := .int .i64 s) (reads_one tyInt rfl) rfl rfl rfl rfl ?_
  refine h_q hfl rfl ?_
  refine h_load 1 (v := .int .i64 t) (reads_one tyInt rfl) rfl rfl rfl rfl ?_
  refine h_builtin (v := .int .i64 s) (fun w cs => run_max2 (by first | rfl | decide | (split <;> omega)) _ _ w cs) rfl rfl rfl ?_
  refine h_q hfl rfl ?_
  refine h_done (d_reg ?_)
  refine h_load 2 (v := .agg #[hiW c, loW c, .int .i64 s]) (reads_agg (cs := [hiW c, loW c, .int .i64 s]) tyDec rfl) rfl rfl rfl rfl ?_
  refine h_q hfl rfl ?_
  refine h_call (ent_of Tryd.func50 (by kernel_rfl) rfl) (fun w hH => at_half _ c s s hc hs hs) rfl rfl rfl rfl ?_
  refine h_q hfl rfl ?_
  refine h_alloc zeWide rfl rfl ?_; intro g9_4
  refine h_store 0 (v := WV (rz (roundZ c (s - s)))) (#[hiW (rz (roundZ c (s - s))), loW (rz (roundZ c (s - s)))]) tyWide.2 rfl rfl rfl rfl rfl rfl rfl rfl rfl rfl ?_
  refine h_q hfl rfl ?_
  refine h_done (d_seq (d_reg ?_))
  refine h_q hfl rfl ?_
  refine h_cmp (cmp_neq_t (rE_ne h1)) rfl rfl rfl rfl ?_
  refine h_done (d_then rfl (d_reg ?_))
  refine h_build (cs := #[.int .i64 0, .int .u64 0, .int .i64 0]) (by kernel_rfl) rfl rfl rfl ?_
  refine h_q hfl rfl ?_
  refine h_store 1 (v := .agg #[.int .i64 0, .int .u64 0, .int .i64 0]) (#[.int .i64 0, .int .u64 0, .int .i64 0]) tyDec.2 rfl rfl rfl rfl rfl rfl rfl rfl rfl rfl ?_
  refine h_q hfl rfl ?_
  refine h_done (d_ret (f_then_ret ?_))
  exact f_fin2 (.cell 1 (v := .agg #[.int .i64 0, .int .u64 0, .int .i64 0]) (reads_agg (cs := [.int .i64 0, .int .u64 0, .int .i64 0]) tyDec rfl) rfl rfl) (.tmp rfl) (fun w h => by rw [rE_over h1]; exact ⟨rfl, h.up.below⟩) rfl

theorem sub_gt_over2 (w : World) (c s d t : Int) (hc : Fits c) (hd : Fits d) (hs : May s) (ht : May t) (hm : t < s) (h1 : Fits (roundZ c (s - s))) (h2 : ¬ Fits (roundZ d (t - s))) : Calls Tryd.prog 34 #[Dc c s, Dc d t, .func (.func 29) #[] #[]] w fun e w' => e = .returned (.tuple #[Dc 0 0, .int .i64 20]) ∧ Below w.heap.size w w' := by
  refine d_in (args := [Dc c s, Dc d t, .func (.func 29) #[] #[]]) 60 Tryd.func34 rfl rfl rfl ?_
  refine d_reg ?_
  refine h_box (cs := #[hiW c, loW c, .int .i64 s]) rfl rfl rfl rfl ?_; intro g3_1
  refine h_box (cs := #[hiW d, loW d, .int .i64 t]) rfl rfl rfl rfl ?_; intro g4_2
  refine h_alloc zeDec rfl rfl ?_; intro g6_3
  refine h_q hfl rfl ?_
  refine h_done (d_seq (d_reg ?_))
  refine h_load 2 (v := .agg #[hiW c, loW c, .int .i64 s]) (reads_agg (cs := [hiW c, loW c, .int .i64 s]) tyDec rfl) rfl rfl rfl rfl ?_
  refine h_call (ent_of Tryd.func18 (by kernel_rfl) rfl) (fun w hH => right_yes _ c s hs) rfl rfl rfl rfl ?_
  refine h_q hfl rfl ?_
  refine h_load 1 (v := .agg #[hiW d, loW d, .int .i64 t]) (reads_agg (cs := [hiW d, loW d, .int .i64 t]) tyDec rfl) rfl rfl rfl rfl ?_
  refine h_call (ent_of Tryd.func18 (by kernel_rfl) rfl) (fun w hH => right_yes _ d t ht) rfl rfl rfl rfl ?_
  refine h_q hfl rfl ?_
  refine h_done (d_else rfl (d_skip (f_to (d_reg ?_))))
  refine h_q hfl rfl ?_
  refine h_load 2 (v := .int .i64 s) (reads_one tyInt rfl) rfl rfl rfl rfl ?_
  refine h_q hfl rfl ?_
  refine h_load 1 (v := .int .i64 t) (reads_one tyInt rfl) rfl rfl rfl rfl ?_
  refine h_builtin (v := .int .i64 s) (fun w cs => run_max2 (by first | rfl | decide | (split <;> omega)) _ _ w cs) rfl rfl rfl ?_
  refine h_q hfl rfl ?_
  refine h_done (d_reg ?_)
  refine h_load 2 (v := .agg #[hiW c, loW c, .int .i64 s]) (reads_agg (cs := [hiW c, loW c, .int .i64 s]) tyDec rfl) rfl rfl rfl rfl ?_
  refine h_q hfl rfl ?_
  refine h_call (ent_of Tryd.func50 (by kernel_rfl) rfl) (fun w hH => at_half _ c s s hc hs hs) rfl rfl rfl rfl ?_
  refine h_q hfl rfl ?_
  refine h_alloc zeWide rfl rfl ?_; intro g9_4
  refine h_store 0 (v := WV (rz (roundZ c (s - s)))) (#[hiW (rz (roundZ c (s - s))), loW (rz (roundZ c (s - s)))]) tyWide.2 rfl rfl rfl rfl rfl rfl rfl rfl rfl rfl ?_
  refine h_q hfl rfl ?_
  refine h_done (d_seq (d_reg ?_))
  refine h_q hfl rfl ?_
  refine h_cmp (cmp_neq_f (rE_fit h1)) rfl rfl rfl rfl ?_
  refine h_done (d_else rfl (d_skip (f_to (d_reg ?_))))
  refine h_load 2 (v := .agg #[hiW d, loW d, .int .i64 t]) (reads_agg (cs := [hiW d, loW d, .int .i64 t]) tyDec rfl) rfl rfl rfl rfl ?_
  refine h_q hfl rfl ?_
  refine h_call (ent_of Tryd.func50 (by kernel_rfl) rfl) (fun w hH => at_half _ d t s hd ht hs) rfl rfl rfl rfl ?_
  refine h_q hfl rfl ?_
  refine h_alloc zeWide rfl rfl ?_; intro g11_5
  refine h_store 0 (v := WV (rz (roundZ d (t - s)))) (#[hiW (rz (roundZ d (t - s))), loW (rz (roundZ d (t - s)))]) tyWide.2 rfl rfl rfl rfl rfl rfl rfl rfl rfl rfl ?_
  refine h_q hfl rfl ?_
  refine h_done (d_seq (d_reg ?_))
  refine h_q hfl rfl ?_
  refine h_cmp (cmp_neq_t (rE_ne h2)) rfl rfl rfl rfl ?_
  refine h_done (d_then rfl (d_reg ?_))
  refine h_build (cs := #[.int .i64 0, .int .u64 0, .int .i64 0]) (by kernel_rfl) rfl rfl rfl ?_
  refine h_q hfl rfl ?_
  refine h_store 2 (v := .agg #[.int .i64 0, .int .u64 0, .int .i64 0]) (#[.int .i64 0, .int .u64 0, .int .i64 0]) tyDec.2 rfl rfl rfl rfl rfl rfl rfl rfl rfl rfl ?_
  refine h_q hfl rfl ?_
  refine h_done (d_ret (f_then_ret ?_))
  exact f_fin2 (.cell 2 (v := .agg #[.int .i64 0, .int .u64 0, .int .i64 0]) (reads_agg (cs := [.int .i64 0, .int .u64 0, .int .i64 0]) tyDec rfl) rfl rfl) (.tmp rfl) (fun w h => by rw [rE_over h2]; exact ⟨rfl, h.up.below⟩) rfl

theorem sub_gt_ok (w : World) (c s d t : Int) (hc : Fits c) (hd : Fits d) (hs : May s) (ht : May t) (hm : t < s) (h1 : Fits (roundZ c (s - s))) (h2 : Fits (roundZ d (t - s))) : Calls Tryd.prog 34 #[Dc c s, Dc d t, .func (.func 29) #[] #[]] w fun e w' => e = .returned (.tuple #[Dc (rz (rz (roundZ c (s - s)) - rz (roundZ d (t - s)))) (rs (rz (roundZ c (s - s)) - rz (roundZ d (t - s))) s), .int .i64 (rE (rz (roundZ c (s - s)) - rz (roundZ d (t - s))))]) ∧ Below w.heap.size w w' := by
  refine d_in (args := [Dc c s, Dc d t, .func (.func 29) #[] #[]]) 60 Tryd.func34 rfl rfl rfl ?_
  refine d_reg ?_
  refine h_box (cs := #[hiW c, loW c, .int .i64 s]) rfl rfl rfl rfl ?_; intro g3_1
  refine h_box (cs := #[hiW d, loW d, .int .i64 t]) rfl rfl rfl rfl ?_; intro g4_2
  refine h_alloc zeDec rfl rfl ?_; intro g6_3
  refine h_q hfl rfl ?_
  refine h_done (d_seq (d_reg ?_))
  refine h_load 2 (v := .agg #[hiW c, loW c, .int .i64 s]) (reads_agg (cs := [hiW c, loW c, .int .i64 s]) tyDec rfl) rfl rfl rfl rfl ?_
  refine h_call (ent_of Tryd.func18 (by kernel_rfl) rfl) (fun w hH => right_yes _ c s hs) rfl rfl rfl rfl ?_
  refine h_q hfl rfl ?_
  refine h_load 1 (v := .agg #[hiW d, loW d, .int .i64 t]) (reads_agg (cs := [hiW d, loW d, .int .i64 t]) tyDec rfl) rfl rfl rfl rfl ?_
  refine h_call (ent_of Tryd.func18 (by kernel_rfl) rfl) (fun w hH => right_yes _ d t ht) rfl rfl rfl rfl ?_
  refine h_q hfl rfl ?_
  refine h_done (d_else rfl (d_skip (f_to (d_reg ?_))))
  refine h_q hfl rfl ?_
  refine h_load 2 (v := .int .i64 s) (reads_one tyInt rfl) rfl rfl rfl rfl ?_
  refine h_q hfl rfl ?_
  refine h_load 1 (v := .int .i64 t) (reads_one tyInt rfl) rfl rfl rfl rfl ?_
  refine h_builtin (v := .int .i64 s) (fun w cs => run_max2 (by first | rfl | decide | (split <;> omega)) _ _ w cs) rfl rfl rfl ?_
  refine h_q hfl rfl ?_
  refine h_done (d_reg ?_)
  refine h_load 2 (v := .agg #[hiW c, loW c, .int .i64 s]) (reads_agg (cs := [hiW c, loW c, .int .i64 s]) tyDec rfl) rfl rfl rfl rfl ?_
  refine h_q hfl rfl ?_
  refine h_call (ent_of Tryd.func50 (by kernel_rfl) rfl) (fun w hH => at_half _ c s s hc hs hs) rfl rfl rfl rfl ?_
  refine h_q hfl rfl ?_
  refine h_alloc zeWide rfl rfl ?_; intro g9_4
  refine h_store 0 (v := WV (rz (roundZ c (s - s)))) (#[hiW (rz (roundZ c (s - s))), loW (rz (roundZ c (s - s)))]) tyWide.2 rfl rfl rfl rfl rfl rfl rfl rfl rfl rfl ?_
  refine h_q hfl rfl ?_
  refine h_done (d_seq (d_reg ?_))
  refine h_q hfl rfl ?_
  refine h_cmp (cmp_neq_f (rE_fit h1)) rfl rfl rfl rfl ?_
  refine h_done (d_else rfl (d_skip (f_to (d_reg ?_))))
  refine h_load 2 (v := .agg #[hiW d, loW d, .int .i64 t]) (reads_agg (cs := [hiW d, loW d, .int .i64 t]) tyDec rfl) rfl rfl rfl rfl ?_
  refine h_q hfl rfl ?_
  refine h_call (ent_of Tryd.func50 (by kernel_rfl) rfl) (fun w hH => at_half _ d t s hd ht hs) rfl rfl rfl rfl ?_
  refine h_q hfl rfl ?_
  refine h_alloc zeWide rfl rfl ?_; intro g11_5
  refine h_store 0 (v := WV (rz (roundZ d (t - s)))) (#[hiW (rz (roundZ d (t - s))), loW (rz (roundZ d (t - s)))]) tyWide.2 rfl rfl rfl rfl rfl rfl rfl rfl rfl rfl ?_
  refine h_q hfl rfl ?_
  refine h_done (d_seq (d_reg ?_))
  refine h_q hfl rfl ?_
  refine h_cmp (cmp_neq_f (rE_fit h2)) rfl rfl rfl rfl ?_
  refine h_done (d_else rfl (d_skip (f_to (d_reg ?_))))
  refine h_q hfl rfl ?_
  refine h_load 1 (v := .agg #[hiW (rz (roundZ c (s - s))), loW (rz (roundZ c (s - s)))]) (reads_agg (cs := [hiW (rz (roundZ c (s - s))), loW (rz (roundZ c (s - s)))]) tyWide rfl) rfl rfl rfl rfl ?_
  refine h_load 0 (v := .agg #[hiW (rz (roundZ d (t - s))), loW (rz (roundZ d (t - s)))]) (reads_agg (cs := [hiW (rz (roundZ d (t - s))), loW (rz (roundZ d (t - s)))]) tyWide rfl) rfl rfl rfl rfl ?_
  refine h_call (ent_of Tryd.func29 (by kernel_rfl) rfl) (fun w hH => sub_r _ _ _ (rz_fits _) (rz_fits _)) rfl rfl rfl rfl ?_
  refine h_q hfl rfl ?_
  refine h_alloc zeWide rfl rfl ?_; intro g12_6
  refine h_store 0 (v := WV (rz (rz (roundZ c (s - s)) - rz (roundZ d (t - s))))) (#[hiW (rz (rz (roundZ c (s - s)) - rz (roundZ d (t - s)))), loW (rz (rz (roundZ c (s - s)) - rz (roundZ d (t - s))))]) tyWide.2 rfl rfl rfl rfl rfl rfl rfl rfl rfl rfl ?_
  refine h_q hfl rfl ?_
  refine h_done ?_
  refine WC2.keep (env' := [(6, .pointer (some ⟨g6_3, 0, none⟩)), (7, .int .i64 0), (8, .int .i64 s), (12, .pointer (some ⟨g12_6, 0, none⟩)), (10, .int .i64 (rE (rz (roundZ c (s - s)) - rz (roundZ d (t - s)))))]) ⟨rfl, rfl, rfl, rfl, rfl, trivial⟩ ?_
  refine d_reg ?_
  refine h_load 0 (v := .agg #[hiW (rz (rz (roundZ c (s - s)) - rz (roundZ d (t - s)))), loW (rz (rz (roundZ c (s - s)) - rz (roundZ d (t - s))))]) (reads_agg (cs := [hiW (rz (rz (roundZ c (s - s)) - rz (roundZ d (t - s)))), loW (rz (rz (roundZ c (s - s)) - rz (roundZ d (t - s))))]) tyWide rfl) rfl rfl rfl rfl ?_
  refine h_q hfl rfl ?_
  refine h_call (ent_of Tryd.func40 (by kernel_rfl) rfl) (fun w hH => made_r _ (rz (roundZ c (s - s)) - rz (roundZ d (t - s))) s) rfl rfl rfl rfl ?_
  refine h_q hfl rfl ?_
  refine h_store 3 (v := Dc (rz (rz (roundZ c (s - s)) - rz (roundZ d (t - s)))) (rs (rz (roundZ c (s - s)) - rz (roundZ d (t - s))) s)) (#[hiW (rz (rz (roundZ c (s - s)) - rz (roundZ d (t - s)))), loW (rz (rz (roundZ c (s - s)) - rz (roundZ d (t - s)))), .int .i64 (rs (rz (roundZ c (s - s)) - rz (roundZ d (t - s))) s)]) tyDec.2 rfl rfl rfl rfl rfl rfl rfl rfl rfl rfl ?_
  refine h_q hfl rfl ?_
  refine h_done (d_ret ?_)
  exact f_fin2 (.cell 3 (v := .agg #[hiW (rz (rz (roundZ c (s - s)) - rz (roundZ d (t - s)))), loW (rz (rz (roundZ c (s - s)) - rz (roundZ d (t - s)))), .int .i64 (rs (rz (roundZ c (s - s)) - rz (roundZ d (t - s))) s)]) (reads_agg (cs := [hiW (rz (rz (roundZ c (s - s)) - rz (roundZ d (t - s)))), loW (rz (rz (roundZ c (s - s)) - rz (roundZ d (t - s)))), .int .i64 (rs (rz (roundZ c (s - s)) - rz (roundZ d (t - s))) s)]) tyDec rfl) rfl rfl) (.tmp rfl) (fun w h => ⟨rfl, h.up.below⟩) rfl

theorem subj_bad1 (w : World) (c s d t : Int) (hs : ¬ May s) : Calls Tryd.prog 34 #[Dc c s, Dc d t, .func (.func 29) #[] #[]] w fun e w' => e = .returned (.tuple #[Dc 0 0, .int .i64 21]) ∧ Below w.heap.size w w' := by
  refine d_in (args := [Dc c s, Dc d t, .func (.func 29) #[] #[]]) 60 Tryd.func34 rfl rfl rfl ?_
  refine d_reg ?_
  refine h_box (cs := #[hiW c, loW c, .int .i64 s]) rfl rfl rfl rfl ?_; intro g3_1
  refine h_box (cs := #[hiW d, loW d, .int .i64 t]) rfl rfl rfl rfl ?_; intro g4_2
  refine h_alloc zeDec rfl rfl ?_; intro g6_3
  refine h_q hfl rfl ?_
  refine h_done (d_seq (d_reg ?_))
  refine h_load 2 (v := .agg #[hiW c, loW c, .int .i64 s]) (reads_agg (cs := [hiW c, loW c, .int .i64 s]) tyDec rfl) rfl rfl rfl rfl ?_
  refine h_call (ent_of Tryd.func18 (by kernel_rfl) rfl) (fun w hH => right_no _ c s hs) rfl rfl rfl rfl ?_
  refine h_q hfl rfl ?_
  refine h_done (d_then rfl (d_reg ?_))
  refine h_build (cs := #[.int .i64 0, .int .u64 0, .int .i64 0]) (by kernel_rfl) rfl rfl rfl ?_
  refine h_store 0 (v := .agg #[.int .i64 0, .int .u64 0, .int .i64 0]) (#[.int .i64 0, .int .u64 0, .int .i64 0]) tyDec.2 rfl rfl rfl rfl rfl rfl rfl rfl rfl rfl ?_
  refine h_q hfl rfl ?_
  refine h_done (d_ret (f_then_ret ?_))
  exact f_fin2 (.cell 0 (v := .agg #[.int .i64 0, .int .u64 0, .int .i64 0]) (reads_agg (cs := [.int .i64 0, .int .u64 0, .int .i64 0]) tyDec rfl) rfl rfl) (.tmp rfl) (fun w h => ⟨rfl, h.up.below⟩) rfl

theorem subj_bad2 (w : World) (c s d t : Int) (hs : May s) (ht : ¬ May t) : Calls Tryd.prog 34 #[Dc c s, Dc d t, .func (.func 29) #[] #[]] w fun e w' => e = .returned (.tuple #[Dc 0 0, .int .i64 21]) ∧ Below w.heap.size w w' := by
  refine d_in (args := [Dc c s, Dc d t, .func (.func 29) #[] #[]]) 60 Tryd.func34 rfl rfl rfl ?_
  refine d_reg ?_
  refine h_box (cs := #[hiW c, loW c, .int .i64 s]) rfl rfl rfl rfl ?_; intro g3_1
  refine h_box (cs := #[hiW d, loW d, .int .i64 t]) rfl rfl rfl rfl ?_; intro g4_2
  refine h_alloc zeDec rfl rfl ?_; intro g6_3
  refine h_q hfl rfl ?_
  refine h_done (d_seq (d_reg ?_))
  refine h_load 2 (v := .agg #[hiW c, loW c, .int .i64 s]) (reads_agg (cs := [hiW c, loW c, .int .i64 s]) tyDec rfl) rfl rfl rfl rfl ?_
  refine h_call (ent_of Tryd.func18 (by kernel_rfl) rfl) (fun w hH => right_yes _ c s hs) rfl rfl rfl rfl ?_
  refine h_q hfl rfl ?_
  refine h_load 1 (v := .agg #[hiW d, loW d, .int .i64 t]) (reads_agg (cs := [hiW d, loW d, .int .i64 t]) tyDec rfl) rfl rfl rfl rfl ?_
  refine h_call (ent_of Tryd.func18 (by kernel_rfl) rfl) (fun w hH => right_no _ d t ht) rfl rfl rfl rfl ?_
  refine h_q hfl rfl ?_
  refine h_done (d_then rfl (d_reg ?_))
  refine h_build (cs := #[.int .i64 0, .int .u64 0, .int .i64 0]) (by kernel_rfl) rfl rfl rfl ?_
  refine h_store 0 (v := .agg #[.int .i64 0, .int .u64 0, .int .i64 0]) (#[.int .i64 0, .int .u64 0, .int .i64 0]) tyDec.2 rfl rfl rfl rfl rfl rfl rfl rfl rfl rfl ?_
  refine h_q hfl rfl ?_
  refine h_done (d_ret (f_then_ret ?_))
  exact f_fin2 (.cell 0 (v := .agg #[.int .i64 0, .int .u64 0, .int .i64 0]) (reads_agg (cs := [.int .i64 0, .int .u64 0, .int .i64 0]) tyDec rfl) rfl rfl) (.tmp rfl) (fun w h => ⟨rfl, h.up.below⟩) rfl
end Go.Proofs.YtmamedobphlpkaaDoor
