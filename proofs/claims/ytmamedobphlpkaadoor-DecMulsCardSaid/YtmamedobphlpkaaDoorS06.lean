/-
  Ref3
-/
import Derived.Test.YtmamedobphlpkaaDoorF08
import Derived.Test.YtmamedobphlpkaaDoorS02
import Derived.Test.YtmamedobphlpkaaDoorS03
import Derived.Test.YtmamedobphlpkaaDoorS05
set_option linter.unusedSimpArgs false
set_option linter.unusedVariables false

namespace Go.Proofs.YtmamedobphlpkaaDoor
open Go.RowKit

theorem rright_yes (w : World) (c s : Int) (h : May s) : Calls Tryd.prog 19 #[Dc c s] w fun e w' => e = .returned (.bool true) ∧ Below w.heap.size w w' := by
  obtain ⟨h1, h2⟩ := h
  refine d_in (args := [Dc c s]) 11 Tryd.func19 rfl rfl rfl ?_
  refine d_reg ?_
  refine h_box (cs := #[hiW c, loW c, .int .i64 s]) rfl rfl rfl rfl ?_; intro g1_1
  refine h_q hfl rfl ?_
  refine h_done (d_reg ?_)
  refine h_q hfl rfl ?_
  refine h_load 0 (v := .int .i64 s) (reads_one tyInt rfl) rfl rfl rfl rfl ?_
  refine h_cmp (cmp_geq_t (by omega)) rfl rfl rfl rfl ?_
  refine h_q hfl rfl ?_
  refine h_load 0 (v := .int .i64 s) (reads_one tyInt rfl) rfl rfl rfl rfl ?_
  refine h_cmp (cmp_leq_t (by omega)) rfl rfl rfl rfl ?_
  refine h_q hfl rfl ?_
  refine h_done (d_ret ?_)
  exact f_fin1 (.tmp rfl) (fun w h => ⟨rfl, h.up.below⟩) rfl

theorem rright_low (w : World) (c s : Int) (h : s < 0) : Calls Tryd.prog 19 #[Dc c s] w fun e w' => e = .returned (.bool false) ∧ Below w.heap.size w w' := by
  refine d_in (args := [Dc c s]) 11 Tryd.func19 rfl rfl rfl ?_
  refine d_reg ?_
  refine h_box (cs := #[hiW c, loW c, .int .i64 s]) rfl rfl rfl rfl ?_; intro g1_1
  refine h_q hfl rfl ?_
  refine h_done (d_reg ?_)
  refine h_q hfl rfl ?_
  refine h_load 0 (v := .int .i64 s) (reads_one tyInt rfl) rfl rfl rfl rfl ?_
  refine h_cmp (cmp_geq_f (by omega)) rfl rfl rfl rfl ?_
  refine h_q hfl rfl ?_
  refine h_done (d_ret ?_)
  exact f_fin1 (.tmp rfl) (fun w h => ⟨rfl, h.up.below⟩) rfl

theorem rright_high (w : World) (c s : Int) (h : 18 < s) : Calls Tryd.prog 19 #[Dc c s] w fun e w' => e = .returned (.bool false) ∧ Below w.heap.size w w' := by
  refine d_in (args := [Dc c s]) 11 Tryd.func19 rfl rfl rfl ?_
  refine d_reg ?_
  refine h_box (cs := #[hiW c, loW c, .int .i64 s]) rfl rfl rfl rfl ?_; intro g1_1
  refine h_q hfl rfl ?_
  refine h_done (d_reg ?_)
  refine h_q hfl rfl ?_
  refine h_load 0 (v := .int .i64 s) (reads_one tyInt rfl) rfl rfl rfl rfl ?_
  refine h_cmp (cmp_geq_t (by omega)) rfl rfl rfl rfl ?_
  refine h_q hfl rfl ?_
  refine h_load 0 (v := .int .i64 s) (reads_one tyInt rfl) rfl rfl rfl rfl ?_
  refine h_cmp (cmp_leq_f (by omega)) rfl rfl rfl rfl ?_
  refine h_q hfl rfl ?_
  refine h_done (d_ret ?_)
  exact f_fin1 (.tmp rfl) (fun w h => ⟨rfl, h.up.below⟩) rfl

theorem rright_no (w : World) (c s : Int) (h : ¬ May s) : Calls Tryd.prog 19 #[Dc c s] w fun e w' => e = .returned (.bool false) ∧ Below w.heap.size w w' := by
  by_cases h0 : s < 0
  · exact rright_low w c s h0
  · exact rright_high w c s (by omega)
theorem rright_any (w : World) (c s : Int) : Calls Tryd.prog 19 #[Dc c s] w fun e w' => e = .returned (.bool (decide (May s))) ∧ Below w.heap.size w w' := by
  by_cases h : May s
  · rw [decide_eq_true h]; exact rright_yes w c s h
  · rw [decide_eq_false h]; exact rright_no w c s h
theorem fits_bp {z : Int} (h : Fits z) : z.natAbs < BP 8 := by unfold Fits at h; unfold BP; omega
theorem rWide_nx (w : World) (z : Int) (hz : z.natAbs < BP 16) (hf : ¬ Fits z) : Calls Tryd.prog 36 #[BigZ z] w fun e w' => (∃ v, e = .returned v ∧ ∃ p q : Int, v = .tuple #[.agg #[.int .i64 p, .int .u64 q], .bool false]) ∧ Below w.heap.size w w' :=
  (rWide_no w z hz hf).mono fun e w' h => by
    obtain ⟨⟨p, q, he⟩, hb⟩ := h
    exact ⟨⟨_, he, p, q, rfl⟩, hb⟩

theorem rat_any (w : World) (c s t : Int) (hc : Fits c) (hs : May s) (ht : May t) : Calls Tryd.prog 35 #[Dc c s, .int .i64 t] w fun e w' => e = .returned (BigZ (roundZ c (s - t))) ∧ Below w.heap.size w w' := by
  refine d_in (args := [Dc c s, .int .i64 t]) 13 Tryd.func35 rfl rfl rfl ?_
  refine d_reg ?_
  refine h_box (cs := #[hiW c, loW c, .int .i64 s]) rfl rfl rfl rfl ?_; intro g2_1
  refine h_alloc zeBig rfl rfl ?_; intro g4_2
  refine h_done (d_seq ?_)
  refine d_par 8 2 [⟨.quiet, 0, fun _ => .pointer (some ⟨g2_1, 0, none⟩), []⟩, ⟨.quiet, 0, fun _ => .agg #[hiW c, loW c], [0]⟩, ⟨.call, 1, fun _ => BigZ c, [1]⟩, ⟨.quiet, 0, fun _ => .pointer (some ⟨g2_1, 2, none⟩), []⟩, ⟨.quiet, 0, fun _ => .int .i64 s, [3]⟩, ⟨.quiet, 0, fun _ => .int .i64 t, []⟩, ⟨.quiet, 0, fun _ => .int .i64 (s - t), [4, 5]⟩, ⟨.call, 2, fun _ => BigZ (roundZ c (s - t)), [2, 6]⟩] [(1, .int .i64 t), (2, .pointer (some ⟨g2_1, 0, none⟩)), (4, .pointer (some ⟨g4_2, 0, none⟩))] (by kernel_rfl) (by kernel_rfl) ⟨rfl, rfl, rfl, trivial⟩ ?_ ?_
  · skip
    refine o_cons (o_q hfl (fun _ _ => rfl) (fun _ _ => rfl)) ?_
    refine o_cons (o_load 1 (reads_agg (cs := [hiW c, loW c, .int .i64 s]) tyWide rfl) (fun _ _ => rfl) rfl (fun _ _ => rfl) rfl) ?_
    refine o_cons (o_call (ent_of Tryd.func41 (by kernel_rfl) rfl) (fun w hU => rof_any _ c hc) (fun _ _ => rfl) rfl (fun _ _ => rfl) (fun _ _ => rfl)) ?_
    refine o_cons (o_q hfl (fun _ _ => rfl) (fun _ _ => rfl)) ?_
    refine o_cons (o_load 1 (reads_one tyInt rfl) (fun _ _ => rfl) rfl (fun _ _ => rfl) rfl) ?_
    refine o_cons (o_q hfl (fun _ _ => rfl) (fun _ _ => rfl)) ?_
    refine o_cons (o_ar (IntWalk.i64_in _ (by omega)) (fun _ _ => rfl) rfl (fun _ _ => rfl) (fun _ _ => rfl) rfl) ?_
    refine o_cons (o_call (ent_of Tryd.func48 (by kernel_rfl) rfl) (fun w hU => round_any _ c (s - t) (fits_bp hc) (by omega)) (fun _ _ => rfl) rfl (fun _ _ => rfl) (fun _ _ => rfl)) ?_
    exact o_nil
  intro σ3 gs3
  refine WL2.keep (env' := [(4, .pointer (some ⟨g4_2, 0, none⟩)), (12, BigZ (roundZ c (s - t)))]) ⟨rfl, rfl, trivial⟩ ?_
  refine h_store 0 (v := BigZ (roundZ c (s - t))) (bigZ (roundZ c (s - t))) tyBig.2 (bigZ_size _) (by simp [zBig_size, bigZ_size]) (bigZ_one _) (over_all (c := zBig) (v := bigZ (roundZ c (s - t))) (by simp [zBig_size, bigZ_size])) rfl rfl rfl rfl rfl rfl ?_
  refine h_nil (f_to (d_ret ?_))
  exact f_fin1 (.cell 0 (v := BigZ (roundZ c (s - t))) (reads_all (tyBigC _)) rfl rfl) (fun w h => ⟨rfl, h.up.below⟩) rfl

theorem rdec_fit (w : World) (z s : Int) (hf : Fits z) : Calls Tryd.prog 37 #[BigZ z, .int .i64 s] w fun e w' => e = .returned (.tuple #[Dc z s, .int .i64 0]) ∧ Below w.heap.size w w' := by
  refine d_in (args := [BigZ z, .int .i64 s]) 19 Tryd.func37 rfl rfl rfl ?_
  refine d_reg ?_
  refine h_box (cs := bigZ z) rfl rfl rfl rfl ?_; intro g2_1
  refine h_alloc zeDec rfl rfl ?_; intro g4_2
  refine h_q hfl rfl ?_
  refine h_done (d_reg ?_)
  refine h_load 1 (v := BigZ z) (reads_all (tyBigC _)) rfl rfl rfl rfl ?_
  refine h_call (ent_of Tryd.func36 (by kernel_rfl) rfl) (fun w hH => rWide_fit _ z hf) rfl rfl rfl rfl ?_
  refine h_q hfl rfl ?_
  refine h_alloc zeWide rfl rfl ?_; intro g6_3
  refine h_store 0 (v := WV z) (#[hiW z, loW z]) tyWide.2 rfl rfl rfl rfl rfl rfl rfl rfl rfl rfl ?_
  refine h_q hfl rfl ?_
  refine h_done (d_seq (d_reg ?_))
  refine h_q hfl rfl ?_
  refine h_done (d_else rfl (d_skip (f_to (d_reg ?_))))
  refine h_load 0 (v := .agg #[hiW z, loW z]) (reads_agg (cs := [hiW z, loW z]) tyWide rfl) rfl rfl rfl rfl ?_
  refine h_q hfl rfl ?_
  refine h_build (cs := #[hiW z, loW z, .int .i64 s]) (by kernel_rfl) rfl rfl rfl ?_
  refine h_store 1 (v := .agg #[hiW z, loW z, .int .i64 s]) (#[hiW z, loW z, .int .i64 s]) tyDec.2 rfl rfl rfl rfl rfl rfl rfl rfl rfl rfl ?_
  refine h_q hfl rfl ?_
  refine h_done (d_ret ?_)
  exact f_fin2 (.cell 1 (v := .agg #[hiW z, loW z, .int .i64 s]) (reads_agg (cs := [hiW z, loW z, .int .i64 s]) tyDec rfl) rfl rfl) (.tmp rfl) (fun w h => ⟨rfl, h.up.below⟩) rfl

theorem rdec_no (w : World) (z s : Int) (hz : z.natAbs < BP 16) (hf : ¬ Fits z) : Calls Tryd.prog 37 #[BigZ z, .int .i64 s] w fun e w' => e = .returned (.tuple #[Dc 0 0, .int .i64 20]) ∧ Below w.heap.size w w' := by
  refine d_in (args := [BigZ z, .int .i64 s]) 19 Tryd.func37 rfl rfl rfl ?_
  refine d_reg ?_
  refine h_box (cs := bigZ z) rfl rfl rfl rfl ?_; intro g2_1
  refine h_alloc zeDec rfl rfl ?_; intro g4_2
  refine h_q hfl rfl ?_
  refine h_done (d_reg ?_)
  refine h_load 1 (v := BigZ z) (reads_all (tyBigC _)) rfl rfl rfl rfl ?_
  refine h_callx (ent_of Tryd.func36 (by kernel_rfl) rfl) (X := fun v => ∃ p q : Int, v = .tuple #[.agg #[.int .i64 p, .int .u64 q], .bool false]) (fun w hH => rWide_nx _ z hz hf) rfl rfl rfl rfl ?_; rintro _ ⟨p, q, rfl⟩
  refine h_q hfl rfl ?_
  refine h_alloc zeWide rfl rfl ?_; intro g6_3
  refine h_store 0 (v := .agg #[.int .i64 p, .int .u64 q]) (#[.int .i64 p, .int .u64 q]) tyWide.2 rfl rfl rfl rfl rfl rfl rfl rfl rfl rfl ?_
  refine h_q hfl rfl ?_
  refine h_done (d_seq (d_reg ?_))
  refine h_q hfl rfl ?_
  refine h_done (d_then rfl (d_reg ?_))
  refine h_build (cs := #[.int .i64 0, .int .u64 0, .int .i64 0]) (by kernel_rfl) rfl rfl rfl ?_
  refine h_store 1 (v := .agg #[.int .i64 0, .int .u64 0, .int .i64 0]) (#[.int .i64 0, .int .u64 0, .int .i64 0]) tyDec.2 rfl rfl rfl rfl rfl rfl rfl rfl rfl rfl ?_
  refine h_q hfl rfl ?_
  refine h_done (d_ret (f_then_ret ?_))
  exact f_fin2 (.cell 1 (v := .agg #[.int .i64 0, .int .u64 0, .int .i64 0]) (reads_agg (cs := [.int .i64 0, .int .u64 0, .int .i64 0]) tyDec rfl) rfl rfl) (.tmp rfl) (fun w h => ⟨rfl, h.up.below⟩) rfl

theorem rdec_any (w : World) (z s : Int) (hz : z.natAbs < BP 16) : Calls Tryd.prog 37 #[BigZ z, .int .i64 s] w fun e w' => e = .returned (decV (okP z s)) ∧ Below w.heap.size w w' := by
  rw [decV_ok]
  by_cases hf : Fits z
  · rw [rz_fit hf, rE_fit hf, show rs z s = s from if_pos hf]; exact rdec_fit w z s hf
  · rw [rz_over hf, rE_over hf, show rs z s = 0 from if_neg hf]; exact rdec_no w z s hz hf

theorem rneg_bad (w : World) (c s : Int) (hs : ¬ May s) : Calls Tryd.prog 16 #[Dc c s] w fun e w' => e = .returned (decV (erP 21)) ∧ Below w.heap.size w w' := by
  refine d_in (args := [Dc c s]) 17 Tryd.func16 rfl rfl rfl ?_
  refine d_reg ?_
  refine h_box (cs := #[hiW c, loW c, .int .i64 s]) rfl rfl rfl rfl ?_; intro g1_1
  refine h_alloc zeDec rfl rfl ?_; intro g2_2
  refine h_q hfl rfl ?_
  refine h_done (d_seq (d_reg ?_))
  refine h_load 1 (v := .agg #[hiW c, loW c, .int .i64 s]) (reads_agg (cs := [hiW c, loW c, .int .i64 s]) tyDec rfl) rfl rfl rfl rfl ?_
  refine h_call (ent_of Tryd.func19 (by kernel_rfl) rfl) (fun w hH => rright_no _ c s hs) rfl rfl rfl rfl ?_
  refine h_q hfl rfl ?_
  refine h_done (d_then rfl (d_reg ?_))
  refine h_build (cs := #[.int .i64 0, .int .u64 0, .int .i64 0]) (by kernel_rfl) rfl rfl rfl ?_
  refine h_store 0 (v := .agg #[.int .i64 0, .int .u64 0, .int .i64 0]) (#[.int .i64 0, .int .u64 0, .int .i64 0]) tyDec.2 rfl rfl rfl rfl rfl rfl rfl rfl rfl rfl ?_
  refine h_q hfl rfl ?_
  refine h_done (d_ret (f_then_ret ?_))
  exact f_fin2 (.cell 0 (v := .agg #[.int .i64 0, .int .u64 0, .int .i64 0]) (reads_agg (cs := [.int .i64 0, .int .u64 0, .int .i64 0]) tyDec rfl) rfl rfl) (.tmp rfl) (fun w h => ⟨rfl, h.up.below⟩) rfl

theorem rneg_ok (w : World) (c s : Int) (hc : Fits c) (hs : May s) : Calls Tryd.prog 16 #[Dc c s] w fun e w' => e = .returned (decV (okP (-c) s)) ∧ Below w.heap.size w w' := by
  refine d_in (args := [Dc c s]) 17 Tryd.func16 rfl rfl rfl ?_
  refine d_reg ?_
  refine h_box (cs := #[hiW c, loW c, .int .i64 s]) rfl rfl rfl rfl ?_; intro g1_1
  refine h_alloc zeDec rfl rfl ?_; intro g2_2
  refine h_q hfl rfl ?_
  refine h_done (d_seq (d_reg ?_))
  refine h_load 1 (v := .agg #[hiW c, loW c, .int .i64 s]) (reads_agg (cs := [hiW c, loW c, .int .i64 s]) tyDec rfl) rfl rfl rfl rfl ?_
  refine h_call (ent_of Tryd.func19 (by kernel_rfl) rfl) (fun w hH => rright_yes _ c s hs) rfl rfl rfl rfl ?_
  refine h_q hfl rfl ?_
  refine h_done (d_else rfl (d_skip (f_to (d_seq ?_))))
  refine d_par 9 3 [⟨.quiet, 0, fun _ => .pointer (some ⟨g1_1, 0, none⟩), []⟩, ⟨.quiet, 0, fun _ => .agg #[hiW c, loW c], [0]⟩, ⟨.call, 1, fun _ => BigZ c, [1]⟩, ⟨.call, 2, fun _ => BigZ (-c), [2]⟩, ⟨.quiet, 0, fun _ => .pointer (some ⟨g1_1, 2, none⟩), []⟩, ⟨.quiet, 0, fun _ => .int .i64 s, [4]⟩, ⟨.call, 3, fun _ => .tuple #[Dc (rz (-c)) (rs (-c) s), .int .i64 (rE (-c))], [3, 5]⟩, ⟨.quiet, 3, fun _ => Dc (rz (-c)) (rs (-c) s), [6]⟩, ⟨.quiet, 3, fun _ => .int .i64 (rE (-c)), [6]⟩] [(1, .pointer (some ⟨g1_1, 0, none⟩)), (2, .pointer (some ⟨g2_2, 0, none⟩)), (3, .int .i64 0)] (by kernel_rfl) (by kernel_rfl) ⟨rfl, rfl, rfl, trivial⟩ ?_ ?_
  · skip
    refine o_cons (o_q hfl (fun _ _ => rfl) (fun _ _ => rfl)) ?_
    refine o_cons (o_load 1 (reads_agg (cs := [hiW c, loW c, .int .i64 s]) tyWide rfl) (fun _ _ => rfl) rfl (fun _ _ => rfl) rfl) ?_
    refine o_cons (o_call (ent_of Tryd.func41 (by kernel_rfl) rfl) (fun w hU => rof_any _ c hc) (fun _ _ => rfl) rfl (fun _ _ => rfl) (fun _ _ => rfl)) ?_
    refine o_cons (o_call (ent_of Tryd.func39 (by kernel_rfl) rfl) (fun w hU => minus_any _ c (Nat.lt_trans (fits_bp hc) (by decide))) (fun _ _ => rfl) rfl (fun _ _ => rfl) (fun _ _ => rfl)) ?_
    refine o_cons (o_q hfl (fun _ _ => rfl) (fun _ _ => rfl)) ?_
    refine o_cons (o_load 1 (reads_one tyInt rfl) (fun _ _ => rfl) rfl (fun _ _ => rfl) rfl) ?_
    refine o_cons (o_call (ent_of Tryd.func37 (by kernel_rfl) rfl) (fun w hU => rdec_any _ (-c) s (by rw [Int.natAbs_neg]; exact Nat.lt_trans (fits_bp hc) (by decide))) (fun _ _ => rfl) rfl (fun _ _ => rfl) (fun _ _ => rfl)) ?_
    refine o_cons (o_q hfl (fun _ _ => rfl) (fun _ _ => rfl)) ?_
    refine o_cons (o_q hfl (fun _ _ => rfl) (fun _ _ => rfl)) ?_
    exact o_nil
  intro σ3 gs3
  refine WL2.keep (env' := [(2, .pointer (some ⟨g2_2, 0, none⟩)), (3, .int .i64 0), (15, Dc (rz (-c)) (rs (-c) s)), (16, .int .i64 (rE (-c)))]) ⟨rfl, rfl, rfl, rfl, trivial⟩ ?_
  refine h_store 0 (v := Dc (rz (-c)) (rs (-c) s)) (#[hiW (rz (-c)), loW (rz (-c)), .int .i64 (rs (-c) s)]) tyDec.2 rfl rfl rfl rfl rfl rfl rfl rfl rfl rfl ?_
  refine h_q hfl rfl ?_
  refine h_nil (f_to (d_ret ?_))
  exact f_fin2 (.cell 0 (v := .agg #[hiW (rz (-c)), loW (rz (-c)), .int .i64 (rs (-c) s)]) (reads_agg (cs := [hiW (rz (-c)), loW (rz (-c)), .int .i64 (rs (-c) s)]) tyDec rfl) rfl rfl) (.tmp rfl) (fun w h => ⟨rfl, h.up.below⟩) rfl

theorem rresc_bad1 (w : World) (c s t : Int) (hs : ¬ May s) : Calls Tryd.prog 26 #[Dc c s, .int .i64 t] w fun e w' => e = .returned (decV (erP 21)) ∧ Below w.heap.size w w' := by
  refine d_in (args := [Dc c s, .int .i64 t]) 30 Tryd.func26 rfl rfl rfl ?_
  refine d_reg ?_
  refine h_box (cs := #[hiW c, loW c, .int .i64 s]) rfl rfl rfl rfl ?_; intro g2_1
  refine h_alloc zeDec rfl rfl ?_; intro g4_2
  refine h_q hfl rfl ?_
  refine h_done (d_seq (d_reg ?_))
  refine h_load 1 (v := .agg #[hiW c, loW c, .int .i64 s]) (reads_agg (cs := [hiW c, loW c, .int .i64 s]) tyDec rfl) rfl rfl rfl rfl ?_
  refine h_call (ent_of Tryd.func19 (by kernel_rfl) rfl) (fun w hH => rright_no _ c s hs) rfl rfl rfl rfl ?_
  refine h_q hfl rfl ?_
  refine h_done (d_then rfl (d_reg ?_))
  refine h_build (cs := #[.int .i64 0, .int .u64 0, .int .i64 0]) (by kernel_rfl) rfl rfl rfl ?_
  refine h_store 0 (v := .agg #[.int .i64 0, .int .u64 0, .int .i64 0]) (#[.int .i64 0, .int .u64 0, .int .i64 0]) tyDec.2 rfl rfl rfl rfl rfl rfl rfl rfl rfl rfl ?_
  refine h_q hfl rfl ?_
  refine h_done (d_ret (f_then_ret ?_))
  exact f_fin2 (.cell 0 (v := .agg #[.int .i64 0, .int .u64 0, .int .i64 0]) (reads_agg (cs := [.int .i64 0, .int .u64 0, .int .i64 0]) tyDec rfl) rfl rfl) (.tmp rfl) (fun w h => ⟨rfl, h.up.below⟩) rfl

theorem rresc_bad2 (w : World) (c s t : Int) (hs : May s) (ht : t < 0) : Calls Tryd.prog 26 #[Dc c s, .int .i64 t] w fun e w' => e = .returned (decV (erP 21)) ∧ Below w.heap.size w w' := by
  refine d_in (args := [Dc c s, .int .i64 t]) 30 Tryd.func26 rfl rfl rfl ?_
  refine d_reg ?_
  refine h_box (cs := #[hiW c, loW c, .int .i64 s]) rfl rfl rfl rfl ?_; intro g2_1
  refine h_alloc zeDec rfl rfl ?_; intro g4_2
  refine h_q hfl rfl ?_
  refine h_done (d_seq (d_reg ?_))
  refine h_load 1 (v := .agg #[hiW c, loW c, .int .i64 s]) (reads_agg (cs := [hiW c, loW c, .int .i64 s]) tyDec rfl) rfl rfl rfl rfl ?_
  refine h_call (ent_of Tryd.func19 (by kernel_rfl) rfl) (fun w hH => rright_yes _ c s hs) rfl rfl rfl rfl ?_
  refine h_q hfl rfl ?_
  refine h_cmp (cmp_lss_t (by omega)) rfl rfl rfl rfl ?_
  refine h_q hfl rfl ?_
  refine h_done (d_then rfl (d_reg ?_))
  refine h_build (cs := #[.int .i64 0, .int .u64 0, .int .i64 0]) (by kernel_rfl) rfl rfl rfl ?_
  refine h_store 0 (v := .agg #[.int .i64 0, .int .u64 0, .int .i64 0]) (#[.int .i64 0, .int .u64 0, .int .i64 0]) tyDec.2 rfl rfl rfl rfl rfl rfl rfl rfl rfl rfl ?_
  refine h_q hfl rfl ?_
  refine h_done (d_ret (f_then_ret ?_))
  exact f_fin2 (.cell 0 (v := .agg #[.int .i64 0, .int .u64 0, .int .i64 0]) (reads_agg (cs := [.int .i64 0, .int .u64 0, .int .i64 0]) tyDec rfl) rfl rfl) (.tmp rfl) (fun w h => ⟨rfl, h.up.below⟩) rfl

theorem rresc_bad3 (w : World) (c s t : Int) (hs : May s) (ht : t > 18) : Calls Tryd.prog 26 #[Dc c s, .int .i64 t] w fun e w' => e = .returned (decV (erP 21)) ∧ Below w.heap.size w w' := by
  refine d_in (args := [Dc c s, .int .i64 t]) 30 Tryd.func26 rfl rfl rfl ?_
  refine d_reg ?_
  refine h_box (cs := #[hiW c, loW c, .int .i64 s]) rfl rfl rfl rfl ?_; intro g2_1
  refine h_alloc zeDec rfl rfl ?_; intro g4_2
  refine h_q hfl rfl ?_
  refine h_done (d_seq (d_reg ?_))
  refine h_load 1 (v := .agg #[hiW c, loW c, .int .i64 s]) (reads_agg (cs := [hiW c, loW c, .int .i64 s]) tyDec rfl) rfl rfl rfl rfl ?_
  refine h_call (ent_of Tryd.func19 (by kernel_rfl) rfl) (fun w hH => rright_yes _ c s hs) rfl rfl rfl rfl ?_
  refine h_q hfl rfl ?_
  refine h_cmp (cmp_lss_f (by omega)) rfl rfl rfl rfl ?_
  refine h_q hfl rfl ?_
  refine h_cmp (cmp_gtr_t (by omega)) rfl rfl rfl rfl ?_
  refine h_q hfl rfl ?_
  refine h_done (d_then rfl (d_reg ?_))
  refine h_build (cs := #[.int .i64 0, .int .u64 0, .int .i64 0]) (by kernel_rfl) rfl rfl rfl ?_
  refine h_store 0 (v := .agg #[.int .i64 0, .int .u64 0, .int .i64 0]) (#[.int .i64 0, .int .u64 0, .int .i64 0]) tyDec.2 rfl rfl rfl rfl rfl rfl rfl rfl rfl rfl ?_
  refine h_q hfl rfl ?_
  refine h_done (d_ret (f_then_ret ?_))
  exact f_fin2 (.cell 0 (v := .agg #[.int .i64 0, .int .u64 0, .int .i64 0]) (reads_agg (cs := [.int .i64 0, .int .u64 0, .int .i64 0]) tyDec rfl) rfl rfl) (.tmp rfl) (fun w h => ⟨rfl, h.up.below⟩) rfl

theorem rresc_ok (w : World) (c s t : Int) (hc : Fits c) (hs : May s) (ht : May t) : Calls Tryd.prog 26 #[Dc c s, .int .i64 t] w fun e w' => e = .returned (decV (okP (roundZ c (s - t)) t)) ∧ Below w.heap.size w w' := by
  refine d_in (args := [Dc c s, .int .i64 t]) 30 Tryd.func26 rfl rfl rfl ?_
  refine d_reg ?_
  refine h_box (cs := #[hiW c, loW c, .int .i64 s]) rfl rfl rfl rfl ?_; intro g2_1
  refine h_alloc zeDec rfl rfl ?_; intro g4_2
  refine h_q hfl rfl ?_
  refine h_done (d_seq (d_reg ?_))
  refine h_load 1 (v := .agg #[hiW c, loW c, .int .i64 s]) (reads_agg (cs := [hiW c, loW c, .int .i64 s]) tyDec rfl) rfl rfl rfl rfl ?_
  refine h_call (ent_of Tryd.func19 (by kernel_rfl) rfl) (fun w hH => rright_yes _ c s hs) rfl rfl rfl rfl ?_
  refine h_q hfl rfl ?_
  refine h_cmp (cmp_lss_f (by omega)) rfl rfl rfl rfl ?_
  refine h_q hfl rfl ?_
  refine h_cmp (cmp_gtr_f (by omega)) rfl rfl rfl rfl ?_
  refine h_q hfl rfl ?_
  refine h_done (d_else rfl (d_skip (f_to (d_seq ?_))))
  refine d_par 12 3 [⟨.quiet, 0, fun _ => .pointer (some ⟨g2_1, 0, none⟩), []⟩, ⟨.quiet, 0, fun _ => .agg #[hiW c, loW c], [0]⟩, ⟨.call, 1, fun _ => BigZ c, [1]⟩, ⟨.quiet, 0, fun _ => .pointer (some ⟨g2_1, 2, none⟩), []⟩, ⟨.quiet, 0, fun _ => .int .i64 s, [3]⟩, ⟨.quiet, 0, fun _ => .int .i64 t, []⟩, ⟨.quiet, 0, fun _ => .int .i64 (s - t), [4, 5]⟩, ⟨.call, 2, fun _ => BigZ (roundZ c (s - t)), [2, 6]⟩, ⟨.quiet, 0, fun _ => .int .i64 t, []⟩, ⟨.call, 3, fun _ => .tuple #[Dc (rz (roundZ c (s - t))) (rs (roundZ c (s - t)) t), .int .i64 (rE (roundZ c (s - t)))], [7, 8]⟩, ⟨.quiet, 3, fun _ => Dc (rz (roundZ c (s - t))) (rs (roundZ c (s - t)) t), [9]⟩, ⟨.quiet, 3, fun _ => .int .i64 (rE (roundZ c (s - t))), [9]⟩] [(1, .int .i64 t), (2, .pointer (some ⟨g2_1, 0, none⟩)), (4, .pointer (some ⟨g4_2, 0, none⟩)), (5, .int .i64 0)] (by kernel_rfl) (by kernel_rfl) ⟨rfl, rfl, rfl, rfl, trivial⟩ ?_ ?_
  · skip
    refine o_cons (o_q hfl (fun _ _ => rfl) (fun _ _ => rfl)) ?_
    refine o_cons (o_load 1 (reads_agg (cs := [hiW c, loW c, .int .i64 s]) tyWide rfl) (fun _ _ => rfl) rfl (fun _ _ => rfl) rfl) ?_
    refine o_cons (o_call (ent_of Tryd.func41 (by kernel_rfl) rfl) (fun w hU => rof_any _ c hc) (fun _ _ => rfl) rfl (fun _ _ => rfl) (fun _ _ => rfl)) ?_
    refine o_cons (o_q hfl (fun _ _ => rfl) (fun _ _ => rfl)) ?_
    refine o_cons (o_load 1 (reads_one tyInt rfl) (fun _ _ => rfl) rfl (fun _ _ => rfl) rfl) ?_
    refine o_cons (o_q hfl (fun _ _ => rfl) (fun _ _ => rfl)) ?_
    refine o_cons (o_ar (IntWalk.i64_in _ (by omega)) (fun _ _ => rfl) rfl (fun _ _ => rfl) (fun _ _ => rfl) rfl) ?_
    refine o_cons (o_call (ent_of Tryd.func48 (by kernel_rfl) rfl) (fun w hU => round_any _ c (s - t) (fits_bp hc) (by omega)) (fun _ _ => rfl) rfl (fun _ _ => rfl) (fun _ _ => rfl)) ?_
    refine o_cons (o_q hfl (fun _ _ => rfl) (fun _ _ => rfl)) ?_
    refine o_cons (o_call (ent_of Tryd.func37 (by kernel_rfl) rfl) (fun w hU => rdec_any _ (roundZ c (s - t)) t (roundZ_small (fits_bp hc) (by omega))) (fun _ _ => rfl) rfl (fun _ _ => rfl) (fun _ _ => rfl)) ?_
    refine o_cons (o_q hfl (fun _ _ => rfl) (fun _ _ => rfl)) ?_
    refine o_cons (o_q hfl (fun _ _ => rfl) (fun _ _ => rfl)) ?_
    exact o_nil
  intro σ3 gs3
  refine WL2.keep (env' := [(4, .pointer (some ⟨g4_2, 0, none⟩)), (5, .int .i64 0), (28, Dc (rz (roundZ c (s - t))) (rs (roundZ c (s - t)) t)), (29, .int .i64 (rE (roundZ c (s - t))))]) ⟨rfl, rfl, rfl, rfl, trivial⟩ ?_
  refine h_store 0 (v := Dc (rz (roundZ c (s - t))) (rs (roundZ c (s - t)) t)) (#[hiW (rz (roundZ c (s - t))), loW (rz (roundZ c (s - t))), .int .i64 (rs (roundZ c (s - t)) t)]) tyDec.2 rfl rfl rfl rfl rfl rfl rfl rfl rfl rfl ?_
  refine h_q hfl rfl ?_
  refine h_nil (f_to (d_ret ?_))
  exact f_fin2 (.cell 0 (v := .agg #[hiW (rz (roundZ c (s - t))), loW (rz (roundZ c (s - t))), .int .i64 (rs (roundZ c (s - t)) t)]) (reads_agg (cs := [hiW (rz (roundZ c (s - t))), loW (rz (roundZ c (s - t))), .int .i64 (rs (roundZ c (s - t)) t)]) tyDec rfl) rfl rfl) (.tmp rfl) (fun w h => ⟨rfl, h.up.below⟩) rfl

theorem rmul_bad1 (w : World) (c s d t u : Int) (hs : ¬ May s) : Calls Tryd.prog 24 #[Dc c s, Dc d t, .int .i64 u] w fun e w' => e = .returned (decV (erP 21)) ∧ Below w.heap.size w w' := by
  refine d_in (args := [Dc c s, Dc d t, .int .i64 u]) 44 Tryd.func24 rfl rfl rfl ?_
  refine d_reg ?_
  refine h_box (cs := #[hiW c, loW c, .int .i64 s]) rfl rfl rfl rfl ?_; intro g3_1
  refine h_box (cs := #[hiW d, loW d, .int .i64 t]) rfl rfl rfl rfl ?_; intro g4_2
  refine h_alloc zeDec rfl rfl ?_; intro g6_3
  refine h_q hfl rfl ?_
  refine h_done (d_seq (d_reg ?_))
  refine h_load 2 (v := .agg #[hiW c, loW c, .int .i64 s]) (reads_agg (cs := [hiW c, loW c, .int .i64 s]) tyDec rfl) rfl rfl rfl rfl ?_
  refine h_call (ent_of Tryd.func19 (by kernel_rfl) rfl) (fun w hH => rright_no _ c s hs) rfl rfl rfl rfl ?_
  refine h_q hfl rfl ?_
  refine h_done (d_then rfl (d_reg ?_))
  refine h_build (cs := #[.int .i64 0, .int .u64 0, .int .i64 0]) (by kernel_rfl) rfl rfl rfl ?_
  refine h_store 0 (v := .agg #[.int .i64 0, .int .u64 0, .int .i64 0]) (#[.int .i64 0, .int .u64 0, .int .i64 0]) tyDec.2 rfl rfl rfl rfl rfl rfl rfl rfl rfl rfl ?_
  refine h_q hfl rfl ?_
  refine h_done (d_ret (f_then_ret ?_))
  exact f_fin2 (.cell 0 (v := .agg #[.int .i64 0, .int .u64 0, .int .i64 0]) (reads_agg (cs := [.int .i64 0, .int .u64 0, .int .i64 0]) tyDec rfl) rfl rfl) (.tmp rfl) (fun w h => ⟨rfl, h.up.below⟩) rfl

theorem rmul_bad2 (w : World) (c s d t u : Int) (hs : May s) (ht : ¬ May t) : Calls Tryd.prog 24 #[Dc c s, Dc d t, .int .i64 u] w fun e w' => e = .returned (decV (erP 21)) ∧ Below w.heap.size w w' := by
  refine d_in (args := [Dc c s, Dc d t, .int .i64 u]) 44 Tryd.func24 rfl rfl rfl ?_
  refine d_reg ?_
  refine h_box (cs := #[hiW c, loW c, .int .i64 s]) rfl rfl rfl rfl ?_; intro g3_1
  refine h_box (cs := #[hiW d, loW d, .int .i64 t]) rfl rfl rfl rfl ?_; intro g4_2
  refine h_alloc zeDec rfl rfl ?_; intro g6_3
  refine h_q hfl rfl ?_
  refine h_done (d_seq (d_reg ?_))
  refine h_load 2 (v := .agg #[hiW c, loW c, .int .i64 s]) (reads_agg (cs := [hiW c, loW c, .int .i64 s]) tyDec rfl) rfl rfl rfl rfl ?_
  refine h_call (ent_of Tryd.func19 (by kernel_rfl) rfl) (fun w hH => rright_yes _ c s hs) rfl rfl rfl rfl ?_
  refine h_q hfl rfl ?_
  refine h_load 1 (v := .agg #[hiW d, loW d, .int .i64 t]) (reads_agg (cs := [hiW d, loW d, .int .i64 t]) tyDec rfl) rfl rfl rfl rfl ?_
  refine h_call (ent_of Tryd.func19 (by kernel_rfl) rfl) (fun w hH => rright_no _ d t ht) rfl rfl rfl rfl ?_
  refine h_q hfl rfl ?_
  refine h_done (d_then rfl (d_reg ?_))
  refine h_build (cs := #[.int .i64 0, .int .u64 0, .int .i64 0]) (by kernel_rfl) rfl rfl rfl ?_
  refine h_store 0 (v := .agg #[.int .i64 0, .int .u64 0, .int .i64 0]) (#[.int .i64 0, .int .u64 0, .int .i64 0]) tyDec.2 rfl rfl rfl rfl rfl rfl rfl rfl rfl rfl ?_
  refine h_q hfl rfl ?_
  refine h_done (d_ret (f_then_ret ?_))
  exact f_fin2 (.cell 0 (v := .agg #[.int .i64 0, .int .u64 0, .int .i64 0]) (reads_agg (cs := [.int .i64 0, .int .u64 0, .int .i64 0]) tyDec rfl) rfl rfl) (.tmp rfl) (fun w h => ⟨rfl, h.up.below⟩) rfl

theorem rmul_bad3 (w : World) (c s d t u : Int) (hs : May s) (ht : May t) (hu : u < 0) : Calls Tryd.prog 24 #[Dc c s, Dc d t, .int .i64 u] w fun e w' => e = .returned (decV (erP 21)) ∧ Below w.heap.size w w' := by
  refine d_in (args := [Dc c s, Dc d t, .int .i64 u]) 44 Tryd.func24 rfl rfl rfl ?_
  refine d_reg ?_
  refine h_box (cs := #[hiW c, loW c, .int .i64 s]) rfl rfl rfl rfl ?_; intro g3_1
  refine h_box (cs := #[hiW d, loW d, .int .i64 t]) rfl rfl rfl rfl ?_; intro g4_2
  refine h_alloc zeDec rfl rfl ?_; intro g6_3
  refine h_q hfl rfl ?_
  refine h_done (d_seq (d_reg ?_))
  refine h_load 2 (v := .agg #[hiW c, loW c, .int .i64 s]) (reads_agg (cs := [hiW c, loW c, .int .i64 s]) tyDec rfl) rfl rfl rfl rfl ?_
  refine h_call (ent_of Tryd.func19 (by kernel_rfl) rfl) (fun w hH => rright_yes _ c s hs) rfl rfl rfl rfl ?_
  refine h_q hfl rfl ?_
  refine h_load 1 (v := .agg #[hiW d, loW d, .int .i64 t]) (reads_agg (cs := [hiW d, loW d, .int .i64 t]) tyDec rfl) rfl rfl rfl rfl ?_
  refine h_call (ent_of Tryd.func19 (by kernel_rfl) rfl) (fun w hH => rright_yes _ d t ht) rfl rfl rfl rfl ?_
  refine h_q hfl rfl ?_
  refine h_cmp (cmp_lss_t (by omega)) rfl rfl rfl rfl ?_
  refine h_q hfl rfl ?_
  refine h_done (d_then rfl (d_reg ?_))
  refine h_build (cs := #[.int .i64 0, .int .u64 0, .int .i64 0]) (by kernel_rfl) rfl rfl rfl ?_
  refine h_store 0 (v := .agg #[.int .i64 0, .int .u64 0, .int .i64 0]) (#[.int .i64 0, .int .u64 0, .int .i64 0]) tyDec.2 rfl rfl rfl rfl rfl rfl rfl rfl rfl rfl ?_
  refine h_q hfl rfl ?_
  refine h_done (d_ret (f_then_ret ?_))
  exact f_fin2 (.cell 0 (v := .agg #[.int .i64 0, .int .u64 0, .int .i64 0]) (reads_agg (cs := [.int .i64 0, .int .u64 0, .int .i64 0]) tyDec rfl) rfl rfl) (.tmp rfl) (fun w h => ⟨rfl, h.up.below⟩) rfl

theorem rmul_bad4 (w : World) (c s d t u : Int) (hs : May s) (ht : May t) (hu : u > 18) : Calls Tryd.prog 24 #[Dc c s, Dc d t, .int .i64 u] w fun e w' => e = .returned (decV (erP 21)) ∧ Below w.heap.size w w' := by
  refine d_in (args := [Dc c s, Dc d t, .int .i64 u]) 44 Tryd.func24 rfl rfl rfl ?_
  refine d_reg ?_
  refine h_box (cs := #[hiW c, loW c, .int .i64 s]) rfl rfl rfl rfl ?_; intro g3_1
  refine h_box (cs := #[hiW d, loW d, .int .i64 t]) rfl rfl rfl rfl ?_; intro g4_2
  refine h_alloc zeDec rfl rfl ?_; intro g6_3
  refine h_q hfl rfl ?_
  refine h_done (d_seq (d_reg ?_))
  refine h_load 2 (v := .agg #[hiW c, loW c, .int .i64 s]) (reads_agg (cs := [hiW c, loW c, .int .i64 s]) tyDec rfl) rfl rfl rfl rfl ?_
  refine h_call (ent_of Tryd.func19 (by kernel_rfl) rfl) (fun w hH => rright_yes _ c s hs) rfl rfl rfl rfl ?_
  refine h_q hfl rfl ?_
  refine h_load 1 (v := .agg #[hiW d, loW d, .int .i64 t]) (reads_agg (cs := [hiW d, loW d, .int .i64 t]) tyDec rfl) rfl rfl rfl rfl ?_
  refine h_call (ent_of Tryd.func19 (by kernel_rfl) rfl) (fun w hH => rright_yes _ d t ht) rfl rfl rfl rfl ?_
  refine h_q hfl rfl ?_
  refine h_cmp (cmp_lss_f (by omega)) rfl rfl rfl rfl ?_
  refine h_q hfl rfl ?_
  refine h_cmp (cmp_gtr_t (by omega)) rfl rfl rfl rfl ?_
  refine h_q hfl rfl ?_
  refine h_done (d_then rfl (d_reg ?_))
  refine h_build (cs := #[.int .i64 0, .int .u64 0, .int .i64 0]) (by kernel_rfl) rfl rfl rfl ?_
  refine h_store 0 (v := .agg #[.int .i64 0, .int .u64 0, .int .i64 0]) (#[.int .i64 0, .int .u64 0, .int .i64 0]) tyDec.2 rfl rfl rfl rfl rfl rfl rfl rfl rfl rfl ?_
  refine h_q hfl rfl ?_
  refine h_done (d_ret (f_then_ret ?_))
  exact f_fin2 (.cell 0 (v := .agg #[.int .i64 0, .int .u64 0, .int .i64 0]) (reads_agg (cs := [.int .i64 0, .int .u64 0, .int .i64 0]) tyDec rfl) rfl rfl) (.tmp rfl) (fun w h => ⟨rfl, h.up.below⟩) rfl

theorem prod_bp {x y : Int} (hx : Fits x) (hy : Fits y) : (x * y).natAbs < BP 8 := by
  rw [Int.natAbs_mul]
  have h1 : x.natAbs ≤ 170141183460469231731687303715884105728 := by unfold Fits at hx; omega
  have h2 : y.natAbs ≤ 170141183460469231731687303715884105728 := by unfold Fits at hy; omega
  exact Nat.lt_of_le_of_lt (Nat.mul_le_mul h1 h2) (by decide)

theorem rmul_ok (w : World) (c s d t u : Int) (hc : Fits c) (hd : Fits d) (hs : May s) (ht : May t) (hu : May u) : Calls Tryd.prog 24 #[Dc c s, Dc d t, .int .i64 u] w fun e w' => e = .returned (decV (okP (roundZ (c * d) (s + t - u)) u)) ∧ Below w.heap.size w w' := by
  refine d_in (args := [Dc c s, Dc d t, .int .i64 u]) 44 Tryd.func24 rfl rfl rfl ?_
  refine d_reg ?_
  refine h_box (cs := #[hiW c, loW c, .int .i64 s]) rfl rfl rfl rfl ?_; intro g3_1
  refine h_box (cs := #[hiW d, loW d, .int .i64 t]) rfl rfl rfl rfl ?_; intro g4_2
  refine h_alloc zeDec rfl rfl ?_; intro g6_3
  refine h_q hfl rfl ?_
  refine h_done (d_seq (d_reg ?_))
  refine h_load 2 (v := .agg #[hiW c, loW c, .int .i64 s]) (reads_agg (cs := [hiW c, loW c, .int .i64 s]) tyDec rfl) rfl rfl rfl rfl ?_
  refine h_call (ent_of Tryd.func19 (by kernel_rfl) rfl) (fun w hH => rright_yes _ c s hs) rfl rfl rfl rfl ?_
  refine h_q hfl rfl ?_
  refine h_load 1 (v := .agg #[hiW d, loW d, .int .i64 t]) (reads_agg (cs := [hiW d, loW d, .int .i64 t]) tyDec rfl) rfl rfl rfl rfl ?_
  refine h_call (ent_of Tryd.func19 (by kernel_rfl) rfl) (fun w hH => rright_yes _ d t ht) rfl rfl rfl rfl ?_
  refine h_q hfl rfl ?_
  refine h_cmp (cmp_lss_f (by omega)) rfl rfl rfl rfl ?_
  refine h_q hfl rfl ?_
  refine h_cmp (cmp_gtr_f (by omega)) rfl rfl rfl rfl ?_
  refine h_q hfl rfl ?_
  refine h_done (d_else rfl (d_skip (f_to (d_seq ?_))))
  refine d_par 19 5 [⟨.quiet, 0, fun _ => .pointer (some ⟨g3_1, 0, none⟩), []⟩, ⟨.quiet, 0, fun _ => .agg #[hiW c, loW c], [0]⟩, ⟨.call, 1, fun _ => BigZ c, [1]⟩, ⟨.quiet, 0, fun _ => .pointer (some ⟨g4_2, 0, none⟩), []⟩, ⟨.quiet, 0, fun _ => .agg #[hiW d, loW d], [3]⟩, ⟨.call, 2, fun _ => BigZ d, [4]⟩, ⟨.call, 3, fun _ => BigZ (c * d), [2, 5]⟩, ⟨.quiet, 0, fun _ => .pointer (some ⟨g3_1, 2, none⟩), []⟩, ⟨.quiet, 0, fun _ => .int .i64 s, [7]⟩, ⟨.quiet, 0, fun _ => .pointer (some ⟨g4_2, 2, none⟩), []⟩, ⟨.quiet, 0, fun _ => .int .i64 t, [9]⟩, ⟨.quiet, 0, fun _ => .int .i64 (s + t), [8, 10]⟩, ⟨.quiet, 0, fun _ => .int .i64 u, []⟩, ⟨.quiet, 0, fun _ => .int .i64 ((s + t) - u), [11, 12]⟩, ⟨.call, 4, fun _ => BigZ (roundZ (c * d) (s + t - u)), [6, 13]⟩, ⟨.quiet, 0, fun _ => .int .i64 u, []⟩, ⟨.call, 5, fun _ => .tuple #[Dc (rz (roundZ (c * d) (s + t - u))) (rs (roundZ (c * d) (s + t - u)) u), .int .i64 (rE (roundZ (c * d) (s + t - u)))], [14, 15]⟩, ⟨.quiet, 5, fun _ => Dc (rz (roundZ (c * d) (s + t - u))) (rs (roundZ (c * d) (s + t - u)) u), [16]⟩, ⟨.quiet, 5, fun _ => .int .i64 (rE (roundZ (c * d) (s + t - u))), [16]⟩] [(2, .int .i64 u), (3, .pointer (some ⟨g3_1, 0, none⟩)), (4, .pointer (some ⟨g4_2, 0, none⟩)), (6, .pointer (some ⟨g6_3, 0, none⟩)), (7, .int .i64 0)] (by kernel_rfl) (by kernel_rfl) ⟨rfl, rfl, rfl, rfl, rfl, trivial⟩ ?_ ?_
  · skip
    refine o_cons (o_q hfl (fun _ _ => rfl) (fun _ _ => rfl)) ?_
    refine o_cons (o_load 2 (reads_agg (cs := [hiW c, loW c, .int .i64 s]) tyWide rfl) (fun _ _ => rfl) rfl (fun _ _ => rfl) rfl) ?_
    refine o_cons (o_call (ent_of Tryd.func41 (by kernel_rfl) rfl) (fun w hU => rof_any _ c hc) (fun _ _ => rfl) rfl (fun _ _ => rfl) (fun _ _ => rfl)) ?_
    refine o_cons (o_q hfl (fun _ _ => rfl) (fun _ _ => rfl)) ?_
    refine o_cons (o_load 1 (reads_agg (cs := [hiW d, loW d, .int .i64 t]) tyWide rfl) (fun _ _ => rfl) rfl (fun _ _ => rfl) rfl) ?_
    refine o_cons (o_call (ent_of Tryd.func41 (by kernel_rfl) rfl) (fun w hU => rof_any _ d hd) (fun _ _ => rfl) rfl (fun _ _ => rfl) (fun _ _ => rfl)) ?_
    refine o_cons (o_call (ent_of Tryd.func49 (by kernel_rfl) rfl) (fun w hU => rtimes_any _ c d (fits_bp hc) (by unfold Fits at hd; unfold BP; omega)) (fun _ _ => rfl) rfl (fun _ _ => rfl) (fun _ _ => rfl)) ?_
    refine o_cons (o_q hfl (fun _ _ => rfl) (fun _ _ => rfl)) ?_
    refine o_cons (o_load 2 (reads_one tyInt rfl) (fun _ _ => rfl) rfl (fun _ _ => rfl) rfl) ?_
    refine o_cons (o_q hfl (fun _ _ => rfl) (fun _ _ => rfl)) ?_
    refine o_cons (o_load 1 (reads_one tyInt rfl) (fun _ _ => rfl) rfl (fun _ _ => rfl) rfl) ?_
    refine o_cons (o_ar (IntWalk.i64_in _ (by omega)) (fun _ _ => rfl) rfl (fun _ _ => rfl) (fun _ _ => rfl) rfl) ?_
    refine o_cons (o_q hfl (fun _ _ => rfl) (fun _ _ => rfl)) ?_
    refine o_cons (o_ar (IntWalk.i64_in _ (by omega)) (fun _ _ => rfl) rfl (fun _ _ => rfl) (fun _ _ => rfl) rfl) ?_
    refine o_cons (o_call (ent_of Tryd.func48 (by kernel_rfl) rfl) (fun w hU => round_any _ (c * d) (s + t - u) (prod_bp hc hd) (by omega)) (fun _ _ => rfl) rfl (fun _ _ => rfl) (fun _ _ => rfl)) ?_
    refine o_cons (o_q hfl (fun _ _ => rfl) (fun _ _ => rfl)) ?_
    refine o_cons (o_call (ent_of Tryd.func37 (by kernel_rfl) rfl) (fun w hU => rdec_any _ (roundZ (c * d) (s + t - u)) u (roundZ_small (prod_bp hc hd) (by omega))) (fun _ _ => rfl) rfl (fun _ _ => rfl) (fun _ _ => rfl)) ?_
    refine o_cons (o_q hfl (fun _ _ => rfl) (fun _ _ => rfl)) ?_
    refine o_cons (o_q hfl (fun _ _ => rfl) (fun _ _ => rfl)) ?_
    exact o_nil
  intro σ4 gs4
  refine WL2.keep (env' := [(6, .pointer (some ⟨g6_3, 0, none⟩)), (7, .int .i64 0), (42, Dc (rz (roundZ (c * d) (s + t - u))) (rs (roundZ (c * d) (s + t - u)) u)), (43, .int .i64 (rE (roundZ (c * d) (s + t - u))))]) ⟨rfl, rfl, rfl, rfl, trivial⟩ ?_
  refine h_store 0 (v := Dc (rz (roundZ (c * d) (s + t - u))) (rs (roundZ (c * d) (s + t - u)) u)) (#[hiW (rz (roundZ (c * d) (s + t - u))), loW (rz (roundZ (c * d) (s + t - u))), .int .i64 (rs (roundZ (c * d) (s + t - u)) u)]) tyDec.2 rfl rfl rfl rfl rfl rfl rfl rfl rfl rfl ?_
  refine h_q hfl rfl ?_
  refine h_nil (f_to (d_ret ?_))
  exact f_fin2 (.cell 0 (v := .agg #[hiW (rz (roundZ (c * d) (s + t - u))), loW (rz (roundZ (c * d) (s + t - u))), .int .i64 (rs (roundZ (c * d) (s + t - u)) u)]) (reads_agg (cs := [hiW (rz (roundZ (c * d) (s + t - u))), loW (rz (roundZ (c * d) (s + t - u))), .int .i64 (rs (roundZ (c * d) (s + t - u)) u)]) tyDec rfl) rfl rfl) (.tmp rfl) (fun w h => ⟨rfl, h.up.below⟩) rfl

/-- a number at a greater scale has its place among the reference's -/
theorem at_bp {c k : Int} (hc : Fits c) (hk : -18 ≤ k ∧ k ≤ 0) : (roundZ c k).natAbs < BP 7 := by
  unfold roundZ
  rw [if_pos hk.2, Int.natAbs_mul, Int.natAbs_natCast]
  have h1 : c.natAbs ≤ 170141183460469231731687303715884105728 := by unfold Fits at hc; omega
  have h2 : 10 ^ (-k).toNat ≤ 10 ^ 18 := Nat.pow_le_pow_right (by decide) (by omega)
  exact Nat.lt_of_le_of_lt (Nat.mul_le_mul h1 h2) (by decide)

theorem radd_bad1 (w : World) (c s d t : Int) (hs : ¬ May s) : Calls Tryd.prog 12 #[Dc c s, Dc d t] w fun e w' => e = .returned (decV (erP 21)) ∧ Below w.heap.size w w' := by
  refine d_in (args := [Dc c s, Dc d t]) 57 Tryd.func12 rfl rfl rfl ?_
  refine d_reg ?_
  refine h_box (cs := #[hiW c, loW c, .int .i64 s]) rfl rfl rfl rfl ?_; intro g2_1
  refine h_box (cs := #[hiW d, loW d, .int .i64 t]) rfl rfl rfl rfl ?_; intro g3_2
  refine h_alloc zeDec rfl rfl ?_; intro g4_3
  refine h_q hfl rfl ?_
  refine h_done (d_seq (d_reg ?_))
  refine h_load 2 (v := .agg #[hiW c, loW c, .int .i64 s]) (reads_agg (cs := [hiW c, loW c, .int .i64 s]) tyDec rfl) rfl rfl rfl rfl ?_
  refine h_call (ent_of Tryd.func19 (by kernel_rfl) rfl) (fun w hH => rright_no _ c s hs) rfl rfl rfl rfl ?_
  refine h_q hfl rfl ?_
  refine h_done (d_then rfl (d_reg ?_))
  refine h_build (cs := #[.int .i64 0, .int .u64 0, .int .i64 0]) (by kernel_rfl) rfl rfl rfl ?_
  refine h_store 0 (v := .agg #[.int .i64 0, .int .u64 0, .int .i64 0]) (#[.int .i64 0, .int .u64 0, .int .i64 0]) tyDec.2 rfl rfl rfl rfl rfl rfl rfl rfl rfl rfl ?_
  refine h_q hfl rfl ?_
  refine h_done (d_ret (f_then_ret ?_))
  exact f_fin2 (.cell 0 (v := .agg #[.int .i64 0, .int .u64 0, .int .i64 0]) (reads_agg (cs := [.int .i64 0, .int .u64 0, .int .i64 0]) tyDec rfl) rfl rfl) (.tmp rfl) (fun w h => ⟨rfl, h.up.below⟩) rfl

theorem radd_bad2 (w : World) (c s d t : Int) (hs : May s) (ht : ¬ May t) : Calls Tryd.prog 12 #[Dc c s, Dc d t] w fun e w' => e = .returned (decV (erP 21)) ∧ Below w.heap.size w w' := by
  refine d_in (args := [Dc c s, Dc d t]) 57 Tryd.func12 rfl rfl rfl ?_
  refine d_reg ?_
  refine h_box (cs := #[hiW c, loW c, .int .i64 s]) rfl rfl rfl rfl ?_; intro g2_1
  refine h_box (cs := #[hiW d, loW d, .int .i64 t]) rfl rfl rfl rfl ?_; intro g3_2
  refine h_alloc zeDec rfl rfl ?_; intro g4_3
  refine h_q hfl rfl ?_
  refine h_done (d_seq (d_reg ?_))
  refine h_load 2 (v := .agg #[hiW c, loW c, .int .i64 s]) (reads_agg (cs := [hiW c, loW c, .int .i64 s]) tyDec rfl) rfl rfl rfl rfl ?_
  refine h_call (ent_of Tryd.func19 (by kernel_rfl) rfl) (fun w hH => rright_yes _ c s hs) rfl rfl rfl rfl ?_
  refine h_q hfl rfl ?_
  refine h_load 1 (v := .agg #[hiW d, loW d, .int .i64 t]) (reads_agg (cs := [hiW d, loW d, .int .i64 t]) tyDec rfl) rfl rfl rfl rfl ?_
  refine h_call (ent_of Tryd.func19 (by kernel_rfl) rfl) (fun w hH => rright_no _ d t ht) rfl rfl rfl rfl ?_
  refine h_q hfl rfl ?_
  refine h_done (d_then rfl (d_reg ?_))
  refine h_build (cs := #[.int .i64 0, .int .u64 0, .int .i64 0]) (by kernel_rfl) rfl rfl rfl ?_
  refine h_store 0 (v := .agg #[.int .i64 0, .int .u64 0, .int .i64 0]) (#[.int .i64 0, .int .u64 0, .int .i64 0]) tyDec.2 rfl rfl rfl rfl rfl rfl rfl rfl rfl rfl ?_
  refine h_q hfl rfl ?_
  refine h_done (d_ret (f_then_ret ?_))
  exact f_fin2 (.cell 0 (v := .agg #[.int .i64 0, .int .u64 0, .int .i64 0]) (reads_agg (cs := [.int .i64 0, .int .u64 0, .int .i64 0]) tyDec rfl) rfl rfl) (.tmp rfl) (fun w h => ⟨rfl, h.up.below⟩) rfl

theorem radd_le_o1 (w : World) (c s d t : Int) (hc : Fits c) (hd : Fits d) (hs : May s) (ht : May t) (hm : s ≤ t) (h1 : ¬ Fits (roundZ c (s - t))) (h2 : ¬ Fits (roundZ d (t - t))) : Calls Tryd.prog 12 #[Dc c s, Dc d t] w fun e w' => e = .returned (decV (erP 20)) ∧ Below w.heap.size w w' := by
  refine d_in (args := [Dc c s, Dc d t]) 57 Tryd.func12 rfl rfl rfl ?_
  refine d_reg ?_
  refine h_box (cs := #[hiW c, loW c, .int .i64 s]) rfl rfl rfl rfl ?_; intro g2_1
  refine h_box (cs := #[hiW d, loW d, .int .i64 t]) rfl rfl rfl rfl ?_; intro g3_2
  refine h_alloc zeDec rfl rfl ?_; intro g4_3
  refine h_q hfl rfl ?_
  refine h_done (d_seq (d_reg ?_))
  refine h_load 2 (v := .agg #[hiW c, loW c, .int .i64 s]) (reads_agg (cs := [hiW c, loW c, .int .i64 s]) tyDec rfl) rfl rfl rfl rfl ?_
  refine h_call (ent_of Tryd.func19 (by kernel_rfl) rfl) (fun w hH => rright_yes _ c s hs) rfl rfl rfl rfl ?_
  refine h_q hfl rfl ?_
  refine h_load 1 (v := .agg #[hiW d, loW d, .int .i64 t]) (reads_agg (cs := [hiW d, loW d, .int .i64 t]) tyDec rfl) rfl rfl rfl rfl ?_
  refine h_call (ent_of Tryd.func19 (by kernel_rfl) rfl) (fun w hH => rright_yes _ d t ht) rfl rfl rfl rfl ?_
  refine h_q hfl rfl ?_
  refine h_done (d_else rfl (d_skip (f_to (d_reg ?_))))
  refine h_q hfl rfl ?_
  refine h_load 2 (v := .int .i64 s) (reads_one tyInt rfl) rfl rfl rfl rfl ?_
  refine h_q hfl rfl ?_
  refine h_load 1 (v := .int .i64 t) (reads_one tyInt rfl) rfl rfl rfl rfl ?_
  refine h_builtin (v := .int .i64 t) (fun w cs => run_max2 (by first | rfl | decide | (split <;> omega)) _ _ w cs) rfl rfl rfl ?_
  refine h_q hfl rfl ?_
  refine h_done (d_reg ?_)
  refine h_load 2 (v := .agg #[hiW c, loW c, .int .i64 s]) (reads_agg (cs := [hiW c, loW c, .int .i64 s]) tyDec rfl) rfl rfl rfl rfl ?_
  refine h_q hfl rfl ?_
  refine h_call (ent_of Tryd.func35 (by kernel_rfl) rfl) (fun w hH => rat_any _ c s t hc hs ht) rfl rfl rfl rfl ?_
  refine h_alloc zeBig rfl rfl ?_; intro g7_4
  refine h_store 0 (v := BigZ (roundZ c (s - t))) (bigZ (roundZ c (s - t))) tyBig.2 (bigZ_size _) (by simp [zBig_size, bigZ_size]) (bigZ_one _) (over_all (c := zBig) (v := bigZ (roundZ c (s - t))) (by simp [zBig_size, bigZ_size])) rfl rfl rfl rfl rfl rfl ?_
  refine h_done (d_reg ?_)
  refine h_load 2 (v := .agg #[hiW d, loW d, .int .i64 t]) (reads_agg (cs := [hiW d, loW d, .int .i64 t]) tyDec rfl) rfl rfl rfl rfl ?_
  refine h_q hfl rfl ?_
  refine h_call (ent_of Tryd.func35 (by kernel_rfl) rfl) (fun w hH => rat_any _ d t t hd ht ht) rfl rfl rfl rfl ?_
  refine h_alloc zeBig rfl rfl ?_; intro g8_5
  refine h_store 0 (v := BigZ (roundZ d (t - t))) (bigZ (roundZ d (t - t))) tyBig.2 (bigZ_size _) (by simp [zBig_size, bigZ_size]) (bigZ_one _) (over_all (c := zBig) (v := bigZ (roundZ d (t - t))) (by simp [zBig_size, bigZ_size])) rfl rfl rfl rfl rfl rfl ?_
  refine h_done (d_reg ?_)
  refine h_load 1 (v := BigZ (roundZ c (s - t))) (reads_all (tyBigC _)) rfl rfl rfl rfl ?_
  refine h_callx (ent_of Tryd.func36 (by kernel_rfl) rfl) (X := fun v => ∃ p1 q1 : Int, v = .tuple #[.agg #[.int .i64 p1, .int .u64 q1], .bool false]) (fun w hH => rWide_nx _ (roundZ c (s - t)) (Nat.lt_trans (at_bp hc (by omega)) (by decide)) h1) rfl rfl rfl rfl ?_; rintro _ ⟨p1, q1, rfl⟩
  refine h_q hfl rfl ?_
  refine h_alloc zeWide rfl rfl ?_; intro g9_6
  refine h_store 0 (v := .agg #[.int .i64 p1, .int .u64 q1]) (#[.int .i64 p1, .int .u64 q1]) tyWide.2 rfl rfl rfl rfl rfl rfl rfl rfl rfl rfl ?_
  refine h_q hfl rfl ?_
  refine h_done (d_reg ?_)
  refine h_load 1 (v := BigZ (roundZ d (t - t))) (reads_all (tyBigC _)) rfl rfl rfl rfl ?_
  refine h_callx (ent_of Tryd.func36 (by kernel_rfl) rfl) (X := fun v => ∃ p2 q2 : Int, v = .tuple #[.agg #[.int .i64 p2, .int .u64 q2], .bool false]) (fun w hH => rWide_nx _ (roundZ d (t - t)) (Nat.lt_trans (at_bp hd (by omega)) (by decide)) h2) rfl rfl rfl rfl ?_; rintro _ ⟨p2, q2, rfl⟩
  refine h_q hfl rfl ?_
  refine h_alloc zeWide rfl rfl ?_; intro g11_7
  refine h_store 0 (v := .agg #[.int .i64 p2, .int .u64 q2]) (#[.int .i64 p2, .int .u64 q2]) tyWide.2 rfl rfl rfl rfl rfl rfl rfl rfl rfl rfl ?_
  refine h_q hfl rfl ?_
  refine h_done (d_seq (d_reg ?_))
  refine h_q hfl rfl ?_
  refine h_done ?_
  refine WC2.keep (env' := [(4, .pointer (some ⟨g4_3, 0, none⟩)), (5, .int .i64 0), (6, .int .i64 t), (7, .pointer (some ⟨g7_4, 0, none⟩)), (8, .pointer (some ⟨g8_5, 0, none⟩)), (48, .bool true)]) ⟨rfl, rfl, rfl, rfl, rfl, rfl, trivial⟩ ?_
  refine d_then rfl (d_reg ?_)
  refine h_build (cs := #[.int .i64 0, .int .u64 0, .int .i64 0]) (by kernel_rfl) rfl rfl rfl ?_
  refine h_store 4 (v := .agg #[.int .i64 0, .int .u64 0, .int .i64 0]) (#[.int .i64 0, .int .u64 0, .int .i64 0]) tyDec.2 rfl rfl rfl rfl rfl rfl rfl rfl rfl rfl ?_
  refine h_q hfl rfl ?_
  refine h_done (d_ret (f_then_ret ?_))
  exact f_fin2 (.cell 4 (v := .agg #[.int .i64 0, .int .u64 0, .int .i64 0]) (reads_agg (cs := [.int .i64 0, .int .u64 0, .int .i64 0]) tyDec rfl) rfl rfl) (.tmp rfl) (fun w h => ⟨rfl, h.up.below⟩) rfl

theorem radd_le_o2 (w : World) (c s d t : Int) (hc : Fits c) (hd : Fits d) (hs : May s) (ht : May t) (hm : s ≤ t) (h1 : ¬ Fits (roundZ c (s - t))) (h2 : Fits (roundZ d (t - t))) : Calls Tryd.prog 12 #[Dc c s, Dc d t] w fun e w' => e = .returned (decV (erP 20)) ∧ Below w.heap.size w w' := by
  refine d_in (args := [Dc c s, Dc d t]) 57 Tryd.func12 rfl rfl rfl ?_
  refine d_reg ?_
  refine h_box (cs := #[hiW c, loW c, .int .i64 s]) rfl rfl rfl rfl ?_; intro g2_1
  refine h_box (cs := #[hiW d, loW d, .int .i64 t]) rfl rfl rfl rfl ?_; intro g3_2
  refine h_alloc zeDec rfl rfl ?_; intro g4_3
  refine h_q hfl rfl ?_
  refine h_done (d_seq (d_reg ?_))
  refine h_load 2 (v := .agg #[hiW c, loW c, .int .i64 s]) (reads_agg (cs := [hiW c, loW c, .int .i64 s]) tyDec rfl) rfl rfl rfl rfl ?_
  refine h_call (ent_of Tryd.func19 (by kernel_rfl) rfl) (fun w hH => rright_yes _ c s hs) rfl rfl rfl rfl ?_
  refine h_q hfl rfl ?_
  refine h_load 1 (v := .agg #[hiW d, loW d, .int .i64 t]) (reads_agg (cs := [hiW d, loW d, .int .i64 t]) tyDec rfl) rfl rfl rfl rfl ?_
  refine h_call (ent_of Tryd.func19 (by kernel_rfl) rfl) (fun w hH => rright_yes _ d t ht) rfl rfl rfl rfl ?_
  refine h_q hfl rfl ?_
  refine h_done (d_else rfl (d_skip (f_to (d_reg ?_))))
  refine h_q hfl rfl ?_
  refine h_load 2 (v := .int .i64 s) (reads_one tyInt rfl) rfl rfl rfl rfl ?_
  refine h_q hfl rfl ?_
  refine h_load 1 (v := .int .i64 t) (reads_one tyInt rfl) rfl rfl rfl rfl ?_
  refine h_builtin (v := .int .i64 t) (fun w cs => run_max2 (by first | rfl | decide | (split <;> omega)) _ _ w cs) rfl rfl rfl ?_
  refine h_q hfl rfl ?_
  refine h_done (d_reg ?_)
  refine h_load 2 (v := .agg #[hiW c, loW c, .int .i64 s]) (reads_agg (cs := [hiW c, loW c, .int .i64 s]) tyDec rfl) rfl rfl rfl rfl ?_
  refine h_q hfl rfl ?_
  refine h_call (ent_of Tryd.func35 (by kernel_rfl) rfl) (fun w hH => rat_any _ c s t hc hs ht) rfl rfl rfl rfl ?_
  refine h_alloc zeBig rfl rfl ?_; intro g7_4
  refine h_store 0 (v := BigZ (roundZ c (s - t))) (bigZ (roundZ c (s - t))) tyBig.2 (bigZ_size _) (by simp [zBig_size, bigZ_size]) (bigZ_one _) (over_all (c := zBig) (v := bigZ (roundZ c (s - t))) (by simp [zBig_size, bigZ_size])) rfl rfl rfl rfl rfl rfl ?_
  refine h_done (d_reg ?_)
  refine h_load 2 (v := .agg #[hiW d, loW d, .int .i64 t]) (reads_agg (cs := [hiW d, loW d, .int .i64 t]) tyDec rfl) rfl rfl rfl rfl ?_
  refine h_q hfl rfl ?_
  refine h_call (ent_of Tryd.func35 (by kernel_rfl) rfl) (fun w hH => rat_any _ d t t hd ht ht) rfl rfl rfl rfl ?_
  refine h_alloc zeBig rfl rfl ?_; intro g8_5
  refine h_store 0 (v := BigZ (roundZ d (t - t))) (bigZ (roundZ d (t - t))) tyBig.2 (bigZ_size _) (by simp [zBig_size, bigZ_size]) (bigZ_one _) (over_all (c := zBig) (v := bigZ (roundZ d (t - t))) (by simp [zBig_size, bigZ_size])) rfl rfl rfl rfl rfl rfl ?_
  refine h_done (d_reg ?_)
  refine h_load 1 (v := BigZ (roundZ c (s - t))) (reads_all (tyBigC _)) rfl rfl rfl rfl ?_
  refine h_callx (ent_of Tryd.func36 (by kernel_rfl) rfl) (X := fun v => ∃ p1 q1 : Int, v = .tuple #[.agg #[.int .i64 p1, .int .u64 q1], .bool false]) (fun w hH => rWide_nx _ (roundZ c (s - t)) (Nat.lt_trans (at_bp hc (by omega)) (by decide)) h1) rfl rfl rfl rfl ?_; rintro _ ⟨p1, q1, rfl⟩
  refine h_q hfl rfl ?_
  refine h_alloc zeWide rfl rfl ?_; intro g9_6
  refine h_store 0 (v := .agg #[.int .i64 p1, .int .u64 q1]) (#[.int .i64 p1, .int .u64 q1]) tyWide.2 rfl rfl rfl rfl rfl rfl rfl rfl rfl rfl ?_
  refine h_q hfl rfl ?_
  refine h_done (d_reg ?_)
  refine h_load 1 (v := BigZ (roundZ d (t - t))) (reads_all (tyBigC _)) rfl rfl rfl rfl ?_
  refine h_call (ent_of Tryd.func36 (by kernel_rfl) rfl) (fun w hH => rWide_fit _ (roundZ d (t - t)) h2) rfl rfl rfl rfl ?_
  refine h_q hfl rfl ?_
  refine h_alloc zeWide rfl rfl ?_; intro g11_7
  refine h_store 0 (v := WV (roundZ d (t - t))) (#[hiW (roundZ d (t - t)), loW (roundZ d (t - t))]) tyWide.2 rfl rfl rfl rfl rfl rfl rfl rfl rfl rfl ?_
  refine h_q hfl rfl ?_
  refine h_done (d_seq (d_reg ?_))
  refine h_q hfl rfl ?_
  refine h_done ?_
  refine WC2.keep (env' := [(4, .pointer (some ⟨g4_3, 0, none⟩)), (5, .int .i64 0), (6, .int .i64 t), (7, .pointer (some ⟨g7_4, 0, none⟩)), (8, .pointer (some ⟨g8_5, 0, none⟩)), (48, .bool true)]) ⟨rfl, rfl, rfl, rfl, rfl, rfl, trivial⟩ ?_
  refine d_then rfl (d_reg ?_)
  refine h_build (cs := #[.int .i64 0, .int .u64 0, .int .i64 0]) (by kernel_rfl) rfl rfl rfl ?_
  refine h_store 4 (v := .agg #[.int .i64 0, .int .u64 0, .int .i64 0]) (#[.int .i64 0, .int .u64 0, .int .i64 0]) tyDec.2 rfl rfl rfl rfl rfl rfl rfl rfl rfl rfl ?_
  refine h_q hfl rfl ?_
  refine h_done (d_ret (f_then_ret ?_))
  exact f_fin2 (.cell 4 (v := .agg #[.int .i64 0, .int .u64 0, .int .i64 0]) (reads_agg (cs := [.int .i64 0, .int .u64 0, .int .i64 0]) tyDec rfl) rfl rfl) (.tmp rfl) (fun w h => ⟨rfl, h.up.below⟩) rfl

theorem radd_le_o3 (w : World) (c s d t : Int) (hc : Fits c) (hd : Fits d) (hs : May s) (ht : May t) (hm : s ≤ t) (h1 : Fits (roundZ c (s - t))) (h2 : ¬ Fits (roundZ d (t - t))) : Calls Tryd.prog 12 #[Dc c s, Dc d t] w fun e w' => e = .returned (decV (erP 20)) ∧ Below w.heap.size w w' := by
  refine d_in (args := [Dc c s, Dc d t]) 57 Tryd.func12 rfl rfl rfl ?_
  refine d_reg ?_
  refine h_box (cs := #[hiW c, loW c, .int .i64 s]) rfl rfl rfl rfl ?_; intro g2_1
  refine h_box (cs := #[hiW d, loW d, .int .i64 t]) rfl rfl rfl rfl ?_; intro g3_2
  refine h_alloc zeDec rfl rfl ?_; intro g4_3
  refine h_q hfl rfl ?_
  refine h_done (d_seq (d_reg ?_))
  refine h_load 2 (v := .agg #[hiW c, loW c, .int .i64 s]) (reads_agg (cs := [hiW c, loW c, .int .i64 s]) tyDec rfl) rfl rfl rfl rfl ?_
  refine h_call (ent_of Tryd.func19 (by kernel_rfl) rfl) (fun w hH => rright_yes _ c s hs) rfl rfl rfl rfl ?_
  refine h_q hfl rfl ?_
  refine h_load 1 (v := .agg #[hiW d, loW d, .int .i64 t]) (reads_agg (cs := [hiW d, loW d, .int .i64 t]) tyDec rfl) rfl rfl rfl rfl ?_
  refine h_call (ent_of Tryd.func19 (by kernel_rfl) rfl) (fun w hH => rright_yes _ d t ht) rfl rfl rfl rfl ?_
  refine h_q hfl rfl ?_
  refine h_done (d_else rfl (d_skip (f_to (d_reg ?_))))
  refine h_q hfl rfl ?_
  refine h_load 2 (v := .int .i64 s) (reads_one tyInt rfl) rfl rfl rfl rfl ?_
  refine h_q hfl rfl ?_
  refine h_load 1 (v := .int .i64 t) (reads_one tyInt rfl) rfl rfl rfl rfl ?_
  refine h_builtin (v := .int .i64 t) (fun w cs => run_max2 (by first | rfl | decide | (split <;> omega)) _ _ w cs) rfl rfl rfl ?_
  refine h_q hfl rfl ?_
  refine h_done (d_reg ?_)
  refine h_load 2 (v := .agg #[hiW c, loW c, .int .i64 s]) (reads_agg (cs := [hiW c, loW c, .int .i64 s]) tyDec rfl) rfl rfl rfl rfl ?_
  refine h_q hfl rfl ?_
  refine h_call (ent_of Tryd.func35 (by kernel_rfl) rfl) (fun w hH => rat_any _ c s t hc hs ht) rfl rfl rfl rfl ?_
  refine h_alloc zeBig rfl rfl ?_; intro g7_4
  refine h_store 0 (v := BigZ (roundZ c (s - t))) (bigZ (roundZ c (s - t))) tyBig.2 (bigZ_size _) (by simp [zBig_size, bigZ_size]) (bigZ_one _) (over_all (c := zBig) (v := bigZ (roundZ c (s - t))) (by simp [zBig_size, bigZ_size])) rfl rfl rfl rfl rfl rfl ?_
  refine h_done (d_reg ?_)
  refine h_load 2 (v := .agg #[hiW d, loW d, .int .i64 t]) (reads_agg (cs := [hiW d, loW d, .int .i64 t]) tyDec rfl) rfl rfl rfl rfl ?_
  refine h_q hfl rfl ?_
  refine h_call (ent_of Tryd.func35 (by kernel_rfl) rfl) (fun w hH => rat_any _ d t t hd ht ht) rfl rfl rfl rfl ?_
  refine h_alloc zeBig rfl rfl ?_; intro g8_5
  refine h_store 0 (v := BigZ (roundZ d (t - t))) (bigZ (roundZ d (t - t))) tyBig.2 (bigZ_size _) (by simp [zBig_size, bigZ_size]) (bigZ_one _) (over_all (c := zBig) (v := bigZ (roundZ d (t - t))) (by simp [zBig_size, bigZ_size])) rfl rfl rfl rfl rfl rfl ?_
  refine h_done (d_reg ?_)
  refine h_load 1 (v := BigZ (roundZ c (s - t))) (reads_all (tyBigC _)) rfl rfl rfl rfl ?_
  refine h_call (ent_of Tryd.func36 (by kernel_rfl) rfl) (fun w hH => rWide_fit _ (roundZ c (s - t)) h1) rfl rfl rfl rfl ?_
  refine h_q hfl rfl ?_
  refine h_alloc zeWide rfl rfl ?_; intro g9_6
  refine h_store 0 (v := WV (roundZ c (s - t))) (#[hiW (roundZ c (s - t)), loW (roundZ c (s - t))]) tyWide.2 rfl rfl rfl rfl rfl rfl rfl rfl rfl rfl ?_
  refine h_q hfl rfl ?_
  refine h_done (d_reg ?_)
  refine h_load 1 (v := BigZ (roundZ d (t - t))) (reads_all (tyBigC _)) rfl rfl rfl rfl ?_
  refine h_callx (ent_of Tryd.func36 (by kernel_rfl) rfl) (X := fun v => ∃ p2 q2 : Int, v = .tuple #[.agg #[.int .i64 p2, .int .u64 q2], .bool false]) (fun w hH => rWide_nx _ (roundZ d (t - t)) (Nat.lt_trans (at_bp hd (by omega)) (by decide)) h2) rfl rfl rfl rfl ?_; rintro _ ⟨p2, q2, rfl⟩
  refine h_q hfl rfl ?_
  refine h_alloc zeWide rfl rfl ?_; intro g11_7
  refine h_store 0 (v := .agg #[.int .i64 p2, .int .u64 q2]) (#[.int .i64 p2, .int .u64 q2]) tyWide.2 rfl rfl rfl rfl rfl rfl rfl rfl rfl rfl ?_
  refine h_q hfl rfl ?_
  refine h_done (d_seq (d_reg ?_))
  refine h_q hfl rfl ?_
  refine h_done ?_
  refine WC2.keep (env' := [(4, .pointer (some ⟨g4_3, 0, none⟩)), (5, .int .i64 0), (6, .int .i64 t), (7, .pointer (some ⟨g7_4, 0, none⟩)), (8, .pointer (some ⟨g8_5, 0, none⟩)), (48, .bool true)]) ⟨rfl, rfl, rfl, rfl, rfl, rfl, trivial⟩ ?_
  refine d_then rfl (d_reg ?_)
  refine h_build (cs := #[.int .i64 0, .int .u64 0, .int .i64 0]) (by kernel_rfl) rfl rfl rfl ?_
  refine h_store 4 (v := .agg #[.int .i64 0, .int .u64 0, .int .i64 0]) (#[.int .i64 0, .int .u64 0, .int .i64 0]) tyDec.2 rfl rfl rfl rfl rfl rfl rfl rfl rfl rfl ?_
  refine h_q hfl rfl ?_
  refine h_done (d_ret (f_then_ret ?_))
  exact f_fin2 (.cell 4 (v := .agg #[.int .i64 0, .int .u64 0, .int .i64 0]) (reads_agg (cs := [.int .i64 0, .int .u64 0, .int .i64 0]) tyDec rfl) rfl rfl) (.tmp rfl) (fun w h => ⟨rfl, h.up.below⟩) rfl

theorem radd_le_ok (w : World) (c s d t : Int) (hc : Fits c) (hd : Fits d) (hs : May s) (ht : May t) (hm : s ≤ t) (h1 : Fits (roundZ c (s - t))) (h2 : Fits (roundZ d (t - t))) : Calls Tryd.prog 12 #[Dc c s, Dc d t] w fun e w' => e = .returned (decV (okP (roundZ c (s - t) + roundZ d (t - t)) t)) ∧ Below w.heap.size w w' := by
  refine d_in (args := [Dc c s, Dc d t]) 57 Tryd.func12 rfl rfl rfl ?_
  refine d_reg ?_
  refine h_box (cs := #[hiW c, loW c, .int .i64 s]) rfl rfl rfl rfl ?_; intro g2_1
  refine h_box (cs := #[hiW d, loW d, .int .i64 t]) rfl rfl rfl rfl ?_; intro g3_2
  refine h_alloc zeDec rfl rfl ?_; intro g4_3
  refine h_q hfl rfl ?_
  refine h_done (d_seq (d_reg ?_))
  refine h_load 2 (v := .agg #[hiW c, loW c, .int .i64 s]) (reads_agg (cs := [hiW c, loW c, .int .i64 s]) tyDec rfl) rfl rfl rfl rfl ?_
  refine h_call (ent_of Tryd.func19 (by kernel_rfl) rfl) (fun w hH => rright_yes _ c s hs) rfl rfl rfl rfl ?_
  refine h_q hfl rfl ?_
  refine h_load 1 (v := .agg #[hiW d, loW d, .int .i64 t]) (reads_agg (cs := [hiW d, loW d, .int .i64 t]) tyDec rfl) rfl rfl rfl rfl ?_
  refine h_call (ent_of Tryd.func19 (by kernel_rfl) rfl) (fun w hH => rright_yes _ d t ht) rfl rfl rfl rfl ?_
  refine h_q hfl rfl ?_
  refine h_done (d_else rfl (d_skip (f_to (d_reg ?_))))
  refine h_q hfl rfl ?_
  refine h_load 2 (v := .int .i64 s) (reads_one tyInt rfl) rfl rfl rfl rfl ?_
  refine h_q hfl rfl ?_
  refine h_load 1 (v := .int .i64 t) (reads_one tyInt rfl) rfl rfl rfl rfl ?_
  refine h_builtin (v := .int .i64 t) (fun w cs => run_max2 (by first | rfl | decide | (split <;> omega)) _ _ w cs) rfl rfl rfl ?_
  refine h_q hfl rfl ?_
  refine h_done (d_reg ?_)
  refine h_load 2 (v := .agg #[hiW c, loW c, .int .i64 s]) (reads_agg (cs := [hiW c, loW c, .int .i64 s]) tyDec rfl) rfl rfl rfl rfl ?_
  refine h_q hfl rfl ?_
  refine h_call (ent_of Tryd.func35 (by kernel_rfl) rfl) (fun w hH => rat_any _ c s t hc hs ht) rfl rfl rfl rfl ?_
  refine h_alloc zeBig rfl rfl ?_; intro g7_4
  refine h_store 0 (v := BigZ (roundZ c (s - t))) (bigZ (roundZ c (s - t))) tyBig.2 (bigZ_size _) (by simp [zBig_size, bigZ_size]) (bigZ_one _) (over_all (c := zBig) (v := bigZ (roundZ c (s - t))) (by simp [zBig_size, bigZ_size])) rfl rfl rfl rfl rfl rfl ?_
  refine h_done (d_reg ?_)
  refine h_load 2 (v := .agg #[hiW d, loW d, .int .i64 t]) (reads_agg (cs := [hiW d, loW d, .int .i64 t]) tyDec rfl) rfl rfl rfl rfl ?_
  refine h_q hfl rfl ?_
  refine h_call (ent_of Tryd.func35 (by kernel_rfl) rfl) (fun w hH => rat_any _ d t t hd ht ht) rfl rfl rfl rfl ?_
  refine h_alloc zeBig rfl rfl ?_; intro g8_5
  refine h_store 0 (v := BigZ (roundZ d (t - t))) (bigZ (roundZ d (t - t))) tyBig.2 (bigZ_size _) (by simp [zBig_size, bigZ_size]) (bigZ_one _) (over_all (c := zBig) (v := bigZ (roundZ d (t - t))) (by simp [zBig_size, bigZ_size])) rfl rfl rfl rfl rfl rfl ?_
  refine h_done (d_reg ?_)
  refine h_load 1 (v := BigZ (roundZ c (s - t))) (reads_all (tyBigC _)) rfl rfl rfl rfl ?_
  refine h_call (ent_of Tryd.func36 (by kernel_rfl) rfl) (fun w hH => rWide_fit _ (roundZ c (s - t)) h1) rfl rfl rfl rfl ?_
  refine h_q hfl rfl ?_
  refine h_alloc zeWide rfl rfl ?_; intro g9_6
  refine h_store 0 (v := WV (roundZ c (s - t))) (#[hiW (roundZ c (s - t)), loW (roundZ c (s - t))]) tyWide.2 rfl rfl rfl rfl rfl rfl rfl rfl rfl rfl ?_
  refine h_q hfl rfl ?_
  refine h_done (d_reg ?_)
  refine h_load 1 (v := BigZ (roundZ d (t - t))) (reads_all (tyBigC _)) rfl rfl rfl rfl ?_
  refine h_call (ent_of Tryd.func36 (by kernel_rfl) rfl) (fun w hH => rWide_fit _ (roundZ d (t - t)) h2) rfl rfl rfl rfl ?_
  refine h_q hfl rfl ?_
  refine h_alloc zeWide rfl rfl ?_; intro g11_7
  refine h_store 0 (v := WV (roundZ d (t - t))) (#[hiW (roundZ d (t - t)), loW (roundZ d (t - t))]) tyWide.2 rfl rfl rfl rfl rfl rfl rfl rfl rfl rfl ?_
  refine h_q hfl rfl ?_
  refine h_done (d_seq (d_reg ?_))
  refine h_q hfl rfl ?_
  refine h_done ?_
  refine WC2.keep (env' := [(4, .pointer (some ⟨g4_3, 0, none⟩)), (5, .int .i64 0), (6, .int .i64 t), (7, .pointer (some ⟨g7_4, 0, none⟩)), (8, .pointer (some ⟨g8_5, 0, none⟩)), (48, .bool false)]) ⟨rfl, rfl, rfl, rfl, rfl, rfl, trivial⟩ ?_
  refine d_else rfl (d_skip (f_to (d_reg ?_)))
  refine h_load 3 (v := BigZ (roundZ c (s - t))) (reads_all (tyBigC _)) rfl rfl rfl rfl ?_
  refine h_load 2 (v := BigZ (roundZ d (t - t))) (reads_all (tyBigC _)) rfl rfl rfl rfl ?_
  refine h_call (ent_of Tryd.func38 (by kernel_rfl) rfl) (fun w hH => rsum_any _ (roundZ c (s - t)) (roundZ d (t - t)) (Nat.lt_trans (at_bp hc (by omega)) (by decide)) (Nat.lt_trans (at_bp hd (by omega)) (by decide))) rfl rfl rfl rfl ?_
  refine h_q hfl rfl ?_
  refine h_call (ent_of Tryd.func37 (by kernel_rfl) rfl) (fun w hH => rdec_any _ (roundZ c (s - t) + roundZ d (t - t)) t (by have h1 := at_bp (k := s - t) hc (by omega); have h2 := at_bp (k := t - t) hd (by omega); unfold BP at h1 h2 ⊢; omega)) rfl rfl rfl rfl ?_
  refine h_q hfl rfl ?_
  refine h_store 4 (v := Dc (rz (roundZ c (s - t) + roundZ d (t - t))) (rs (roundZ c (s - t) + roundZ d (t - t)) t)) (#[hiW (rz (roundZ c (s - t) + roundZ d (t - t))), loW (rz (roundZ c (s - t) + roundZ d (t - t))), .int .i64 (rs (roundZ c (s - t) + roundZ d (t - t)) t)]) tyDec.2 rfl rfl rfl rfl rfl rfl rfl rfl rfl rfl ?_
  refine h_q hfl rfl ?_
  refine h_done (d_ret ?_)
  exact f_fin2 (.cell 4 (v := .agg #[hiW (rz (roundZ c (s - t) + roundZ d (t - t))), loW (rz (roundZ c (s - t) + roundZ d (t - t))), .int .i64 (rs (roundZ c (s - t) + roundZ d (t - t)) t)]) (reads_agg (cs := [hiW (rz (roundZ c (s - t) + roundZ d (t - t))), loW (rz (roundZ c (s - t) + roundZ d (t - t))), .int .i64 (rs (roundZ c (s - t) + roundZ d (t - t)) t)]) tyDec rfl) rfl rfl) (.tmp rfl) (fun w h => ⟨rfl, h.up.below⟩) rfl

theorem radd_gt_o1 (w : World) (c s d t : Int) (hc : Fits c) (hd : Fits d) (hs : May s) (ht : May t) (hm : t < s) (h1 : ¬ Fits (roundZ c (s - s))) (h2 : ¬ Fits (roundZ d (t - s))) : Calls Tryd.prog 12 #[Dc c s, Dc d t] w fun e w' => e = .returned (decV (erP 20)) ∧ Below w.heap.size w w' := by
  refine d_in (args := [Dc c s, Dc d t]) 57 Tryd.func12 rfl rfl rfl ?_
  refine d_reg ?_
  refine h_box (cs := #[hiW c, loW c, .int .i64 s]) rfl rfl rfl rfl ?_; intro g2_1
  refine h_box (cs := #[hiW d, loW d, .int .i64 t]) rfl rfl rfl rfl ?_; intro g3_2
  refine h_alloc zeDec rfl rfl ?_; intro g4_3
  refine h_q hfl rfl ?_
  refine h_done (d_seq (d_reg ?_))
  refine h_load 2 (v := .agg #[hiW c, loW c, .int .i64 s]) (reads_agg (cs := [hiW c, loW c, .int .i64 s]) tyDec rfl) rfl rfl rfl rfl ?_
  refine h_call (ent_of Tryd.func19 (by kernel_rfl) rfl) (fun w hH => rright_yes _ c s hs) rfl rfl rfl rfl ?_
  refine h_q hfl rfl ?_
  refine h_load 1 (v := .agg #[hiW d, loW d, .int .i64 t]) (reads_agg (cs := [hiW d, loW d, .int .i64 t]) tyDec rfl) rfl rfl rfl rfl ?_
  refine h_call (ent_of Tryd.func19 (by kernel_rfl) rfl) (fun w hH => rright_yes _ d t ht) rfl rfl rfl rfl ?_
  refine h_q hfl rfl ?_
  refine h_done (d_else rfl (d_skip (f_to (d_reg ?_))))
  refine h_q hfl rfl ?_
  refine h_load 2 (v := .int .i64 s) (reads_one tyInt rfl) rfl rfl rfl rfl ?_
  refine h_q hfl rfl ?_
  refine h_load 1 (v := .int .i64 t) (reads_one tyInt rfl) rfl rfl rfl rfl ?_
  refine h_builtin (v := .int .i64 s) (fun w cs => run_max2 (by first | rfl | decide | (split <;> omega)) _ _ w cs) rfl rfl rfl ?_
  refine h_q hfl rfl ?_
  refine h_done (d_reg ?_)
  refine h_load 2 (v := .agg #[hiW c, loW c, .int .i64 s]) (reads_agg (cs := [hiW c, loW c, .int .i64 s]) tyDec rfl) rfl rfl rfl rfl ?_
  refine h_q hfl rfl ?_
  refine h_call (ent_of Tryd.func35 (by kernel_rfl) rfl) (fun w hH => rat_any _ c s s hc hs hs) rfl rfl rfl rfl ?_
  refine h_alloc zeBig rfl rfl ?_; intro g7_4
  refine h_store 0 (v := BigZ (roundZ c (s - s))) (bigZ (roundZ c (s - s))) tyBig.2 (bigZ_size _) (by simp [zBig_size, bigZ_size]) (bigZ_one _) (over_all (c := zBig) (v := bigZ (roundZ c (s - s))) (by simp [zBig_size, bigZ_size])) rfl rfl rfl rfl rfl rfl ?_
  refine h_done (d_reg ?_)
  refine h_load 2 (v := .agg #[hiW d, loW d, .int .i64 t]) (reads_agg (cs := [hiW d, loW d, .int .i64 t]) tyDec rfl) rfl rfl rfl rfl ?_
  refine h_q hfl rfl ?_
  refine h_call (ent_of Tryd.func35 (by kernel_rfl) rfl) (fun w hH => rat_any _ d t s hd ht hs) rfl rfl rfl rfl ?_
  refine h_alloc zeBig rfl rfl ?_; intro g8_5
  refine h_store 0 (v := BigZ (roundZ d (t - s))) (bigZ (roundZ d (t - s))) tyBig.2 (bigZ_size _) (by simp [zBig_size, bigZ_size]) (bigZ_one _) (over_all (c := zBig) (v := bigZ (roundZ d (t - s))) (by simp [zBig_size, bigZ_size])) rfl rfl rfl rfl rfl rfl ?_
  refine h_done (d_reg ?_)
  refine h_load 1 (v := BigZ (roundZ c (s - s))) (reads_all (tyBigC _)) rfl rfl rfl rfl ?_
  refine h_callx (ent_of Tryd.func36 (by kernel_rfl) rfl) (X := fun v => ∃ p1 q1 : Int, v = .tuple #[.agg #[.int .i64 p1, .int .u64 q1], .bool false]) (fun w hH => rWide_nx _ (roundZ c (s - s)) (Nat.lt_trans (at_bp hc (by omega)) (by decide)) h1) rfl rfl rfl rfl ?_; rintro _ ⟨p1, q1, rfl⟩
  refine h_q hfl rfl ?_
  refine h_alloc zeWide rfl rfl ?_; intro g9_6
  refine h_store 0 (v := .agg #[.int .i64 p1, .int .u64 q1]) (#[.int .i64 p1, .int .u64 q1]) tyWide.2 rfl rfl rfl rfl rfl rfl rfl rfl rfl rfl ?_
  refine h_q hfl rfl ?_
  refine h_done (d_reg ?_)
  refine h_load 1 (v := BigZ (roundZ d (t - s))) (reads_all (tyBigC _)) rfl rfl rfl rfl ?_
  refine h_callx (ent_of Tryd.func36 (by kernel_rfl) rfl) (X := fun v => ∃ p2 q2 : Int, v = .tuple #[.agg #[.int .i64 p2, .int .u64 q2], .bool false]) (fun w hH => rWide_nx _ (roundZ d (t - s)) (Nat.lt_trans (at_bp hd (by omega)) (by decide)) h2) rfl rfl rfl rfl ?_; rintro _ ⟨p2, q2, rfl⟩
  refine h_q hfl rfl ?_
  refine h_alloc zeWide rfl rfl ?_; intro g11_7
  refine h_store 0 (v := .agg #[.int .i64 p2, .int .u64 q2]) (#[.int .i64 p2, .int .u64 q2]) tyWide.2 rfl rfl rfl rfl rfl rfl rfl rfl rfl rfl ?_
  refine h_q hfl rfl ?_
  refine h_done (d_seq (d_reg ?_))
  refine h_q hfl rfl ?_
  refine h_done ?_
  refine WC2.keep (env' := [(4, .pointer (some ⟨g4_3, 0, none⟩)), (5, .int .i64 0), (6, .int .i64 s), (7, .pointer (some ⟨g7_4, 0, none⟩)), (8, .pointer (some ⟨g8_5, 0, none⟩)), (48, .bool true)]) ⟨rfl, rfl, rfl, rfl, rfl, rfl, trivial⟩ ?_
  refine d_then rfl (d_reg ?_)
  refine h_build (cs := #[.int .i64 0, .int .u64 0, .int .i64 0]) (by kernel_rfl) rfl rfl rfl ?_
  refine h_store 4 (v := .agg #[.int .i64 0, .int .u64 0, .int .i64 0]) (#[.int .i64 0, .int .u64 0, .int .i64 0]) tyDec.2 rfl rfl rfl rfl rfl rfl rfl rfl rfl rfl ?_
  refine h_q hfl rfl ?_
  refine h_done (d_ret (f_then_ret ?_))
  exact f_fin2 (.cell 4 (v := .agg #[.int .i64 0, .int .u64 0, .int .i64 0]) (reads_agg (cs := [.int .i64 0, .int .u64 0, .int .i64 0]) tyDec rfl) rfl rfl) (.tmp rfl) (fun w h => ⟨rfl, h.up.below⟩) rfl

theorem radd_gt_o2 (w : World) (c s d t : Int) (hc : Fits c) (hd : Fits d) (hs : May s) (ht : May t) (hm : t < s) (h1 : ¬ Fits (roundZ c (s - s))) (h2 : Fits (roundZ d (t - s))) : Calls Tryd.prog 12 #[Dc c s, Dc d t] w fun e w' => e = .returned (decV (erP 20)) ∧ Below w.heap.size w w' := by
  refine d_in (args := [Dc c s, Dc d t]) 57 Tryd.func12 rfl rfl rfl ?_
  refine d_reg ?_
  refine h_box (cs := #[hiW c, loW c, .int .i64 s]) rfl rfl rfl rfl ?_; intro g2_1
  refine h_box (cs := #[hiW d, loW d, .int .i64 t]) rfl rfl rfl rfl ?_; intro g3_2
  refine h_alloc zeDec rfl rfl ?_; intro g4_3
  refine h_q hfl rfl ?_
  refine h_done (d_seq (d_reg ?_))
  refine h_load 2 (v := .agg #[hiW c, loW c, .int .i64 s]) (reads_agg (cs := [hiW c, loW c, .int .i64 s]) tyDec rfl) rfl rfl rfl rfl ?_
  refine h_call (ent_of Tryd.func19 (by kernel_rfl) rfl) (fun w hH => rright_yes _ c s hs) rfl rfl rfl rfl ?_
  refine h_q hfl rfl ?_
  refine h_load 1 (v := .agg #[hiW d, loW d, .int .i64 t]) (reads_agg (cs := [hiW d, loW d, .int .i64 t]) tyDec rfl) rfl rfl rfl rfl ?_
  refine h_call (ent_of Tryd.func19 (by kernel_rfl) rfl) (fun w hH => rright_yes _ d t ht) rfl rfl rfl rfl ?_
  refine h_q hfl rfl ?_
  refine h_done (d_else rfl (d_skip (f_to (d_reg ?_))))
  refine h_q hfl rfl ?_
  refine h_load 2 (v := .int .i64 s) (reads_one tyInt rfl) rfl rfl rfl rfl ?_
  refine h_q hfl rfl ?_
  refine h_load 1 (v := .int .i64 t) (reads_one tyInt rfl) rfl rfl rfl rfl ?_
  refine h_builtin (v := .int .i64 s) (fun w cs => run_max2 (by first | rfl | decide | (split <;> omega)) _ _ w cs) rfl rfl rfl ?_
  refine h_q hfl rfl ?_
  refine h_done (d_reg ?_)
  refine h_load 2 (v := .agg #[hiW c, loW c, .int .i64 s]) (reads_agg (cs := [hiW c, loW c, .int .i64 s]) tyDec rfl) rfl rfl rfl rfl ?_
  refine h_q hfl rfl ?_
  refine h_call (ent_of Tryd.func35 (by kernel_rfl) rfl) (fun w hH => rat_any _ c s s hc hs hs) rfl rfl rfl rfl ?_
  refine h_alloc zeBig rfl rfl ?_; intro g7_4
  refine h_store 0 (v := BigZ (roundZ c (s - s))) (bigZ (roundZ c (s - s))) tyBig.2 (bigZ_size _) (by simp [zBig_size, bigZ_size]) (bigZ_one _) (over_all (c := zBig) (v := bigZ (roundZ c (s - s))) (by simp [zBig_size, bigZ_size])) rfl rfl rfl rfl rfl rfl ?_
  refine h_done (d_reg ?_)
  refine h_load 2 (v := .agg #[hiW d, loW d, .int .i64 t]) (reads_agg (cs := [hiW d, loW d, .int .i64 t]) tyDec rfl) rfl rfl rfl rfl ?_
  refine h_q hfl rfl ?_
  refine h_call (ent_of Tryd.func35 (by kernel_rfl) rfl) (fun w hH => rat_any _ d t s hd ht hs) rfl rfl rfl rfl ?_
  refine h_alloc zeBig rfl rfl ?_; intro g8_5
  refine h_store 0 (v := BigZ (roundZ d (t - s))) (bigZ (roundZ d (t - s))) tyBig.2 (bigZ_size _) (by simp [zBig_size, bigZ_size]) (bigZ_one _) (over_all (c := zBig) (v := bigZ (roundZ d (t - s))) (by simp [zBig_size, bigZ_size])) rfl rfl rfl rfl rfl rfl ?_
  refine h_done (d_reg ?_)
  refine h_load 1 (v := BigZ (roundZ c (s - s))) (reads_all (tyBigC _)) rfl rfl rfl rfl ?_
  refine h_callx (ent_of Tryd.func36 (by kernel_rfl) rfl) (X := fun v => ∃ p1 q1 : Int, v = .tuple #[.agg #[.int .i64 p1, .int .u64 q1], .bool false]) (fun w hH => rWide_nx _ (roundZ c (s - s)) (Nat.lt_trans (at_bp hc (by omega)) (by decide)) h1) rfl rfl rfl rfl ?_; rintro _ ⟨p1, q1, rfl⟩
  refine h_q hfl rfl ?_
  refine h_alloc zeWide rfl rfl ?_; intro g9_6
  refine h_store 0 (v := .agg #[.int .i64 p1, .int .u64 q1]) (#[.int .i64 p1, .int .u64 q1]) tyWide.2 rfl rfl rfl rfl rfl rfl rfl rfl rfl rfl ?_
  refine h_q hfl rfl ?_
  refine h_done (d_reg ?_)
  refine h_load 1 (v := BigZ (roundZ d (t - s))) (reads_all (tyBigC _)) rfl rfl rfl rfl ?_
  refine h_call (ent_of Tryd.func36 (by kernel_rfl) rfl) (fun w hH => rWide_fit _ (roundZ d (t - s)) h2) rfl rfl rfl rfl ?_
  refine h_q hfl rfl ?_
  refine h_alloc zeWide rfl rfl ?_; intro g11_7
  refine h_store 0 (v := WV (roundZ d (t - s))) (#[hiW (roundZ d (t - s)), loW (roundZ d (t - s))]) tyWide.2 rfl rfl rfl rfl rfl rfl rfl rfl rfl rfl ?_
  refine h_q hfl rfl ?_
  refine h_done (d_seq (d_reg ?_))
  refine h_q hfl rfl ?_
  refine h_done ?_
  refine WC2.keep (env' := [(4, .pointer (some ⟨g4_3, 0, none⟩)), (5, .int .i64 0), (6, .int .i64 s), (7, .pointer (some ⟨g7_4, 0, none⟩)), (8, .pointer (some ⟨g8_5, 0, none⟩)), (48, .bool true)]) ⟨rfl, rfl, rfl, rfl, rfl, rfl, trivial⟩ ?_
  refine d_then rfl (d_reg ?_)
  refine h_build (cs := #[.int .i64 0, .int .u64 0, .int .i64 0]) (by kernel_rfl) rfl rfl rfl ?_
  refine h_store 4 (v := .agg #[.int .i64 0, .int .u64 0, .int .i64 0]) (#[.int .i64 0, .int .u64 0, .int .i64 0]) tyDec.2 rfl rfl rfl rfl rfl rfl rfl rfl rfl rfl ?_
  refine h_q hfl rfl ?_
  refine h_done (d_ret (f_then_ret ?_))
  exact f_fin2 (.cell 4 (v := .agg #[.int .i64 0, .int .u64 0, .int .i64 0]) (reads_agg (cs := [.int .i64 0, .int .u64 0, .int .i64 0]) tyDec rfl) rfl rfl) (.tmp rfl) (fun w h => ⟨rfl, h.up.below⟩) rfl

theorem radd_gt_o3 (w : World) (c s d t : Int) (hc : Fits c) (hd : Fits d) (hs : May s) (ht : May t) (hm : t < s) (h1 : Fits (roundZ c (s - s))) (h2 : ¬ Fits (roundZ d (t - s))) : Calls Tryd.prog 12 #[Dc c s, Dc d t] w fun e w' => e = .returned (decV (erP 20)) ∧ Below w.heap.size w w' := by
  refine d_in (args := [Dc c s, Dc d t]) 57 Tryd.func12 rfl rfl rfl ?_
  refine d_reg ?_
  refine h_box (cs := #[hiW c, loW c, .int .i64 s]) rfl rfl rfl rfl ?_; intro g2_1
  refine h_box (cs := #[hiW d, loW d, .int .i64 t]) rfl rfl rfl rfl ?_; intro g3_2
  refine h_alloc zeDec rfl rfl ?_; intro g4_3
  refine h_q hfl rfl ?_
  refine h_done (d_seq (d_reg ?_))
  refine h_load 2 (v := .agg #[hiW c, loW c, .int .i64 s]) (reads_agg (cs := [hiW c, loW c, .int .i64 s]) tyDec rfl) rfl rfl rfl rfl ?_
  refine h_call (ent_of Tryd.func19 (by kernel_rfl) rfl) (fun w hH => rright_yes _ c s hs) rfl rfl rfl rfl ?_
  refine h_q hfl rfl ?_
  refine h_load 1 (v := .agg #[hiW d, loW d, .int .i64 t]) (reads_agg (cs := [hiW d, loW d, .int .i64 t]) tyDec rfl) rfl rfl rfl rfl ?_
  refine h_call (ent_of Tryd.func19 (by kernel_rfl) rfl) (fun w hH => rright_yes _ d t ht) rfl rfl rfl rfl ?_
  refine h_q hfl rfl ?_
  refine h_done (d_else rfl (d_skip (f_to (d_reg ?_))))
  refine h_q hfl rfl ?_
  refine h_load 2 (v := .int .i64 s) (reads_one tyInt rfl) rfl rfl rfl rfl ?_
  refine h_q hfl rfl ?_
  refine h_load 1 (v := .int .i64 t) (reads_one tyInt rfl) rfl rfl rfl rfl ?_
  refine h_builtin (v := .int .i64 s) (fun w cs => run_max2 (by first | rfl | decide | (split <;> omega)) _ _ w cs) rfl rfl rfl ?_
  refine h_q hfl rfl ?_
  refine h_done (d_reg ?_)
  refine h_load 2 (v := .agg #[hiW c, loW c, .int .i64 s]) (reads_agg (cs := [hiW c, loW c, .int .i64 s]) tyDec rfl) rfl rfl rfl rfl ?_
  refine h_q hfl rfl ?_
  refine h_call (ent_of Tryd.func35 (by kernel_rfl) rfl) (fun w hH => rat_any _ c s s hc hs hs) rfl rfl rfl rfl ?_
  refine h_alloc zeBig rfl rfl ?_; intro g7_4
  refine h_store 0 (v := BigZ (roundZ c (s - s))) (bigZ (roundZ c (s - s))) tyBig.2 (bigZ_size _) (by simp [zBig_size, bigZ_size]) (bigZ_one _) (over_all (c := zBig) (v := bigZ (roundZ c (s - s))) (by simp [zBig_size, bigZ_size])) rfl rfl rfl rfl rfl rfl ?_
  refine h_done (d_reg ?_)
  refine h_load 2 (v := .agg #[hiW d, loW d, .int .i64 t]) (reads_agg (cs := [hiW d, loW d, .int .i64 t]) tyDec rfl) rfl rfl rfl rfl ?_
  refine h_q hfl rfl ?_
  refine h_call (ent_of Tryd.func35 (by kernel_rfl) rfl) (fun w hH => rat_any _ d t s hd ht hs) rfl rfl rfl rfl ?_
  refine h_alloc zeBig rfl rfl ?_; intro g8_5
  refine h_store 0 (v := BigZ (roundZ d (t - s))) (bigZ (roundZ d (t - s))) tyBig.2 (bigZ_size _) (by simp [zBig_size, bigZ_size]) (bigZ_one _) (over_all (c := zBig) (v := bigZ (roundZ d (t - s))) (by simp [zBig_size, bigZ_size])) rfl rfl rfl rfl rfl rfl ?_
  refine h_done (d_reg ?_)
  refine h_load 1 (v := BigZ (roundZ c (s - s))) (reads_all (tyBigC _)) rfl rfl rfl rfl ?_
  refine h_call (ent_of Tryd.func36 (by kernel_rfl) rfl) (fun w hH => rWide_fit _ (roundZ c (s - s)) h1) rfl rfl rfl rfl ?_
  refine h_q hfl rfl ?_
  refine h_alloc zeWide rfl rfl ?_; intro g9_6
  refine h_store 0 (v := WV (roundZ c (s - s))) (#[hiW (roundZ c (s - s)), loW (roundZ c (s - s))]) tyWide.2 rfl rfl rfl rfl rfl rfl rfl rfl rfl rfl ?_
  refine h_q hfl rfl ?_
  refine h_done (d_reg ?_)
  refine h_load 1 (v := BigZ (roundZ d (t - s))) (reads_all (tyBigC _)) rfl rfl rfl rfl ?_
  refine h_callx (ent_of Tryd.func36 (by kernel_rfl) rfl) (X := fun v => ∃ p2 q2 : Int, v = .tuple #[.agg #[.int .i64 p2, .int .u64 q2], .bool false]) (fun w hH => rWide_nx _ (roundZ d (t - s)) (Nat.lt_trans (at_bp hd (by omega)) (by decide)) h2) rfl rfl rfl rfl ?_; rintro _ ⟨p2, q2, rfl⟩
  refine h_q hfl rfl ?_
  refine h_alloc zeWide rfl rfl ?_; intro g11_7
  refine h_store 0 (v := .agg #[.int .i64 p2, .int .u64 q2]) (#[.int .i64 p2, .int .u64 q2]) tyWide.2 rfl rfl rfl rfl rfl rfl rfl rfl rfl rfl ?_
  refine h_q hfl rfl ?_
  refine h_done (d_seq (d_reg ?_))
  refine h_q hfl rfl ?_
  refine h_done ?_
  refine WC2.keep (env' := [(4, .pointer (some ⟨g4_3, 0, none⟩)), (5, .int .i64 0), (6, .int .i64 s), (7, .pointer (some ⟨g7_4, 0, none⟩)), (8, .pointer (some ⟨g8_5, 0, none⟩)), (48, .bool true)]) ⟨rfl, rfl, rfl, rfl, rfl, rfl, trivial⟩ ?_
  refine d_then rfl (d_reg ?_)
  refine h_build (cs := #[.int .i64 0, .int .u64 0, .int .i64 0]) (by kernel_rfl) rfl rfl rfl ?_
  refine h_store 4 (v := .agg #[.int .i64 0, .int .u64 0, .int .i64 0]) (#[.int .i64 0, .int .u64 0, .int .i64 0]) tyDec.2 rfl rfl rfl rfl rfl rfl rfl rfl rfl rfl ?_
  refine h_q hfl rfl ?_
  refine h_done (d_ret (f_then_ret ?_))
  exact f_fin2 (.cell 4 (v := .agg #[.int .i64 0, .int .u64 0, .int .i64 0]) (reads_agg (cs := [.int .i64 0, .int .u64 0, .int .i64 0]) tyDec rfl) rfl rfl) (.tmp rfl) (fun w h => ⟨rfl, h.up.below⟩) rfl

theorem radd_gt_ok (w : World) (c s d t : Int) (hc : Fits c) (hd : Fits d) (hs : May s) (ht : May t) (hm : t < s) (h1 : Fits (roundZ c (s - s))) (h2 : Fits (roundZ d (t - s))) : Calls Tryd.prog 12 #[Dc c s, Dc d t] w fun e w' => e = .returned (decV (okP (roundZ c (s - s) + roundZ d (t - s)) s)) ∧ Below w.heap.size w w' := by
  refine d_in (args := [Dc c s, Dc d t]) 57 Tryd.func12 rfl rfl rfl ?_
  refine d_reg ?_
  refine h_box (cs := #[hiW c, loW c, .int .i64 s]) rfl rfl rfl rfl ?_; intro g2_1
  refine h_box (cs := #[hiW d, loW d, .int .i64 t]) rfl rfl rfl rfl ?_; intro g3_2
  refine h_alloc zeDec rfl rfl ?_; intro g4_3
  refine h_q hfl rfl ?_
  refine h_done (d_seq (d_reg ?_))
  refine h_load 2 (v := .agg #[hiW c, loW c, .int .i64 s]) (reads_agg (cs := [hiW c, loW c, .int .i64 s]) tyDec rfl) rfl rfl rfl rfl ?_
  refine h_call (ent_of Tryd.func19 (by kernel_rfl) rfl) (fun w hH => rright_yes _ c s hs) rfl rfl rfl rfl ?_
  refine h_q hfl rfl ?_
  refine h_load 1 (v := .agg #[hiW d, loW d, .int .i64 t]) (reads_agg (cs := [hiW d, loW d, .int .i64 t]) tyDec rfl) rfl rfl rfl rfl ?_
  refine h_call (ent_of Tryd.func19 (by kernel_rfl) rfl) (fun w hH => rright_yes _ d t ht) rfl rfl rfl rfl ?_
  refine h_q hfl rfl ?_
  refine h_done (d_else rfl (d_skip (f_to (d_reg ?_))))
  refine h_q hfl rfl ?_
  refine h_load 2 (v := .int .i64 s) (reads_one tyInt rfl) rfl rfl rfl rfl ?_
  refine h_q hfl rfl ?_
  refine h_load 1 (v := .int .i64 t) (reads_one tyInt rfl) rfl rfl rfl rfl ?_
  refine h_builtin (v := .int .i64 s) (fun w cs => run_max2 (by first | rfl | decide | (split <;> omega)) _ _ w cs) rfl rfl rfl ?_
  refine h_q hfl rfl ?_
  refine h_done (d_reg ?_)
  refine h_load 2 (v := .agg #[hiW c, loW c, .int .i64 s]) (reads_agg (cs := [hiW c, loW c, .int .i64 s]) tyDec rfl) rfl rfl rfl rfl ?_
  refine h_q hfl rfl ?_
  refine h_call (ent_of Tryd.func35 (by kernel_rfl) rfl) (fun w hH => rat_any _ c s s hc hs hs) rfl rfl rfl rfl ?_
  refine h_alloc zeBig rfl rfl ?_; intro g7_4
  refine h_store 0 (v := BigZ (roundZ c (s - s))) (bigZ (roundZ c (s - s))) tyBig.2 (bigZ_size _) (by simp [zBig_size, bigZ_size]) (bigZ_one _) (over_all (c := zBig) (v := bigZ (roundZ c (s - s))) (by simp [zBig_size, bigZ_size])) rfl rfl rfl rfl rfl rfl ?_
  refine h_done (d_reg ?_)
  refine h_load 2 (v := .agg #[hiW d, loW d, .int .i64 t]) (reads_agg (cs := [hiW d, loW d, .int .i64 t]) tyDec rfl) rfl rfl rfl rfl ?_
  refine h_q hfl rfl ?_
  refine h_call (ent_of Tryd.func35 (by kernel_rfl) rfl) (fun w hH => rat_any _ d t s hd ht hs) rfl rfl rfl rfl ?_
  refine h_alloc zeBig rfl rfl ?_; intro g8_5
  refine h_store 0 (v := BigZ (roundZ d (t - s))) (bigZ (roundZ d (t - s))) tyBig.2 (bigZ_size _) (by simp [zBig_size, bigZ_size]) (bigZ_one _) (over_all (c := zBig) (v := bigZ (roundZ d (t - s))) (by simp [zBig_size, bigZ_size])) rfl rfl rfl rfl rfl rfl ?_
  refine h_done (d_reg ?_)
  refine h_load 1 (v := BigZ (roundZ c (s - s))) (reads_all (tyBigC _)) rfl rfl rfl rfl ?_
  refine h_call (ent_of Tryd.func36 (by kernel_rfl) rfl) (fun w hH => rWide_fit _ (roundZ c (s - s)) h1) rfl rfl rfl rfl ?_
  refine h_q hfl rfl ?_
  refine h_alloc zeWide rfl rfl ?_; intro g9_6
  refine h_store 0 (v := WV (roundZ c (s - s))) (#[hiW (roundZ c (s - s)), loW (roundZ c (s - s))]) tyWide.2 rfl rfl rfl rfl rfl rfl rfl rfl rfl rfl ?_
  refine h_q hfl rfl ?_
  refine h_done (d_reg ?_)
  refine h_load 1 (v := BigZ (roundZ d (t - s))) (reads_all (tyBigC _)) rfl rfl rfl rfl ?_
  refine h_call (ent_of Tryd.func36 (by kernel_rfl) rfl) (fun w hH => rWide_fit _ (roundZ d (t - s)) h2) rfl rfl rfl rfl ?_
  refine h_q hfl rfl ?_
  refine h_alloc zeWide rfl rfl ?_; intro g11_7
  refine h_store 0 (v := WV (roundZ d (t - s))) (#[hiW (roundZ d (t - s)), loW (roundZ d (t - s))]) tyWide.2 rfl rfl rfl rfl rfl rfl rfl rfl rfl rfl ?_
  refine h_q hfl rfl ?_
  refine h_done (d_seq (d_reg ?_))
  refine h_q hfl rfl ?_
  refine h_done ?_
  refine WC2.keep (env' := [(4, .pointer (some ⟨g4_3, 0, none⟩)), (5, .int .i64 0), (6, .int .i64 s), (7, .pointer (some ⟨g7_4, 0, none⟩)), (8, .pointer (some ⟨g8_5, 0, none⟩)), (48, .bool false)]) ⟨rfl, rfl, rfl, rfl, rfl, rfl, trivial⟩ ?_
  refine d_else rfl (d_skip (f_to (d_reg ?_)))
  refine h_load 3 (v := BigZ (roundZ c (s - s))) (reads_all (tyBigC _)) rfl rfl rfl rfl ?_
  refine h_load 2 (v := BigZ (roundZ d (t - s))) (reads_all (tyBigC _)) rfl rfl rfl rfl ?_
  refine h_call (ent_of Tryd.func38 (by kernel_rfl) rfl) (fun w hH => rsum_any _ (roundZ c (s - s)) (roundZ d (t - s)) (Nat.lt_trans (at_bp hc (by omega)) (by decide)) (Nat.lt_trans (at_bp hd (by omega)) (by decide))) rfl rfl rfl rfl ?_
  refine h_q hfl rfl ?_
  refine h_call (ent_of Tryd.func37 (by kernel_rfl) rfl) (fun w hH => rdec_any _ (roundZ c (s - s) + roundZ d (t - s)) s (by have h1 := at_bp (k := s - s) hc (by omega); have h2 := at_bp (k := t - s) hd (by omega); unfold BP at h1 h2 ⊢; omega)) rfl rfl rfl rfl ?_
  refine h_q hfl rfl ?_
  refine h_store 4 (v := Dc (rz (roundZ c (s - s) + roundZ d (t - s))) (rs (roundZ c (s - s) + roundZ d (t - s)) s)) (#[hiW (rz (roundZ c (s - s) + roundZ d (t - s))), loW (rz (roundZ c (s - s) + roundZ d (t - s))), .int .i64 (rs (roundZ c (s - s) + roundZ d (t - s)) s)]) tyDec.2 rfl rfl rfl rfl rfl rfl rfl rfl rfl rfl ?_
  refine h_q hfl rfl ?_
  refine h_done (d_ret ?_)
  exact f_fin2 (.cell 4 (v := .agg #[hiW (rz (roundZ c (s - s) + roundZ d (t - s))), loW (rz (roundZ c (s - s) + roundZ d (t - s))), .int .i64 (rs (roundZ c (s - s) + roundZ d (t - s)) s)]) (reads_agg (cs := [hiW (rz (roundZ c (s - s) + roundZ d (t - s))), loW (rz (roundZ c (s - s) + roundZ d (t - s))), .int .i64 (rs (roundZ c (s - s) + roundZ d (t - s)) s)]) tyDec rfl) rfl rfl) (.tmp rfl) (fun w h => ⟨rfl, h.up.below⟩) rfl

theorem raddP_any (w : World) (c s d t : Int) (hc : Fits c) (hd : Fits d) : Calls Tryd.prog 12 #[Dc c s, Dc d t] w fun e w' => e = .returned (decV (sumP (· + ·) c s d t)) ∧ Below w.heap.size w w' := by
  unfold sumP
  by_cases hs : May s
  · by_cases ht : May t
    · rw [if_pos ⟨hs, ht⟩]
      by_cases hm : s ≤ t
      · rw [show max s t = t by omega]
        by_cases h1 : Fits (roundZ c (s - t)) <;> by_cases h2 : Fits (roundZ d (t - t))
        · rw [if_pos ⟨h1, h2⟩]
          have := radd_le_ok w c s d t hc hd hs ht hm h1 h2
          exact this
        · rw [if_neg (fun h => h2 h.2)]; exact radd_le_o3 w c s d t hc hd hs ht hm h1 h2
        · rw [if_neg (fun h => h1 h.1)]; exact radd_le_o2 w c s d t hc hd hs ht hm h1 h2
        · rw [if_neg (fun h => h1 h.1)]; exact radd_le_o1 w c s d t hc hd hs ht hm h1 h2
      · rw [show max s t = s by omega]
        by_cases h1 : Fits (roundZ c (s - s)) <;> by_cases h2 : Fits (roundZ d (t - s))
        · rw [if_pos ⟨h1, h2⟩]
          have := radd_gt_ok w c s d t hc hd hs ht (by omega) h1 h2
          exact this
        · rw [if_neg (fun h => h2 h.2)]; exact radd_gt_o3 w c s d t hc hd hs ht (by omega) h1 h2
        · rw [if_neg (fun h => h1 h.1)]; exact radd_gt_o2 w c s d t hc hd hs ht (by omega) h1 h2
        · rw [if_neg (fun h => h1 h.1)]; exact radd_gt_o1 w c s d t hc hd hs ht (by omega) h1 h2
    · rw [if_neg (fun h => ht h.2)]; exact radd_bad2 w c s d t hs ht
  · rw [if_neg (fun h => hs h.1)]; exact radd_bad1 w c s d t hs

theorem rsub_bad1 (w : World) (c s d t : Int) (hs : ¬ May s) : Calls Tryd.prog 14 #[Dc c s, Dc d t] w fun e w' => e = .returned (decV (erP 21)) ∧ Below w.heap.size w w' := by
  refine d_in (args := [Dc c s, Dc d t]) 58 Tryd.func14 rfl rfl rfl ?_
  refine d_reg ?_
  refine h_box (cs := #[hiW c, loW c, .int .i64 s]) rfl rfl rfl rfl ?_; intro g2_1
  refine h_box (cs := #[hiW d, loW d, .int .i64 t]) rfl rfl rfl rfl ?_; intro g3_2
  refine h_alloc zeDec rfl rfl ?_; intro g4_3
  refine h_q hfl rfl ?_
  refine h_done (d_seq (d_reg ?_))
  refine h_load 2 (v := .agg #[hiW c, loW c, .int .i64 s]) (reads_agg (cs := [hiW c, loW c, .int .i64 s]) tyDec rfl) rfl rfl rfl rfl ?_
  refine h_call (ent_of Tryd.func19 (by kernel_rfl) rfl) (fun w hH => rright_no _ c s hs) rfl rfl rfl rfl ?_
  refine h_q hfl rfl ?_
  refine h_done (d_then rfl (d_reg ?_))
  refine h_build (cs := #[.int .i64 0, .int .u64 0, .int .i64 0]) (by kernel_rfl) rfl rfl rfl ?_
  refine h_store 0 (v := .agg #[.int .i64 0, .int .u64 0, .int .i64 0]) (#[.int .i64 0, .int .u64 0, .int .i64 0]) tyDec.2 rfl rfl rfl rfl rfl rfl rfl rfl rfl rfl ?_
  refine h_q hfl rfl ?_
  refine h_done (d_ret (f_then_ret ?_))
  exact f_fin2 (.cell 0 (v := .agg #[.int .i64 0, .int .u64 0, .int .i64 0]) (reads_agg (cs := [.int .i64 0, .int .u64 0, .int .i64 0]) tyDec rfl) rfl rfl) (.tmp rfl) (fun w h => ⟨rfl, h.up.below⟩) rfl

theorem rsub_bad2 (w : World) (c s d t : Int) (hs : May s) (ht : ¬ May t) : Calls Tryd.prog 14 #[Dc c s, Dc d t] w fun e w' => e = .returned (decV (erP 21)) ∧ Below w.heap.size w w' := by
  refine d_in (args := [Dc c s, Dc d t]) 58 Tryd.func14 rfl rfl rfl ?_
  refine d_reg ?_
  refine h_box (cs := #[hiW c, loW c, .int .i64 s]) rfl rfl rfl rfl ?_; intro g2_1
  refine h_box (cs := #[hiW d, loW d, .int .i64 t]) rfl rfl rfl rfl ?_; intro g3_2
  refine h_alloc zeDec rfl rfl ?_; intro g4_3
  refine h_q hfl rfl ?_
  refine h_done (d_seq (d_reg ?_))
  refine h_load 2 (v := .agg #[hiW c, loW c, .int .i64 s]) (reads_agg (cs := [hiW c, loW c, .int .i64 s]) tyDec rfl) rfl rfl rfl rfl ?_
  refine h_call (ent_of Tryd.func19 (by kernel_rfl) rfl) (fun w hH => rright_yes _ c s hs) rfl rfl rfl rfl ?_
  refine h_q hfl rfl ?_
  refine h_load 1 (v := .agg #[hiW d, loW d, .int .i64 t]) (reads_agg (cs := [hiW d, loW d, .int .i64 t]) tyDec rfl) rfl rfl rfl rfl ?_
  refine h_call (ent_of Tryd.func19 (by kernel_rfl) rfl) (fun w hH => rright_no _ d t ht) rfl rfl rfl rfl ?_
  refine h_q hfl rfl ?_
  refine h_done (d_then rfl (d_reg ?_))
  refine h_build (cs := #[.int .i64 0, .int .u64 0, .int .i64 0]) (by kernel_rfl) rfl rfl rfl ?_
  refine h_store 0 (v := .agg #[.int .i64 0, .int .u64 0, .int .i64 0]) (#[.int .i64 0, .int .u64 0, .int .i64 0]) tyDec.2 rfl rfl rfl rfl rfl rfl rfl rfl rfl rfl ?_
  refine h_q hfl rfl ?_
  refine h_done (d_ret (f_then_ret ?_))
  exact f_fin2 (.cell 0 (v := .agg #[.int .i64 0, .int .u64 0, .int .i64 0]) (reads_agg (cs := [.int .i64 0, .int .u64 0, .int .i64 0]) tyDec rfl) rfl rfl) (.tmp rfl) (fun w h => ⟨rfl, h.up.below⟩) rfl

theorem rsub_le_o1 (w : World) (c s d t : Int) (hc : Fits c) (hd : Fits d) (hs : May s) (ht : May t) (hm : s ≤ t) (h1 : ¬ Fits (roundZ c (s - t))) (h2 : ¬ Fits (roundZ d (t - t))) : Calls Tryd.prog 14 #[Dc c s, Dc d t] w fun e w' => e = .returned (decV (erP 20)) ∧ Below w.heap.size w w' := by
  refine d_in (args := [Dc c s, Dc d t]) 58 Tryd.func14 rfl rfl rfl ?_
  refine d_reg ?_
  refine h_box (cs := #[hiW c, loW c, .int .i64 s]) rfl rfl rfl rfl ?_; intro g2_1
  refine h_box (cs := #[hiW d, loW d, .int .i64 t]) rfl rfl rfl rfl ?_; intro g3_2
  refine h_alloc zeDec rfl rfl ?_; intro g4_3
  refine h_q hfl rfl ?_
  refine h_done (d_seq (d_reg ?_))
  refine h_load 2 (v := .agg #[hiW c, loW c, .int .i64 s]) (reads_agg (cs := [hiW c, loW c, .int .i64 s]) tyDec rfl) rfl rfl rfl rfl ?_
  refine h_call (ent_of Tryd.func19 (by kernel_rfl) rfl) (fun w hH => rright_yes _ c s hs) rfl rfl rfl rfl ?_
  refine h_q hfl rfl ?_
  refine h_load 1 (v := .agg #[hiW d, loW d, .int .i64 t]) (reads_agg (cs := [hiW d, loW d, .int .i64 t]) tyDec rfl) rfl rfl rfl rfl ?_
  refine h_call (ent_of Tryd.func19 (by kernel_rfl) rfl) (fun w hH => rright_yes _ d t ht) rfl rfl rfl rfl ?_
  refine h_q hfl rfl ?_
  refine h_done (d_else rfl (d_skip (f_to (d_reg ?_))))
  refine h_q hfl rfl ?_
  refine h_load 2 (v := .int .i64 s) (reads_one tyInt rfl) rfl rfl rfl rfl ?_
  refine h_q hfl rfl ?_
  refine h_load 1 (v := .int .i64 t) (reads_one tyInt rfl) rfl rfl rfl rfl ?_
  refine h_builtin (v := .int .i64 t) (fun w cs => run_max2 (by first | rfl | decide | (split <;> omega)) _ _ w cs) rfl rfl rfl ?_
  refine h_q hfl rfl ?_
  refine h_done (d_reg ?_)
  refine h_load 2 (v := .agg #[hiW c, loW c, .int .i64 s]) (reads_agg (cs := [hiW c, loW c, .int .i64 s]) tyDec rfl) rfl rfl rfl rfl ?_
  refine h_q hfl rfl ?_
  refine h_call (ent_of Tryd.func35 (by kernel_rfl) rfl) (fun w hH => rat_any _ c s t hc hs ht) rfl rfl rfl rfl ?_
  refine h_alloc zeBig rfl rfl ?_; intro g7_4
  refine h_store 0 (v := BigZ (roundZ c (s - t))) (bigZ (roundZ c (s - t))) tyBig.2 (bigZ_size _) (by simp [zBig_size, bigZ_size]) (bigZ_one _) (over_all (c := zBig) (v := bigZ (roundZ c (s - t))) (by simp [zBig_size, bigZ_size])) rfl rfl rfl rfl rfl rfl ?_
  refine h_done (d_reg ?_)
  refine h_load 2 (v := .agg #[hiW d, loW d, .int .i64 t]) (reads_agg (cs := [hiW d, loW d, .int .i64 t]) tyDec rfl) rfl rfl rfl rfl ?_
  refine h_q hfl rfl ?_
  refine h_call (ent_of Tryd.func35 (by kernel_rfl) rfl) (fun w hH => rat_any _ d t t hd ht ht) rfl rfl rfl rfl ?_
  refine h_alloc zeBig rfl rfl ?_; intro g8_5
  refine h_store 0 (v := BigZ (roundZ d (t - t))) (bigZ (roundZ d (t - t))) tyBig.2 (bigZ_size _) (by simp [zBig_size, bigZ_size]) (bigZ_one _) (over_all (c := zBig) (v := bigZ (roundZ d (t - t))) (by simp [zBig_size, bigZ_size])) rfl rfl rfl rfl rfl rfl ?_
  refine h_done (d_reg ?_)
  refine h_load 1 (v := BigZ (roundZ c (s - t))) (reads_all (tyBigC _)) rfl rfl rfl rfl ?_
  refine h_callx (ent_of Tryd.func36 (by kernel_rfl) rfl) (X := fun v => ∃ p1 q1 : Int, v = .tuple #[.agg #[.int .i64 p1, .int .u64 q1], .bool false]) (fun w hH => rWide_nx _ (roundZ c (s - t)) (Nat.lt_trans (at_bp hc (by omega)) (by decide)) h1) rfl rfl rfl rfl ?_; rintro _ ⟨p1, q1, rfl⟩
  refine h_q hfl rfl ?_
  refine h_alloc zeWide rfl rfl ?_; intro g9_6
  refine h_store 0 (v := .agg #[.int .i64 p1, .int .u64 q1]) (#[.int .i64 p1, .int .u64 q1]) tyWide.2 rfl rfl rfl rfl rfl rfl rfl rfl rfl rfl ?_
  refine h_q hfl rfl ?_
  refine h_done (d_reg ?_)
  refine h_load 1 (v := BigZ (roundZ d (t - t))) (reads_all (tyBigC _)) rfl rfl rfl rfl ?_
  refine h_callx (ent_of Tryd.func36 (by kernel_rfl) rfl) (X := fun v => ∃ p2 q2 : Int, v = .tuple #[.agg #[.int .i64 p2, .int .u64 q2], .bool false]) (fun w hH => rWide_nx _ (roundZ d (t - t)) (Nat.lt_trans (at_bp hd (by omega)) (by decide)) h2) rfl rfl rfl rfl ?_; rintro _ ⟨p2, q2, rfl⟩
  refine h_q hfl rfl ?_
  refine h_alloc zeWide rfl rfl ?_; intro g11_7
  refine h_store 0 (v := .agg #[.int .i64 p2, .int .u64 q2]) (#[.int .i64 p2, .int .u64 q2]) tyWide.2 rfl rfl rfl rfl rfl rfl rfl rfl rfl rfl ?_
  refine h_q hfl rfl ?_
  refine h_done (d_seq (d_reg ?_))
  refine h_q hfl rfl ?_
  refine h_done ?_
  refine WC2.keep (env' := [(4, .pointer (some ⟨g4_3, 0, none⟩)), (5, .int .i64 0), (6, .int .i64 t), (7, .pointer (some ⟨g7_4, 0, none⟩)), (8, .pointer (some ⟨g8_5, 0, none⟩)), (48, .bool true)]) ⟨rfl, rfl, rfl, rfl, rfl, rfl, trivial⟩ ?_
  refine d_then rfl (d_reg ?_)
  refine h_build (cs := #[.int .i64 0, .int .u64 0, .int .i64 0]) (by kernel_rfl) rfl rfl rfl ?_
  refine h_store 4 (v := .agg #[.int .i64 0, .int .u64 0, .int .i64 0]) (#[.int .i64 0, .int .u64 0, .int .i64 0]) tyDec.2 rfl rfl rfl rfl rfl rfl rfl rfl rfl rfl ?_
  refine h_q hfl rfl ?_
  refine h_done (d_ret (f_then_ret ?_))
  exact f_fin2 (.cell 4 (v := .agg #[.int .i64 0, .int .u64 0, .int .i64 0]) (reads_agg (cs := [.int .i64 0, .int .u64 0, .int .i64 0]) tyDec rfl) rfl rfl) (.tmp rfl) (fun w h => ⟨rfl, h.up.below⟩) rfl

theorem rsub_le_o2 (w : World) (c s d t : Int) (hc : Fits c) (hd : Fits d) (hs : May s) (ht : May t) (hm : s ≤ t) (h1 : ¬ Fits (roundZ c (s - t))) (h2 : Fits (roundZ d (t - t))) : Calls Tryd.prog 14 #[Dc c s, Dc d t] w fun e w' => e = .returned (decV (erP 20)) ∧ Below w.heap.size w w' := by
  refine d_in (args := [Dc c s, Dc d t]) 58 Tryd.func14 rfl rfl rfl ?_
  refine d_reg ?_
  refine h_box (cs := #[hiW c, loW c, .int .i64 s]) rfl rfl rfl rfl ?_; intro g2_1
  refine h_box (cs := #[hiW d, loW d, .int .i64 t]) rfl rfl rfl rfl ?_; intro g3_2
  refine h_alloc zeDec rfl rfl ?_; intro g4_3
  refine h_q hfl rfl ?_
  refine h_done (d_seq (d_reg ?_))
  refine h_load 2 (v := .agg #[hiW c, loW c, .int .i64 s]) (reads_agg (cs := [hiW c, loW c, .int .i64 s]) tyDec rfl) rfl rfl rfl rfl ?_
  refine h_call (ent_of Tryd.func19 (by kernel_rfl) rfl) (fun w hH => rright_yes _ c s hs) rfl rfl rfl rfl ?_
  refine h_q hfl rfl ?_
  refine h_load 1 (v := .agg #[hiW d, loW d, .int .i64 t]) (reads_agg (cs := [hiW d, loW d, .int .i64 t]) tyDec rfl) rfl rfl rfl rfl ?_
  refine h_call (ent_of Tryd.func19 (by kernel_rfl) rfl) (fun w hH => rright_yes _ d t ht) rfl rfl rfl rfl ?_
  refine h_q hfl rfl ?_
  refine h_done (d_else rfl (d_skip (f_to (d_reg ?_))))
  refine h_q hfl rfl ?_
  refine h_load 2 (v := .int .i64 s) (reads_one tyInt rfl) rfl rfl rfl rfl ?_
  refine h_q hfl rfl ?_
  refine h_load 1 (v := .int .i64 t) (reads_one tyInt rfl) rfl rfl rfl rfl ?_
  refine h_builtin (v := .int .i64 t) (fun w cs => run_max2 (by first | rfl | decide | (split <;> omega)) _ _ w cs) rfl rfl rfl ?_
  refine h_q hfl rfl ?_
  refine h_done (d_reg ?_)
  refine h_load 2 (v := .agg #[hiW c, loW c, .int .i64 s]) (reads_agg (cs := [hiW c, loW c, .int .i64 s]) tyDec rfl) rfl rfl rfl rfl ?_
  refine h_q hfl rfl ?_
  refine h_call (ent_of Tryd.func35 (by kernel_rfl) rfl) (fun w hH => rat_any _ c s t hc hs ht) rfl rfl rfl rfl ?_
  refine h_alloc zeBig rfl rfl ?_; intro g7_4
  refine h_store 0 (v := BigZ (roundZ c (s - t))) (bigZ (roundZ c (s - t))) tyBig.2 (bigZ_size _) (by simp [zBig_size, bigZ_size]) (bigZ_one _) (over_all (c := zBig) (v := bigZ (roundZ c (s - t))) (by simp [zBig_size, bigZ_size])) rfl rfl rfl rfl rfl rfl ?_
  refine h_done (d_reg ?_)
  refine h_load 2 (v := .agg #[hiW d, loW d, .int .i64 t]) (reads_agg (cs := [hiW d, loW d, .int .i64 t]) tyDec rfl) rfl rfl rfl rfl ?_
  refine h_q hfl rfl ?_
  refine h_call (ent_of Tryd.func35 (by kernel_rfl) rfl) (fun w hH => rat_any _ d t t hd ht ht) rfl rfl rfl rfl ?_
  refine h_alloc zeBig rfl rfl ?_; intro g8_5
  refine h_store 0 (v := BigZ (roundZ d (t - t))) (bigZ (roundZ d (t - t))) tyBig.2 (bigZ_size _) (by simp [zBig_size, bigZ_size]) (bigZ_one _) (over_all (c := zBig) (v := bigZ (roundZ d (t - t))) (by simp [zBig_size, bigZ_size])) rfl rfl rfl rfl rfl rfl ?_
  refine h_done (d_reg ?_)
  refine h_load 1 (v := BigZ (roundZ c (s - t))) (reads_all (tyBigC _)) rfl rfl rfl rfl ?_
  refine h_callx (ent_of Tryd.func36 (by kernel_rfl) rfl) (X := fun v => ∃ p1 q1 : Int, v = .tuple #[.agg #[.int .i64 p1, .int .u64 q1], .bool false]) (fun w hH => rWide_nx _ (roundZ c (s - t)) (Nat.lt_trans (at_bp hc (by omega)) (by decide)) h1) rfl rfl rfl rfl ?_; rintro _ ⟨p1, q1, rfl⟩
  refine h_q hfl rfl ?_
  refine h_alloc zeWide rfl rfl ?_; intro g9_6
  refine h_store 0 (v := .agg #[.int .i64 p1, .int .u64 q1]) (#[.int .i64 p1, .int .u64 q1]) tyWide.2 rfl rfl rfl rfl rfl rfl rfl rfl rfl rfl ?_
  refine h_q hfl rfl ?_
  refine h_done (d_reg ?_)
  refine h_load 1 (v := BigZ (roundZ d (t - t))) (reads_all (tyBigC _)) rfl rfl rfl rfl ?_
  refine h_call (ent_of Tryd.func36 (by kernel_rfl) rfl) (fun w hH => rWide_fit _ (roundZ d (t - t)) h2) rfl rfl rfl rfl ?_
  refine h_q hfl rfl ?_
  refine h_alloc zeWide rfl rfl ?_; intro g11_7
  refine h_store 0 (v := WV (roundZ d (t - t))) (#[hiW (roundZ d (t - t)), loW (roundZ d (t - t))]) tyWide.2 rfl rfl rfl rfl rfl rfl rfl rfl rfl rfl ?_
  refine h_q hfl rfl ?_
  refine h_done (d_seq (d_reg ?_))
  refine h_q hfl rfl ?_
  refine h_done ?_
  refine WC2.keep (env' := [(4, .pointer (some ⟨g4_3, 0, none⟩)), (5, .int .i64 0), (6, .int .i64 t), (7, .pointer (some ⟨g7_4, 0, none⟩)), (8, .pointer (some ⟨g8_5, 0, none⟩)), (48, .bool true)]) ⟨rfl, rfl, rfl, rfl, rfl, rfl, trivial⟩ ?_
  refine d_then rfl (d_reg ?_)
  refine h_build (cs := #[.int .i64 0, .int .u64 0, .int .i64 0]) (by kernel_rfl) rfl rfl rfl ?_
  refine h_store 4 (v := .agg #[.int .i64 0, .int .u64 0, .int .i64 0]) (#[.int .i64 0, .int .u64 0, .int .i64 0]) tyDec.2 rfl rfl rfl rfl rfl rfl rfl rfl rfl rfl ?_
  refine h_q hfl rfl ?_
  refine h_done (d_ret (f_then_ret ?_))
  exact f_fin2 (.cell 4 (v := .agg #[.int .i64 0, .int .u64 0, .int .i64 0]) (reads_agg (cs := [.int .i64 0, .int .u64 0, .int .i64 0]) tyDec rfl) rfl rfl) (.tmp rfl) (fun w h => ⟨rfl, h.up.below⟩) rfl

theorem rsub_le_o3 (w : World) (c s d t : Int) (hc : Fits c) (hd : Fits d) (hs : May s) (ht : May t) (hm : s ≤ t) (h1 : Fits (roundZ c (s - t))) (h2 : ¬ Fits (roundZ d (t - t))) : Calls Tryd.prog 14 #[Dc c s, Dc d t] w fun e w' => e = .returned (decV (erP 20)) ∧ Below w.heap.size w w' := by
  refine d_in (args := [Dc c s, Dc d t]) 58 Tryd.func14 rfl rfl rfl ?_
  refine d_reg ?_
  refine h_box (cs := #[hiW c, loW c, .int .i64 s]) rfl rfl rfl rfl ?_; intro g2_1
  refine h_box (cs := #[hiW d, loW d, .int .i64 t]) rfl rfl rfl rfl ?_; intro g3_2
  refine h_alloc zeDec rfl rfl ?_; intro g4_3
  refine h_q hfl rfl ?_
  refine h_done (d_seq (d_reg ?_))
  refine h_load 2 (v := .agg #[hiW c, loW c, .int .i64 s]) (reads_agg (cs := [hiW c, loW c, .int .i64 s]) tyDec rfl) rfl rfl rfl rfl ?_
  refine h_call (ent_of Tryd.func19 (by kernel_rfl) rfl) (fun w hH => rright_yes _ c s hs) rfl rfl rfl rfl ?_
  refine h_q hfl rfl ?_
  refine h_load 1 (v := .agg #[hiW d, loW d, .int .i64 t]) (reads_agg (cs := [hiW d, loW d, .int .i64 t]) tyDec rfl) rfl rfl rfl rfl ?_
  refine h_call (ent_of Tryd.func19 (by kernel_rfl) rfl) (fun w hH => rright_yes _ d t ht) rfl rfl rfl rfl ?_
  refine h_q hfl rfl ?_
  refine h_done (d_else rfl (d_skip (f_to (d_reg ?_))))
  refine h_q hfl rfl ?_
  refine h_load 2 (v := .int .i64 s) (reads_one tyInt rfl) rfl rfl rfl rfl ?_
  refine h_q hfl rfl ?_
  refine h_load 1 (v := .int .i64 t) (reads_one tyInt rfl) rfl rfl rfl rfl ?_
  refine h_builtin (v := .int .i64 t) (fun w cs => run_max2 (by first | rfl | decide | (split <;> omega)) _ _ w cs) rfl rfl rfl ?_
  refine h_q hfl rfl ?_
  refine h_done (d_reg ?_)
  refine h_load 2 (v := .agg #[hiW c, loW c, .int .i64 s]) (reads_agg (cs := [hiW c, loW c, .int .i64 s]) tyDec rfl) rfl rfl rfl rfl ?_
  refine h_q hfl rfl ?_
  refine h_call (ent_of Tryd.func35 (by kernel_rfl) rfl) (fun w hH => rat_any _ c s t hc hs ht) rfl rfl rfl rfl ?_
  refine h_alloc zeBig rfl rfl ?_; intro g7_4
  refine h_store 0 (v := BigZ (roundZ c (s - t))) (bigZ (roundZ c (s - t))) tyBig.2 (bigZ_size _) (by simp [zBig_size, bigZ_size]) (bigZ_one _) (over_all (c := zBig) (v := bigZ (roundZ c (s - t))) (by simp [zBig_size, bigZ_size])) rfl rfl rfl rfl rfl rfl ?_
  refine h_done (d_reg ?_)
  refine h_load 2 (v := .agg #[hiW d, loW d, .int .i64 t]) (reads_agg (cs := [hiW d, loW d, .int .i64 t]) tyDec rfl) rfl rfl rfl rfl ?_
  refine h_q hfl rfl ?_
  refine h_call (ent_of Tryd.func35 (by kernel_rfl) rfl) (fun w hH => rat_any _ d t t hd ht ht) rfl rfl rfl rfl ?_
  refine h_alloc zeBig rfl rfl ?_; intro g8_5
  refine h_store 0 (v := BigZ (roundZ d (t - t))) (bigZ (roundZ d (t - t))) tyBig.2 (bigZ_size _) (by simp [zBig_size, bigZ_size]) (bigZ_one _) (over_all (c := zBig) (v := bigZ (roundZ d (t - t))) (by simp [zBig_size, bigZ_size])) rfl rfl rfl rfl rfl rfl ?_
  refine h_done (d_reg ?_)
  refine h_load 1 (v := BigZ (roundZ c (s - t))) (reads_all (tyBigC _)) rfl rfl rfl rfl ?_
  refine h_call (ent_of Tryd.func36 (by kernel_rfl) rfl) (fun w hH => rWide_fit _ (roundZ c (s - t)) h1) rfl rfl rfl rfl ?_
  refine h_q hfl rfl ?_
  refine h_alloc zeWide rfl rfl ?_; intro g9_6
  refine h_store 0 (v := WV (roundZ c (s - t))) (#[hiW (roundZ c (s - t)), loW (roundZ c (s - t))]) tyWide.2 rfl rfl rfl rfl rfl rfl rfl rfl rfl rfl ?_
  refine h_q hfl rfl ?_
  refine h_done (d_reg ?_)
  refine h_load 1 (v := BigZ (roundZ d (t - t))) (reads_all (tyBigC _)) rfl rfl rfl rfl ?_
  refine h_callx (ent_of Tryd.func36 (by kernel_rfl) rfl) (X := fun v => ∃ p2 q2 : Int, v = .tuple #[.agg #[.int .i64 p2, .int .u64 q2], .bool false]) (fun w hH => rWide_nx _ (roundZ d (t - t)) (Nat.lt_trans (at_bp hd (by omega)) (by decide)) h2) rfl rfl rfl rfl ?_; rintro _ ⟨p2, q2, rfl⟩
  refine h_q hfl rfl ?_
  refine h_alloc zeWide rfl rfl ?_; intro g11_7
  refine h_store 0 (v := .agg #[.int .i64 p2, .int .u64 q2]) (#[.int .i64 p2, .int .u64 q2]) tyWide.2 rfl rfl rfl rfl rfl rfl rfl rfl rfl rfl ?_
  refine h_q hfl rfl ?_
  refine h_done (d_seq (d_reg ?_))
  refine h_q hfl rfl ?_
  refine h_done ?_
  refine WC2.keep (env' := [(4, .pointer (some ⟨g4_3, 0, none⟩)), (5, .int .i64 0), (6, .int .i64 t), (7, .pointer (some ⟨g7_4, 0, none⟩)), (8, .pointer (some ⟨g8_5, 0, none⟩)), (48, .bool true)]) ⟨rfl, rfl, rfl, rfl, rfl, rfl, trivial⟩ ?_
  refine d_then rfl (d_reg ?_)
  refine h_build (cs := #[.int .i64 0, .int .u64 0, .int .i64 0]) (by kernel_rfl) rfl rfl rfl ?_
  refine h_store 4 (v := .agg #[.int .i64 0, .int .u64 0, .int .i64 0]) (#[.int .i64 0, .int .u64 0, .int .i64 0]) tyDec.2 rfl rfl rfl rfl rfl rfl rfl rfl rfl rfl ?_
  refine h_q hfl rfl ?_
  refine h_done (d_ret (f_then_ret ?_))
  exact f_fin2 (.cell 4 (v := .agg #[.int .i64 0, .int .u64 0, .int .i64 0]) (reads_agg (cs := [.int .i64 0, .int .u64 0, .int .i64 0]) tyDec rfl) rfl rfl) (.tmp rfl) (fun w h => ⟨rfl, h.up.below⟩) rfl

theorem rsub_le_ok (w : World) (c s d t : Int) (hc : Fits c) (hd : Fits d) (hs : May s) (ht : May t) (hm : s ≤ t) (h1 : Fits (roundZ c (s - t))) (h2 : Fits (roundZ d (t - t))) : Calls Tryd.prog 14 #[Dc c s, Dc d t] w fun e w' => e = .returned (decV (okP (roundZ c (s - t) + -roundZ d (t - t)) t)) ∧ Below w.heap.size w w' := by
  refine d_in (args := [Dc c s, Dc d t]) 58 Tryd.func14 rfl rfl rfl ?_
  refine d_reg ?_
  refine h_box (cs := #[hiW c, loW c, .int .i64 s]) rfl rfl rfl rfl ?_; intro g2_1
  refine h_box (cs := #[hiW d, loW d, .int .i64 t]) rfl rfl rfl rfl ?_; intro g3_2
  refine h_alloc zeDec rfl rfl ?_; intro g4_3
  refine h_q hfl rfl ?_
  refine h_done (d_seq (d_reg ?_))
  refine h_load 2 (v := .agg #[hiW c, loW c, .int .i64 s]) (reads_agg (cs := [hiW c, loW c, .int .i64 s]) tyDec rfl) rfl rfl rfl rfl ?_
  refine h_call (ent_of Tryd.func19 (by kernel_rfl) rfl) (fun w hH => rright_yes _ c s hs) rfl rfl rfl rfl ?_
  refine h_q hfl rfl ?_
  refine h_load 1 (v := .agg #[hiW d, loW d, .int .i64 t]) (reads_agg (cs := [hiW d, loW d, .int .i64 t]) tyDec rfl) rfl rfl rfl rfl ?_
  refine h_call (ent_of Tryd.func19 (by kernel_rfl) rfl) (fun w hH => rright_yes _ d t ht) rfl rfl rfl rfl ?_
  refine h_q hfl rfl ?_
  refine h_done (d_else rfl (d_skip (f_to (d_reg ?_))))
  refine h_q hfl rfl ?_
  refine h_load 2 (v := .int .i64 s) (reads_one tyInt rfl) rfl rfl rfl rfl ?_
  refine h_q hfl rfl ?_
  refine h_load 1 (v := .int .i64 t) (reads_one tyInt rfl) rfl rfl rfl rfl ?_
  refine h_builtin (v := .int .i64 t) (fun w cs => run_max2 (by first | rfl | decide | (split <;> omega)) _ _ w cs) rfl rfl rfl ?_
  refine h_q hfl rfl ?_
  refine h_done (d_reg ?_)
  refine h_load 2 (v := .agg #[hiW c, loW c, .int .i64 s]) (reads_agg (cs := [hiW c, loW c, .int .i64 s]) tyDec rfl) rfl rfl rfl rfl ?_
  refine h_q hfl rfl ?_
  refine h_call (ent_of Tryd.func35 (by kernel_rfl) rfl) (fun w hH => rat_any _ c s t hc hs ht) rfl rfl rfl rfl ?_
  refine h_alloc zeBig rfl rfl ?_; intro g7_4
  refine h_store 0 (v := BigZ (roundZ c (s - t))) (bigZ (roundZ c (s - t))) tyBig.2 (bigZ_size _) (by simp [zBig_size, bigZ_size]) (bigZ_one _) (over_all (c := zBig) (v := bigZ (roundZ c (s - t))) (by simp [zBig_size, bigZ_size])) rfl rfl rfl rfl rfl rfl ?_
  refine h_done (d_reg ?_)
  refine h_load 2 (v := .agg #[hiW d, loW d, .int .i64 t]) (reads_agg (cs := [hiW d, loW d, .int .i64 t]) tyDec rfl) rfl rfl rfl rfl ?_
  refine h_q hfl rfl ?_
  refine h_call (ent_of Tryd.func35 (by kernel_rfl) rfl) (fun w hH => rat_any _ d t t hd ht ht) rfl rfl rfl rfl ?_
  refine h_alloc zeBig rfl rfl ?_; intro g8_5
  refine h_store 0 (v := BigZ (roundZ d (t - t))) (bigZ (roundZ d (t - t))) tyBig.2 (bigZ_size _) (by simp [zBig_size, bigZ_size]) (bigZ_one _) (over_all (c := zBig) (v := bigZ (roundZ d (t - t))) (by simp [zBig_size, bigZ_size])) rfl rfl rfl rfl rfl rfl ?_
  refine h_done (d_reg ?_)
  refine h_load 1 (v := BigZ (roundZ c (s - t))) (reads_all (tyBigC _)) rfl rfl rfl rfl ?_
  refine h_call (ent_of Tryd.func36 (by kernel_rfl) rfl) (fun w hH => rWide_fit _ (roundZ c (s - t)) h1) rfl rfl rfl rfl ?_
  refine h_q hfl rfl ?_
  refine h_alloc zeWide rfl rfl ?_; intro g9_6
  refine h_store 0 (v := WV (roundZ c (s - t))) (#[hiW (roundZ c (s - t)), loW (roundZ c (s - t))]) tyWide.2 rfl rfl rfl rfl rfl rfl rfl rfl rfl rfl ?_
  refine h_q hfl rfl ?_
  refine h_done (d_reg ?_)
  refine h_load 1 (v := BigZ (roundZ d (t - t))) (reads_all (tyBigC _)) rfl rfl rfl rfl ?_
  refine h_call (ent_of Tryd.func36 (by kernel_rfl) rfl) (fun w hH => rWide_fit _ (roundZ d (t - t)) h2) rfl rfl rfl rfl ?_
  refine h_q hfl rfl ?_
  refine h_alloc zeWide rfl rfl ?_; intro g11_7
  refine h_store 0 (v := WV (roundZ d (t - t))) (#[hiW (roundZ d (t - t)), loW (roundZ d (t - t))]) tyWide.2 rfl rfl rfl rfl rfl rfl rfl rfl rfl rfl ?_
  refine h_q hfl rfl ?_
  refine h_done (d_seq (d_reg ?_))
  refine h_q hfl rfl ?_
  refine h_done ?_
  refine WC2.keep (env' := [(4, .pointer (some ⟨g4_3, 0, none⟩)), (5, .int .i64 0), (6, .int .i64 t), (7, .pointer (some ⟨g7_4, 0, none⟩)), (8, .pointer (some ⟨g8_5, 0, none⟩)), (48, .bool false)]) ⟨rfl, rfl, rfl, rfl, rfl, rfl, trivial⟩ ?_
  refine d_else rfl (d_skip (f_to (d_seq ?_)))
  refine d_par 8 3 [⟨.quiet, 0, fun _ => BigZ (roundZ c (s - t)), []⟩, ⟨.quiet, 0, fun _ => BigZ (roundZ d (t - t)), []⟩, ⟨.call, 1, fun _ => BigZ (-roundZ d (t - t)), [1]⟩, ⟨.call, 2, fun _ => BigZ (roundZ c (s - t) + -roundZ d (t - t)), [0, 2]⟩, ⟨.quiet, 0, fun _ => .int .i64 t, []⟩, ⟨.call, 3, fun _ => .tuple #[Dc (rz (roundZ c (s - t) + -roundZ d (t - t))) (rs (roundZ c (s - t) + -roundZ d (t - t)) t), .int .i64 (rE (roundZ c (s - t) + -roundZ d (t - t)))], [3, 4]⟩, ⟨.quiet, 3, fun _ => Dc (rz (roundZ c (s - t) + -roundZ d (t - t))) (rs (roundZ c (s - t) + -roundZ d (t - t)) t), [5]⟩, ⟨.quiet, 3, fun _ => .int .i64 (rE (roundZ c (s - t) + -roundZ d (t - t))), [5]⟩] [(4, .pointer (some ⟨g4_3, 0, none⟩)), (5, .int .i64 0), (6, .int .i64 t), (7, .pointer (some ⟨g7_4, 0, none⟩)), (8, .pointer (some ⟨g8_5, 0, none⟩))] (by kernel_rfl) (by kernel_rfl) ⟨rfl, rfl, rfl, rfl, rfl, trivial⟩ ?_ ?_
  · skip
    refine o_cons (o_load 3 (reads_all (tyBigC _)) (fun _ _ => rfl) rfl (fun _ _ => rfl) rfl) ?_
    refine o_cons (o_load 2 (reads_all (tyBigC _)) (fun _ _ => rfl) rfl (fun _ _ => rfl) rfl) ?_
    refine o_cons (o_call (ent_of Tryd.func39 (by kernel_rfl) rfl) (fun w hU => minus_any _ (roundZ d (t - t)) (Nat.lt_trans (at_bp hd (by omega)) (by decide))) (fun _ _ => rfl) rfl (fun _ _ => rfl) (fun _ _ => rfl)) ?_
    refine o_cons (o_call (ent_of Tryd.func38 (by kernel_rfl) rfl) (fun w hU => rsum_any _ (roundZ c (s - t)) (-roundZ d (t - t)) (Nat.lt_trans (at_bp hc (by omega)) (by decide)) (by rw [Int.natAbs_neg]; exact (Nat.lt_trans (at_bp hd (by omega)) (by decide)))) (fun _ _ => rfl) rfl (fun _ _ => rfl) (fun _ _ => rfl)) ?_
    refine o_cons (o_q hfl (fun _ _ => rfl) (fun _ _ => rfl)) ?_
    refine o_cons (o_call (ent_of Tryd.func37 (by kernel_rfl) rfl) (fun w hU => rdec_any _ (roundZ c (s - t) + -roundZ d (t - t)) t (by have h1 := at_bp (k := s - t) hc (by omega); have h2 := at_bp (k := t - t) hd (by omega); unfold BP at h1 h2 ⊢; omega)) (fun _ _ => rfl) rfl (fun _ _ => rfl) (fun _ _ => rfl)) ?_
    refine o_cons (o_q hfl (fun _ _ => rfl) (fun _ _ => rfl)) ?_
    refine o_cons (o_q hfl (fun _ _ => rfl) (fun _ _ => rfl)) ?_
    exact o_nil
  intro σ8 gs8
  refine WL2.keep (env' := [(4, .pointer (some ⟨g4_3, 0, none⟩)), (5, .int .i64 0), (56, Dc (rz (roundZ c (s - t) + -roundZ d (t - t))) (rs (roundZ c (s - t) + -roundZ d (t - t)) t)), (57, .int .i64 (rE (roundZ c (s - t) + -roundZ d (t - t))))]) ⟨rfl, rfl, rfl, rfl, trivial⟩ ?_
  refine h_store 4 (v := Dc (rz (roundZ c (s - t) + -roundZ d (t - t))) (rs (roundZ c (s - t) + -roundZ d (t - t)) t)) (#[hiW (rz (roundZ c (s - t) + -roundZ d (t - t))), loW (rz (roundZ c (s - t) + -roundZ d (t - t))), .int .i64 (rs (roundZ c (s - t) + -roundZ d (t - t)) t)]) tyDec.2 rfl rfl rfl rfl rfl rfl rfl rfl rfl rfl ?_
  refine h_q hfl rfl ?_
  refine h_nil (f_to (d_ret ?_))
  exact f_fin2 (.cell 4 (v := .agg #[hiW (rz (roundZ c (s - t) + -roundZ d (t - t))), loW (rz (roundZ c (s - t) + -roundZ d (t - t))), .int .i64 (rs (roundZ c (s - t) + -roundZ d (t - t)) t)]) (reads_agg (cs := [hiW (rz (roundZ c (s - t) + -roundZ d (t - t))), loW (rz (roundZ c (s - t) + -roundZ d (t - t))), .int .i64 (rs (roundZ c (s - t) + -roundZ d (t - t)) t)]) tyDec rfl) rfl rfl) (.tmp rfl) (fun w h => ⟨rfl, h.up.below⟩) rfl

theorem rsub_gt_o1 (w : World) (c s d t : Int) (hc : Fits c) (hd : Fits d) (hs : May s) (ht : May t) (hm : t < s) (h1 : ¬ Fits (roundZ c (s - s))) (h2 : ¬ Fits (roundZ d (t - s))) : Calls Tryd.prog 14 #[Dc c s, Dc d t] w fun e w' => e = .returned (decV (erP 20)) ∧ Below w.heap.size w w' := by
  refine d_in (args := [Dc c s, Dc d t]) 58 Tryd.func14 rfl rfl rfl ?_
  refine d_reg ?_
  refine h_box (cs := #[hiW c, loW c, .int .i64 s]) rfl rfl rfl rfl ?_; intro g2_1
  refine h_box (cs := #[hiW d, loW d, .int .i64 t]) rfl rfl rfl rfl ?_; intro g3_2
  refine h_alloc zeDec rfl rfl ?_; intro g4_3
  refine h_q hfl rfl ?_
  refine h_done (d_seq (d_reg ?_))
  refine h_load 2 (v := .agg #[hiW c, loW c, .int .i64 s]) (reads_agg (cs := [hiW c, loW c, .int .i64 s]) tyDec rfl) rfl rfl rfl rfl ?_
  refine h_call (ent_of Tryd.func19 (by kernel_rfl) rfl) (fun w hH => rright_yes _ c s hs) rfl rfl rfl rfl ?_
  refine h_q hfl rfl ?_
  refine h_load 1 (v := .agg #[hiW d, loW d, .int .i64 t]) (reads_agg (cs := [hiW d, loW d, .int .i64 t]) tyDec rfl) rfl rfl rfl rfl ?_
  refine h_call (ent_of Tryd.func19 (by kernel_rfl) rfl) (fun w hH => rright_yes _ d t ht) rfl rfl rfl rfl ?_
  refine h_q hfl rfl ?_
  refine h_done (d_else rfl (d_skip (f_to (d_reg ?_))))
  refine h_q hfl rfl ?_
  refine h_load 2 (v := .int .i64 s) (reads_one tyInt rfl) rfl rfl rfl rfl ?_
  refine h_q hfl rfl ?_
  refine h_load 1 (v := .int .i64 t) (reads_one tyInt rfl) rfl rfl rfl rfl ?_
  refine h_builtin (v := .int .i64 s) (fun w cs => run_max2 (by first | rfl | decide | (split <;> omega)) _ _ w cs) rfl rfl rfl ?_
  refine h_q hfl rfl ?_
  refine h_done (d_reg ?_)
  refine h_load 2 (v := .agg #[hiW c, loW c, .int .i64 s]) (reads_agg (cs := [hiW c, loW c, .int .i64 s]) tyDec rfl) rfl rfl rfl rfl ?_
  refine h_q hfl rfl ?_
  refine h_call (ent_of Tryd.func35 (by kernel_rfl) rfl) (fun w hH => rat_any _ c s s hc hs hs) rfl rfl rfl rfl ?_
  refine h_alloc zeBig rfl rfl ?_; intro g7_4
  refine h_store 0 (v := BigZ (roundZ c (s - s))) (bigZ (roundZ c (s - s))) tyBig.2 (bigZ_size _) (by simp [zBig_size, bigZ_size]) (bigZ_one _) (over_all (c := zBig) (v := bigZ (roundZ c (s - s))) (by simp [zBig_size, bigZ_size])) rfl rfl rfl rfl rfl rfl ?_
  refine h_done (d_reg ?_)
  refine h_load 2 (v := .agg #[hiW d, loW d, .int .i64 t]) (reads_agg (cs := [hiW d, loW d, .int .i64 t]) tyDec rfl) rfl rfl rfl rfl ?_
  refine h_q hfl rfl ?_
  refine h_call (ent_of Tryd.func35 (by kernel_rfl) rfl) (fun w hH => rat_any _ d t s hd ht hs) rfl rfl rfl rfl ?_
  refine h_alloc zeBig rfl rfl ?_; intro g8_5
  refine h_store 0 (v := BigZ (roundZ d (t - s))) (bigZ (roundZ d (t - s))) tyBig.2 (bigZ_size _) (by simp [zBig_size, bigZ_size]) (bigZ_one _) (over_all (c := zBig) (v := bigZ (roundZ d (t - s))) (by simp [zBig_size, bigZ_size])) rfl rfl rfl rfl rfl rfl ?_
  refine h_done (d_reg ?_)
  refine h_load 1 (v := BigZ (roundZ c (s - s))) (reads_all (tyBigC _)) rfl rfl rfl rfl ?_
  refine h_callx (ent_of Tryd.func36 (by kernel_rfl) rfl) (X := fun v => ∃ p1 q1 : Int, v = .tuple #[.agg #[.int .i64 p1, .int .u64 q1], .bool false]) (fun w hH => rWide_nx _ (roundZ c (s - s)) (Nat.lt_trans (at_bp hc (by omega)) (by decide)) h1) rfl rfl rfl rfl ?_; rintro _ ⟨p1, q1, rfl⟩
  refine h_q hfl rfl ?_
  refine h_alloc zeWide rfl rfl ?_; intro g9_6
  refine h_store 0 (v := .agg #[.int .i64 p1, .int .u64 q1]) (#[.int .i64 p1, .int .u64 q1]) tyWide.2 rfl rfl rfl rfl rfl rfl rfl rfl rfl rfl ?_
  refine h_q hfl rfl ?_
  refine h_done (d_reg ?_)
  refine h_load 1 (v := BigZ (roundZ d (t - s))) (reads_all (tyBigC _)) rfl rfl rfl rfl ?_
  refine h_callx (ent_of Tryd.func36 (by kernel_rfl) rfl) (X := fun v => ∃ p2 q2 : Int, v = .tuple #[.agg #[.int .i64 p2, .int .u64 q2], .bool false]) (fun w hH => rWide_nx _ (roundZ d (t - s)) (Nat.lt_trans (at_bp hd (by omega)) (by decide)) h2) rfl rfl rfl rfl ?_; rintro _ ⟨p2, q2, rfl⟩
  refine h_q hfl rfl ?_
  refine h_alloc zeWide rfl rfl ?_; intro g11_7
  refine h_store 0 (v := .agg #[.int .i64 p2, .int .u64 q2]) (#[.int .i64 p2, .int .u64 q2]) tyWide.2 rfl rfl rfl rfl rfl rfl rfl rfl rfl rfl ?_
  refine h_q hfl rfl ?_
  refine h_done (d_seq (d_reg ?_))
  refine h_q hfl rfl ?_
  refine h_done ?_
  refine WC2.keep (env' := [(4, .pointer (some ⟨g4_3, 0, none⟩)), (5, .int .i64 0), (6, .int .i64 s), (7, .pointer (some ⟨g7_4, 0, none⟩)), (8, .pointer (some ⟨g8_5, 0, none⟩)), (48, .bool true)]) ⟨rfl, rfl, rfl, rfl, rfl, rfl, trivial⟩ ?_
  refine d_then rfl (d_reg ?_)
  refine h_build (cs := #[.int .i64 0, .int .u64 0, .int .i64 0]) (by kernel_rfl) rfl rfl rfl ?_
  refine h_store 4 (v := .agg #[.int .i64 0, .int .u64 0, .int .i64 0]) (#[.int .i64 0, .int .u64 0, .int .i64 0]) tyDec.2 rfl rfl rfl rfl rfl rfl rfl rfl rfl rfl ?_
  refine h_q hfl rfl ?_
  refine h_done (d_ret (f_then_ret ?_))
  exact f_fin2 (.cell 4 (v := .agg #[.int .i64 0, .int .u64 0, .int .i64 0]) (reads_agg (cs := [.int .i64 0, .int .u64 0, .int .i64 0]) tyDec rfl) rfl rfl) (.tmp rfl) (fun w h => ⟨rfl, h.up.below⟩) rfl

theorem rsub_gt_o2 (w : World) (c s d t : Int) (hc : Fits c) (hd : Fits d) (hs : May s) (ht : May t) (hm : t < s) (h1 : ¬ Fits (roundZ c (s - s))) (h2 : Fits (roundZ d (t - s))) : Calls Tryd.prog 14 #[Dc c s, Dc d t] w fun e w' => e = .returned (decV (erP 20)) ∧ Below w.heap.size w w' := by
  refine d_in (args := [Dc c s, Dc d t]) 58 Tryd.func14 rfl rfl rfl ?_
  refine d_reg ?_
  refine h_box (cs := #[hiW c, loW c, .int .i64 s]) rfl rfl rfl rfl ?_; intro g2_1
  refine h_box (cs := #[hiW d, loW d, .int .i64 t]) rfl rfl rfl rfl ?_; intro g3_2
  refine h_alloc zeDec rfl rfl ?_; intro g4_3
  refine h_q hfl rfl ?_
  refine h_done (d_seq (d_reg ?_))
  refine h_load 2 (v := .agg #[hiW c, loW c, .int .i64 s]) (reads_agg (cs := [hiW c, loW c, .int .i64 s]) tyDec rfl) rfl rfl rfl rfl ?_
  refine h_call (ent_of Tryd.func19 (by kernel_rfl) rfl) (fun w hH => rright_yes _ c s hs) rfl rfl rfl rfl ?_
  refine h_q hfl rfl ?_
  refine h_load 1 (v := .agg #[hiW d, loW d, .int .i64 t]) (reads_agg (cs := [hiW d, loW d, .int .i64 t]) tyDec rfl) rfl rfl rfl rfl ?_
  refine h_call (ent_of Tryd.func19 (by kernel_rfl) rfl) (fun w hH => rright_yes _ d t ht) rfl rfl rfl rfl ?_
  refine h_q hfl rfl ?_
  refine h_done (d_else rfl (d_skip (f_to (d_reg ?_))))
  refine h_q hfl rfl ?_
  refine h_load 2 (v := .int .i64 s) (reads_one tyInt rfl) rfl rfl rfl rfl ?_
  refine h_q hfl rfl ?_
  refine h_load 1 (v := .int .i64 t) (reads_one tyInt rfl) rfl rfl rfl rfl ?_
  refine h_builtin (v := .int .i64 s) (fun w cs => run_max2 (by first | rfl | decide | (split <;> omega)) _ _ w cs) rfl rfl rfl ?_
  refine h_q hfl rfl ?_
  refine h_done (d_reg ?_)
  refine h_load 2 (v := .agg #[hiW c, loW c, .int .i64 s]) (reads_agg (cs := [hiW c, loW c, .int .i64 s]) tyDec rfl) rfl rfl rfl rfl ?_
  refine h_q hfl rfl ?_
  refine h_call (ent_of Tryd.func35 (by kernel_rfl) rfl) (fun w hH => rat_any _ c s s hc hs hs) rfl rfl rfl rfl ?_
  refine h_alloc zeBig rfl rfl ?_; intro g7_4
  refine h_store 0 (v := BigZ (roundZ c (s - s))) (bigZ (roundZ c (s - s))) tyBig.2 (bigZ_size _) (by simp [zBig_size, bigZ_size]) (bigZ_one _) (over_all (c := zBig) (v := bigZ (roundZ c (s - s))) (by simp [zBig_size, bigZ_size])) rfl rfl rfl rfl rfl rfl ?_
  refine h_done (d_reg ?_)
  refine h_load 2 (v := .agg #[hiW d, loW d, .int .i64 t]) (reads_agg (cs := [hiW d, loW d, .int .i64 t]) tyDec rfl) rfl rfl rfl rfl ?_
  refine h_q hfl rfl ?_
  refine h_call (ent_of Tryd.func35 (by kernel_rfl) rfl) (fun w hH => rat_any _ d t s hd ht hs) rfl rfl rfl rfl ?_
  refine h_alloc zeBig rfl rfl ?_; intro g8_5
  refine h_store 0 (v := BigZ (roundZ d (t - s))) (bigZ (roundZ d (t - s))) tyBig.2 (bigZ_size _) (by simp [zBig_size, bigZ_size]) (bigZ_one _) (over_all (c := zBig) (v := bigZ (roundZ d (t - s))) (by simp [zBig_size, bigZ_size])) rfl rfl rfl rfl rfl rfl ?_
  refine h_done (d_reg ?_)
  refine h_load 1 (v := BigZ (roundZ c (s - s))) (reads_all (tyBigC _)) rfl rfl rfl rfl ?_
  refine h_callx (ent_of Tryd.func36 (by kernel_rfl) rfl) (X := fun v => ∃ p1 q1 : Int, v = .tuple #[.agg #[.int .i64 p1, .int .u64 q1], .bool false]) (fun w hH => rWide_nx _ (roundZ c (s - s)) (Nat.lt_trans (at_bp hc (by omega)) (by decide)) h1) rfl rfl rfl rfl ?_; rintro _ ⟨p1, q1, rfl⟩
  refine h_q hfl rfl ?_
  refine h_alloc zeWide rfl rfl ?_; intro g9_6
  refine h_store 0 (v := .agg #[.int .i64 p1, .int .u64 q1]) (#[.int .i64 p1, .int .u64 q1]) tyWide.2 rfl rfl rfl rfl rfl rfl rfl rfl rfl rfl ?_
  refine h_q hfl rfl ?_
  refine h_done (d_reg ?_)
  refine h_load 1 (v := BigZ (roundZ d (t - s))) (reads_all (tyBigC _)) rfl rfl rfl rfl ?_
  refine h_call (ent_of Tryd.func36 (by kernel_rfl) rfl) (fun w hH => rWide_fit _ (roundZ d (t - s)) h2) rfl rfl rfl rfl ?_
  refine h_q hfl rfl ?_
  refine h_alloc zeWide rfl rfl ?_; intro g11_7
  refine h_store 0 (v := WV (roundZ d (t - s))) (#[hiW (roundZ d (t - s)), loW (roundZ d (t - s))]) tyWide.2 rfl rfl rfl rfl rfl rfl rfl rfl rfl rfl ?_
  refine h_q hfl rfl ?_
  refine h_done (d_seq (d_reg ?_))
  refine h_q hfl rfl ?_
  refine h_done ?_
  refine WC2.keep (env' := [(4, .pointer (some ⟨g4_3, 0, none⟩)), (5, .int .i64 0), (6, .int .i64 s), (7, .pointer (some ⟨g7_4, 0, none⟩)), (8, .pointer (some ⟨g8_5, 0, none⟩)), (48, .bool true)]) ⟨rfl, rfl, rfl, rfl, rfl, rfl, trivial⟩ ?_
  refine d_then rfl (d_reg ?_)
  refine h_build (cs := #[.int .i64 0, .int .u64 0, .int .i64 0]) (by kernel_rfl) rfl rfl rfl ?_
  refine h_store 4 (v := .agg #[.int .i64 0, .int .u64 0, .int .i64 0]) (#[.int .i64 0, .int .u64 0, .int .i64 0]) tyDec.2 rfl rfl rfl rfl rfl rfl rfl rfl rfl rfl ?_
  refine h_q hfl rfl ?_
  refine h_done (d_ret (f_then_ret ?_))
  exact f_fin2 (.cell 4 (v := .agg #[.int .i64 0, .int .u64 0, .int .i64 0]) (reads_agg (cs := [.int .i64 0, .int .u64 0, .int .i64 0]) tyDec rfl) rfl rfl) (.tmp rfl) (fun w h => ⟨rfl, h.up.below⟩) rfl

theorem rsub_gt_o3 (w : World) (c s d t : Int) (hc : Fits c) (hd : Fits d) (hs : May s) (ht : May t) (hm : t < s) (h1 : Fits (roundZ c (s - s))) (h2 : ¬ Fits (roundZ d (t - s))) : Calls Tryd.prog 14 #[Dc c s, Dc d t] w fun e w' => e = .returned (decV (erP 20)) ∧ Below w.heap.size w w' := by
  refine d_in (args := [Dc c s, Dc d t]) 58 Tryd.func14 rfl rfl rfl ?_
  refine d_reg ?_
  refine h_box (cs := #[hiW c, loW c, .int .i64 s]) rfl rfl rfl rfl ?_; intro g2_1
  refine h_box (cs := #[hiW d, loW d, .int .i64 t]) rfl rfl rfl rfl ?_; intro g3_2
  refine h_alloc zeDec rfl rfl ?_; intro g4_3
  refine h_q hfl rfl ?_
  refine h_done (d_seq (d_reg ?_))
  refine h_load 2 (v := .agg #[hiW c, loW c, .int .i64 s]) (reads_agg (cs := [hiW c, loW c, .int .i64 s]) tyDec rfl) rfl rfl rfl rfl ?_
  refine h_call (ent_of Tryd.func19 (by kernel_rfl) rfl) (fun w hH => rright_yes _ c s hs) rfl rfl rfl rfl ?_
  refine h_q hfl rfl ?_
  refine h_load 1 (v := .agg #[hiW d, loW d, .int .i64 t]) (reads_agg (cs := [hiW d, loW d, .int .i64 t]) tyDec rfl) rfl rfl rfl rfl ?_
  refine h_call (ent_of Tryd.func19 (by kernel_rfl) rfl) (fun w hH => rright_yes _ d t ht) rfl rfl rfl rfl ?_
  refine h_q hfl rfl ?_
  refine h_done (d_else rfl (d_skip (f_to (d_reg ?_))))
  refine h_q hfl rfl ?_
  refine h_load 2 (v := .int .i64 s) (reads_one tyInt rfl) rfl rfl rfl rfl ?_
  refine h_q hfl rfl ?_
  refine h_load 1 (v := .int .i64 t) (reads_one tyInt rfl) rfl rfl rfl rfl ?_
  refine h_builtin (v := .int .i64 s) (fun w cs => run_max2 (by first | rfl | decide | (split <;> omega)) _ _ w cs) rfl rfl rfl ?_
  refine h_q hfl rfl ?_
  refine h_done (d_reg ?_)
  refine h_load 2 (v := .agg #[hiW c, loW c, .int .i64 s]) (reads_agg (cs := [hiW c, loW c, .int .i64 s]) tyDec rfl) rfl rfl rfl rfl ?_
  refine h_q hfl rfl ?_
  refine h_call (ent_of Tryd.func35 (by kernel_rfl) rfl) (fun w hH => rat_any _ c s s hc hs hs) rfl rfl rfl rfl ?_
  refine h_alloc zeBig rfl rfl ?_; intro g7_4
  refine h_store 0 (v := BigZ (roundZ c (s - s))) (bigZ (roundZ c (s - s))) tyBig.2 (bigZ_size _) (by simp [zBig_size, bigZ_size]) (bigZ_one _) (over_all (c := zBig) (v := bigZ (roundZ c (s - s))) (by simp [zBig_size, bigZ_size])) rfl rfl rfl rfl rfl rfl ?_
  refine h_done (d_reg ?_)
  refine h_load 2 (v := .agg #[hiW d, loW d, .int .i64 t]) (reads_agg (cs := [hiW d, loW d, .int .i64 t]) tyDec rfl) rfl rfl rfl rfl ?_
  refine h_q hfl rfl ?_
  refine h_call (ent_of Tryd.func35 (by kernel_rfl) rfl) (fun w hH => rat_any _ d t s hd ht hs) rfl rfl rfl rfl ?_
  refine h_alloc zeBig rfl rfl ?_; intro g8_5
  refine h_store 0 (v := BigZ (roundZ d (t - s))) (bigZ (roundZ d (t - s))) tyBig.2 (bigZ_size _) (by simp [zBig_size, bigZ_size]) (bigZ_one _) (over_all (c := zBig) (v := bigZ (roundZ d (t - s))) (by simp [zBig_size, bigZ_size])) rfl rfl rfl rfl rfl rfl ?_
  refine h_done (d_reg ?_)
  refine h_load 1 (v := BigZ (roundZ c (s - s))) (reads_all (tyBigC _)) rfl rfl rfl rfl ?_
  refine h_call (ent_of Tryd.func36 (by kernel_rfl) rfl) (fun w hH => rWide_fit _ (roundZ c (s - s)) h1) rfl rfl rfl rfl ?_
  refine h_q hfl rfl ?_
  refine h_alloc zeWide rfl rfl ?_; intro g9_6
  refine h_store 0 (v := WV (roundZ c (s - s))) (#[hiW (roundZ c (s - s)), loW (roundZ c (s - s))]) tyWide.2 rfl rfl rfl rfl rfl rfl rfl rfl rfl rfl ?_
  refine h_q hfl rfl ?_
  refine h_done (d_reg ?_)
  refine h_load 1 (v := BigZ (roundZ d (t - s))) (reads_all (tyBigC _)) rfl rfl rfl rfl ?_
  refine h_callx (ent_of Tryd.func36 (by kernel_rfl) rfl) (X := fun v => ∃ p2 q2 : Int, v = .tuple #[.agg #[.int .i64 p2, .int .u64 q2], .bool false]) (fun w hH => rWide_nx _ (roundZ d (t - s)) (Nat.lt_trans (at_bp hd (by omega)) (by decide)) h2) rfl rfl rfl rfl ?_; rintro _ ⟨p2, q2, rfl⟩
  refine h_q hfl rfl ?_
  refine h_alloc zeWide rfl rfl ?_; intro g11_7
  refine h_store 0 (v := .agg #[.int .i64 p2, .int .u64 q2]) (#[.int .i64 p2, .int .u64 q2]) tyWide.2 rfl rfl rfl rfl rfl rfl rfl rfl rfl rfl ?_
  refine h_q hfl rfl ?_
  refine h_done (d_seq (d_reg ?_))
  refine h_q hfl rfl ?_
  refine h_done ?_
  refine WC2.keep (env' := [(4, .pointer (some ⟨g4_3, 0, none⟩)), (5, .int .i64 0), (6, .int .i64 s), (7, .pointer (some ⟨g7_4, 0, none⟩)), (8, .pointer (some ⟨g8_5, 0, none⟩)), (48, .bool true)]) ⟨rfl, rfl, rfl, rfl, rfl, rfl, trivial⟩ ?_
  refine d_then rfl (d_reg ?_)
  refine h_build (cs := #[.int .i64 0, .int .u64 0, .int .i64 0]) (by kernel_rfl) rfl rfl rfl ?_
  refine h_store 4 (v := .agg #[.int .i64 0, .int .u64 0, .int .i64 0]) (#[.int .i64 0, .int .u64 0, .int .i64 0]) tyDec.2 rfl rfl rfl rfl rfl rfl rfl rfl rfl rfl ?_
  refine h_q hfl rfl ?_
  refine h_done (d_ret (f_then_ret ?_))
  exact f_fin2 (.cell 4 (v := .agg #[.int .i64 0, .int .u64 0, .int .i64 0]) (reads_agg (cs := [.int .i64 0, .int .u64 0, .int .i64 0]) tyDec rfl) rfl rfl) (.tmp rfl) (fun w h => ⟨rfl, h.up.below⟩) rfl

theorem rsub_gt_ok (w : World) (c s d t : Int) (hc : Fits c) (hd : Fits d) (hs : May s) (ht : May t) (hm : t < s) (h1 : Fits (roundZ c (s - s))) (h2 : Fits (roundZ d (t - s))) : Calls Tryd.prog 14 #[Dc c s, Dc d t] w fun e w' => e = .returned (decV (okP (roundZ c (s - s) + -roundZ d (t - s)) s)) ∧ Below w.heap.size w w' := by
  refine d_in (args := [Dc c s, Dc d t]) 58 Tryd.func14 rfl rfl rfl ?_
  refine d_reg ?_
  refine h_box (cs := #[hiW c, loW c, .int .i64 s]) rfl rfl rfl rfl ?_; intro g2_1
  refine h_box (cs := #[hiW d, loW d, .int .i64 t]) rfl rfl rfl rfl ?_; intro g3_2
  refine h_alloc zeDec rfl rfl ?_; intro g4_3
  refine h_q hfl rfl ?_
  refine h_done (d_seq (d_reg ?_))
  refine h_load 2 (v := .agg #[hiW c, loW c, .int .i64 s]) (reads_agg (cs := [hiW c, loW c, .int .i64 s]) tyDec rfl) rfl rfl rfl rfl ?_
  refine h_call (ent_of Tryd.func19 (by kernel_rfl) rfl) (fun w hH => rright_yes _ c s hs) rfl rfl rfl rfl ?_
  refine h_q hfl rfl ?_
  refine h_load 1 (v := .agg #[hiW d, loW d, .int .i64 t]) (reads_agg (cs := [hiW d, loW d, .int .i64 t]) tyDec rfl) rfl rfl rfl rfl ?_
  refine h_call (ent_of Tryd.func19 (by kernel_rfl) rfl) (fun w hH => rright_yes _ d t ht) rfl rfl rfl rfl ?_
  refine h_q hfl rfl ?_
  refine h_done (d_else rfl (d_skip (f_to (d_reg ?_))))
  refine h_q hfl rfl ?_
  refine h_load 2 (v := .int .i64 s) (reads_one tyInt rfl) rfl rfl rfl rfl ?_
  refine h_q hfl rfl ?_
  refine h_load 1 (v := .int .i64 t) (reads_one tyInt rfl) rfl rfl rfl rfl ?_
  refine h_builtin (v := .int .i64 s) (fun w cs => run_max2 (by first | rfl | decide | (split <;> omega)) _ _ w cs) rfl rfl rfl ?_
  refine h_q hfl rfl ?_
  refine h_done (d_reg ?_)
  refine h_load 2 (v := .agg #[hiW c, loW c, .int .i64 s]) (reads_agg (cs := [hiW c, loW c, .int .i64 s]) tyDec rfl) rfl rfl rfl rfl ?_
  refine h_q hfl rfl ?_
  refine h_call (ent_of Tryd.func35 (by kernel_rfl) rfl) (fun w hH => rat_any _ c s s hc hs hs) rfl rfl rfl rfl ?_
  refine h_alloc zeBig rfl rfl ?_; intro g7_4
  refine h_store 0 (v := BigZ (roundZ c (s - s))) (bigZ (roundZ c (s - s))) tyBig.2 (bigZ_size _) (by simp [zBig_size, bigZ_size]) (bigZ_one _) (over_all (c := zBig) (v := bigZ (roundZ c (s - s))) (by simp [zBig_size, bigZ_size])) rfl rfl rfl rfl rfl rfl ?_
  refine h_done (d_reg ?_)
  refine h_load 2 (v := .agg #[hiW d, loW d, .int .i64 t]) (reads_agg (cs := [hiW d, loW d, .int .i64 t]) tyDec rfl) rfl rfl rfl rfl ?_
  refine h_q hfl rfl ?_
  refine h_call (ent_of Tryd.func35 (by kernel_rfl) rfl) (fun w hH => rat_any _ d t s hd ht hs) rfl rfl rfl rfl ?_
  refine h_alloc zeBig rfl rfl ?_; intro g8_5
  refine h_store 0 (v := BigZ (roundZ d (t - s))) (bigZ (roundZ d (t - s))) tyBig.2 (bigZ_size _) (by simp [zBig_size, bigZ_size]) (bigZ_one _) (over_all (c := zBig) (v := bigZ (roundZ d (t - s))) (by simp [zBig_size, bigZ_size])) rfl rfl rfl rfl rfl rfl ?_
  refine h_done (d_reg ?_)
  refine h_load 1 (v := BigZ (roundZ c (s - s))) (reads_all (tyBigC _)) rfl rfl rfl rfl ?_
  refine h_call (ent_of Tryd.func36 (by kernel_rfl) rfl) (fun w hH => rWide_fit _ (roundZ c (s - s)) h1) rfl rfl rfl rfl ?_
  refine h_q hfl rfl ?_
  refine h_alloc zeWide rfl rfl ?_; intro g9_6
  refine h_store 0 (v := WV (roundZ c (s - s))) (#[hiW (roundZ c (s - s)), loW (roundZ c (s - s))]) tyWide.2 rfl rfl rfl rfl rfl rfl rfl rfl rfl rfl ?_
  refine h_q hfl rfl ?_
  refine h_done (d_reg ?_)
  refine h_load 1 (v := BigZ (roundZ d (t - s))) (reads_all (tyBigC _)) rfl rfl rfl rfl ?_
  refine h_call (ent_of Tryd.func36 (by kernel_rfl) rfl) (fun w hH => rWide_fit _ (roundZ d (t - s)) h2) rfl rfl rfl rfl ?_
  refine h_q hfl rfl ?_
  refine h_alloc zeWide rfl rfl ?_; intro g11_7
  refine h_store 0 (v := WV (roundZ d (t - s))) (#[hiW (roundZ d (t - s)), loW (roundZ d (t - s))]) tyWide.2 rfl rfl rfl rfl rfl rfl rfl rfl rfl rfl ?_
  refine h_q hfl rfl ?_
  refine h_done (d_seq (d_reg ?_))
  refine h_q hfl rfl ?_
  refine h_done ?_
  refine WC2.keep (env' := [(4, .pointer (some ⟨g4_3, 0, none⟩)), (5, .int .i64 0), (6, .int .i64 s), (7, .pointer (some ⟨g7_4, 0, none⟩)), (8, .pointer (some ⟨g8_5, 0, none⟩)), (48, .bool false)]) ⟨rfl, rfl, rfl, rfl, rfl, rfl, trivial⟩ ?_
  refine d_else rfl (d_skip (f_to (d_seq ?_)))
  refine d_par 8 3 [⟨.quiet, 0, fun _ => BigZ (roundZ c (s - s)), []⟩, ⟨.quiet, 0, fun _ => BigZ (roundZ d (t - s)), []⟩, ⟨.call, 1, fun _ => BigZ (-roundZ d (t - s)), [1]⟩, ⟨.call, 2, fun _ => BigZ (roundZ c (s - s) + -roundZ d (t - s)), [0, 2]⟩, ⟨.quiet, 0, fun _ => .int .i64 s, []⟩, ⟨.call, 3, fun _ => .tuple #[Dc (rz (roundZ c (s - s) + -roundZ d (t - s))) (rs (roundZ c (s - s) + -roundZ d (t - s)) s), .int .i64 (rE (roundZ c (s - s) + -roundZ d (t - s)))], [3, 4]⟩, ⟨.quiet, 3, fun _ => Dc (rz (roundZ c (s - s) + -roundZ d (t - s))) (rs (roundZ c (s - s) + -roundZ d (t - s)) s), [5]⟩, ⟨.quiet, 3, fun _ => .int .i64 (rE (roundZ c (s - s) + -roundZ d (t - s))), [5]⟩] [(4, .pointer (some ⟨g4_3, 0, none⟩)), (5, .int .i64 0), (6, .int .i64 s), (7, .pointer (some ⟨g7_4, 0, none⟩)), (8, .pointer (some ⟨g8_5, 0, none⟩))] (by kernel_rfl) (by kernel_rfl) ⟨rfl, rfl, rfl, rfl, rfl, trivial⟩ ?_ ?_
  · skip
    refine o_cons (o_load 3 (reads_all (tyBigC _)) (fun _ _ => rfl) rfl (fun _ _ => rfl) rfl) ?_
    refine o_cons (o_load 2 (reads_all (tyBigC _)) (fun _ _ => rfl) rfl (fun _ _ => rfl) rfl) ?_
    refine o_cons (o_call (ent_of Tryd.func39 (by kernel_rfl) rfl) (fun w hU => minus_any _ (roundZ d (t - s)) (Nat.lt_trans (at_bp hd (by omega)) (by decide))) (fun _ _ => rfl) rfl (fun _ _ => rfl) (fun _ _ => rfl)) ?_
    refine o_cons (o_call (ent_of Tryd.func38 (by kernel_rfl) rfl) (fun w hU => rsum_any _ (roundZ c (s - s)) (-roundZ d (t - s)) (Nat.lt_trans (at_bp hc (by omega)) (by decide)) (by rw [Int.natAbs_neg]; exact (Nat.lt_trans (at_bp hd (by omega)) (by decide)))) (fun _ _ => rfl) rfl (fun _ _ => rfl) (fun _ _ => rfl)) ?_
    refine o_cons (o_q hfl (fun _ _ => rfl) (fun _ _ => rfl)) ?_
    refine o_cons (o_call (ent_of Tryd.func37 (by kernel_rfl) rfl) (fun w hU => rdec_any _ (roundZ c (s - s) + -roundZ d (t - s)) s (by have h1 := at_bp (k := s - s) hc (by omega); have h2 := at_bp (k := t - s) hd (by omega); unfold BP at h1 h2 ⊢; omega)) (fun _ _ => rfl) rfl (fun _ _ => rfl) (fun _ _ => rfl)) ?_
    refine o_cons (o_q hfl (fun _ _ => rfl) (fun _ _ => rfl)) ?_
    refine o_cons (o_q hfl (fun _ _ => rfl) (fun _ _ => rfl)) ?_
    exact o_nil
  intro σ8 gs8
  refine WL2.keep (env' := [(4, .pointer (some ⟨g4_3, 0, none⟩)), (5, .int .i64 0), (56, Dc (rz (roundZ c (s - s) + -roundZ d (t - s))) (rs (roundZ c (s - s) + -roundZ d (t - s)) s)), (57, .int .i64 (rE (roundZ c (s - s) + -roundZ d (t - s))))]) ⟨rfl, rfl, rfl, rfl, trivial⟩ ?_
  refine h_store 4 (v := Dc (rz (roundZ c (s - s) + -roundZ d (t - s))) (rs (roundZ c (s - s) + -roundZ d (t - s)) s)) (#[hiW (rz (roundZ c (s - s) + -roundZ d (t - s))), loW (rz (roundZ c (s - s) + -roundZ d (t - s))), .int .i64 (rs (roundZ c (s - s) + -roundZ d (t - s)) s)]) tyDec.2 rfl rfl rfl rfl rfl rfl rfl rfl rfl rfl ?_
  refine h_q hfl rfl ?_
  refine h_nil (f_to (d_ret ?_))
  exact f_fin2 (.cell 4 (v := .agg #[hiW (rz (roundZ c (s - s) + -roundZ d (t - s))), loW (rz (roundZ c (s - s) + -roundZ d (t - s))), .int .i64 (rs (roundZ c (s - s) + -roundZ d (t - s)) s)]) (reads_agg (cs := [hiW (rz (roundZ c (s - s) + -roundZ d (t - s))), loW (rz (roundZ c (s - s) + -roundZ d (t - s))), .int .i64 (rs (roundZ c (s - s) + -roundZ d (t - s)) s)]) tyDec rfl) rfl rfl) (.tmp rfl) (fun w h => ⟨rfl, h.up.below⟩) rfl

theorem rsubP_any (w : World) (c s d t : Int) (hc : Fits c) (hd : Fits d) : Calls Tryd.prog 14 #[Dc c s, Dc d t] w fun e w' => e = .returned (decV (sumP (· - ·) c s d t)) ∧ Below w.heap.size w w' := by
  unfold sumP
  by_cases hs : May s
  · by_cases ht : May t
    · rw [if_pos ⟨hs, ht⟩]
      by_cases hm : s ≤ t
      · rw [show max s t = t by omega]
        by_cases h1 : Fits (roundZ c (s - t)) <;> by_cases h2 : Fits (roundZ d (t - t))
        · rw [if_pos ⟨h1, h2⟩]
          have := rsub_le_ok w c s d t hc hd hs ht hm h1 h2
          rw [← Int.sub_eq_add_neg] at this
          exact this
        · rw [if_neg (fun h => h2 h.2)]; exact rsub_le_o3 w c s d t hc hd hs ht hm h1 h2
        · rw [if_neg (fun h => h1 h.1)]; exact rsub_le_o2 w c s d t hc hd hs ht hm h1 h2
        · rw [if_neg (fun h => h1 h.1)]; exact rsub_le_o1 w c s d t hc hd hs ht hm h1 h2
      · rw [show max s t = s by omega]
        by_cases h1 : Fits (roundZ c (s - s)) <;> by_cases h2 : Fits (roundZ d (t - s))
        · rw [if_pos ⟨h1, h2⟩]
          have := rsub_gt_ok w c s d t hc hd hs ht (by omega) h1 h2
          rw [← Int.sub_eq_add_neg] at this
          exact this
        · rw [if_neg (fun h => h2 h.2)]; exact rsub_gt_o3 w c s d t hc hd hs ht (by omega) h1 h2
        · rw [if_neg (fun h => h1 h.1)]; exact rsub_gt_o2 w c s d t hc hd hs ht (by omega) h1 h2
        · rw [if_neg (fun h => h1 h.1)]; exact rsub_gt_o1 w c s d t hc hd hs ht (by omega) h1 h2
    · rw [if_neg (fun h => ht h.2)]; exact rsub_bad2 w c s d t hs ht
  · rw [if_neg (fun h => hs h.1)]; exact rsub_bad1 w c s d t hs

theorem rnegP_any (w : World) (c s : Int) (hc : Fits c) : Calls Tryd.prog 16 #[Dc c s] w fun e w' => e = .returned (decV (negP c s)) ∧ Below w.heap.size w w' := by
  unfold negP
  by_cases hs : May s
  · rw [if_pos hs]; exact rneg_ok w c s hc hs
  · rw [if_neg hs]; exact rneg_bad w c s hs
theorem rmulP_any (w : World) (c s d t u : Int) (hc : Fits c) (hd : Fits d) : Calls Tryd.prog 24 #[Dc c s, Dc d t, .int .i64 u] w fun e w' => e = .returned (decV (mulP c s d t u)) ∧ Below w.heap.size w w' := by
  unfold mulP
  by_cases hs : May s
  · by_cases ht : May t
    · by_cases hu : May u
      · rw [if_pos ⟨hs, ht, hu⟩]; exact rmul_ok w c s d t u hc hd hs ht hu
      · rw [if_neg (fun h => hu h.2.2)]
        by_cases h0 : u < 0
        · exact rmul_bad3 w c s d t u hs ht h0
        · exact rmul_bad4 w c s d t u hs ht (by omega)
    · rw [if_neg (fun h => ht h.2.1)]; exact rmul_bad2 w c s d t u hs ht
  · rw [if_neg (fun h => hs h.1)]; exact rmul_bad1 w c s d t u hs
theorem rrescP_any (w : World) (c s t : Int) (hc : Fits c) : Calls Tryd.prog 26 #[Dc c s, .int .i64 t] w fun e w' => e = .returned (decV (rescP c s t)) ∧ Below w.heap.size w w' := by
  unfold rescP
  by_cases hs : May s
  · by_cases ht : May t
    · rw [if_pos ⟨hs, ht⟩]; exact rresc_ok w c s t hc hs ht
    · rw [if_neg (fun h => ht h.2)]
      by_cases h0 : t < 0
      · exact rresc_bad2 w c s t hs h0
      · exact rresc_bad3 w c s t hs (by omega)
  · rw [if_neg (fun h => hs h.1)]; exact rresc_bad1 w c s t hs

theorem rcmp_bad1 (w : World) (c s d t : Int) (hs : ¬ May s) : Calls Tryd.prog 21 #[Dc c s, Dc d t] w fun e w' => e = .returned (.tuple #[.int .i64 0, .int .i64 21]) ∧ Below w.heap.size w w' := by
  refine d_in (args := [Dc c s, Dc d t]) 27 Tryd.func21 rfl rfl rfl ?_
  refine d_reg ?_
  refine h_box (cs := #[hiW c, loW c, .int .i64 s]) rfl rfl rfl rfl ?_; intro g2_1
  refine h_box (cs := #[hiW d, loW d, .int .i64 t]) rfl rfl rfl rfl ?_; intro g3_2
  refine h_q hfl rfl ?_
  refine h_done (d_seq (d_reg ?_))
  refine h_load 1 (v := .agg #[hiW c, loW c, .int .i64 s]) (reads_agg (cs := [hiW c, loW c, .int .i64 s]) tyDec rfl) rfl rfl rfl rfl ?_
  refine h_call (ent_of Tryd.func19 (by kernel_rfl) rfl) (fun w hH => rright_no _ c s hs) rfl rfl rfl rfl ?_
  refine h_q hfl rfl ?_
  refine h_done (d_then rfl (d_reg ?_))
  refine h_q hfl rfl ?_
  refine h_done (d_ret (f_then_ret ?_))
  exact f_fin2 (.tmp rfl) (.tmp rfl) (fun w h => ⟨rfl, h.up.below⟩) rfl

theorem rcmp_bad2 (w : World) (c s d t : Int) (hs : May s) (ht : ¬ May t) : Calls Tryd.prog 21 #[Dc c s, Dc d t] w fun e w' => e = .returned (.tuple #[.int .i64 0, .int .i64 21]) ∧ Below w.heap.size w w' := by
  refine d_in (args := [Dc c s, Dc d t]) 27 Tryd.func21 rfl rfl rfl ?_
  refine d_reg ?_
  refine h_box (cs := #[hiW c, loW c, .int .i64 s]) rfl rfl rfl rfl ?_; intro g2_1
  refine h_box (cs := #[hiW d, loW d, .int .i64 t]) rfl rfl rfl rfl ?_; intro g3_2
  refine h_q hfl rfl ?_
  refine h_done (d_seq (d_reg ?_))
  refine h_load 1 (v := .agg #[hiW c, loW c, .int .i64 s]) (reads_agg (cs := [hiW c, loW c, .int .i64 s]) tyDec rfl) rfl rfl rfl rfl ?_
  refine h_call (ent_of Tryd.func19 (by kernel_rfl) rfl) (fun w hH => rright_yes _ c s hs) rfl rfl rfl rfl ?_
  refine h_q hfl rfl ?_
  refine h_load 0 (v := .agg #[hiW d, loW d, .int .i64 t]) (reads_agg (cs := [hiW d, loW d, .int .i64 t]) tyDec rfl) rfl rfl rfl rfl ?_
  refine h_call (ent_of Tryd.func19 (by kernel_rfl) rfl) (fun w hH => rright_no _ d t ht) rfl rfl rfl rfl ?_
  refine h_q hfl rfl ?_
  refine h_done (d_then rfl (d_reg ?_))
  refine h_q hfl rfl ?_
  refine h_done (d_ret (f_then_ret ?_))
  exact f_fin2 (.tmp rfl) (.tmp rfl) (fun w h => ⟨rfl, h.up.below⟩) rfl

theorem rcmp_le (w : World) (c s d t : Int) (hc : Fits c) (hd : Fits d) (hs : May s) (ht : May t) (hm : s ≤ t) : Calls Tryd.prog 21 #[Dc c s, Dc d t] w fun e w' => e = .returned (.tuple #[.int .i64 (cmp3 (roundZ c (s - t)) (roundZ d (t - t))), .int .i64 0]) ∧ Below w.heap.size w w' := by
  refine d_in (args := [Dc c s, Dc d t]) 27 Tryd.func21 rfl rfl rfl ?_
  refine d_reg ?_
  refine h_box (cs := #[hiW c, loW c, .int .i64 s]) rfl rfl rfl rfl ?_; intro g2_1
  refine h_box (cs := #[hiW d, loW d, .int .i64 t]) rfl rfl rfl rfl ?_; intro g3_2
  refine h_q hfl rfl ?_
  refine h_done (d_seq (d_reg ?_))
  refine h_load 1 (v := .agg #[hiW c, loW c, .int .i64 s]) (reads_agg (cs := [hiW c, loW c, .int .i64 s]) tyDec rfl) rfl rfl rfl rfl ?_
  refine h_call (ent_of Tryd.func19 (by kernel_rfl) rfl) (fun w hH => rright_yes _ c s hs) rfl rfl rfl rfl ?_
  refine h_q hfl rfl ?_
  refine h_load 0 (v := .agg #[hiW d, loW d, .int .i64 t]) (reads_agg (cs := [hiW d, loW d, .int .i64 t]) tyDec rfl) rfl rfl rfl rfl ?_
  refine h_call (ent_of Tryd.func19 (by kernel_rfl) rfl) (fun w hH => rright_yes _ d t ht) rfl rfl rfl rfl ?_
  refine h_q hfl rfl ?_
  refine h_done (d_else rfl (d_skip (f_to (d_reg ?_))))
  refine h_q hfl rfl ?_
  refine h_load 1 (v := .int .i64 s) (reads_one tyInt rfl) rfl rfl rfl rfl ?_
  refine h_q hfl rfl ?_
  refine h_load 0 (v := .int .i64 t) (reads_one tyInt rfl) rfl rfl rfl rfl ?_
  refine h_builtin (v := .int .i64 t) (fun w cs => run_max2 (by first | rfl | decide | (split <;> omega)) _ _ w cs) rfl rfl rfl ?_
  refine h_q hfl rfl ?_
  refine h_done (d_seq ?_)
  refine d_par 7 3 [⟨.quiet, 0, fun _ => .agg #[hiW c, loW c, .int .i64 s], []⟩, ⟨.quiet, 0, fun _ => .int .i64 t, []⟩, ⟨.call, 1, fun _ => BigZ (roundZ c (s - t)), [0, 1]⟩, ⟨.quiet, 0, fun _ => .agg #[hiW d, loW d, .int .i64 t], []⟩, ⟨.quiet, 0, fun _ => .int .i64 t, []⟩, ⟨.call, 2, fun _ => BigZ (roundZ d (t - t)), [3, 4]⟩, ⟨.call, 3, fun _ => .int .i64 (cmp3 (roundZ c (s - t)) (roundZ d (t - t))), [2, 5]⟩] [(2, .pointer (some ⟨g2_1, 0, none⟩)), (3, .pointer (some ⟨g3_2, 0, none⟩)), (4, .int .i64 0), (5, .int .i64 0), (6, .int .i64 t)] (by kernel_rfl) (by kernel_rfl) ⟨rfl, rfl, rfl, rfl, rfl, trivial⟩ ?_ ?_
  · skip
    refine o_cons (o_load 1 (reads_agg (cs := [hiW c, loW c, .int .i64 s]) tyDec rfl) (fun _ _ => rfl) rfl (fun _ _ => rfl) rfl) ?_
    refine o_cons (o_q hfl (fun _ _ => rfl) (fun _ _ => rfl)) ?_
    refine o_cons (o_call (ent_of Tryd.func35 (by kernel_rfl) rfl) (fun w hU => rat_any _ c s t hc hs ht) (fun _ _ => rfl) rfl (fun _ _ => rfl) (fun _ _ => rfl)) ?_
    refine o_cons (o_load 0 (reads_agg (cs := [hiW d, loW d, .int .i64 t]) tyDec rfl) (fun _ _ => rfl) rfl (fun _ _ => rfl) rfl) ?_
    refine o_cons (o_q hfl (fun _ _ => rfl) (fun _ _ => rfl)) ?_
    refine o_cons (o_call (ent_of Tryd.func35 (by kernel_rfl) rfl) (fun w hU => rat_any _ d t t hd ht ht) (fun _ _ => rfl) rfl (fun _ _ => rfl) (fun _ _ => rfl)) ?_
    refine o_cons (o_call (ent_of Tryd.func46 (by kernel_rfl) rfl) (fun w hU => cmpbig_any _ (roundZ c (s - t)) (roundZ d (t - t)) (Nat.lt_trans (at_bp hc (by omega)) (by decide)) (Nat.lt_trans (at_bp hd (by omega)) (by decide))) (fun _ _ => rfl) rfl (fun _ _ => rfl) (fun _ _ => rfl)) ?_
    exact o_nil
  intro σ3 gs3
  refine WL2.keep (env' := [(4, .int .i64 0), (5, .int .i64 0), (26, .int .i64 (cmp3 (roundZ c (s - t)) (roundZ d (t - t))))]) ⟨rfl, rfl, rfl, trivial⟩ ?_
  refine h_q hfl rfl ?_
  refine h_nil (f_to (d_ret ?_))
  exact f_fin2 (.tmp rfl) (.tmp rfl) (fun w h => ⟨rfl, h.up.below⟩) rfl

theorem rcmp_gt (w : World) (c s d t : Int) (hc : Fits c) (hd : Fits d) (hs : May s) (ht : May t) (hm : t < s) : Calls Tryd.prog 21 #[Dc c s, Dc d t] w fun e w' => e = .returned (.tuple #[.int .i64 (cmp3 (roundZ c (s - s)) (roundZ d (t - s))), .int .i64 0]) ∧ Below w.heap.size w w' := by
  refine d_in (args := [Dc c s, Dc d t]) 27 Tryd.func21 rfl rfl rfl ?_
  refine d_reg ?_
  refine h_box (cs := #[hiW c, loW c, .int .i64 s]) rfl rfl rfl rfl ?_; intro g2_1
  refine h_box (cs := #[hiW d, loW d, .int .i64 t]) rfl rfl rfl rfl ?_; intro g3_2
  refine h_q hfl rfl ?_
  refine h_done (d_seq (d_reg ?_))
  refine h_load 1 (v := .agg #[hiW c, loW c, .int .i64 s]) (reads_agg (cs := [hiW c, loW c, .int .i64 s]) tyDec rfl) rfl rfl rfl rfl ?_
  refine h_call (ent_of Tryd.func19 (by kernel_rfl) rfl) (fun w hH => rright_yes _ c s hs) rfl rfl rfl rfl ?_
  refine h_q hfl rfl ?_
  refine h_load 0 (v := .agg #[hiW d, loW d, .int .i64 t]) (reads_agg (cs := [hiW d, loW d, .int .i64 t]) tyDec rfl) rfl rfl rfl rfl ?_
  refine h_call (ent_of Tryd.func19 (by kernel_rfl) rfl) (fun w hH => rright_yes _ d t ht) rfl rfl rfl rfl ?_
  refine h_q hfl rfl ?_
  refine h_done (d_else rfl (d_skip (f_to (d_reg ?_))))
  refine h_q hfl rfl ?_
  refine h_load 1 (v := .int .i64 s) (reads_one tyInt rfl) rfl rfl rfl rfl ?_
  refine h_q hfl rfl ?_
  refine h_load 0 (v := .int .i64 t) (reads_one tyInt rfl) rfl rfl rfl rfl ?_
  refine h_builtin (v := .int .i64 s) (fun w cs => run_max2 (by first | rfl | decide | (split <;> omega)) _ _ w cs) rfl rfl rfl ?_
  refine h_q hfl rfl ?_
  refine h_done (d_seq ?_)
  refine d_par 7 3 [⟨.quiet, 0, fun _ => .agg #[hiW c, loW c, .int .i64 s], []⟩, ⟨.quiet, 0, fun _ => .int .i64 s, []⟩, ⟨.call, 1, fun _ => BigZ (roundZ c (s - s)), [0, 1]⟩, ⟨.quiet, 0, fun _ => .agg #[hiW d, loW d, .int .i64 t], []⟩, ⟨.quiet, 0, fun _ => .int .i64 s, []⟩, ⟨.call, 2, fun _ => BigZ (roundZ d (t - s)), [3, 4]⟩, ⟨.call, 3, fun _ => .int .i64 (cmp3 (roundZ c (s - s)) (roundZ d (t - s))), [2, 5]⟩] [(2, .pointer (some ⟨g2_1, 0, none⟩)), (3, .pointer (some ⟨g3_2, 0, none⟩)), (4, .int .i64 0), (5, .int .i64 0), (6, .int .i64 s)] (by kernel_rfl) (by kernel_rfl) ⟨rfl, rfl, rfl, rfl, rfl, trivial⟩ ?_ ?_
  · skip
    refine o_cons (o_load 1 (reads_agg (cs := [hiW c, loW c, .int .i64 s]) tyDec rfl) (fun _ _ => rfl) rfl (fun _ _ => rfl) rfl) ?_
    refine o_cons (o_q hfl (fun _ _ => rfl) (fun _ _ => rfl)) ?_
    refine o_cons (o_call (ent_of Tryd.func35 (by kernel_rfl) rfl) (fun w hU => rat_any _ c s s hc hs hs) (fun _ _ => rfl) rfl (fun _ _ => rfl) (fun _ _ => rfl)) ?_
    refine o_cons (o_load 0 (reads_agg (cs := [hiW d, loW d, .int .i64 t]) tyDec rfl) (fun _ _ => rfl) rfl (fun _ _ => rfl) rfl) ?_
    refine o_cons (o_q hfl (fun _ _ => rfl) (fun _ _ => rfl)) ?_
    refine o_cons (o_call (ent_of Tryd.func35 (by kernel_rfl) rfl) (fun w hU => rat_any _ d t s hd ht hs) (fun _ _ => rfl) rfl (fun _ _ => rfl) (fun _ _ => rfl)) ?_
    refine o_cons (o_call (ent_of Tryd.func46 (by kernel_rfl) rfl) (fun w hU => cmpbig_any _ (roundZ c (s - s)) (roundZ d (t - s)) (Nat.lt_trans (at_bp hc (by omega)) (by decide)) (Nat.lt_trans (at_bp hd (by omega)) (by decide))) (fun _ _ => rfl) rfl (fun _ _ => rfl) (fun _ _ => rfl)) ?_
    exact o_nil
  intro σ3 gs3
  refine WL2.keep (env' := [(4, .int .i64 0), (5, .int .i64 0), (26, .int .i64 (cmp3 (roundZ c (s - s)) (roundZ d (t - s))))]) ⟨rfl, rfl, rfl, trivial⟩ ?_
  refine h_q hfl rfl ?_
  refine h_nil (f_to (d_ret ?_))
  exact f_fin2 (.tmp rfl) (.tmp rfl) (fun w h => ⟨rfl, h.up.below⟩) rfl

theorem rcmpV_any (w : World) (c s d t : Int) (hc : Fits c) (hd : Fits d) : Calls Tryd.prog 21 #[Dc c s, Dc d t] w fun e w' => e = .returned (cmpV c s d t) ∧ Below w.heap.size w w' := by
  unfold cmpV
  by_cases hs : May s
  · by_cases ht : May t
    · rw [if_pos ⟨hs, ht⟩]
      unfold cmpD
      by_cases hm : s ≤ t
      · have := rcmp_le w c s d t hc hd hs ht hm
        rw [round_up_eq c (s - t) (t - s).toNat (by omega), round_up_eq d (t - t) (t - t).toNat (by omega)] at this
        rw [show max s t = t by omega]
        exact this
      · have := rcmp_gt w c s d t hc hd hs ht (by omega)
        rw [round_up_eq c (s - s) (s - s).toNat (by omega), round_up_eq d (t - s) (s - t).toNat (by omega)] at this
        rw [show max s t = s by omega]
        exact this
    · rw [if_neg (fun h => ht h.2)]; exact rcmp_bad2 w c s d t hs ht
  · rw [if_neg (fun h => hs h.1)]; exact rcmp_bad1 w c s d t hs
end Go.Proofs.YtmamedobphlpkaaDoor
