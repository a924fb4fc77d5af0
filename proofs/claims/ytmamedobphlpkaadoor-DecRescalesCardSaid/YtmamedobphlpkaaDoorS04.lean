/-
  RefQ
-/
import Derived.Test.YtmamedobphlpkaaDoorS03
set_option linter.unusedSimpArgs false
set_option linter.unusedVariables false

namespace Go.Proofs.YtmamedobphlpkaaDoor
open Go.RowKit

theorem neg_bigr (k : Nat) : BigV (!decide (k = 0)) k = BigZ (-(k : Int)) := by
  unfold BigZ
  rw [show (-(k : Int)).natAbs = k by omega]
  congr 1
  by_cases h : k = 0
  · subst h; simp
  · rw [decide_eq_false h, decide_eq_true (show -(k : Int) < 0 by omega)]; rfl
theorem pos_bigr (k : Nat) : BigV false k = BigZ (k : Int) := by
  unfold BigZ
  rw [show ((k : Int)).natAbs = k by omega, decide_eq_false (show ¬ (k : Int) < 0 by omega)]

theorem round_U1_f (w : World) (n q r d : Nat) (k : Int) (hn : n < BP 14) (hk : 0 < k ∧ k ≤ 77) (hd : d = 10 ^ k.toNat) (hq : q = n / d) (hr : r = n % d) (hc : cmpN (r + r) d = 1) : Calls Tryd.prog 48 #[BigV false n, .int .i64 k] w fun e w' => e = .returned (BigV false (q + 1)) ∧ Below w.heap.size w w' := by
  have hd0 : 0 < d := by rw [hd]; exact Nat.pow_pos (by decide)
  have hd8 : d < BP 8 := by rw [hd]; exact ten_small (by omega)
  have h14 : BP 15 = BP 14 * 4294967296 := BP_succ 14
  have h15 : BP 16 = BP 15 * 4294967296 := BP_succ 15
  have h8 : BP 8 ≤ BP 14 := BP_le (by decide)
  have hqn : q ≤ n := by rw [hq]; exact Nat.div_le_self _ _
  have hrd : r < d := by rw [hr]; exact Nat.mod_lt _ hd0
  refine d_in (args := [.agg (bigs false n), .int .i64 k]) 57 Tryd.func48 rfl rfl rfl ?_
  refine d_reg ?_
  refine h_box (cs := bigs false n) rfl rfl rfl rfl ?_; intro g2_1
  refine h_alloc zeBig rfl rfl ?_; intro g4_2
  refine h_done (d_seq (d_reg ?_))
  refine h_q hflW rfl ?_
  refine h_cmp (cmp_leq_f (by omega)) rfl rfl rfl rfl ?_
  refine h_done (d_else rfl (d_skip (f_to (d_reg ?_))))
  refine h_q hflW rfl ?_
  refine h_call (ent_of Tryd.func70 (by kernel_rfl) rfl) (fun w hH => (hd ▸ rten_any _ k (by omega) : Calls _ _ _ _ fun e w' => e = .returned (.agg (digs d)) ∧ _)) rfl rfl rfl rfl ?_
  refine h_alloc zeDig rfl rfl ?_; intro g5_3
  refine h_store 0 (v := .agg (digs d)) (digs d) tyDigits.2 (digs_size _) (ble_size (digs_size _)) (digs_oneL _) (over_all (c := digs 0) (v := digs d) (((digs_size _) : (digs 0).size = 16).trans ((digs_size _) : (digs d).size = 16).symm)) rfl rfl rfl rfl rfl rfl ?_
  refine h_done (d_reg ?_)
  refine h_q hflW rfl ?_
  refine h_load 2 (v := .agg (digs n)) (reads_D _ _) rfl rfl rfl rfl ?_
  refine h_load 0 (v := .agg (digs d)) (reads_all (tyDigC _)) rfl rfl rfl rfl ?_
  refine h_call (ent_of Tryd.func71 (by kernel_rfl) rfl) (fun w hH => (hq ▸ hr ▸ rdiv_any _ n d (by omega) (by omega) hd0 : Calls _ _ _ _ fun e w' => e = .returned (.tuple #[.agg (digs q), .agg (digs r)]) ∧ _)) rfl rfl rfl rfl ?_
  refine h_q hflW rfl ?_
  refine h_alloc zeDig rfl rfl ?_; intro g6_4
  refine h_alloc zeDig rfl rfl ?_; intro g7_5
  refine h_store 1 (v := .agg (digs q)) (digs q) tyDigits.2 (digs_size _) (ble_size (digs_size _)) (digs_oneL _) (over_all (c := digs 0) (v := digs q) (((digs_size _) : (digs 0).size = 16).trans ((digs_size _) : (digs q).size = 16).symm)) rfl rfl rfl rfl rfl rfl ?_
  refine h_store 0 (v := .agg (digs r)) (digs r) tyDigits.2 (digs_size _) (ble_size (digs_size _)) (digs_oneL _) (over_all (c := digs 0) (v := digs r) (((digs_size _) : (digs 0).size = 16).trans ((digs_size _) : (digs r).size = 16).symm)) rfl rfl rfl rfl rfl rfl ?_
  refine h_done (d_reg ?_)
  refine h_alloc zeDig rfl rfl ?_; intro g8_6
  refine h_done (d_reg ?_)
  refine h_val rfl (.pointer (some ⟨g8_6, 0, none⟩)) (fun b w hb hH => by exact exec_idx (off := 0) (ixDigits 0 (by decide)) rfl rfl rfl hb) ?_
  refine h_store 0 (v := .int .u64 1) (digs 1) tyUint64.2 rfl (ble_size1 (digs_size _) (by decide)) rfl over_01 rfl rfl rfl rfl rfl rfl ?_
  refine h_done (d_seq ?_)
  refine d_par 5 2 [⟨.quiet, 0, fun _ => .agg (digs r), []⟩, ⟨.quiet, 0, fun _ => .agg (digs r), []⟩, ⟨.call, 1, fun _ => .agg (digs (r + r)), [0, 1]⟩, ⟨.quiet, 0, fun _ => .agg (digs d), []⟩, ⟨.call, 2, fun _ => .int .i64 1, [2, 3]⟩] [(2, .pointer (some ⟨g2_1, 0, none⟩)), (4, .pointer (some ⟨g4_2, 0, none⟩)), (5, .pointer (some ⟨g5_3, 0, none⟩)), (6, .pointer (some ⟨g6_4, 0, none⟩)), (7, .pointer (some ⟨g7_5, 0, none⟩)), (8, .pointer (some ⟨g8_6, 0, none⟩))] (by kernel_rfl) (by kernel_rfl) ⟨rfl, rfl, rfl, rfl, rfl, rfl, trivial⟩ ?_ ?_
  · skip
    refine o_cons (o_load 1 (reads_all (tyDigC _)) (fun _ _ => rfl) rfl (fun _ _ => rfl) rfl) ?_
    refine o_cons (o_load 1 (reads_all (tyDigC _)) (fun _ _ => rfl) rfl (fun _ _ => rfl) rfl) ?_
    refine o_cons (o_call (ent_of Tryd.func61 (by kernel_rfl) rfl) (fun w hU => radd_any _ r r (by omega)) (fun _ _ => rfl) rfl (fun _ _ => rfl) (fun _ _ => rfl)) ?_
    refine o_cons (o_load 3 (reads_all (tyDigC _)) (fun _ _ => rfl) rfl (fun _ _ => rfl) rfl) ?_
    refine o_cons (o_call (ent_of Tryd.func62 (by kernel_rfl) rfl) (fun w hU => cmpE _ (r + r) d (1) (by omega) (by omega) hc) (fun _ _ => rfl) rfl (fun _ _ => rfl) (fun _ _ => rfl)) ?_
    exact o_nil
  intro σ7 gs7
  refine WL2.keep (env' := [(2, .pointer (some ⟨g2_1, 0, none⟩)), (4, .pointer (some ⟨g4_2, 0, none⟩)), (6, .pointer (some ⟨g6_4, 0, none⟩)), (8, .pointer (some ⟨g8_6, 0, none⟩)), (32, .int .i64 1)]) ⟨rfl, rfl, rfl, rfl, rfl, trivial⟩ ?_
  refine h_q hflW rfl ?_
  refine h_nil (f_to (d_seq (d_reg ?_)))
  refine h_q hflW rfl ?_
  refine h_cmp (cmp_gtr_t (by decide)) rfl rfl rfl rfl ?_
  refine h_q hflW rfl ?_
  refine h_done (d_then rfl (d_reg1 ?_))
  refine h_load 2 (v := .agg (digs q)) (reads_all (tyDigC _)) rfl rfl rfl rfl ?_
  refine h_load 0 (v := .agg (digs 1)) (reads_all (tyDigC _)) rfl rfl rfl rfl ?_
  refine h_call (ent_of Tryd.func61 (by kernel_rfl) rfl) (fun w hH => radd_any _ q 1 (by omega)) rfl rfl rfl rfl ?_
  refine h_store 2 (v := .agg (digs (q + 1))) (digs (q + 1)) tyDigits.2 (digs_size _) (ble_size (digs_size _)) (digs_oneL _) (over_all (c := digs q) (v := digs (q + 1)) (((digs_size _) : (digs q).size = 16).trans ((digs_size _) : (digs (q + 1)).size = 16).symm)) rfl rfl rfl rfl rfl rfl ?_
  refine h_nil (f_to (d_seq ?_))
  refine d_par 9 0 [⟨.quiet, 0, fun _ => .pointer (some ⟨g2_1, 0, none⟩), []⟩, ⟨.quiet, 0, fun _ => .bool false, [0]⟩, ⟨.quiet, 0, fun _ => .bool false, [1]⟩, ⟨.skip, 0, fun _ => undef, [2]⟩, ⟨.skip, 0, fun _ => undef, [3, 2]⟩, ⟨.skip, 0, fun _ => undef, [4, 2]⟩, ⟨.quiet, 0, fun _ => .bool false, [2, 5]⟩, ⟨.quiet, 0, fun _ => .agg (digs (q + 1)), []⟩, ⟨.quiet, 0, fun _ => .agg (bigs false (q + 1)), [6, 7]⟩] [(2, .pointer (some ⟨g2_1, 0, none⟩)), (4, .pointer (some ⟨g4_2, 0, none⟩)), (6, .pointer (some ⟨g6_4, 0, none⟩))] (by kernel_rfl) (by kernel_rfl) ⟨rfl, rfl, rfl, trivial⟩ ?_ ?_
  · skip
    refine o_cons (o_q hflW (fun _ _ => rfl) (fun _ _ => rfl)) ?_
    refine o_cons (o_load 5 (reads_one tyBool (bigs_get0 _ _)) (fun _ _ => rfl) rfl (fun _ _ => rfl) rfl) ?_
    refine o_cons (o_q hflW (fun _ _ => rfl) (fun _ _ => rfl)) ?_
    refine o_cons (o_skip (fun _ _ => rfl)) ?_
    refine o_cons (o_skip (fun _ _ => rfl)) ?_
    refine o_cons (o_skip (fun _ _ => rfl)) ?_
    refine o_cons (o_q hflW (fun _ _ => rfl) (fun _ _ => rfl)) ?_
    refine o_cons (o_load 2 (reads_all (tyDigC _)) (fun _ _ => rfl) rfl (fun _ _ => rfl) rfl) ?_
    refine o_cons (o_build (cs := bigs false (q + 1)) (built_big _ _) (fun _ _ => rfl) rfl (fun _ _ => rfl)) ?_
    exact o_nil
  intro σ8 gs8
  refine WL2.keep (env' := [(4, .pointer (some ⟨g4_2, 0, none⟩)), (56, .agg (bigs false (q + 1)))]) ⟨rfl, rfl, trivial⟩ ?_
  refine h_store 4 (v := .agg (bigs false (q + 1))) (bigs false (q + 1)) tyBig.2 (bigs_size _ _) (ble_size zBig_size) (bigs_oneL _ _) (over_all (c := zBig) (v := bigs false (q + 1)) ((zBig_size : (zBig).size = 17).trans ((bigs_size _ _) : (bigs false (q + 1)).size = 17).symm)) rfl rfl rfl rfl rfl rfl ?_
  refine h_nil (f_to (d_ret ?_))
  exact f_fin1 (.cell 4 (v := .agg (bigs false (q + 1))) (reads_all (tyBigsC _ _)) rfl rfl) (fun w h => ⟨rfl, h.up.below⟩) rfl

theorem round_U1_t (w : World) (n q r d : Nat) (k : Int) (hn : n < BP 14) (hk : 0 < k ∧ k ≤ 77) (hd : d = 10 ^ k.toNat) (hq : q = n / d) (hr : r = n % d) (hc : cmpN (r + r) d = 1) : Calls Tryd.prog 48 #[BigV true n, .int .i64 k] w fun e w' => e = .returned (BigV (!decide (q + 1 = 0)) (q + 1)) ∧ Below w.heap.size w w' := by
  have hd0 : 0 < d := by rw [hd]; exact Nat.pow_pos (by decide)
  have hd8 : d < BP 8 := by rw [hd]; exact ten_small (by omega)
  have h14 : BP 15 = BP 14 * 4294967296 := BP_succ 14
  have h15 : BP 16 = BP 15 * 4294967296 := BP_succ 15
  have h8 : BP 8 ≤ BP 14 := BP_le (by decide)
  have hqn : q ≤ n := by rw [hq]; exact Nat.div_le_self _ _
  have hrd : r < d := by rw [hr]; exact Nat.mod_lt _ hd0
  refine d_in (args := [.agg (bigs true n), .int .i64 k]) 57 Tryd.func48 rfl rfl rfl ?_
  refine d_reg ?_
  refine h_box (cs := bigs true n) rfl rfl rfl rfl ?_; intro g2_1
  refine h_alloc zeBig rfl rfl ?_; intro g4_2
  refine h_done (d_seq (d_reg ?_))
  refine h_q hflW rfl ?_
  refine h_cmp (cmp_leq_f (by omega)) rfl rfl rfl rfl ?_
  refine h_done (d_else rfl (d_skip (f_to (d_reg ?_))))
  refine h_q hflW rfl ?_
  refine h_call (ent_of Tryd.func70 (by kernel_rfl) rfl) (fun w hH => (hd ▸ rten_any _ k (by omega) : Calls _ _ _ _ fun e w' => e = .returned (.agg (digs d)) ∧ _)) rfl rfl rfl rfl ?_
  refine h_alloc zeDig rfl rfl ?_; intro g5_3
  refine h_store 0 (v := .agg (digs d)) (digs d) tyDigits.2 (digs_size _) (ble_size (digs_size _)) (digs_oneL _) (over_all (c := digs 0) (v := digs d) (((digs_size _) : (digs 0).size = 16).trans ((digs_size _) : (digs d).size = 16).symm)) rfl rfl rfl rfl rfl rfl ?_
  refine h_done (d_reg ?_)
  refine h_q hflW rfl ?_
  refine h_load 2 (v := .agg (digs n)) (reads_D _ _) rfl rfl rfl rfl ?_
  refine h_load 0 (v := .agg (digs d)) (reads_all (tyDigC _)) rfl rfl rfl rfl ?_
  refine h_call (ent_of Tryd.func71 (by kernel_rfl) rfl) (fun w hH => (hq ▸ hr ▸ rdiv_any _ n d (by omega) (by omega) hd0 : Calls _ _ _ _ fun e w' => e = .returned (.tuple #[.agg (digs q), .agg (digs r)]) ∧ _)) rfl rfl rfl rfl ?_
  refine h_q hflW rfl ?_
  refine h_alloc zeDig rfl rfl ?_; intro g6_4
  refine h_alloc zeDig rfl rfl ?_; intro g7_5
  refine h_store 1 (v := .agg (digs q)) (digs q) tyDigits.2 (digs_size _) (ble_size (digs_size _)) (digs_oneL _) (over_all (c := digs 0) (v := digs q) (((digs_size _) : (digs 0).size = 16).trans ((digs_size _) : (digs q).size = 16).symm)) rfl rfl rfl rfl rfl rfl ?_
  refine h_store 0 (v := .agg (digs r)) (digs r) tyDigits.2 (digs_size _) (ble_size (digs_size _)) (digs_oneL _) (over_all (c := digs 0) (v := digs r) (((digs_size _) : (digs 0).size = 16).trans ((digs_size _) : (digs r).size = 16).symm)) rfl rfl rfl rfl rfl rfl ?_
  refine h_done (d_reg ?_)
  refine h_alloc zeDig rfl rfl ?_; intro g8_6
  refine h_done (d_reg ?_)
  refine h_val rfl (.pointer (some ⟨g8_6, 0, none⟩)) (fun b w hb hH => by exact exec_idx (off := 0) (ixDigits 0 (by decide)) rfl rfl rfl hb) ?_
  refine h_store 0 (v := .int .u64 1) (digs 1) tyUint64.2 rfl (ble_size1 (digs_size _) (by decide)) rfl over_01 rfl rfl rfl rfl rfl rfl ?_
  refine h_done (d_seq ?_)
  refine d_par 5 2 [⟨.quiet, 0, fun _ => .agg (digs r), []⟩, ⟨.quiet, 0, fun _ => .agg (digs r), []⟩, ⟨.call, 1, fun _ => .agg (digs (r + r)), [0, 1]⟩, ⟨.quiet, 0, fun _ => .agg (digs d), []⟩, ⟨.call, 2, fun _ => .int .i64 1, [2, 3]⟩] [(2, .pointer (some ⟨g2_1, 0, none⟩)), (4, .pointer (some ⟨g4_2, 0, none⟩)), (5, .pointer (some ⟨g5_3, 0, none⟩)), (6, .pointer (some ⟨g6_4, 0, none⟩)), (7, .pointer (some ⟨g7_5, 0, none⟩)), (8, .pointer (some ⟨g8_6, 0, none⟩))] (by kernel_rfl) (by kernel_rfl) ⟨rfl, rfl, rfl, rfl, rfl, rfl, trivial⟩ ?_ ?_
  · skip
    refine o_cons (o_load 1 (reads_all (tyDigC _)) (fun _ _ => rfl) rfl (fun _ _ => rfl) rfl) ?_
    refine o_cons (o_load 1 (reads_all (tyDigC _)) (fun _ _ => rfl) rfl (fun _ _ => rfl) rfl) ?_
    refine o_cons (o_call (ent_of Tryd.func61 (by kernel_rfl) rfl) (fun w hU => radd_any _ r r (by omega)) (fun _ _ => rfl) rfl (fun _ _ => rfl) (fun _ _ => rfl)) ?_
    refine o_cons (o_load 3 (reads_all (tyDigC _)) (fun _ _ => rfl) rfl (fun _ _ => rfl) rfl) ?_
    refine o_cons (o_call (ent_of Tryd.func62 (by kernel_rfl) rfl) (fun w hU => cmpE _ (r + r) d (1) (by omega) (by omega) hc) (fun _ _ => rfl) rfl (fun _ _ => rfl) (fun _ _ => rfl)) ?_
    exact o_nil
  intro σ7 gs7
  refine WL2.keep (env' := [(2, .pointer (some ⟨g2_1, 0, none⟩)), (4, .pointer (some ⟨g4_2, 0, none⟩)), (6, .pointer (some ⟨g6_4, 0, none⟩)), (8, .pointer (some ⟨g8_6, 0, none⟩)), (32, .int .i64 1)]) ⟨rfl, rfl, rfl, rfl, rfl, trivial⟩ ?_
  refine h_q hflW rfl ?_
  refine h_nil (f_to (d_seq (d_reg ?_)))
  refine h_q hflW rfl ?_
  refine h_cmp (cmp_gtr_t (by decide)) rfl rfl rfl rfl ?_
  refine h_q hflW rfl ?_
  refine h_done (d_then rfl (d_reg1 ?_))
  refine h_load 2 (v := .agg (digs q)) (reads_all (tyDigC _)) rfl rfl rfl rfl ?_
  refine h_load 0 (v := .agg (digs 1)) (reads_all (tyDigC _)) rfl rfl rfl rfl ?_
  refine h_call (ent_of Tryd.func61 (by kernel_rfl) rfl) (fun w hH => radd_any _ q 1 (by omega)) rfl rfl rfl rfl ?_
  refine h_store 2 (v := .agg (digs (q + 1))) (digs (q + 1)) tyDigits.2 (digs_size _) (ble_size (digs_size _)) (digs_oneL _) (over_all (c := digs q) (v := digs (q + 1)) (((digs_size _) : (digs q).size = 16).trans ((digs_size _) : (digs (q + 1)).size = 16).symm)) rfl rfl rfl rfl rfl rfl ?_
  refine h_nil (f_to (d_seq ?_))
  refine d_par 9 1 [⟨.quiet, 0, fun _ => .pointer (some ⟨g2_1, 0, none⟩), []⟩, ⟨.quiet, 0, fun _ => .bool true, [0]⟩, ⟨.quiet, 0, fun _ => .bool true, [1]⟩, ⟨.quiet, 0, fun _ => .agg (digs (q + 1)), [2]⟩, ⟨.call, 1, fun _ => .bool (decide (q + 1 = 0)), [3, 2]⟩, ⟨.quiet, 1, fun _ => .bool (!(decide (q + 1 = 0))), [4, 2]⟩, ⟨.quiet, 1, fun _ => .bool (!(decide (q + 1 = 0))), [2, 5]⟩, ⟨.quiet, 0, fun _ => .agg (digs (q + 1)), []⟩, ⟨.quiet, 1, fun _ => .agg (bigs (!(decide (q + 1 = 0))) (q + 1)), [6, 7]⟩] [(2, .pointer (some ⟨g2_1, 0, none⟩)), (4, .pointer (some ⟨g4_2, 0, none⟩)), (6, .pointer (some ⟨g6_4, 0, none⟩))] (by kernel_rfl) (by kernel_rfl) ⟨rfl, rfl, rfl, trivial⟩ ?_ ?_
  · skip
    refine o_cons (o_q hflW (fun _ _ => rfl) (fun _ _ => rfl)) ?_
    refine o_cons (o_load 5 (reads_one tyBool (bigs_get0 _ _)) (fun _ _ => rfl) rfl (fun _ _ => rfl) rfl) ?_
    refine o_cons (o_q hflW (fun _ _ => rfl) (fun _ _ => rfl)) ?_
    refine o_cons (o_load 2 (reads_all (tyDigC _)) (fun _ _ => rfl) rfl (fun _ _ => rfl) rfl) ?_
    refine o_cons (o_call (ent_of Tryd.func64 (by kernel_rfl) rfl) (fun w hU => rzero_any _ (q + 1) (by omega)) (fun _ _ => rfl) rfl (fun _ _ => rfl) (fun _ _ => rfl)) ?_
    refine o_cons (o_val (fun _ _ => rfl) (fun w hH σ g b W hU hb => by exact exec_not rfl rfl rfl hb)) ?_
    refine o_cons (o_q hflW (fun _ _ => rfl) (fun _ _ => rfl)) ?_
    refine o_cons (o_load 2 (reads_all (tyDigC _)) (fun _ _ => rfl) rfl (fun _ _ => rfl) rfl) ?_
    refine o_cons (o_build (cs := bigs (!(decide (q + 1 = 0))) (q + 1)) (built_big _ _) (fun _ _ => rfl) rfl (fun _ _ => rfl)) ?_
    exact o_nil
  intro σ8 gs8
  refine WL2.keep (env' := [(4, .pointer (some ⟨g4_2, 0, none⟩)), (56, .agg (bigs (!(decide (q + 1 = 0))) (q + 1)))]) ⟨rfl, rfl, trivial⟩ ?_
  refine h_store 4 (v := .agg (bigs (!(decide (q + 1 = 0))) (q + 1))) (bigs (!(decide (q + 1 = 0))) (q + 1)) tyBig.2 (bigs_size _ _) (ble_size zBig_size) (bigs_oneL _ _) (over_all (c := zBig) (v := bigs (!(decide (q + 1 = 0))) (q + 1)) ((zBig_size : (zBig).size = 17).trans ((bigs_size _ _) : (bigs (!(decide (q + 1 = 0))) (q + 1)).size = 17).symm)) rfl rfl rfl rfl rfl rfl ?_
  refine h_nil (f_to (d_ret ?_))
  exact f_fin1 (.cell 4 (v := .agg (bigs (!(decide (q + 1 = 0))) (q + 1))) (reads_all (tyBigsC _ _)) rfl rfl) (fun w h => ⟨rfl, h.up.below⟩) rfl

theorem round_U2_f (w : World) (n q r d : Nat) (k : Int) (hn : n < BP 14) (hk : 0 < k ∧ k ≤ 77) (hd : d = 10 ^ k.toNat) (hq : q = n / d) (hr : r = n % d) (hc : cmpN (r + r) d = 0) (hp : dg q 0 % 2 = 1) : Calls Tryd.prog 48 #[BigV false n, .int .i64 k] w fun e w' => e = .returned (BigV false (q + 1)) ∧ Below w.heap.size w w' := by
  have hd0 : 0 < d := by rw [hd]; exact Nat.pow_pos (by decide)
  have hd8 : d < BP 8 := by rw [hd]; exact ten_small (by omega)
  have h14 : BP 15 = BP 14 * 4294967296 := BP_succ 14
  have h15 : BP 16 = BP 15 * 4294967296 := BP_succ 15
  have h8 : BP 8 ≤ BP 14 := BP_le (by decide)
  have hqn : q ≤ n := by rw [hq]; exact Nat.div_le_self _ _
  have hrd : r < d := by rw [hr]; exact Nat.mod_lt _ hd0
  refine d_in (args := [.agg (bigs false n), .int .i64 k]) 57 Tryd.func48 rfl rfl rfl ?_
  refine d_reg ?_
  refine h_box (cs := bigs false n) rfl rfl rfl rfl ?_; intro g2_1
  refine h_alloc zeBig rfl rfl ?_; intro g4_2
  refine h_done (d_seq (d_reg ?_))
  refine h_q hflW rfl ?_
  refine h_cmp (cmp_leq_f (by omega)) rfl rfl rfl rfl ?_
  refine h_done (d_else rfl (d_skip (f_to (d_reg ?_))))
  refine h_q hflW rfl ?_
  refine h_call (ent_of Tryd.func70 (by kernel_rfl) rfl) (fun w hH => (hd ▸ rten_any _ k (by omega) : Calls _ _ _ _ fun e w' => e = .returned (.agg (digs d)) ∧ _)) rfl rfl rfl rfl ?_
  refine h_alloc zeDig rfl rfl ?_; intro g5_3
  refine h_store 0 (v := .agg (digs d)) (digs d) tyDigits.2 (digs_size _) (ble_size (digs_size _)) (digs_oneL _) (over_all (c := digs 0) (v := digs d) (((digs_size _) : (digs 0).size = 16).trans ((digs_size _) : (digs d).size = 16).symm)) rfl rfl rfl rfl rfl rfl ?_
  refine h_done (d_reg ?_)
  refine h_q hflW rfl ?_
  refine h_load 2 (v := .agg (digs n)) (reads_D _ _) rfl rfl rfl rfl ?_
  refine h_load 0 (v := .agg (digs d)) (reads_all (tyDigC _)) rfl rfl rfl rfl ?_
  refine h_call (ent_of Tryd.func71 (by kernel_rfl) rfl) (fun w hH => (hq ▸ hr ▸ rdiv_any _ n d (by omega) (by omega) hd0 : Calls _ _ _ _ fun e w' => e = .returned (.tuple #[.agg (digs q), .agg (digs r)]) ∧ _)) rfl rfl rfl rfl ?_
  refine h_q hflW rfl ?_
  refine h_alloc zeDig rfl rfl ?_; intro g6_4
  refine h_alloc zeDig rfl rfl ?_; intro g7_5
  refine h_store 1 (v := .agg (digs q)) (digs q) tyDigits.2 (digs_size _) (ble_size (digs_size _)) (digs_oneL _) (over_all (c := digs 0) (v := digs q) (((digs_size _) : (digs 0).size = 16).trans ((digs_size _) : (digs q).size = 16).symm)) rfl rfl rfl rfl rfl rfl ?_
  refine h_store 0 (v := .agg (digs r)) (digs r) tyDigits.2 (digs_size _) (ble_size (digs_size _)) (digs_oneL _) (over_all (c := digs 0) (v := digs r) (((digs_size _) : (digs 0).size = 16).trans ((digs_size _) : (digs r).size = 16).symm)) rfl rfl rfl rfl rfl rfl ?_
  refine h_done (d_reg ?_)
  refine h_alloc zeDig rfl rfl ?_; intro g8_6
  refine h_done (d_reg ?_)
  refine h_val rfl (.pointer (some ⟨g8_6, 0, none⟩)) (fun b w hb hH => by exact exec_idx (off := 0) (ixDigits 0 (by decide)) rfl rfl rfl hb) ?_
  refine h_store 0 (v := .int .u64 1) (digs 1) tyUint64.2 rfl (ble_size1 (digs_size _) (by decide)) rfl over_01 rfl rfl rfl rfl rfl rfl ?_
  refine h_done (d_seq ?_)
  refine d_par 5 2 [⟨.quiet, 0, fun _ => .agg (digs r), []⟩, ⟨.quiet, 0, fun _ => .agg (digs r), []⟩, ⟨.call, 1, fun _ => .agg (digs (r + r)), [0, 1]⟩, ⟨.quiet, 0, fun _ => .agg (digs d), []⟩, ⟨.call, 2, fun _ => .int .i64 0, [2, 3]⟩] [(2, .pointer (some ⟨g2_1, 0, none⟩)), (4, .pointer (some ⟨g4_2, 0, none⟩)), (5, .pointer (some ⟨g5_3, 0, none⟩)), (6, .pointer (some ⟨g6_4, 0, none⟩)), (7, .pointer (some ⟨g7_5, 0, none⟩)), (8, .pointer (some ⟨g8_6, 0, none⟩))] (by kernel_rfl) (by kernel_rfl) ⟨rfl, rfl, rfl, rfl, rfl, rfl, trivial⟩ ?_ ?_
  · skip
    refine o_cons (o_load 1 (reads_all (tyDigC _)) (fun _ _ => rfl) rfl (fun _ _ => rfl) rfl) ?_
    refine o_cons (o_load 1 (reads_all (tyDigC _)) (fun _ _ => rfl) rfl (fun _ _ => rfl) rfl) ?_
    refine o_cons (o_call (ent_of Tryd.func61 (by kernel_rfl) rfl) (fun w hU => radd_any _ r r (by omega)) (fun _ _ => rfl) rfl (fun _ _ => rfl) (fun _ _ => rfl)) ?_
    refine o_cons (o_load 3 (reads_all (tyDigC _)) (fun _ _ => rfl) rfl (fun _ _ => rfl) rfl) ?_
    refine o_cons (o_call (ent_of Tryd.func62 (by kernel_rfl) rfl) (fun w hU => cmpE _ (r + r) d (0) (by omega) (by omega) hc) (fun _ _ => rfl) rfl (fun _ _ => rfl) (fun _ _ => rfl)) ?_
    exact o_nil
  intro σ7 gs7
  refine WL2.keep (env' := [(2, .pointer (some ⟨g2_1, 0, none⟩)), (4, .pointer (some ⟨g4_2, 0, none⟩)), (6, .pointer (some ⟨g6_4, 0, none⟩)), (8, .pointer (some ⟨g8_6, 0, none⟩)), (32, .int .i64 0)]) ⟨rfl, rfl, rfl, rfl, rfl, trivial⟩ ?_
  refine h_q hflW rfl ?_
  refine h_nil (f_to (d_seq (d_reg ?_)))
  refine h_q hflW rfl ?_
  refine h_cmp (cmp_gtr_f (by decide)) rfl rfl rfl rfl ?_
  refine h_q hflW rfl ?_
  refine h_cmp (cmp_eql_t (by decide)) rfl rfl rfl rfl ?_
  refine h_q hflW rfl ?_
  refine h_val rfl (.pointer (some ⟨g6_4, 0, none⟩)) (fun b w hb hH => by exact exec_idx (off := 0) (ixDigits 0 (by decide)) rfl rfl rfl hb) ?_
  refine h_load 2 (v := .int .u64 (dg q 0 : Int)) (reads_one tyUint64 (digs_get _ (by decide))) rfl rfl rfl rfl ?_
  refine h_val rfl (.int .u64 1) (fun b w hb hH => by exact exec_remN rfl rfl rfl (by decide) (rem2 (by omega)) hb) ?_
  refine h_cmp (cmp_eql_t (by decide)) rfl rfl rfl rfl ?_
  refine h_q hflW rfl ?_
  refine h_done (d_then rfl (d_reg1 ?_))
  refine h_load 2 (v := .agg (digs q)) (reads_all (tyDigC _)) rfl rfl rfl rfl ?_
  refine h_load 0 (v := .agg (digs 1)) (reads_all (tyDigC _)) rfl rfl rfl rfl ?_
  refine h_call (ent_of Tryd.func61 (by kernel_rfl) rfl) (fun w hH => radd_any _ q 1 (by omega)) rfl rfl rfl rfl ?_
  refine h_store 2 (v := .agg (digs (q + 1))) (digs (q + 1)) tyDigits.2 (digs_size _) (ble_size (digs_size _)) (digs_oneL _) (over_all (c := digs q) (v := digs (q + 1)) (((digs_size _) : (digs q).size = 16).trans ((digs_size _) : (digs (q + 1)).size = 16).symm)) rfl rfl rfl rfl rfl rfl ?_
  refine h_nil (f_to (d_seq ?_))
  refine d_par 9 0 [⟨.quiet, 0, fun _ => .pointer (some ⟨g2_1, 0, none⟩), []⟩, ⟨.quiet, 0, fun _ => .bool false, [0]⟩, ⟨.quiet, 0, fun _ => .bool false, [1]⟩, ⟨.skip, 0, fun _ => undef, [2]⟩, ⟨.skip, 0, fun _ => undef, [3, 2]⟩, ⟨.skip, 0, fun _ => undef, [4, 2]⟩, ⟨.quiet, 0, fun _ => .bool false, [2, 5]⟩, ⟨.quiet, 0, fun _ => .agg (digs (q + 1)), []⟩, ⟨.quiet, 0, fun _ => .agg (bigs false (q + 1)), [6, 7]⟩] [(2, .pointer (some ⟨g2_1, 0, none⟩)), (4, .pointer (some ⟨g4_2, 0, none⟩)), (6, .pointer (some ⟨g6_4, 0, none⟩))] (by kernel_rfl) (by kernel_rfl) ⟨rfl, rfl, rfl, trivial⟩ ?_ ?_
  · skip
    refine o_cons (o_q hflW (fun _ _ => rfl) (fun _ _ => rfl)) ?_
    refine o_cons (o_load 5 (reads_one tyBool (bigs_get0 _ _)) (fun _ _ => rfl) rfl (fun _ _ => rfl) rfl) ?_
    refine o_cons (o_q hflW (fun _ _ => rfl) (fun _ _ => rfl)) ?_
    refine o_cons (o_skip (fun _ _ => rfl)) ?_
    refine o_cons (o_skip (fun _ _ => rfl)) ?_
    refine o_cons (o_skip (fun _ _ => rfl)) ?_
    refine o_cons (o_q hflW (fun _ _ => rfl) (fun _ _ => rfl)) ?_
    refine o_cons (o_load 2 (reads_all (tyDigC _)) (fun _ _ => rfl) rfl (fun _ _ => rfl) rfl) ?_
    refine o_cons (o_build (cs := bigs false (q + 1)) (built_big _ _) (fun _ _ => rfl) rfl (fun _ _ => rfl)) ?_
    exact o_nil
  intro σ8 gs8
  refine WL2.keep (env' := [(4, .pointer (some ⟨g4_2, 0, none⟩)), (56, .agg (bigs false (q + 1)))]) ⟨rfl, rfl, trivial⟩ ?_
  refine h_store 4 (v := .agg (bigs false (q + 1))) (bigs false (q + 1)) tyBig.2 (bigs_size _ _) (ble_size zBig_size) (bigs_oneL _ _) (over_all (c := zBig) (v := bigs false (q + 1)) ((zBig_size : (zBig).size = 17).trans ((bigs_size _ _) : (bigs false (q + 1)).size = 17).symm)) rfl rfl rfl rfl rfl rfl ?_
  refine h_nil (f_to (d_ret ?_))
  exact f_fin1 (.cell 4 (v := .agg (bigs false (q + 1))) (reads_all (tyBigsC _ _)) rfl rfl) (fun w h => ⟨rfl, h.up.below⟩) rfl

theorem round_U2_t (w : World) (n q r d : Nat) (k : Int) (hn : n < BP 14) (hk : 0 < k ∧ k ≤ 77) (hd : d = 10 ^ k.toNat) (hq : q = n / d) (hr : r = n % d) (hc : cmpN (r + r) d = 0) (hp : dg q 0 % 2 = 1) : Calls Tryd.prog 48 #[BigV true n, .int .i64 k] w fun e w' => e = .returned (BigV (!decide (q + 1 = 0)) (q + 1)) ∧ Below w.heap.size w w' := by
  have hd0 : 0 < d := by rw [hd]; exact Nat.pow_pos (by decide)
  have hd8 : d < BP 8 := by rw [hd]; exact ten_small (by omega)
  have h14 : BP 15 = BP 14 * 4294967296 := BP_succ 14
  have h15 : BP 16 = BP 15 * 4294967296 := BP_succ 15
  have h8 : BP 8 ≤ BP 14 := BP_le (by decide)
  have hqn : q ≤ n := by rw [hq]; exact Nat.div_le_self _ _
  have hrd : r < d := by rw [hr]; exact Nat.mod_lt _ hd0
  refine d_in (args := [.agg (bigs true n), .int .i64 k]) 57 Tryd.func48 rfl rfl rfl ?_
  refine d_reg ?_
  refine h_box (cs := bigs true n) rfl rfl rfl rfl ?_; intro g2_1
  refine h_alloc zeBig rfl rfl ?_; intro g4_2
  refine h_done (d_seq (d_reg ?_))
  refine h_q hflW rfl ?_
  refine h_cmp (cmp_leq_f (by omega)) rfl rfl rfl rfl ?_
  refine h_done (d_else rfl (d_skip (f_to (d_reg ?_))))
  refine h_q hflW rfl ?_
  refine h_call (ent_of Tryd.func70 (by kernel_rfl) rfl) (fun w hH => (hd ▸ rten_any _ k (by omega) : Calls _ _ _ _ fun e w' => e = .returned (.agg (digs d)) ∧ _)) rfl rfl rfl rfl ?_
  refine h_alloc zeDig rfl rfl ?_; intro g5_3
  refine h_store 0 (v := .agg (digs d)) (digs d) tyDigits.2 (digs_size _) (ble_size (digs_size _)) (digs_oneL _) (over_all (c := digs 0) (v := digs d) (((digs_size _) : (digs 0).size = 16).trans ((digs_size _) : (digs d).size = 16).symm)) rfl rfl rfl rfl rfl rfl ?_
  refine h_done (d_reg ?_)
  refine h_q hflW rfl ?_
  refine h_load 2 (v := .agg (digs n)) (reads_D _ _) rfl rfl rfl rfl ?_
  refine h_load 0 (v := .agg (digs d)) (reads_all (tyDigC _)) rfl rfl rfl rfl ?_
  refine h_call (ent_of Tryd.func71 (by kernel_rfl) rfl) (fun w hH => (hq ▸ hr ▸ rdiv_any _ n d (by omega) (by omega) hd0 : Calls _ _ _ _ fun e w' => e = .returned (.tuple #[.agg (digs q), .agg (digs r)]) ∧ _)) rfl rfl rfl rfl ?_
  refine h_q hflW rfl ?_
  refine h_alloc zeDig rfl rfl ?_; intro g6_4
  refine h_alloc zeDig rfl rfl ?_; intro g7_5
  refine h_store 1 (v := .agg (digs q)) (digs q) tyDigits.2 (digs_size _) (ble_size (digs_size _)) (digs_oneL _) (over_all (c := digs 0) (v := digs q) (((digs_size _) : (digs 0).size = 16).trans ((digs_size _) : (digs q).size = 16).symm)) rfl rfl rfl rfl rfl rfl ?_
  refine h_store 0 (v := .agg (digs r)) (digs r) tyDigits.2 (digs_size _) (ble_size (digs_size _)) (digs_oneL _) (over_all (c := digs 0) (v := digs r) (((digs_size _) : (digs 0).size = 16).trans ((digs_size _) : (digs r).size = 16).symm)) rfl rfl rfl rfl rfl rfl ?_
  refine h_done (d_reg ?_)
  refine h_alloc zeDig rfl rfl ?_; intro g8_6
  refine h_done (d_reg ?_)
  refine h_val rfl (.pointer (some ⟨g8_6, 0, none⟩)) (fun b w hb hH => by exact exec_idx (off := 0) (ixDigits 0 (by decide)) rfl rfl rfl hb) ?_
  refine h_store 0 (v := .int .u64 1) (digs 1) tyUint64.2 rfl (ble_size1 (digs_size _) (by decide)) rfl over_01 rfl rfl rfl rfl rfl rfl ?_
  refine h_done (d_seq ?_)
  refine d_par 5 2 [⟨.quiet, 0, fun _ => .agg (digs r), []⟩, ⟨.quiet, 0, fun _ => .agg (digs r), []⟩, ⟨.call, 1, fun _ => .agg (digs (r + r)), [0, 1]⟩, ⟨.quiet, 0, fun _ => .agg (digs d), []⟩, ⟨.call, 2, fun _ => .int .i64 0, [2, 3]⟩] [(2, .pointer (some ⟨g2_1, 0, none⟩)), (4, .pointer (some ⟨g4_2, 0, none⟩)), (5, .pointer (some ⟨g5_3, 0, none⟩)), (6, .pointer (some ⟨g6_4, 0, none⟩)), (7, .pointer (some ⟨g7_5, 0, none⟩)), (8, .pointer (some ⟨g8_6, 0, none⟩))] (by kernel_rfl) (by kernel_rfl) ⟨rfl, rfl, rfl, rfl, rfl, rfl, trivial⟩ ?_ ?_
  · skip
    refine o_cons (o_load 1 (reads_all (tyDigC _)) (fun _ _ => rfl) rfl (fun _ _ => rfl) rfl) ?_
    refine o_cons (o_load 1 (reads_all (tyDigC _)) (fun _ _ => rfl) rfl (fun _ _ => rfl) rfl) ?_
    refine o_cons (o_call (ent_of Tryd.func61 (by kernel_rfl) rfl) (fun w hU => radd_any _ r r (by omega)) (fun _ _ => rfl) rfl (fun _ _ => rfl) (fun _ _ => rfl)) ?_
    refine o_cons (o_load 3 (reads_all (tyDigC _)) (fun _ _ => rfl) rfl (fun _ _ => rfl) rfl) ?_
    refine o_cons (o_call (ent_of Tryd.func62 (by kernel_rfl) rfl) (fun w hU => cmpE _ (r + r) d (0) (by omega) (by omega) hc) (fun _ _ => rfl) rfl (fun _ _ => rfl) (fun _ _ => rfl)) ?_
    exact o_nil
  intro σ7 gs7
  refine WL2.keep (env' := [(2, .pointer (some ⟨g2_1, 0, none⟩)), (4, .pointer (some ⟨g4_2, 0, none⟩)), (6, .pointer (some ⟨g6_4, 0, none⟩)), (8, .pointer (some ⟨g8_6, 0, none⟩)), (32, .int .i64 0)]) ⟨rfl, rfl, rfl, rfl, rfl, trivial⟩ ?_
  refine h_q hflW rfl ?_
  refine h_nil (f_to (d_seq (d_reg ?_)))
  refine h_q hflW rfl ?_
  refine h_cmp (cmp_gtr_f (by decide)) rfl rfl rfl rfl ?_
  refine h_q hflW rfl ?_
  refine h_cmp (cmp_eql_t (by decide)) rfl rfl rfl rfl ?_
  refine h_q hflW rfl ?_
  refine h_val rfl (.pointer (some ⟨g6_4, 0, none⟩)) (fun b w hb hH => by exact exec_idx (off := 0) (ixDigits 0 (by decide)) rfl rfl rfl hb) ?_
  refine h_load 2 (v := .int .u64 (dg q 0 : Int)) (reads_one tyUint64 (digs_get _ (by decide))) rfl rfl rfl rfl ?_
  refine h_val rfl (.int .u64 1) (fun b w hb hH => by exact exec_remN rfl rfl rfl (by decide) (rem2 (by omega)) hb) ?_
  refine h_cmp (cmp_eql_t (by decide)) rfl rfl rfl rfl ?_
  refine h_q hflW rfl ?_
  refine h_done (d_then rfl (d_reg1 ?_))
  refine h_load 2 (v := .agg (digs q)) (reads_all (tyDigC _)) rfl rfl rfl rfl ?_
  refine h_load 0 (v := .agg (digs 1)) (reads_all (tyDigC _)) rfl rfl rfl rfl ?_
  refine h_call (ent_of Tryd.func61 (by kernel_rfl) rfl) (fun w hH => radd_any _ q 1 (by omega)) rfl rfl rfl rfl ?_
  refine h_store 2 (v := .agg (digs (q + 1))) (digs (q + 1)) tyDigits.2 (digs_size _) (ble_size (digs_size _)) (digs_oneL _) (over_all (c := digs q) (v := digs (q + 1)) (((digs_size _) : (digs q).size = 16).trans ((digs_size _) : (digs (q + 1)).size = 16).symm)) rfl rfl rfl rfl rfl rfl ?_
  refine h_nil (f_to (d_seq ?_))
  refine d_par 9 1 [⟨.quiet, 0, fun _ => .pointer (some ⟨g2_1, 0, none⟩), []⟩, ⟨.quiet, 0, fun _ => .bool true, [0]⟩, ⟨.quiet, 0, fun _ => .bool true, [1]⟩, ⟨.quiet, 0, fun _ => .agg (digs (q + 1)), [2]⟩, ⟨.call, 1, fun _ => .bool (decide (q + 1 = 0)), [3, 2]⟩, ⟨.quiet, 1, fun _ => .bool (!(decide (q + 1 = 0))), [4, 2]⟩, ⟨.quiet, 1, fun _ => .bool (!(decide (q + 1 = 0))), [2, 5]⟩, ⟨.quiet, 0, fun _ => .agg (digs (q + 1)), []⟩, ⟨.quiet, 1, fun _ => .agg (bigs (!(decide (q + 1 = 0))) (q + 1)), [6, 7]⟩] [(2, .pointer (some ⟨g2_1, 0, none⟩)), (4, .pointer (some ⟨g4_2, 0, none⟩)), (6, .pointer (some ⟨g6_4, 0, none⟩))] (by kernel_rfl) (by kernel_rfl) ⟨rfl, rfl, rfl, trivial⟩ ?_ ?_
  · skip
    refine o_cons (o_q hflW (fun _ _ => rfl) (fun _ _ => rfl)) ?_
    refine o_cons (o_load 5 (reads_one tyBool (bigs_get0 _ _)) (fun _ _ => rfl) rfl (fun _ _ => rfl) rfl) ?_
    refine o_cons (o_q hflW (fun _ _ => rfl) (fun _ _ => rfl)) ?_
    refine o_cons (o_load 2 (reads_all (tyDigC _)) (fun _ _ => rfl) rfl (fun _ _ => rfl) rfl) ?_
    refine o_cons (o_call (ent_of Tryd.func64 (by kernel_rfl) rfl) (fun w hU => rzero_any _ (q + 1) (by omega)) (fun _ _ => rfl) rfl (fun _ _ => rfl) (fun _ _ => rfl)) ?_
    refine o_cons (o_val (fun _ _ => rfl) (fun w hH σ g b W hU hb => by exact exec_not rfl rfl rfl hb)) ?_
    refine o_cons (o_q hflW (fun _ _ => rfl) (fun _ _ => rfl)) ?_
    refine o_cons (o_load 2 (reads_all (tyDigC _)) (fun _ _ => rfl) rfl (fun _ _ => rfl) rfl) ?_
    refine o_cons (o_build (cs := bigs (!(decide (q + 1 = 0))) (q + 1)) (built_big _ _) (fun _ _ => rfl) rfl (fun _ _ => rfl)) ?_
    exact o_nil
  intro σ8 gs8
  refine WL2.keep (env' := [(4, .pointer (some ⟨g4_2, 0, none⟩)), (56, .agg (bigs (!(decide (q + 1 = 0))) (q + 1)))]) ⟨rfl, rfl, trivial⟩ ?_
  refine h_store 4 (v := .agg (bigs (!(decide (q + 1 = 0))) (q + 1))) (bigs (!(decide (q + 1 = 0))) (q + 1)) tyBig.2 (bigs_size _ _) (ble_size zBig_size) (bigs_oneL _ _) (over_all (c := zBig) (v := bigs (!(decide (q + 1 = 0))) (q + 1)) ((zBig_size : (zBig).size = 17).trans ((bigs_size _ _) : (bigs (!(decide (q + 1 = 0))) (q + 1)).size = 17).symm)) rfl rfl rfl rfl rfl rfl ?_
  refine h_nil (f_to (d_ret ?_))
  exact f_fin1 (.cell 4 (v := .agg (bigs (!(decide (q + 1 = 0))) (q + 1))) (reads_all (tyBigsC _ _)) rfl rfl) (fun w h => ⟨rfl, h.up.below⟩) rfl

theorem round_N1_f (w : World) (n q r d : Nat) (k : Int) (hn : n < BP 14) (hk : 0 < k ∧ k ≤ 77) (hd : d = 10 ^ k.toNat) (hq : q = n / d) (hr : r = n % d) (hc : cmpN (r + r) d = 0) (hp : dg q 0 % 2 = 0) : Calls Tryd.prog 48 #[BigV false n, .int .i64 k] w fun e w' => e = .returned (BigV false q) ∧ Below w.heap.size w w' := by
  have hd0 : 0 < d := by rw [hd]; exact Nat.pow_pos (by decide)
  have hd8 : d < BP 8 := by rw [hd]; exact ten_small (by omega)
  have h14 : BP 15 = BP 14 * 4294967296 := BP_succ 14
  have h15 : BP 16 = BP 15 * 4294967296 := BP_succ 15
  have h8 : BP 8 ≤ BP 14 := BP_le (by decide)
  have hqn : q ≤ n := by rw [hq]; exact Nat.div_le_self _ _
  have hrd : r < d := by rw [hr]; exact Nat.mod_lt _ hd0
  refine d_in (args := [.agg (bigs false n), .int .i64 k]) 57 Tryd.func48 rfl rfl rfl ?_
  refine d_reg ?_
  refine h_box (cs := bigs false n) rfl rfl rfl rfl ?_; intro g2_1
  refine h_alloc zeBig rfl rfl ?_; intro g4_2
  refine h_done (d_seq (d_reg ?_))
  refine h_q hflW rfl ?_
  refine h_cmp (cmp_leq_f (by omega)) rfl rfl rfl rfl ?_
  refine h_done (d_else rfl (d_skip (f_to (d_reg ?_))))
  refine h_q hflW rfl ?_
  refine h_call (ent_of Tryd.func70 (by kernel_rfl) rfl) (fun w hH => (hd ▸ rten_any _ k (by omega) : Calls _ _ _ _ fun e w' => e = .returned (.agg (digs d)) ∧ _)) rfl rfl rfl rfl ?_
  refine h_alloc zeDig rfl rfl ?_; intro g5_3
  refine h_store 0 (v := .agg (digs d)) (digs d) tyDigits.2 (digs_size _) (ble_size (digs_size _)) (digs_oneL _) (over_all (c := digs 0) (v := digs d) (((digs_size _) : (digs 0).size = 16).trans ((digs_size _) : (digs d).size = 16).symm)) rfl rfl rfl rfl rfl rfl ?_
  refine h_done (d_reg ?_)
  refine h_q hflW rfl ?_
  refine h_load 2 (v := .agg (digs n)) (reads_D _ _) rfl rfl rfl rfl ?_
  refine h_load 0 (v := .agg (digs d)) (reads_all (tyDigC _)) rfl rfl rfl rfl ?_
  refine h_call (ent_of Tryd.func71 (by kernel_rfl) rfl) (fun w hH => (hq ▸ hr ▸ rdiv_any _ n d (by omega) (by omega) hd0 : Calls _ _ _ _ fun e w' => e = .returned (.tuple #[.agg (digs q), .agg (digs r)]) ∧ _)) rfl rfl rfl rfl ?_
  refine h_q hflW rfl ?_
  refine h_alloc zeDig rfl rfl ?_; intro g6_4
  refine h_alloc zeDig rfl rfl ?_; intro g7_5
  refine h_store 1 (v := .agg (digs q)) (digs q) tyDigits.2 (digs_size _) (ble_size (digs_size _)) (digs_oneL _) (over_all (c := digs 0) (v := digs q) (((digs_size _) : (digs 0).size = 16).trans ((digs_size _) : (digs q).size = 16).symm)) rfl rfl rfl rfl rfl rfl ?_
  refine h_store 0 (v := .agg (digs r)) (digs r) tyDigits.2 (digs_size _) (ble_size (digs_size _)) (digs_oneL _) (over_all (c := digs 0) (v := digs r) (((digs_size _) : (digs 0).size = 16).trans ((digs_size _) : (digs r).size = 16).symm)) rfl rfl rfl rfl rfl rfl ?_
  refine h_done (d_reg ?_)
  refine h_alloc zeDig rfl rfl ?_; intro g8_6
  refine h_done (d_reg ?_)
  refine h_val rfl (.pointer (some ⟨g8_6, 0, none⟩)) (fun b w hb hH => by exact exec_idx (off := 0) (ixDigits 0 (by decide)) rfl rfl rfl hb) ?_
  refine h_store 0 (v := .int .u64 1) (digs 1) tyUint64.2 rfl (ble_size1 (digs_size _) (by decide)) rfl over_01 rfl rfl rfl rfl rfl rfl ?_
  refine h_done (d_seq ?_)
  refine d_par 5 2 [⟨.quiet, 0, fun _ => .agg (digs r), []⟩, ⟨.quiet, 0, fun _ => .agg (digs r), []⟩, ⟨.call, 1, fun _ => .agg (digs (r + r)), [0, 1]⟩, ⟨.quiet, 0, fun _ => .agg (digs d), []⟩, ⟨.call, 2, fun _ => .int .i64 0, [2, 3]⟩] [(2, .pointer (some ⟨g2_1, 0, none⟩)), (4, .pointer (some ⟨g4_2, 0, none⟩)), (5, .pointer (some ⟨g5_3, 0, none⟩)), (6, .pointer (some ⟨g6_4, 0, none⟩)), (7, .pointer (some ⟨g7_5, 0, none⟩)), (8, .pointer (some ⟨g8_6, 0, none⟩))] (by kernel_rfl) (by kernel_rfl) ⟨rfl, rfl, rfl, rfl, rfl, rfl, trivial⟩ ?_ ?_
  · skip
    refine o_cons (o_load 1 (reads_all (tyDigC _)) (fun _ _ => rfl) rfl (fun _ _ => rfl) rfl) ?_
    refine o_cons (o_load 1 (reads_all (tyDigC _)) (fun _ _ => rfl) rfl (fun _ _ => rfl) rfl) ?_
    refine o_cons (o_call (ent_of Tryd.func61 (by kernel_rfl) rfl) (fun w hU => radd_any _ r r (by omega)) (fun _ _ => rfl) rfl (fun _ _ => rfl) (fun _ _ => rfl)) ?_
    refine o_cons (o_load 3 (reads_all (tyDigC _)) (fun _ _ => rfl) rfl (fun _ _ => rfl) rfl) ?_
    refine o_cons (o_call (ent_of Tryd.func62 (by kernel_rfl) rfl) (fun w hU => cmpE _ (r + r) d (0) (by omega) (by omega) hc) (fun _ _ => rfl) rfl (fun _ _ => rfl) (fun _ _ => rfl)) ?_
    exact o_nil
  intro σ7 gs7
  refine WL2.keep (env' := [(2, .pointer (some ⟨g2_1, 0, none⟩)), (4, .pointer (some ⟨g4_2, 0, none⟩)), (6, .pointer (some ⟨g6_4, 0, none⟩)), (8, .pointer (some ⟨g8_6, 0, none⟩)), (32, .int .i64 0)]) ⟨rfl, rfl, rfl, rfl, rfl, trivial⟩ ?_
  refine h_q hflW rfl ?_
  refine h_nil (f_to (d_seq (d_reg ?_)))
  refine h_q hflW rfl ?_
  refine h_cmp (cmp_gtr_f (by decide)) rfl rfl rfl rfl ?_
  refine h_q hflW rfl ?_
  refine h_cmp (cmp_eql_t (by decide)) rfl rfl rfl rfl ?_
  refine h_q hflW rfl ?_
  refine h_val rfl (.pointer (some ⟨g6_4, 0, none⟩)) (fun b w hb hH => by exact exec_idx (off := 0) (ixDigits 0 (by decide)) rfl rfl rfl hb) ?_
  refine h_load 2 (v := .int .u64 (dg q 0 : Int)) (reads_one tyUint64 (digs_get _ (by decide))) rfl rfl rfl rfl ?_
  refine h_val rfl (.int .u64 0) (fun b w hb hH => by exact exec_remN rfl rfl rfl (by decide) (rem2 (by omega)) hb) ?_
  refine h_cmp (cmp_eql_f (by decide)) rfl rfl rfl rfl ?_
  refine h_q hflW rfl ?_
  refine h_done (d_else rfl (d_skip (f_to (d_seq ?_))))
  refine d_par 9 0 [⟨.quiet, 0, fun _ => .pointer (some ⟨g2_1, 0, none⟩), []⟩, ⟨.quiet, 0, fun _ => .bool false, [0]⟩, ⟨.quiet, 0, fun _ => .bool false, [1]⟩, ⟨.skip, 0, fun _ => undef, [2]⟩, ⟨.skip, 0, fun _ => undef, [3, 2]⟩, ⟨.skip, 0, fun _ => undef, [4, 2]⟩, ⟨.quiet, 0, fun _ => .bool false, [2, 5]⟩, ⟨.quiet, 0, fun _ => .agg (digs q), []⟩, ⟨.quiet, 0, fun _ => .agg (bigs false q), [6, 7]⟩] [(2, .pointer (some ⟨g2_1, 0, none⟩)), (4, .pointer (some ⟨g4_2, 0, none⟩)), (6, .pointer (some ⟨g6_4, 0, none⟩))] (by kernel_rfl) (by kernel_rfl) ⟨rfl, rfl, rfl, trivial⟩ ?_ ?_
  · skip
    refine o_cons (o_q hflW (fun _ _ => rfl) (fun _ _ => rfl)) ?_
    refine o_cons (o_load 5 (reads_one tyBool (bigs_get0 _ _)) (fun _ _ => rfl) rfl (fun _ _ => rfl) rfl) ?_
    refine o_cons (o_q hflW (fun _ _ => rfl) (fun _ _ => rfl)) ?_
    refine o_cons (o_skip (fun _ _ => rfl)) ?_
    refine o_cons (o_skip (fun _ _ => rfl)) ?_
    refine o_cons (o_skip (fun _ _ => rfl)) ?_
    refine o_cons (o_q hflW (fun _ _ => rfl) (fun _ _ => rfl)) ?_
    refine o_cons (o_load 2 (reads_all (tyDigC _)) (fun _ _ => rfl) rfl (fun _ _ => rfl) rfl) ?_
    refine o_cons (o_build (cs := bigs false q) (built_big _ _) (fun _ _ => rfl) rfl (fun _ _ => rfl)) ?_
    exact o_nil
  intro σ8 gs8
  refine WL2.keep (env' := [(4, .pointer (some ⟨g4_2, 0, none⟩)), (56, .agg (bigs false q))]) ⟨rfl, rfl, trivial⟩ ?_
  refine h_store 4 (v := .agg (bigs false q)) (bigs false q) tyBig.2 (bigs_size _ _) (ble_size zBig_size) (bigs_oneL _ _) (over_all (c := zBig) (v := bigs false q) ((zBig_size : (zBig).size = 17).trans ((bigs_size _ _) : (bigs false q).size = 17).symm)) rfl rfl rfl rfl rfl rfl ?_
  refine h_nil (f_to (d_ret ?_))
  exact f_fin1 (.cell 4 (v := .agg (bigs false q)) (reads_all (tyBigsC _ _)) rfl rfl) (fun w h => ⟨rfl, h.up.below⟩) rfl

theorem round_N1_t (w : World) (n q r d : Nat) (k : Int) (hn : n < BP 14) (hk : 0 < k ∧ k ≤ 77) (hd : d = 10 ^ k.toNat) (hq : q = n / d) (hr : r = n % d) (hc : cmpN (r + r) d = 0) (hp : dg q 0 % 2 = 0) : Calls Tryd.prog 48 #[BigV true n, .int .i64 k] w fun e w' => e = .returned (BigV (!decide (q = 0)) q) ∧ Below w.heap.size w w' := by
  have hd0 : 0 < d := by rw [hd]; exact Nat.pow_pos (by decide)
  have hd8 : d < BP 8 := by rw [hd]; exact ten_small (by omega)
  have h14 : BP 15 = BP 14 * 4294967296 := BP_succ 14
  have h15 : BP 16 = BP 15 * 4294967296 := BP_succ 15
  have h8 : BP 8 ≤ BP 14 := BP_le (by decide)
  have hqn : q ≤ n := by rw [hq]; exact Nat.div_le_self _ _
  have hrd : r < d := by rw [hr]; exact Nat.mod_lt _ hd0
  refine d_in (args := [.agg (bigs true n), .int .i64 k]) 57 Tryd.func48 rfl rfl rfl ?_
  refine d_reg ?_
  refine h_box (cs := bigs true n) rfl rfl rfl rfl ?_; intro g2_1
  refine h_alloc zeBig rfl rfl ?_; intro g4_2
  refine h_done (d_seq (d_reg ?_))
  refine h_q hflW rfl ?_
  refine h_cmp (cmp_leq_f (by omega)) rfl rfl rfl rfl ?_
  refine h_done (d_else rfl (d_skip (f_to (d_reg ?_))))
  refine h_q hflW rfl ?_
  refine h_call (ent_of Tryd.func70 (by kernel_rfl) rfl) (fun w hH => (hd ▸ rten_any _ k (by omega) : Calls _ _ _ _ fun e w' => e = .returned (.agg (digs d)) ∧ _)) rfl rfl rfl rfl ?_
  refine h_alloc zeDig rfl rfl ?_; intro g5_3
  refine h_store 0 (v := .agg (digs d)) (digs d) tyDigits.2 (digs_size _) (ble_size (digs_size _)) (digs_oneL _) (over_all (c := digs 0) (v := digs d) (((digs_size _) : (digs 0).size = 16).trans ((digs_size _) : (digs d).size = 16).symm)) rfl rfl rfl rfl rfl rfl ?_
  refine h_done (d_reg ?_)
  refine h_q hflW rfl ?_
  refine h_load 2 (v := .agg (digs n)) (reads_D _ _) rfl rfl rfl rfl ?_
  refine h_load 0 (v := .agg (digs d)) (reads_all (tyDigC _)) rfl rfl rfl rfl ?_
  refine h_call (ent_of Tryd.func71 (by kernel_rfl) rfl) (fun w hH => (hq ▸ hr ▸ rdiv_any _ n d (by omega) (by omega) hd0 : Calls _ _ _ _ fun e w' => e = .returned (.tuple #[.agg (digs q), .agg (digs r)]) ∧ _)) rfl rfl rfl rfl ?_
  refine h_q hflW rfl ?_
  refine h_alloc zeDig rfl rfl ?_; intro g6_4
  refine h_alloc zeDig rfl rfl ?_; intro g7_5
  refine h_store 1 (v := .agg (digs q)) (digs q) tyDigits.2 (digs_size _) (ble_size (digs_size _)) (digs_oneL _) (over_all (c := digs 0) (v := digs q) (((digs_size _) : (digs 0).size = 16).trans ((digs_size _) : (digs q).size = 16).symm)) rfl rfl rfl rfl rfl rfl ?_
  refine h_store 0 (v := .agg (digs r)) (digs r) tyDigits.2 (digs_size _) (ble_size (digs_size _)) (digs_oneL _) (over_all (c := digs 0) (v := digs r) (((digs_size _) : (digs 0).size = 16).trans ((digs_size _) : (digs r).size = 16).symm)) rfl rfl rfl rfl rfl rfl ?_
  refine h_done (d_reg ?_)
  refine h_alloc zeDig rfl rfl ?_; intro g8_6
  refine h_done (d_reg ?_)
  refine h_val rfl (.pointer (some ⟨g8_6, 0, none⟩)) (fun b w hb hH => by exact exec_idx (off := 0) (ixDigits 0 (by decide)) rfl rfl rfl hb) ?_
  refine h_store 0 (v := .int .u64 1) (digs 1) tyUint64.2 rfl (ble_size1 (digs_size _) (by decide)) rfl over_01 rfl rfl rfl rfl rfl rfl ?_
  refine h_done (d_seq ?_)
  refine d_par 5 2 [⟨.quiet, 0, fun _ => .agg (digs r), []⟩, ⟨.quiet, 0, fun _ => .agg (digs r), []⟩, ⟨.call, 1, fun _ => .agg (digs (r + r)), [0, 1]⟩, ⟨.quiet, 0, fun _ => .agg (digs d), []⟩, ⟨.call, 2, fun _ => .int .i64 0, [2, 3]⟩] [(2, .pointer (some ⟨g2_1, 0, none⟩)), (4, .pointer (some ⟨g4_2, 0, none⟩)), (5, .pointer (some ⟨g5_3, 0, none⟩)), (6, .pointer (some ⟨g6_4, 0, none⟩)), (7, .pointer (some ⟨g7_5, 0, none⟩)), (8, .pointer (some ⟨g8_6, 0, none⟩))] (by kernel_rfl) (by kernel_rfl) ⟨rfl, rfl, rfl, rfl, rfl, rfl, trivial⟩ ?_ ?_
  · skip
    refine o_cons (o_load 1 (reads_all (tyDigC _)) (fun _ _ => rfl) rfl (fun _ _ => rfl) rfl) ?_
    refine o_cons (o_load 1 (reads_all (tyDigC _)) (fun _ _ => rfl) rfl (fun _ _ => rfl) rfl) ?_
    refine o_cons (o_call (ent_of Tryd.func61 (by kernel_rfl) rfl) (fun w hU => radd_any _ r r (by omega)) (fun _ _ => rfl) rfl (fun _ _ => rfl) (fun _ _ => rfl)) ?_
    refine o_cons (o_load 3 (reads_all (tyDigC _)) (fun _ _ => rfl) rfl (fun _ _ => rfl) rfl) ?_
    refine o_cons (o_call (ent_of Tryd.func62 (by kernel_rfl) rfl) (fun w hU => cmpE _ (r + r) d (0) (by omega) (by omega) hc) (fun _ _ => rfl) rfl (fun _ _ => rfl) (fun _ _ => rfl)) ?_
    exact o_nil
  intro σ7 gs7
  refine WL2.keep (env' := [(2, .pointer (some ⟨g2_1, 0, none⟩)), (4, .pointer (some ⟨g4_2, 0, none⟩)), (6, .pointer (some ⟨g6_4, 0, none⟩)), (8, .pointer (some ⟨g8_6, 0, none⟩)), (32, .int .i64 0)]) ⟨rfl, rfl, rfl, rfl, rfl, trivial⟩ ?_
  refine h_q hflW rfl ?_
  refine h_nil (f_to (d_seq (d_reg ?_)))
  refine h_q hflW rfl ?_
  refine h_cmp (cmp_gtr_f (by decide)) rfl rfl rfl rfl ?_
  refine h_q hflW rfl ?_
  refine h_cmp (cmp_eql_t (by decide)) rfl rfl rfl rfl ?_
  refine h_q hflW rfl ?_
  refine h_val rfl (.pointer (some ⟨g6_4, 0, none⟩)) (fun b w hb hH => by exact exec_idx (off := 0) (ixDigits 0 (by decide)) rfl rfl rfl hb) ?_
  refine h_load 2 (v := .int .u64 (dg q 0 : Int)) (reads_one tyUint64 (digs_get _ (by decide))) rfl rfl rfl rfl ?_
  refine h_val rfl (.int .u64 0) (fun b w hb hH => by exact exec_remN rfl rfl rfl (by decide) (rem2 (by omega)) hb) ?_
  refine h_cmp (cmp_eql_f (by decide)) rfl rfl rfl rfl ?_
  refine h_q hflW rfl ?_
  refine h_done (d_else rfl (d_skip (f_to (d_seq ?_))))
  refine d_par 9 1 [⟨.quiet, 0, fun _ => .pointer (some ⟨g2_1, 0, none⟩), []⟩, ⟨.quiet, 0, fun _ => .bool true, [0]⟩, ⟨.quiet, 0, fun _ => .bool true, [1]⟩, ⟨.quiet, 0, fun _ => .agg (digs q), [2]⟩, ⟨.call, 1, fun _ => .bool (decide (q = 0)), [3, 2]⟩, ⟨.quiet, 1, fun _ => .bool (!(decide (q = 0))), [4, 2]⟩, ⟨.quiet, 1, fun _ => .bool (!(decide (q = 0))), [2, 5]⟩, ⟨.quiet, 0, fun _ => .agg (digs q), []⟩, ⟨.quiet, 1, fun _ => .agg (bigs (!(decide (q = 0))) q), [6, 7]⟩] [(2, .pointer (some ⟨g2_1, 0, none⟩)), (4, .pointer (some ⟨g4_2, 0, none⟩)), (6, .pointer (some ⟨g6_4, 0, none⟩))] (by kernel_rfl) (by kernel_rfl) ⟨rfl, rfl, rfl, trivial⟩ ?_ ?_
  · skip
    refine o_cons (o_q hflW (fun _ _ => rfl) (fun _ _ => rfl)) ?_
    refine o_cons (o_load 5 (reads_one tyBool (bigs_get0 _ _)) (fun _ _ => rfl) rfl (fun _ _ => rfl) rfl) ?_
    refine o_cons (o_q hflW (fun _ _ => rfl) (fun _ _ => rfl)) ?_
    refine o_cons (o_load 2 (reads_all (tyDigC _)) (fun _ _ => rfl) rfl (fun _ _ => rfl) rfl) ?_
    refine o_cons (o_call (ent_of Tryd.func64 (by kernel_rfl) rfl) (fun w hU => rzero_any _ (q) (by omega)) (fun _ _ => rfl) rfl (fun _ _ => rfl) (fun _ _ => rfl)) ?_
    refine o_cons (o_val (fun _ _ => rfl) (fun w hH σ g b W hU hb => by exact exec_not rfl rfl rfl hb)) ?_
    refine o_cons (o_q hflW (fun _ _ => rfl) (fun _ _ => rfl)) ?_
    refine o_cons (o_load 2 (reads_all (tyDigC _)) (fun _ _ => rfl) rfl (fun _ _ => rfl) rfl) ?_
    refine o_cons (o_build (cs := bigs (!(decide (q = 0))) q) (built_big _ _) (fun _ _ => rfl) rfl (fun _ _ => rfl)) ?_
    exact o_nil
  intro σ8 gs8
  refine WL2.keep (env' := [(4, .pointer (some ⟨g4_2, 0, none⟩)), (56, .agg (bigs (!(decide (q = 0))) q))]) ⟨rfl, rfl, trivial⟩ ?_
  refine h_store 4 (v := .agg (bigs (!(decide (q = 0))) q)) (bigs (!(decide (q = 0))) q) tyBig.2 (bigs_size _ _) (ble_size zBig_size) (bigs_oneL _ _) (over_all (c := zBig) (v := bigs (!(decide (q = 0))) q) ((zBig_size : (zBig).size = 17).trans ((bigs_size _ _) : (bigs (!(decide (q = 0))) q).size = 17).symm)) rfl rfl rfl rfl rfl rfl ?_
  refine h_nil (f_to (d_ret ?_))
  exact f_fin1 (.cell 4 (v := .agg (bigs (!(decide (q = 0))) q)) (reads_all (tyBigsC _ _)) rfl rfl) (fun w h => ⟨rfl, h.up.below⟩) rfl

theorem round_N2_f (w : World) (n q r d : Nat) (k : Int) (hn : n < BP 14) (hk : 0 < k ∧ k ≤ 77) (hd : d = 10 ^ k.toNat) (hq : q = n / d) (hr : r = n % d) (hc : cmpN (r + r) d = -1) : Calls Tryd.prog 48 #[BigV false n, .int .i64 k] w fun e w' => e = .returned (BigV false q) ∧ Below w.heap.size w w' := by
  have hd0 : 0 < d := by rw [hd]; exact Nat.pow_pos (by decide)
  have hd8 : d < BP 8 := by rw [hd]; exact ten_small (by omega)
  have h14 : BP 15 = BP 14 * 4294967296 := BP_succ 14
  have h15 : BP 16 = BP 15 * 4294967296 := BP_succ 15
  have h8 : BP 8 ≤ BP 14 := BP_le (by decide)
  have hqn : q ≤ n := by rw [hq]; exact Nat.div_le_self _ _
  have hrd : r < d := by rw [hr]; exact Nat.mod_lt _ hd0
  refine d_in (args := [.agg (bigs false n), .int .i64 k]) 57 Tryd.func48 rfl rfl rfl ?_
  refine d_reg ?_
  refine h_box (cs := bigs false n) rfl rfl rfl rfl ?_; intro g2_1
  refine h_alloc zeBig rfl rfl ?_; intro g4_2
  refine h_done (d_seq (d_reg ?_))
  refine h_q hflW rfl ?_
  refine h_cmp (cmp_leq_f (by omega)) rfl rfl rfl rfl ?_
  refine h_done (d_else rfl (d_skip (f_to (d_reg ?_))))
  refine h_q hflW rfl ?_
  refine h_call (ent_of Tryd.func70 (by kernel_rfl) rfl) (fun w hH => (hd ▸ rten_any _ k (by omega) : Calls _ _ _ _ fun e w' => e = .returned (.agg (digs d)) ∧ _)) rfl rfl rfl rfl ?_
  refine h_alloc zeDig rfl rfl ?_; intro g5_3
  refine h_store 0 (v := .agg (digs d)) (digs d) tyDigits.2 (digs_size _) (ble_size (digs_size _)) (digs_oneL _) (over_all (c := digs 0) (v := digs d) (((digs_size _) : (digs 0).size = 16).trans ((digs_size _) : (digs d).size = 16).symm)) rfl rfl rfl rfl rfl rfl ?_
  refine h_done (d_reg ?_)
  refine h_q hflW rfl ?_
  refine h_load 2 (v := .agg (digs n)) (reads_D _ _) rfl rfl rfl rfl ?_
  refine h_load 0 (v := .agg (digs d)) (reads_all (tyDigC _)) rfl rfl rfl rfl ?_
  refine h_call (ent_of Tryd.func71 (by kernel_rfl) rfl) (fun w hH => (hq ▸ hr ▸ rdiv_any _ n d (by omega) (by omega) hd0 : Calls _ _ _ _ fun e w' => e = .returned (.tuple #[.agg (digs q), .agg (digs r)]) ∧ _)) rfl rfl rfl rfl ?_
  refine h_q hflW rfl ?_
  refine h_alloc zeDig rfl rfl ?_; intro g6_4
  refine h_alloc zeDig rfl rfl ?_; intro g7_5
  refine h_store 1 (v := .agg (digs q)) (digs q) tyDigits.2 (digs_size _) (ble_size (digs_size _)) (digs_oneL _) (over_all (c := digs 0) (v := digs q) (((digs_size _) : (digs 0).size = 16).trans ((digs_size _) : (digs q).size = 16).symm)) rfl rfl rfl rfl rfl rfl ?_
  refine h_store 0 (v := .agg (digs r)) (digs r) tyDigits.2 (digs_size _) (ble_size (digs_size _)) (digs_oneL _) (over_all (c := digs 0) (v := digs r) (((digs_size _) : (digs 0).size = 16).trans ((digs_size _) : (digs r).size = 16).symm)) rfl rfl rfl rfl rfl rfl ?_
  refine h_done (d_reg ?_)
  refine h_alloc zeDig rfl rfl ?_; intro g8_6
  refine h_done (d_reg ?_)
  refine h_val rfl (.pointer (some ⟨g8_6, 0, none⟩)) (fun b w hb hH => by exact exec_idx (off := 0) (ixDigits 0 (by decide)) rfl rfl rfl hb) ?_
  refine h_store 0 (v := .int .u64 1) (digs 1) tyUint64.2 rfl (ble_size1 (digs_size _) (by decide)) rfl over_01 rfl rfl rfl rfl rfl rfl ?_
  refine h_done (d_seq ?_)
  refine d_par 5 2 [⟨.quiet, 0, fun _ => .agg (digs r), []⟩, ⟨.quiet, 0, fun _ => .agg (digs r), []⟩, ⟨.call, 1, fun _ => .agg (digs (r + r)), [0, 1]⟩, ⟨.quiet, 0, fun _ => .agg (digs d), []⟩, ⟨.call, 2, fun _ => .int .i64 (-1), [2, 3]⟩] [(2, .pointer (some ⟨g2_1, 0, none⟩)), (4, .pointer (some ⟨g4_2, 0, none⟩)), (5, .pointer (some ⟨g5_3, 0, none⟩)), (6, .pointer (some ⟨g6_4, 0, none⟩)), (7, .pointer (some ⟨g7_5, 0, none⟩)), (8, .pointer (some ⟨g8_6, 0, none⟩))] (by kernel_rfl) (by kernel_rfl) ⟨rfl, rfl, rfl, rfl, rfl, rfl, trivial⟩ ?_ ?_
  · skip
    refine o_cons (o_load 1 (reads_all (tyDigC _)) (fun _ _ => rfl) rfl (fun _ _ => rfl) rfl) ?_
    refine o_cons (o_load 1 (reads_all (tyDigC _)) (fun _ _ => rfl) rfl (fun _ _ => rfl) rfl) ?_
    refine o_cons (o_call (ent_of Tryd.func61 (by kernel_rfl) rfl) (fun w hU => radd_any _ r r (by omega)) (fun _ _ => rfl) rfl (fun _ _ => rfl) (fun _ _ => rfl)) ?_
    refine o_cons (o_load 3 (reads_all (tyDigC _)) (fun _ _ => rfl) rfl (fun _ _ => rfl) rfl) ?_
    refine o_cons (o_call (ent_of Tryd.func62 (by kernel_rfl) rfl) (fun w hU => cmpE _ (r + r) d (-1) (by omega) (by omega) hc) (fun _ _ => rfl) rfl (fun _ _ => rfl) (fun _ _ => rfl)) ?_
    exact o_nil
  intro σ7 gs7
  refine WL2.keep (env' := [(2, .pointer (some ⟨g2_1, 0, none⟩)), (4, .pointer (some ⟨g4_2, 0, none⟩)), (6, .pointer (some ⟨g6_4, 0, none⟩)), (8, .pointer (some ⟨g8_6, 0, none⟩)), (32, .int .i64 (-1))]) ⟨rfl, rfl, rfl, rfl, rfl, trivial⟩ ?_
  refine h_q hflW rfl ?_
  refine h_nil (f_to (d_seq (d_reg ?_)))
  refine h_q hflW rfl ?_
  refine h_cmp (cmp_gtr_f (by decide)) rfl rfl rfl rfl ?_
  refine h_q hflW rfl ?_
  refine h_cmp (cmp_eql_f (by decide)) rfl rfl rfl rfl ?_
  refine h_q hflW rfl ?_
  refine h_done (d_else rfl (d_skip (f_to (d_seq ?_))))
  refine d_par 9 0 [⟨.quiet, 0, fun _ => .pointer (some ⟨g2_1, 0, none⟩), []⟩, ⟨.quiet, 0, fun _ => .bool false, [0]⟩, ⟨.quiet, 0, fun _ => .bool false, [1]⟩, ⟨.skip, 0, fun _ => undef, [2]⟩, ⟨.skip, 0, fun _ => undef, [3, 2]⟩, ⟨.skip, 0, fun _ => undef, [4, 2]⟩, ⟨.quiet, 0, fun _ => .bool false, [2, 5]⟩, ⟨.quiet, 0, fun _ => .agg (digs q), []⟩, ⟨.quiet, 0, fun _ => .agg (bigs false q), [6, 7]⟩] [(2, .pointer (some ⟨g2_1, 0, none⟩)), (4, .pointer (some ⟨g4_2, 0, none⟩)), (6, .pointer (some ⟨g6_4, 0, none⟩))] (by kernel_rfl) (by kernel_rfl) ⟨rfl, rfl, rfl, trivial⟩ ?_ ?_
  · skip
    refine o_cons (o_q hflW (fun _ _ => rfl) (fun _ _ => rfl)) ?_
    refine o_cons (o_load 5 (reads_one tyBool (bigs_get0 _ _)) (fun _ _ => rfl) rfl (fun _ _ => rfl) rfl) ?_
    refine o_cons (o_q hflW (fun _ _ => rfl) (fun _ _ => rfl)) ?_
    refine o_cons (o_skip (fun _ _ => rfl)) ?_
    refine o_cons (o_skip (fun _ _ => rfl)) ?_
    refine o_cons (o_skip (fun _ _ => rfl)) ?_
    refine o_cons (o_q hflW (fun _ _ => rfl) (fun _ _ => rfl)) ?_
    refine o_cons (o_load 2 (reads_all (tyDigC _)) (fun _ _ => rfl) rfl (fun _ _ => rfl) rfl) ?_
    refine o_cons (o_build (cs := bigs false q) (built_big _ _) (fun _ _ => rfl) rfl (fun _ _ => rfl)) ?_
    exact o_nil
  intro σ8 gs8
  refine WL2.keep (env' := [(4, .pointer (some ⟨g4_2, 0, none⟩)), (56, .agg (bigs false q))]) ⟨rfl, rfl, trivial⟩ ?_
  refine h_store 4 (v := .agg (bigs false q)) (bigs false q) tyBig.2 (bigs_size _ _) (ble_size zBig_size) (bigs_oneL _ _) (over_all (c := zBig) (v := bigs false q) ((zBig_size : (zBig).size = 17).trans ((bigs_size _ _) : (bigs false q).size = 17).symm)) rfl rfl rfl rfl rfl rfl ?_
  refine h_nil (f_to (d_ret ?_))
  exact f_fin1 (.cell 4 (v := .agg (bigs false q)) (reads_all (tyBigsC _ _)) rfl rfl) (fun w h => ⟨rfl, h.up.below⟩) rfl

theorem round_N2_t (w : World) (n q r d : Nat) (k : Int) (hn : n < BP 14) (hk : 0 < k ∧ k ≤ 77) (hd : d = 10 ^ k.toNat) (hq : q = n / d) (hr : r = n % d) (hc : cmpN (r + r) d = -1) : Calls Tryd.prog 48 #[BigV true n, .int .i64 k] w fun e w' => e = .returned (BigV (!decide (q = 0)) q) ∧ Below w.heap.size w w' := by
  have hd0 : 0 < d := by rw [hd]; exact Nat.pow_pos (by decide)
  have hd8 : d < BP 8 := by rw [hd]; exact ten_small (by omega)
  have h14 : BP 15 = BP 14 * 4294967296 := BP_succ 14
  have h15 : BP 16 = BP 15 * 4294967296 := BP_succ 15
  have h8 : BP 8 ≤ BP 14 := BP_le (by decide)
  have hqn : q ≤ n := by rw [hq]; exact Nat.div_le_self _ _
  have hrd : r < d := by rw [hr]; exact Nat.mod_lt _ hd0
  refine d_in (args := [.agg (bigs true n), .int .i64 k]) 57 Tryd.func48 rfl rfl rfl ?_
  refine d_reg ?_
  refine h_box (cs := bigs true n) rfl rfl rfl rfl ?_; intro g2_1
  refine h_alloc zeBig rfl rfl ?_; intro g4_2
  refine h_done (d_seq (d_reg ?_))
  refine h_q hflW rfl ?_
  refine h_cmp (cmp_leq_f (by omega)) rfl rfl rfl rfl ?_
  refine h_done (d_else rfl (d_skip (f_to (d_reg ?_))))
  refine h_q hflW rfl ?_
  refine h_call (ent_of Tryd.func70 (by kernel_rfl) rfl) (fun w hH => (hd ▸ rten_any _ k (by omega) : Calls _ _ _ _ fun e w' => e = .returned (.agg (digs d)) ∧ _)) rfl rfl rfl rfl ?_
  refine h_alloc zeDig rfl rfl ?_; intro g5_3
  refine h_store 0 (v := .agg (digs d)) (digs d) tyDigits.2 (digs_size _) (ble_size (digs_size _)) (digs_oneL _) (over_all (c := digs 0) (v := digs d) (((digs_size _) : (digs 0).size = 16).trans ((digs_size _) : (digs d).size = 16).symm)) rfl rfl rfl rfl rfl rfl ?_
  refine h_done (d_reg ?_)
  refine h_q hflW rfl ?_
  refine h_load 2 (v := .agg (digs n)) (reads_D _ _) rfl rfl rfl rfl ?_
  refine h_load 0 (v := .agg (digs d)) (reads_all (tyDigC _)) rfl rfl rfl rfl ?_
  refine h_call (ent_of Tryd.func71 (by kernel_rfl) rfl) (fun w hH => (hq ▸ hr ▸ rdiv_any _ n d (by omega) (by omega) hd0 : Calls _ _ _ _ fun e w' => e = .returned (.tuple #[.agg (digs q), .agg (digs r)]) ∧ _)) rfl rfl rfl rfl ?_
  refine h_q hflW rfl ?_
  refine h_alloc zeDig rfl rfl ?_; intro g6_4
  refine h_alloc zeDig rfl rfl ?_; intro g7_5
  refine h_store 1 (v := .agg (digs q)) (digs q) tyDigits.2 (digs_size _) (ble_size (digs_size _)) (digs_oneL _) (over_all (c := digs 0) (v := digs q) (((digs_size _) : (digs 0).size = 16).trans ((digs_size _) : (digs q).size = 16).symm)) rfl rfl rfl rfl rfl rfl ?_
  refine h_store 0 (v := .agg (digs r)) (digs r) tyDigits.2 (digs_size _) (ble_size (digs_size _)) (digs_oneL _) (over_all (c := digs 0) (v := digs r) (((digs_size _) : (digs 0).size = 16).trans ((digs_size _) : (digs r).size = 16).symm)) rfl rfl rfl rfl rfl rfl ?_
  refine h_done (d_reg ?_)
  refine h_alloc zeDig rfl rfl ?_; intro g8_6
  refine h_done (d_reg ?_)
  refine h_val rfl (.pointer (some ⟨g8_6, 0, none⟩)) (fun b w hb hH => by exact exec_idx (off := 0) (ixDigits 0 (by decide)) rfl rfl rfl hb) ?_
  refine h_store 0 (v := .int .u64 1) (digs 1) tyUint64.2 rfl (ble_size1 (digs_size _) (by decide)) rfl over_01 rfl rfl rfl rfl rfl rfl ?_
  refine h_done (d_seq ?_)
  refine d_par 5 2 [⟨.quiet, 0, fun _ => .agg (digs r), []⟩, ⟨.quiet, 0, fun _ => .agg (digs r), []⟩, ⟨.call, 1, fun _ => .agg (digs (r + r)), [0, 1]⟩, ⟨.quiet, 0, fun _ => .agg (digs d), []⟩, ⟨.call, 2, fun _ => .int .i64 (-1), [2, 3]⟩] [(2, .pointer (some ⟨g2_1, 0, none⟩)), (4, .pointer (some ⟨g4_2, 0, none⟩)), (5, .pointer (some ⟨g5_3, 0, none⟩)), (6, .pointer (some ⟨g6_4, 0, none⟩)), (7, .pointer (some ⟨g7_5, 0, none⟩)), (8, .pointer (some ⟨g8_6, 0, none⟩))] (by kernel_rfl) (by kernel_rfl) ⟨rfl, rfl, rfl, rfl, rfl, rfl, trivial⟩ ?_ ?_
  · skip
    refine o_cons (o_load 1 (reads_all (tyDigC _)) (fun _ _ => rfl) rfl (fun _ _ => rfl) rfl) ?_
    refine o_cons (o_load 1 (reads_all (tyDigC _)) (fun _ _ => rfl) rfl (fun _ _ => rfl) rfl) ?_
    refine o_cons (o_call (ent_of Tryd.func61 (by kernel_rfl) rfl) (fun w hU => radd_any _ r r (by omega)) (fun _ _ => rfl) rfl (fun _ _ => rfl) (fun _ _ => rfl)) ?_
    refine o_cons (o_load 3 (reads_all (tyDigC _)) (fun _ _ => rfl) rfl (fun _ _ => rfl) rfl) ?_
    refine o_cons (o_call (ent_of Tryd.func62 (by kernel_rfl) rfl) (fun w hU => cmpE _ (r + r) d (-1) (by omega) (by omega) hc) (fun _ _ => rfl) rfl (fun _ _ => rfl) (fun _ _ => rfl)) ?_
    exact o_nil
  intro σ7 gs7
  refine WL2.keep (env' := [(2, .pointer (some ⟨g2_1, 0, none⟩)), (4, .pointer (some ⟨g4_2, 0, none⟩)), (6, .pointer (some ⟨g6_4, 0, none⟩)), (8, .pointer (some ⟨g8_6, 0, none⟩)), (32, .int .i64 (-1))]) ⟨rfl, rfl, rfl, rfl, rfl, trivial⟩ ?_
  refine h_q hflW rfl ?_
  refine h_nil (f_to (d_seq (d_reg ?_)))
  refine h_q hflW rfl ?_
  refine h_cmp (cmp_gtr_f (by decide)) rfl rfl rfl rfl ?_
  refine h_q hflW rfl ?_
  refine h_cmp (cmp_eql_f (by decide)) rfl rfl rfl rfl ?_
  refine h_q hflW rfl ?_
  refine h_done (d_else rfl (d_skip (f_to (d_seq ?_))))
  refine d_par 9 1 [⟨.quiet, 0, fun _ => .pointer (some ⟨g2_1, 0, none⟩), []⟩, ⟨.quiet, 0, fun _ => .bool true, [0]⟩, ⟨.quiet, 0, fun _ => .bool true, [1]⟩, ⟨.quiet, 0, fun _ => .agg (digs q), [2]⟩, ⟨.call, 1, fun _ => .bool (decide (q = 0)), [3, 2]⟩, ⟨.quiet, 1, fun _ => .bool (!(decide (q = 0))), [4, 2]⟩, ⟨.quiet, 1, fun _ => .bool (!(decide (q = 0))), [2, 5]⟩, ⟨.quiet, 0, fun _ => .agg (digs q), []⟩, ⟨.quiet, 1, fun _ => .agg (bigs (!(decide (q = 0))) q), [6, 7]⟩] [(2, .pointer (some ⟨g2_1, 0, none⟩)), (4, .pointer (some ⟨g4_2, 0, none⟩)), (6, .pointer (some ⟨g6_4, 0, none⟩))] (by kernel_rfl) (by kernel_rfl) ⟨rfl, rfl, rfl, trivial⟩ ?_ ?_
  · skip
    refine o_cons (o_q hflW (fun _ _ => rfl) (fun _ _ => rfl)) ?_
    refine o_cons (o_load 5 (reads_one tyBool (bigs_get0 _ _)) (fun _ _ => rfl) rfl (fun _ _ => rfl) rfl) ?_
    refine o_cons (o_q hflW (fun _ _ => rfl) (fun _ _ => rfl)) ?_
    refine o_cons (o_load 2 (reads_all (tyDigC _)) (fun _ _ => rfl) rfl (fun _ _ => rfl) rfl) ?_
    refine o_cons (o_call (ent_of Tryd.func64 (by kernel_rfl) rfl) (fun w hU => rzero_any _ (q) (by omega)) (fun _ _ => rfl) rfl (fun _ _ => rfl) (fun _ _ => rfl)) ?_
    refine o_cons (o_val (fun _ _ => rfl) (fun w hH σ g b W hU hb => by exact exec_not rfl rfl rfl hb)) ?_
    refine o_cons (o_q hflW (fun _ _ => rfl) (fun _ _ => rfl)) ?_
    refine o_cons (o_load 2 (reads_all (tyDigC _)) (fun _ _ => rfl) rfl (fun _ _ => rfl) rfl) ?_
    refine o_cons (o_build (cs := bigs (!(decide (q = 0))) q) (built_big _ _) (fun _ _ => rfl) rfl (fun _ _ => rfl)) ?_
    exact o_nil
  intro σ8 gs8
  refine WL2.keep (env' := [(4, .pointer (some ⟨g4_2, 0, none⟩)), (56, .agg (bigs (!(decide (q = 0))) q))]) ⟨rfl, rfl, trivial⟩ ?_
  refine h_store 4 (v := .agg (bigs (!(decide (q = 0))) q)) (bigs (!(decide (q = 0))) q) tyBig.2 (bigs_size _ _) (ble_size zBig_size) (bigs_oneL _ _) (over_all (c := zBig) (v := bigs (!(decide (q = 0))) q) ((zBig_size : (zBig).size = 17).trans ((bigs_size _ _) : (bigs (!(decide (q = 0))) q).size = 17).symm)) rfl rfl rfl rfl rfl rfl ?_
  refine h_nil (f_to (d_ret ?_))
  exact f_fin1 (.cell 4 (v := .agg (bigs (!(decide (q = 0))) q)) (reads_all (tyBigsC _ _)) rfl rfl) (fun w h => ⟨rfl, h.up.below⟩) rfl

theorem round_down (w : World) (z k : Int) (hz : z.natAbs < BP 14) (hk : 0 < k ∧ k ≤ 77) :
    Calls Tryd.prog 48 #[BigZ z, .int .i64 k] w fun e w' => e = .returned (BigZ (rounded z (10 ^ k.toNat))) ∧ Below w.heap.size w w' := by
  obtain ⟨d, hd⟩ : ∃ d, d = 10 ^ k.toNat := ⟨_, rfl⟩
  have hd0 : 0 < d := by rw [hd]; exact Nat.pow_pos (by decide)
  rw [← hd]
  obtain ⟨n, hn⟩ : ∃ n, n = z.natAbs := ⟨_, rfl⟩
  have hm := Nat.mod_lt n hd0
  have e0 : dg (n / d) 0 % 2 = n / d % 2 := by unfold dg; rw [BP_zero, Nat.div_one]; omega
  have h2 : n / d % 2 < 2 := Nat.mod_lt _ (by decide)
  unfold rounded BigZ
  rw [← hn] at hz ⊢
  by_cases hs : z < 0
  · rw [if_pos hs, decide_eq_true hs]
    have fin : ∀ u, (Calls Tryd.prog 48 #[BigV true n, .int .i64 k] w fun e w' => e = .returned (BigV (!decide (u = 0)) u) ∧ Below w.heap.size w w') → halfEven n d = u → Calls Tryd.prog 48 #[BigV true n, .int .i64 k] w fun e w' => e = .returned (BigV (decide (-(halfEven n d : Int) < 0)) (-(halfEven n d : Int)).natAbs) ∧ Below w.heap.size w w' := by
      intro u h e
      rw [e]
      have := neg_bigr u
      unfold BigZ at this
      rw [← this]
      exact h
    rcases Nat.lt_trichotomy d (n % d + n % d) with h | h | h
    · exact fin _ (round_U1_t w n _ _ d k hz hk hd rfl rfl (by unfold cmpN; rw [if_neg (by omega), if_pos h])) (by unfold halfEven; rw [if_pos (.inl (by omega))])
    · by_cases hp : n / d % 2 = 1
      · exact fin _ (round_U2_t w n _ _ d k hz hk hd rfl rfl (by unfold cmpN; rw [if_neg (by omega), if_neg (by omega)]) (by omega)) (by unfold halfEven; rw [if_pos (.inr ⟨by omega, hp⟩)])
      · exact fin _ (round_N1_t w n _ _ d k hz hk hd rfl rfl (by unfold cmpN; rw [if_neg (by omega), if_neg (by omega)]) (by omega)) (by unfold halfEven; rw [if_neg (by omega)])
    · exact fin _ (round_N2_t w n _ _ d k hz hk hd rfl rfl (by unfold cmpN; rw [if_pos (by omega)])) (by unfold halfEven; rw [if_neg (by omega)])
  · rw [if_neg hs, decide_eq_false hs]
    have fin : ∀ u, (Calls Tryd.prog 48 #[BigV false n, .int .i64 k] w fun e w' => e = .returned (BigV false u) ∧ Below w.heap.size w w') → halfEven n d = u → Calls Tryd.prog 48 #[BigV false n, .int .i64 k] w fun e w' => e = .returned (BigV (decide ((halfEven n d : Int) < 0)) ((halfEven n d : Int)).natAbs) ∧ Below w.heap.size w w' := by
      intro u h e
      rw [e]
      have := pos_bigr u
      unfold BigZ at this
      rw [← this]
      exact h
    rcases Nat.lt_trichotomy d (n % d + n % d) with h | h | h
    · exact fin _ (round_U1_f w n _ _ d k hz hk hd rfl rfl (by unfold cmpN; rw [if_neg (by omega), if_pos h])) (by unfold halfEven; rw [if_pos (.inl (by omega))])
    · by_cases hp : n / d % 2 = 1
      · exact fin _ (round_U2_f w n _ _ d k hz hk hd rfl rfl (by unfold cmpN; rw [if_neg (by omega), if_neg (by omega)]) (by omega)) (by unfold halfEven; rw [if_pos (.inr ⟨by omega, hp⟩)])
      · exact fin _ (round_N1_f w n _ _ d k hz hk hd rfl rfl (by unfold cmpN; rw [if_neg (by omega), if_neg (by omega)]) (by omega)) (by unfold halfEven; rw [if_neg (by omega)])
    · exact fin _ (round_N2_f w n _ _ d k hz hk hd rfl rfl (by unfold cmpN; rw [if_pos (by omega)])) (by unfold halfEven; rw [if_neg (by omega)])
end Go.Proofs.YtmamedobphlpkaaDoor
