/-
  RefH · RefI · RefJ · RefK · RefL · RefM · RefP
-/
import Derived.Test.YtmamedobphlpkaaDoorF03
import Derived.Test.YtmamedobphlpkaaDoorS02
set_option linter.unusedSimpArgs false
set_option linter.unusedVariables false

namespace Go.Proofs.YtmamedobphlpkaaDoor
open Go.RowKit

theorem zeroB (w : World) (n : Nat) (b : Bool) (hn : n < BP 16) (h : decide (n = 0) = b) : Calls Tryd.prog 64 #[.agg (digs n)] w fun e w' => e = .returned (.bool b) ∧ Below w.heap.size w w' := by
  rw [← h]; exact rzero_any w n hn
theorem cmpE (w : World) (m n : Nat) (c : Int) (hm : m < BP 16) (hn : n < BP 16) (h : cmpN m n = c) : Calls Tryd.prog 62 #[.agg (digs m), .agg (digs n)] w fun e w' => e = .returned (.int .i64 c) ∧ Below w.heap.size w w' := by
  rw [← h]; exact rcmp_any w m n hm hn

theorem minus_neg (w : World) (n : Nat) (hn : n < BP 16) : Calls Tryd.prog 39 #[BigV true n] w fun e w' => e = .returned (BigV false n) ∧ Below w.heap.size w w' := by
  refine d_in (args := [.agg (bigs true n)]) 15 Tryd.func39 rfl rfl rfl ?_
  refine d_reg ?_
  refine h_box (cs := bigs true n) rfl rfl rfl rfl ?_; intro g1_1
  refine h_alloc zeBig rfl rfl ?_; intro g2_2
  refine h_done (d_seq ?_)
  refine d_par 12 0 [⟨.quiet, 0, fun _ => .pointer (some ⟨g1_1, 0, none⟩), []⟩, ⟨.quiet, 0, fun _ => .bool true, [0]⟩, ⟨.quiet, 0, fun _ => .bool false, [1]⟩, ⟨.quiet, 0, fun _ => .bool false, [2]⟩, ⟨.skip, 0, fun _ => undef, [3]⟩, ⟨.skip, 0, fun _ => undef, [4, 3]⟩, ⟨.skip, 0, fun _ => undef, [5, 3]⟩, ⟨.skip, 0, fun _ => undef, [6, 3]⟩, ⟨.quiet, 0, fun _ => .bool false, [3, 7]⟩, ⟨.quiet, 0, fun _ => .pointer (some ⟨g1_1, 1, none⟩), []⟩, ⟨.quiet, 0, fun _ => .agg (digs n), [9]⟩, ⟨.quiet, 0, fun _ => .agg (bigs false n), [8, 10]⟩] [(1, .pointer (some ⟨g1_1, 0, none⟩)), (2, .pointer (some ⟨g2_2, 0, none⟩))] (by kernel_rfl) (by kernel_rfl) ⟨rfl, rfl, trivial⟩ ?_ ?_
  · skip
    refine o_cons (o_q hflW (fun _ _ => rfl) (fun _ _ => rfl)) ?_
    refine o_cons (o_load 1 (reads_one tyBool (bigs_get0 _ _)) (fun _ _ => rfl) rfl (fun _ _ => rfl) rfl) ?_
    refine o_cons (o_q hflW (fun _ _ => rfl) (fun _ _ => rfl)) ?_
    refine o_cons (o_q hflW (fun _ _ => rfl) (fun _ _ => rfl)) ?_
    refine o_cons (o_skip (fun _ _ => rfl)) ?_
    refine o_cons (o_skip (fun _ _ => rfl)) ?_
    refine o_cons (o_skip (fun _ _ => rfl)) ?_
    refine o_cons (o_skip (fun _ _ => rfl)) ?_
    refine o_cons (o_q hflW (fun _ _ => rfl) (fun _ _ => rfl)) ?_
    refine o_cons (o_q hflW (fun _ _ => rfl) (fun _ _ => rfl)) ?_
    refine o_cons (o_load 1 (reads_D _ _) (fun _ _ => rfl) rfl (fun _ _ => rfl) rfl) ?_
    refine o_cons (o_build (cs := bigs false n) (built_big _ _) (fun _ _ => rfl) rfl (fun _ _ => rfl)) ?_
    exact o_nil
  intro σ3 gs3
  refine WL2.keep (env' := [(2, .pointer (some ⟨g2_2, 0, none⟩)), (14, .agg (bigs false n))]) ⟨rfl, rfl, trivial⟩ ?_
  refine h_store 0 (v := .agg (bigs false n)) (bigs false n) tyBig.2 (bigs_size _ _) (ble_size zBig_size) (bigs_oneL _ _) (over_all (c := zBig) (v := bigs false n) ((zBig_size : (zBig).size = 17).trans ((bigs_size _ _) : (bigs false n).size = 17).symm)) rfl rfl rfl rfl rfl rfl ?_
  refine h_nil (f_to (d_ret ?_))
  exact f_fin1 (.cell 0 (v := .agg (bigs false n)) (reads_all (tyBigsC _ _)) rfl rfl) (fun w h => ⟨rfl, h.up.below⟩) rfl

theorem minus_pos (w : World) (n : Nat) (hn : n < BP 16) : Calls Tryd.prog 39 #[BigV false n] w fun e w' => e = .returned (BigV (!decide (n = 0)) n) ∧ Below w.heap.size w w' := by
  refine d_in (args := [.agg (bigs false n)]) 15 Tryd.func39 rfl rfl rfl ?_
  refine d_reg ?_
  refine h_box (cs := bigs false n) rfl rfl rfl rfl ?_; intro g1_1
  refine h_alloc zeBig rfl rfl ?_; intro g2_2
  refine h_done (d_seq ?_)
  refine d_par 12 1 [⟨.quiet, 0, fun _ => .pointer (some ⟨g1_1, 0, none⟩), []⟩, ⟨.quiet, 0, fun _ => .bool false, [0]⟩, ⟨.quiet, 0, fun _ => .bool true, [1]⟩, ⟨.quiet, 0, fun _ => .bool true, [2]⟩, ⟨.quiet, 0, fun _ => .pointer (some ⟨g1_1, 1, none⟩), [3]⟩, ⟨.quiet, 0, fun _ => .agg (digs n), [4, 3]⟩, ⟨.call, 1, fun _ => .bool (decide (n = 0)), [5, 3]⟩, ⟨.quiet, 1, fun _ => .bool (!(decide (n = 0))), [6, 3]⟩, ⟨.quiet, 1, fun _ => .bool (!(decide (n = 0))), [3, 7]⟩, ⟨.quiet, 0, fun _ => .pointer (some ⟨g1_1, 1, none⟩), []⟩, ⟨.quiet, 0, fun _ => .agg (digs n), [9]⟩, ⟨.quiet, 1, fun _ => .agg (bigs (!(decide (n = 0))) n), [8, 10]⟩] [(1, .pointer (some ⟨g1_1, 0, none⟩)), (2, .pointer (some ⟨g2_2, 0, none⟩))] (by kernel_rfl) (by kernel_rfl) ⟨rfl, rfl, trivial⟩ ?_ ?_
  · skip
    refine o_cons (o_q hflW (fun _ _ => rfl) (fun _ _ => rfl)) ?_
    refine o_cons (o_load 1 (reads_one tyBool (bigs_get0 _ _)) (fun _ _ => rfl) rfl (fun _ _ => rfl) rfl) ?_
    refine o_cons (o_q hflW (fun _ _ => rfl) (fun _ _ => rfl)) ?_
    refine o_cons (o_q hflW (fun _ _ => rfl) (fun _ _ => rfl)) ?_
    refine o_cons (o_q hflW (fun _ _ => rfl) (fun _ _ => rfl)) ?_
    refine o_cons (o_load 1 (reads_D _ _) (fun _ _ => rfl) rfl (fun _ _ => rfl) rfl) ?_
    refine o_cons (o_call (ent_of Tryd.func64 (by kernel_rfl) rfl) (fun w hU => rzero_any _ n hn) (fun _ _ => rfl) rfl (fun _ _ => rfl) (fun _ _ => rfl)) ?_
    refine o_cons (o_val (fun _ _ => rfl) (fun w hH σ g b W hU hb => by exact exec_not rfl rfl rfl hb)) ?_
    refine o_cons (o_q hflW (fun _ _ => rfl) (fun _ _ => rfl)) ?_
    refine o_cons (o_q hflW (fun _ _ => rfl) (fun _ _ => rfl)) ?_
    refine o_cons (o_load 1 (reads_D _ _) (fun _ _ => rfl) rfl (fun _ _ => rfl) rfl) ?_
    refine o_cons (o_build (cs := bigs (!(decide (n = 0))) n) (built_big _ _) (fun _ _ => rfl) rfl (fun _ _ => rfl)) ?_
    exact o_nil
  intro σ3 gs3
  refine WL2.keep (env' := [(2, .pointer (some ⟨g2_2, 0, none⟩)), (14, .agg (bigs (!(decide (n = 0))) n))]) ⟨rfl, rfl, trivial⟩ ?_
  refine h_store 0 (v := .agg (bigs (!(decide (n = 0))) n)) (bigs (!(decide (n = 0))) n) tyBig.2 (bigs_size _ _) (ble_size zBig_size) (bigs_oneL _ _) (over_all (c := zBig) (v := bigs (!(decide (n = 0))) n) ((zBig_size : (zBig).size = 17).trans ((bigs_size _ _) : (bigs (!(decide (n = 0))) n).size = 17).symm)) rfl rfl rfl rfl rfl rfl ?_
  refine h_nil (f_to (d_ret ?_))
  exact f_fin1 (.cell 0 (v := .agg (bigs (!(decide (n = 0))) n)) (reads_all (tyBigsC _ _)) rfl rfl) (fun w h => ⟨rfl, h.up.below⟩) rfl

theorem minus_any (w : World) (x : Int) (hx : x.natAbs < BP 16) : Calls Tryd.prog 39 #[BigZ x] w fun e w' => e = .returned (BigZ (-x)) ∧ Below w.heap.size w w' := by
  rw [← minus_z]
  unfold BigZ
  by_cases h : x < 0
  · rw [decide_eq_true h]
    exact minus_neg w _ hx
  · rw [decide_eq_false h]
    exact minus_pos w _ hx
end Go.Proofs.YtmamedobphlpkaaDoor

namespace Go.Proofs.YtmamedobphlpkaaDoor
open Go.RowKit

section
variable {o : Oper} {a : Act} {W : World} {C E : Array Value} {b : Bool} {n : Nat}
theorem exec_build_C (hC : Hid (C = bigs b n)) (hE : Hid (E = digs n)) (x y : Operand) (ho : o.op = .build 55 #[(0, x), (1, y)]) (hx : a.eval x = .bool b) (hy : a.eval y = .agg E) :
    (execOp a.eval o).run Tryd.prog W = .ok (.value (.agg C)) W := by
  rw [hC.out]
  rw [hE.out] at hy
  exact exec_build_big x y ho b n hx hy W
theorem sizeC (hC : Hid (C = bigs b n)) : C.size = 17 := by rw [hC.out]; exact bigs_size _ _
theorem sizeE (hE : Hid (E = digs n)) : E.size = 16 := by rw [hE.out]; exact digs_size _
theorem size_De (hE : Hid (E = digs n)) : (Tryd.prog.info? 53).map (·.size) = some E.size := by rw [hE.out]; exact size_Dn n
theorem oneC (hC : Hid (C = bigs b n)) : C.all (·.oneCell') = true := by rw [hC.out]; exact bigs_one _ _
theorem oneE (hE : Hid (E = digs n)) : E.all (·.oneCell') = true := by rw [hE.out]; exact digs_one _
end
theorem mul_small {m n : Nat} (hm : m < BP 8) (hn : n < BP 7) : m * n < BP 16 := by
  have h1 : m * n ≤ m * BP 7 := Nat.mul_le_mul_left _ (Nat.le_of_lt hn)
  have h2 : m * BP 7 < BP 8 * BP 7 := Nat.mul_lt_mul_of_pos_right hm (BP_pos 7)
  rw [← BP_add] at h2
  have h3 : BP (8 + 7) ≤ BP 16 := BP_le (by decide)
  omega

theorem times_ff (w : World) (m n : Nat) (hm : m < BP 8) (hn : n < BP 7) : Calls Tryd.prog 49 #[BigV false m, BigV false n] w fun e w' => e = .returned (BigV false (m * n)) ∧ Below w.heap.size w w' := by
  refine d_in (args := [.agg (bigs false m), .agg (bigs false n)]) 23 Tryd.func49 rfl rfl rfl ?_
  refine d_reg ?_
  refine h_box (cs := bigs false m) rfl rfl rfl rfl ?_; intro g2_1
  refine h_box (cs := bigs false n) rfl rfl rfl rfl ?_; intro g3_2
  refine h_alloc zeBig rfl rfl ?_; intro g4_3
  refine h_done (d_reg ?_)
  refine h_q hflW rfl ?_
  refine h_load 2 (v := .agg (digs m)) (reads_D _ _) rfl rfl rfl rfl ?_
  refine h_q hflW rfl ?_
  refine h_load 1 (v := .agg (digs n)) (reads_D _ _) rfl rfl rfl rfl ?_
  refine h_call (ent_of Tryd.func72 (by kernel_rfl) rfl) (fun w hH => rmul_any _ m n hm hn) rfl rfl rfl rfl ?_
  refine h_alloc zeDig rfl rfl ?_; intro g5_4
  refine h_store 0 (v := .agg (digs (m * n))) (digs (m * n)) tyDigits.2 (digs_size _) (ble_size (digs_size _)) (digs_oneL _) (over_all (c := digs 0) (v := digs (m * n)) (((digs_size _) : (digs 0).size = 16).trans ((digs_size _) : (digs (m * n)).size = 16).symm)) rfl rfl rfl rfl rfl rfl ?_
  refine h_done (d_seq ?_)
  refine d_par 12 0 [⟨.quiet, 0, fun _ => .pointer (some ⟨g2_1, 0, none⟩), []⟩, ⟨.quiet, 0, fun _ => .bool false, [0]⟩, ⟨.quiet, 0, fun _ => .pointer (some ⟨g3_2, 0, none⟩), []⟩, ⟨.quiet, 0, fun _ => .bool false, [2]⟩, ⟨.quiet, 0, fun _ => .bool false, [1, 3]⟩, ⟨.quiet, 0, fun _ => .bool false, [4]⟩, ⟨.skip, 0, fun _ => undef, [5]⟩, ⟨.skip, 0, fun _ => undef, [6, 5]⟩, ⟨.skip, 0, fun _ => undef, [7, 5]⟩, ⟨.quiet, 0, fun _ => .bool false, [5, 8]⟩, ⟨.quiet, 0, fun _ => .agg (digs (m * n)), []⟩, ⟨.quiet, 0, fun _ => .agg (bigs false (m * n)), [9, 10]⟩] [(2, .pointer (some ⟨g2_1, 0, none⟩)), (3, .pointer (some ⟨g3_2, 0, none⟩)), (4, .pointer (some ⟨g4_3, 0, none⟩)), (5, .pointer (some ⟨g5_4, 0, none⟩))] (by kernel_rfl) (by kernel_rfl) ⟨rfl, rfl, rfl, rfl, trivial⟩ ?_ ?_
  · skip
    refine o_cons (o_q hflW (fun _ _ => rfl) (fun _ _ => rfl)) ?_
    refine o_cons (o_load 3 (reads_one tyBool (bigs_get0 _ _)) (fun _ _ => rfl) rfl (fun _ _ => rfl) rfl) ?_
    refine o_cons (o_q hflW (fun _ _ => rfl) (fun _ _ => rfl)) ?_
    refine o_cons (o_load 2 (reads_one tyBool (bigs_get0 _ _)) (fun _ _ => rfl) rfl (fun _ _ => rfl) rfl) ?_
    refine o_cons (o_nes (neB false false) (fun _ _ => rfl) rfl (fun _ _ => rfl) (fun _ _ => rfl)) ?_
    refine o_cons (o_q hflW (fun _ _ => rfl) (fun _ _ => rfl)) ?_
    refine o_cons (o_skip (fun _ _ => rfl)) ?_
    refine o_cons (o_skip (fun _ _ => rfl)) ?_
    refine o_cons (o_skip (fun _ _ => rfl)) ?_
    refine o_cons (o_q hflW (fun _ _ => rfl) (fun _ _ => rfl)) ?_
    refine o_cons (o_load 0 (reads_all (tyDigC _)) (fun _ _ => rfl) rfl (fun _ _ => rfl) rfl) ?_
    refine o_cons (o_build (cs := bigs false (m * n)) (built_big _ _) (fun _ _ => rfl) rfl (fun _ _ => rfl)) ?_
    exact o_nil
  intro σ5 gs5
  refine WL2.keep (env' := [(4, .pointer (some ⟨g4_3, 0, none⟩)), (22, .agg (bigs false (m * n)))]) ⟨rfl, rfl, trivial⟩ ?_
  refine h_store 1 (v := .agg (bigs false (m * n))) (bigs false (m * n)) tyBig.2 (bigs_size _ _) (ble_size zBig_size) (bigs_oneL _ _) (over_all (c := zBig) (v := bigs false (m * n)) ((zBig_size : (zBig).size = 17).trans ((bigs_size _ _) : (bigs false (m * n)).size = 17).symm)) rfl rfl rfl rfl rfl rfl ?_
  refine h_nil (f_to (d_ret ?_))
  exact f_fin1 (.cell 1 (v := .agg (bigs false (m * n))) (reads_all (tyBigsC _ _)) rfl rfl) (fun w h => ⟨rfl, h.up.below⟩) rfl

theorem times_tt (w : World) (m n : Nat) (hm : m < BP 8) (hn : n < BP 7) : Calls Tryd.prog 49 #[BigV true m, BigV true n] w fun e w' => e = .returned (BigV false (m * n)) ∧ Below w.heap.size w w' := by
  refine d_in (args := [.agg (bigs true m), .agg (bigs true n)]) 23 Tryd.func49 rfl rfl rfl ?_
  refine d_reg ?_
  refine h_box (cs := bigs true m) rfl rfl rfl rfl ?_; intro g2_1
  refine h_box (cs := bigs true n) rfl rfl rfl rfl ?_; intro g3_2
  refine h_alloc zeBig rfl rfl ?_; intro g4_3
  refine h_done (d_reg ?_)
  refine h_q hflW rfl ?_
  refine h_load 2 (v := .agg (digs m)) (reads_D _ _) rfl rfl rfl rfl ?_
  refine h_q hflW rfl ?_
  refine h_load 1 (v := .agg (digs n)) (reads_D _ _) rfl rfl rfl rfl ?_
  refine h_call (ent_of Tryd.func72 (by kernel_rfl) rfl) (fun w hH => rmul_any _ m n hm hn) rfl rfl rfl rfl ?_
  refine h_alloc zeDig rfl rfl ?_; intro g5_4
  refine h_store 0 (v := .agg (digs (m * n))) (digs (m * n)) tyDigits.2 (digs_size _) (ble_size (digs_size _)) (digs_oneL _) (over_all (c := digs 0) (v := digs (m * n)) (((digs_size _) : (digs 0).size = 16).trans ((digs_size _) : (digs (m * n)).size = 16).symm)) rfl rfl rfl rfl rfl rfl ?_
  refine h_done (d_seq ?_)
  refine d_par 12 0 [⟨.quiet, 0, fun _ => .pointer (some ⟨g2_1, 0, none⟩), []⟩, ⟨.quiet, 0, fun _ => .bool true, [0]⟩, ⟨.quiet, 0, fun _ => .pointer (some ⟨g3_2, 0, none⟩), []⟩, ⟨.quiet, 0, fun _ => .bool true, [2]⟩, ⟨.quiet, 0, fun _ => .bool false, [1, 3]⟩, ⟨.quiet, 0, fun _ => .bool false, [4]⟩, ⟨.skip, 0, fun _ => undef, [5]⟩, ⟨.skip, 0, fun _ => undef, [6, 5]⟩, ⟨.skip, 0, fun _ => undef, [7, 5]⟩, ⟨.quiet, 0, fun _ => .bool false, [5, 8]⟩, ⟨.quiet, 0, fun _ => .agg (digs (m * n)), []⟩, ⟨.quiet, 0, fun _ => .agg (bigs false (m * n)), [9, 10]⟩] [(2, .pointer (some ⟨g2_1, 0, none⟩)), (3, .pointer (some ⟨g3_2, 0, none⟩)), (4, .pointer (some ⟨g4_3, 0, none⟩)), (5, .pointer (some ⟨g5_4, 0, none⟩))] (by kernel_rfl) (by kernel_rfl) ⟨rfl, rfl, rfl, rfl, trivial⟩ ?_ ?_
  · skip
    refine o_cons (o_q hflW (fun _ _ => rfl) (fun _ _ => rfl)) ?_
    refine o_cons (o_load 3 (reads_one tyBool (bigs_get0 _ _)) (fun _ _ => rfl) rfl (fun _ _ => rfl) rfl) ?_
    refine o_cons (o_q hflW (fun _ _ => rfl) (fun _ _ => rfl)) ?_
    refine o_cons (o_load 2 (reads_one tyBool (bigs_get0 _ _)) (fun _ _ => rfl) rfl (fun _ _ => rfl) rfl) ?_
    refine o_cons (o_nes (neB true true) (fun _ _ => rfl) rfl (fun _ _ => rfl) (fun _ _ => rfl)) ?_
    refine o_cons (o_q hflW (fun _ _ => rfl) (fun _ _ => rfl)) ?_
    refine o_cons (o_skip (fun _ _ => rfl)) ?_
    refine o_cons (o_skip (fun _ _ => rfl)) ?_
    refine o_cons (o_skip (fun _ _ => rfl)) ?_
    refine o_cons (o_q hflW (fun _ _ => rfl) (fun _ _ => rfl)) ?_
    refine o_cons (o_load 0 (reads_all (tyDigC _)) (fun _ _ => rfl) rfl (fun _ _ => rfl) rfl) ?_
    refine o_cons (o_build (cs := bigs false (m * n)) (built_big _ _) (fun _ _ => rfl) rfl (fun _ _ => rfl)) ?_
    exact o_nil
  intro σ5 gs5
  refine WL2.keep (env' := [(4, .pointer (some ⟨g4_3, 0, none⟩)), (22, .agg (bigs false (m * n)))]) ⟨rfl, rfl, trivial⟩ ?_
  refine h_store 1 (v := .agg (bigs false (m * n))) (bigs false (m * n)) tyBig.2 (bigs_size _ _) (ble_size zBig_size) (bigs_oneL _ _) (over_all (c := zBig) (v := bigs false (m * n)) ((zBig_size : (zBig).size = 17).trans ((bigs_size _ _) : (bigs false (m * n)).size = 17).symm)) rfl rfl rfl rfl rfl rfl ?_
  refine h_nil (f_to (d_ret ?_))
  exact f_fin1 (.cell 1 (v := .agg (bigs false (m * n))) (reads_all (tyBigsC _ _)) rfl rfl) (fun w h => ⟨rfl, h.up.below⟩) rfl

theorem times_ft (w : World) (m n : Nat) (hm : m < BP 8) (hn : n < BP 7) : Calls Tryd.prog 49 #[BigV false m, BigV true n] w fun e w' => e = .returned (BigV (!decide (m * n = 0)) (m * n)) ∧ Below w.heap.size w w' := by
  refine d_in (args := [.agg (bigs false m), .agg (bigs true n)]) 23 Tryd.func49 rfl rfl rfl ?_
  refine d_reg ?_
  refine h_box (cs := bigs false m) rfl rfl rfl rfl ?_; intro g2_1
  refine h_box (cs := bigs true n) rfl rfl rfl rfl ?_; intro g3_2
  refine h_alloc zeBig rfl rfl ?_; intro g4_3
  refine h_done (d_reg ?_)
  refine h_q hflW rfl ?_
  refine h_load 2 (v := .agg (digs m)) (reads_D _ _) rfl rfl rfl rfl ?_
  refine h_q hflW rfl ?_
  refine h_load 1 (v := .agg (digs n)) (reads_D _ _) rfl rfl rfl rfl ?_
  refine h_call (ent_of Tryd.func72 (by kernel_rfl) rfl) (fun w hH => rmul_any _ m n hm hn) rfl rfl rfl rfl ?_
  refine h_alloc zeDig rfl rfl ?_; intro g5_4
  refine h_store 0 (v := .agg (digs (m * n))) (digs (m * n)) tyDigits.2 (digs_size _) (ble_size (digs_size _)) (digs_oneL _) (over_all (c := digs 0) (v := digs (m * n)) (((digs_size _) : (digs 0).size = 16).trans ((digs_size _) : (digs (m * n)).size = 16).symm)) rfl rfl rfl rfl rfl rfl ?_
  refine h_done (d_seq ?_)
  refine d_par 12 1 [⟨.quiet, 0, fun _ => .pointer (some ⟨g2_1, 0, none⟩), []⟩, ⟨.quiet, 0, fun _ => .bool false, [0]⟩, ⟨.quiet, 0, fun _ => .pointer (some ⟨g3_2, 0, none⟩), []⟩, ⟨.quiet, 0, fun _ => .bool true, [2]⟩, ⟨.quiet, 0, fun _ => .bool true, [1, 3]⟩, ⟨.quiet, 0, fun _ => .bool true, [4]⟩, ⟨.quiet, 0, fun _ => .agg (digs (m * n)), [5]⟩, ⟨.call, 1, fun _ => .bool (decide (m * n = 0)), [6, 5]⟩, ⟨.quiet, 1, fun _ => .bool (!(decide (m * n = 0))), [7, 5]⟩, ⟨.quiet, 1, fun _ => .bool (!(decide (m * n = 0))), [5, 8]⟩, ⟨.quiet, 0, fun _ => .agg (digs (m * n)), []⟩, ⟨.quiet, 1, fun _ => .agg (bigs (!(decide (m * n = 0))) (m * n)), [9, 10]⟩] [(2, .pointer (some ⟨g2_1, 0, none⟩)), (3, .pointer (some ⟨g3_2, 0, none⟩)), (4, .pointer (some ⟨g4_3, 0, none⟩)), (5, .pointer (some ⟨g5_4, 0, none⟩))] (by kernel_rfl) (by kernel_rfl) ⟨rfl, rfl, rfl, rfl, trivial⟩ ?_ ?_
  · skip
    refine o_cons (o_q hflW (fun _ _ => rfl) (fun _ _ => rfl)) ?_
    refine o_cons (o_load 3 (reads_one tyBool (bigs_get0 _ _)) (fun _ _ => rfl) rfl (fun _ _ => rfl) rfl) ?_
    refine o_cons (o_q hflW (fun _ _ => rfl) (fun _ _ => rfl)) ?_
    refine o_cons (o_load 2 (reads_one tyBool (bigs_get0 _ _)) (fun _ _ => rfl) rfl (fun _ _ => rfl) rfl) ?_
    refine o_cons (o_nes (neB false true) (fun _ _ => rfl) rfl (fun _ _ => rfl) (fun _ _ => rfl)) ?_
    refine o_cons (o_q hflW (fun _ _ => rfl) (fun _ _ => rfl)) ?_
    refine o_cons (o_load 0 (reads_all (tyDigC _)) (fun _ _ => rfl) rfl (fun _ _ => rfl) rfl) ?_
    refine o_cons (o_call (ent_of Tryd.func64 (by kernel_rfl) rfl) (fun w hU => rzero_any _ (m * n) (mul_small hm hn)) (fun _ _ => rfl) rfl (fun _ _ => rfl) (fun _ _ => rfl)) ?_
    refine o_cons (o_val (fun _ _ => rfl) (fun w hH σ g b W hU hb => by exact exec_not rfl rfl rfl hb)) ?_
    refine o_cons (o_q hflW (fun _ _ => rfl) (fun _ _ => rfl)) ?_
    refine o_cons (o_load 0 (reads_all (tyDigC _)) (fun _ _ => rfl) rfl (fun _ _ => rfl) rfl) ?_
    refine o_cons (o_build (cs := bigs (!(decide (m * n = 0))) (m * n)) (built_big _ _) (fun _ _ => rfl) rfl (fun _ _ => rfl)) ?_
    exact o_nil
  intro σ5 gs5
  refine WL2.keep (env' := [(4, .pointer (some ⟨g4_3, 0, none⟩)), (22, .agg (bigs (!(decide (m * n = 0))) (m * n)))]) ⟨rfl, rfl, trivial⟩ ?_
  refine h_store 1 (v := .agg (bigs (!(decide (m * n = 0))) (m * n))) (bigs (!(decide (m * n = 0))) (m * n)) tyBig.2 (bigs_size _ _) (ble_size zBig_size) (bigs_oneL _ _) (over_all (c := zBig) (v := bigs (!(decide (m * n = 0))) (m * n)) ((zBig_size : (zBig).size = 17).trans ((bigs_size _ _) : (bigs (!(decide (m * n = 0))) (m * n)).size = 17).symm)) rfl rfl rfl rfl rfl rfl ?_
  refine h_nil (f_to (d_ret ?_))
  exact f_fin1 (.cell 1 (v := .agg (bigs (!(decide (m * n = 0))) (m * n))) (reads_all (tyBigsC _ _)) rfl rfl) (fun w h => ⟨rfl, h.up.below⟩) rfl

theorem times_tf (w : World) (m n : Nat) (hm : m < BP 8) (hn : n < BP 7) : Calls Tryd.prog 49 #[BigV true m, BigV false n] w fun e w' => e = .returned (BigV (!decide (m * n = 0)) (m * n)) ∧ Below w.heap.size w w' := by
  refine d_in (args := [.agg (bigs true m), .agg (bigs false n)]) 23 Tryd.func49 rfl rfl rfl ?_
  refine d_reg ?_
  refine h_box (cs := bigs true m) rfl rfl rfl rfl ?_; intro g2_1
  refine h_box (cs := bigs false n) rfl rfl rfl rfl ?_; intro g3_2
  refine h_alloc zeBig rfl rfl ?_; intro g4_3
  refine h_done (d_reg ?_)
  refine h_q hflW rfl ?_
  refine h_load 2 (v := .agg (digs m)) (reads_D _ _) rfl rfl rfl rfl ?_
  refine h_q hflW rfl ?_
  refine h_load 1 (v := .agg (digs n)) (reads_D _ _) rfl rfl rfl rfl ?_
  refine h_call (ent_of Tryd.func72 (by kernel_rfl) rfl) (fun w hH => rmul_any _ m n hm hn) rfl rfl rfl rfl ?_
  refine h_alloc zeDig rfl rfl ?_; intro g5_4
  refine h_store 0 (v := .agg (digs (m * n))) (digs (m * n)) tyDigits.2 (digs_size _) (ble_size (digs_size _)) (digs_oneL _) (over_all (c := digs 0) (v := digs (m * n)) (((digs_size _) : (digs 0).size = 16).trans ((digs_size _) : (digs (m * n)).size = 16).symm)) rfl rfl rfl rfl rfl rfl ?_
  refine h_done (d_seq ?_)
  refine d_par 12 1 [⟨.quiet, 0, fun _ => .pointer (some ⟨g2_1, 0, none⟩), []⟩, ⟨.quiet, 0, fun _ => .bool true, [0]⟩, ⟨.quiet, 0, fun _ => .pointer (some ⟨g3_2, 0, none⟩), []⟩, ⟨.quiet, 0, fun _ => .bool false, [2]⟩, ⟨.quiet, 0, fun _ => .bool true, [1, 3]⟩, ⟨.quiet, 0, fun _ => .bool true, [4]⟩, ⟨.quiet, 0, fun _ => .agg (digs (m * n)), [5]⟩, ⟨.call, 1, fun _ => .bool (decide (m * n = 0)), [6, 5]⟩, ⟨.quiet, 1, fun _ => .bool (!(decide (m * n = 0))), [7, 5]⟩, ⟨.quiet, 1, fun _ => .bool (!(decide (m * n = 0))), [5, 8]⟩, ⟨.quiet, 0, fun _ => .agg (digs (m * n)), []⟩, ⟨.quiet, 1, fun _ => .agg (bigs (!(decide (m * n = 0))) (m * n)), [9, 10]⟩] [(2, .pointer (some ⟨g2_1, 0, none⟩)), (3, .pointer (some ⟨g3_2, 0, none⟩)), (4, .pointer (some ⟨g4_3, 0, none⟩)), (5, .pointer (some ⟨g5_4, 0, none⟩))] (by kernel_rfl) (by kernel_rfl) ⟨rfl, rfl, rfl, rfl, trivial⟩ ?_ ?_
  · skip
    refine o_cons (o_q hflW (fun _ _ => rfl) (fun _ _ => rfl)) ?_
    refine o_cons (o_load 3 (reads_one tyBool (bigs_get0 _ _)) (fun _ _ => rfl) rfl (fun _ _ => rfl) rfl) ?_
    refine o_cons (o_q hflW (fun _ _ => rfl) (fun _ _ => rfl)) ?_
    refine o_cons (o_load 2 (reads_one tyBool (bigs_get0 _ _)) (fun _ _ => rfl) rfl (fun _ _ => rfl) rfl) ?_
    refine o_cons (o_nes (neB true false) (fun _ _ => rfl) rfl (fun _ _ => rfl) (fun _ _ => rfl)) ?_
    refine o_cons (o_q hflW (fun _ _ => rfl) (fun _ _ => rfl)) ?_
    refine o_cons (o_load 0 (reads_all (tyDigC _)) (fun _ _ => rfl) rfl (fun _ _ => rfl) rfl) ?_
    refine o_cons (o_call (ent_of Tryd.func64 (by kernel_rfl) rfl) (fun w hU => rzero_any _ (m * n) (mul_small hm hn)) (fun _ _ => rfl) rfl (fun _ _ => rfl) (fun _ _ => rfl)) ?_
    refine o_cons (o_val (fun _ _ => rfl) (fun w hH σ g b W hU hb => by exact exec_not rfl rfl rfl hb)) ?_
    refine o_cons (o_q hflW (fun _ _ => rfl) (fun _ _ => rfl)) ?_
    refine o_cons (o_load 0 (reads_all (tyDigC _)) (fun _ _ => rfl) rfl (fun _ _ => rfl) rfl) ?_
    refine o_cons (o_build (cs := bigs (!(decide (m * n = 0))) (m * n)) (built_big _ _) (fun _ _ => rfl) rfl (fun _ _ => rfl)) ?_
    exact o_nil
  intro σ5 gs5
  refine WL2.keep (env' := [(4, .pointer (some ⟨g4_3, 0, none⟩)), (22, .agg (bigs (!(decide (m * n = 0))) (m * n)))]) ⟨rfl, rfl, trivial⟩ ?_
  refine h_store 1 (v := .agg (bigs (!(decide (m * n = 0))) (m * n))) (bigs (!(decide (m * n = 0))) (m * n)) tyBig.2 (bigs_size _ _) (ble_size zBig_size) (bigs_oneL _ _) (over_all (c := zBig) (v := bigs (!(decide (m * n = 0))) (m * n)) ((zBig_size : (zBig).size = 17).trans ((bigs_size _ _) : (bigs (!(decide (m * n = 0))) (m * n)).size = 17).symm)) rfl rfl rfl rfl rfl rfl ?_
  refine h_nil (f_to (d_ret ?_))
  exact f_fin1 (.cell 1 (v := .agg (bigs (!(decide (m * n = 0))) (m * n))) (reads_all (tyBigsC _ _)) rfl rfl) (fun w h => ⟨rfl, h.up.below⟩) rfl

theorem rtimes_any (w : World) (x y : Int) (hx : x.natAbs < BP 8) (hy : y.natAbs < BP 7) : Calls Tryd.prog 49 #[BigZ x, BigZ y] w fun e w' => e = .returned (BigZ (x * y)) ∧ Below w.heap.size w w' := by
  rw [← times_z]
  unfold BigZ
  by_cases h1 : x < 0 <;> by_cases h2 : y < 0
  · simpa [h1, h2, BigZ] using times_tt w _ _ hx hy
  · simpa [h1, h2, BigZ] using times_tf w _ _ hx hy
  · simpa [h1, h2, BigZ] using times_ft w _ _ hx hy
  · simpa [h1, h2, BigZ] using times_ff w _ _ hx hy
end Go.Proofs.YtmamedobphlpkaaDoor

namespace Go.Proofs.YtmamedobphlpkaaDoor
open Go.RowKit

theorem sum_ff (w : World) (m n : Nat) (hm : m + n < BP 16) : Calls Tryd.prog 38 #[BigV false m, BigV false n] w fun e w' => e = .returned (BigV false (m + n)) ∧ Below w.heap.size w w' := by
  refine d_in (args := [.agg (bigs false m), .agg (bigs false n)]) 47 Tryd.func38 rfl rfl rfl ?_
  refine d_reg ?_
  refine h_box (cs := bigs false m) rfl rfl rfl rfl ?_; intro g2_1
  refine h_box (cs := bigs false n) rfl rfl rfl rfl ?_; intro g3_2
  refine h_alloc zeBig rfl rfl ?_; intro g4_3
  refine h_done (d_seq (d_reg ?_))
  refine h_q hflW rfl ?_
  refine h_load 2 (v := .bool false) (reads_one tyBool (bigs_get0 _ _)) rfl rfl rfl rfl ?_
  refine h_q hflW rfl ?_
  refine h_load 1 (v := .bool false) (reads_one tyBool (bigs_get0 _ _)) rfl rfl rfl rfl ?_
  refine h_eqs (eqB false false) rfl rfl rfl rfl ?_
  refine h_done (d_then rfl (d_seq ?_))
  refine d_par 8 1 [⟨.quiet, 0, fun _ => .pointer (some ⟨g2_1, 0, none⟩), []⟩, ⟨.quiet, 0, fun _ => .bool false, [0]⟩, ⟨.quiet, 0, fun _ => .pointer (some ⟨g2_1, 1, none⟩), []⟩, ⟨.quiet, 0, fun _ => .agg (digs m), [2]⟩, ⟨.quiet, 0, fun _ => .pointer (some ⟨g3_2, 1, none⟩), []⟩, ⟨.quiet, 0, fun _ => .agg (digs n), [4]⟩, ⟨.call, 1, fun _ => .agg (digs (m + n)), [3, 5]⟩, ⟨.quiet, 1, fun _ => .agg (bigs false (m + n)), [1, 6]⟩] [(2, .pointer (some ⟨g2_1, 0, none⟩)), (3, .pointer (some ⟨g3_2, 0, none⟩)), (4, .pointer (some ⟨g4_3, 0, none⟩))] (by kernel_rfl) (by kernel_rfl) ⟨rfl, rfl, rfl, trivial⟩ ?_ ?_
  · skip
    refine o_cons (o_q hflW (fun _ _ => rfl) (fun _ _ => rfl)) ?_
    refine o_cons (o_load 2 (reads_one tyBool (bigs_get0 _ _)) (fun _ _ => rfl) rfl (fun _ _ => rfl) rfl) ?_
    refine o_cons (o_q hflW (fun _ _ => rfl) (fun _ _ => rfl)) ?_
    refine o_cons (o_load 2 (reads_D _ _) (fun _ _ => rfl) rfl (fun _ _ => rfl) rfl) ?_
    refine o_cons (o_q hflW (fun _ _ => rfl) (fun _ _ => rfl)) ?_
    refine o_cons (o_load 1 (reads_D _ _) (fun _ _ => rfl) rfl (fun _ _ => rfl) rfl) ?_
    refine o_cons (o_call (ent_of Tryd.func61 (by kernel_rfl) rfl) (fun w hU => radd_any _ m n hm) (fun _ _ => rfl) rfl (fun _ _ => rfl) (fun _ _ => rfl)) ?_
    refine o_cons (o_build (cs := bigs false (m + n)) (built_big _ _) (fun _ _ => rfl) rfl (fun _ _ => rfl)) ?_
    exact o_nil
  intro σ4 gs4
  refine WL2.keep (env' := [(2, .pointer (some ⟨g2_1, 0, none⟩)), (3, .pointer (some ⟨g3_2, 0, none⟩)), (4, .pointer (some ⟨g4_3, 0, none⟩)), (18, .agg (bigs false (m + n)))]) ⟨rfl, rfl, rfl, rfl, trivial⟩ ?_
  refine h_store 0 (v := .agg (bigs false (m + n))) (bigs false (m + n)) tyBig.2 (bigs_size _ _) (ble_size zBig_size) (bigs_oneL _ _) (over_all (c := zBig) (v := bigs false (m + n)) ((zBig_size : (zBig).size = 17).trans ((bigs_size _ _) : (bigs false (m + n)).size = 17).symm)) rfl rfl rfl rfl rfl rfl ?_
  refine h_nil (f_to (d_ret (f_then_ret ?_)))
  exact f_fin1 (.cell 0 (v := .agg (bigs false (m + n))) (reads_all (tyBigsC _ _)) rfl rfl) (fun w h => ⟨rfl, h.up.below⟩) rfl

theorem sum_tt (w : World) (m n : Nat) (hm : m + n < BP 16) : Calls Tryd.prog 38 #[BigV true m, BigV true n] w fun e w' => e = .returned (BigV true (m + n)) ∧ Below w.heap.size w w' := by
  refine d_in (args := [.agg (bigs true m), .agg (bigs true n)]) 47 Tryd.func38 rfl rfl rfl ?_
  refine d_reg ?_
  refine h_box (cs := bigs true m) rfl rfl rfl rfl ?_; intro g2_1
  refine h_box (cs := bigs true n) rfl rfl rfl rfl ?_; intro g3_2
  refine h_alloc zeBig rfl rfl ?_; intro g4_3
  refine h_done (d_seq (d_reg ?_))
  refine h_q hflW rfl ?_
  refine h_load 2 (v := .bool true) (reads_one tyBool (bigs_get0 _ _)) rfl rfl rfl rfl ?_
  refine h_q hflW rfl ?_
  refine h_load 1 (v := .bool true) (reads_one tyBool (bigs_get0 _ _)) rfl rfl rfl rfl ?_
  refine h_eqs (eqB true true) rfl rfl rfl rfl ?_
  refine h_done (d_then rfl (d_seq ?_))
  refine d_par 8 1 [⟨.quiet, 0, fun _ => .pointer (some ⟨g2_1, 0, none⟩), []⟩, ⟨.quiet, 0, fun _ => .bool true, [0]⟩, ⟨.quiet, 0, fun _ => .pointer (some ⟨g2_1, 1, none⟩), []⟩, ⟨.quiet, 0, fun _ => .agg (digs m), [2]⟩, ⟨.quiet, 0, fun _ => .pointer (some ⟨g3_2, 1, none⟩), []⟩, ⟨.quiet, 0, fun _ => .agg (digs n), [4]⟩, ⟨.call, 1, fun _ => .agg (digs (m + n)), [3, 5]⟩, ⟨.quiet, 1, fun _ => .agg (bigs true (m + n)), [1, 6]⟩] [(2, .pointer (some ⟨g2_1, 0, none⟩)), (3, .pointer (some ⟨g3_2, 0, none⟩)), (4, .pointer (some ⟨g4_3, 0, none⟩))] (by kernel_rfl) (by kernel_rfl) ⟨rfl, rfl, rfl, trivial⟩ ?_ ?_
  · skip
    refine o_cons (o_q hflW (fun _ _ => rfl) (fun _ _ => rfl)) ?_
    refine o_cons (o_load 2 (reads_one tyBool (bigs_get0 _ _)) (fun _ _ => rfl) rfl (fun _ _ => rfl) rfl) ?_
    refine o_cons (o_q hflW (fun _ _ => rfl) (fun _ _ => rfl)) ?_
    refine o_cons (o_load 2 (reads_D _ _) (fun _ _ => rfl) rfl (fun _ _ => rfl) rfl) ?_
    refine o_cons (o_q hflW (fun _ _ => rfl) (fun _ _ => rfl)) ?_
    refine o_cons (o_load 1 (reads_D _ _) (fun _ _ => rfl) rfl (fun _ _ => rfl) rfl) ?_
    refine o_cons (o_call (ent_of Tryd.func61 (by kernel_rfl) rfl) (fun w hU => radd_any _ m n hm) (fun _ _ => rfl) rfl (fun _ _ => rfl) (fun _ _ => rfl)) ?_
    refine o_cons (o_build (cs := bigs true (m + n)) (built_big _ _) (fun _ _ => rfl) rfl (fun _ _ => rfl)) ?_
    exact o_nil
  intro σ4 gs4
  refine WL2.keep (env' := [(2, .pointer (some ⟨g2_1, 0, none⟩)), (3, .pointer (some ⟨g3_2, 0, none⟩)), (4, .pointer (some ⟨g4_3, 0, none⟩)), (18, .agg (bigs true (m + n)))]) ⟨rfl, rfl, rfl, rfl, trivial⟩ ?_
  refine h_store 0 (v := .agg (bigs true (m + n))) (bigs true (m + n)) tyBig.2 (bigs_size _ _) (ble_size zBig_size) (bigs_oneL _ _) (over_all (c := zBig) (v := bigs true (m + n)) ((zBig_size : (zBig).size = 17).trans ((bigs_size _ _) : (bigs true (m + n)).size = 17).symm)) rfl rfl rfl rfl rfl rfl ?_
  refine h_nil (f_to (d_ret (f_then_ret ?_)))
  exact f_fin1 (.cell 0 (v := .agg (bigs true (m + n))) (reads_all (tyBigsC _ _)) rfl rfl) (fun w h => ⟨rfl, h.up.below⟩) rfl

theorem sum_tf_less (w : World) (m n : Nat) (hm : m < BP 16) (hn : n < BP 16) (hl : m < n) : Calls Tryd.prog 38 #[BigV true m, BigV false n] w fun e w' => e = .returned (BigV false (n - m)) ∧ Below w.heap.size w w' := by
  refine d_in (args := [.agg (bigs true m), .agg (bigs false n)]) 47 Tryd.func38 rfl rfl rfl ?_
  refine d_reg ?_
  refine h_box (cs := bigs true m) rfl rfl rfl rfl ?_; intro g2_1
  refine h_box (cs := bigs false n) rfl rfl rfl rfl ?_; intro g3_2
  refine h_alloc zeBig rfl rfl ?_; intro g4_3
  refine h_done (d_seq (d_reg ?_))
  refine h_q hflW rfl ?_
  refine h_load 2 (v := .bool true) (reads_one tyBool (bigs_get0 _ _)) rfl rfl rfl rfl ?_
  refine h_q hflW rfl ?_
  refine h_load 1 (v := .bool false) (reads_one tyBool (bigs_get0 _ _)) rfl rfl rfl rfl ?_
  refine h_eqs (eqB true false) rfl rfl rfl rfl ?_
  refine h_done (d_else rfl (d_skip (f_to (d_seq (d_reg ?_)))))
  refine h_q hflW rfl ?_
  refine h_load 2 (v := .agg (digs m)) (reads_D _ _) rfl rfl rfl rfl ?_
  refine h_q hflW rfl ?_
  refine h_load 1 (v := .agg (digs n)) (reads_D _ _) rfl rfl rfl rfl ?_
  refine h_call (ent_of Tryd.func62 (by kernel_rfl) rfl) (fun w hH => cmpE _ m n (-1) hm hn (if_pos hl)) rfl rfl rfl rfl ?_
  refine h_cmp (cmp_lss_t (by decide)) rfl rfl rfl rfl ?_
  refine h_done (d_then rfl (d_seq ?_))
  refine d_par 8 1 [⟨.quiet, 0, fun _ => .pointer (some ⟨g3_2, 0, none⟩), []⟩, ⟨.quiet, 0, fun _ => .bool false, [0]⟩, ⟨.quiet, 0, fun _ => .pointer (some ⟨g3_2, 1, none⟩), []⟩, ⟨.quiet, 0, fun _ => .agg (digs n), [2]⟩, ⟨.quiet, 0, fun _ => .pointer (some ⟨g2_1, 1, none⟩), []⟩, ⟨.quiet, 0, fun _ => .agg (digs m), [4]⟩, ⟨.call, 1, fun _ => .agg (digs (n - m)), [3, 5]⟩, ⟨.quiet, 1, fun _ => .agg (bigs false (n - m)), [1, 6]⟩] [(2, .pointer (some ⟨g2_1, 0, none⟩)), (3, .pointer (some ⟨g3_2, 0, none⟩)), (4, .pointer (some ⟨g4_3, 0, none⟩))] (by kernel_rfl) (by kernel_rfl) ⟨rfl, rfl, rfl, trivial⟩ ?_ ?_
  · skip
    refine o_cons (o_q hflW (fun _ _ => rfl) (fun _ _ => rfl)) ?_
    refine o_cons (o_load 1 (reads_one tyBool (bigs_get0 _ _)) (fun _ _ => rfl) rfl (fun _ _ => rfl) rfl) ?_
    refine o_cons (o_q hflW (fun _ _ => rfl) (fun _ _ => rfl)) ?_
    refine o_cons (o_load 1 (reads_D _ _) (fun _ _ => rfl) rfl (fun _ _ => rfl) rfl) ?_
    refine o_cons (o_q hflW (fun _ _ => rfl) (fun _ _ => rfl)) ?_
    refine o_cons (o_load 2 (reads_D _ _) (fun _ _ => rfl) rfl (fun _ _ => rfl) rfl) ?_
    refine o_cons (o_call (ent_of Tryd.func63 (by kernel_rfl) rfl) (fun w hU => rsub_any _ n m hn (Nat.le_of_lt hl)) (fun _ _ => rfl) rfl (fun _ _ => rfl) (fun _ _ => rfl)) ?_
    refine o_cons (o_build (cs := bigs false (n - m)) (built_big _ _) (fun _ _ => rfl) rfl (fun _ _ => rfl)) ?_
    exact o_nil
  intro σ4 gs4
  refine WL2.keep (env' := [(2, .pointer (some ⟨g2_1, 0, none⟩)), (3, .pointer (some ⟨g3_2, 0, none⟩)), (4, .pointer (some ⟨g4_3, 0, none⟩)), (32, .agg (bigs false (n - m)))]) ⟨rfl, rfl, rfl, rfl, trivial⟩ ?_
  refine h_store 0 (v := .agg (bigs false (n - m))) (bigs false (n - m)) tyBig.2 (bigs_size _ _) (ble_size zBig_size) (bigs_oneL _ _) (over_all (c := zBig) (v := bigs false (n - m)) ((zBig_size : (zBig).size = 17).trans ((bigs_size _ _) : (bigs false (n - m)).size = 17).symm)) rfl rfl rfl rfl rfl rfl ?_
  refine h_nil (f_to (d_ret (f_then_ret ?_)))
  exact f_fin1 (.cell 0 (v := .agg (bigs false (n - m))) (reads_all (tyBigsC _ _)) rfl rfl) (fun w h => ⟨rfl, h.up.below⟩) rfl

theorem sum_tf_more (w : World) (m n : Nat) (hm : m < BP 16) (hn : n < BP 16) (hl : n ≤ m) : Calls Tryd.prog 38 #[BigV true m, BigV false n] w fun e w' => e = .returned (BigV (!decide (m - n = 0)) (m - n)) ∧ Below w.heap.size w w' := by
  obtain ⟨c, hc, hc0⟩ : ∃ c : Int, cmpN m n = c ∧ 0 ≤ c := ⟨_, rfl, by unfold cmpN; rw [if_neg (by omega)]; split <;> decide⟩
  refine d_in (args := [.agg (bigs true m), .agg (bigs false n)]) 47 Tryd.func38 rfl rfl rfl ?_
  refine d_reg ?_
  refine h_box (cs := bigs true m) rfl rfl rfl rfl ?_; intro g2_1
  refine h_box (cs := bigs false n) rfl rfl rfl rfl ?_; intro g3_2
  refine h_alloc zeBig rfl rfl ?_; intro g4_3
  refine h_done (d_seq (d_reg ?_))
  refine h_q hflW rfl ?_
  refine h_load 2 (v := .bool true) (reads_one tyBool (bigs_get0 _ _)) rfl rfl rfl rfl ?_
  refine h_q hflW rfl ?_
  refine h_load 1 (v := .bool false) (reads_one tyBool (bigs_get0 _ _)) rfl rfl rfl rfl ?_
  refine h_eqs (eqB true false) rfl rfl rfl rfl ?_
  refine h_done (d_else rfl (d_skip (f_to (d_seq (d_reg ?_)))))
  refine h_q hflW rfl ?_
  refine h_load 2 (v := .agg (digs m)) (reads_D _ _) rfl rfl rfl rfl ?_
  refine h_q hflW rfl ?_
  refine h_load 1 (v := .agg (digs n)) (reads_D _ _) rfl rfl rfl rfl ?_
  refine h_call (ent_of Tryd.func62 (by kernel_rfl) rfl) (fun w hH => cmpE _ m n c hm hn hc) rfl rfl rfl rfl ?_
  refine h_cmp (cmp_lss_f (by omega)) rfl rfl rfl rfl ?_
  refine h_done (d_else rfl (d_skip (f_to (d_reg ?_))))
  refine h_q hflW rfl ?_
  refine h_load 2 (v := .agg (digs m)) (reads_D _ _) rfl rfl rfl rfl ?_
  refine h_q hflW rfl ?_
  refine h_load 1 (v := .agg (digs n)) (reads_D _ _) rfl rfl rfl rfl ?_
  refine h_call (ent_of Tryd.func63 (by kernel_rfl) rfl) (fun w hH => rsub_any _ m n hm hl) rfl rfl rfl rfl ?_
  refine h_alloc zeDig rfl rfl ?_; intro g5_4
  refine h_store 0 (v := .agg (digs (m - n))) (digs (m - n)) tyDigits.2 (digs_size _) (ble_size (digs_size _)) (digs_oneL _) (over_all (c := digs 0) (v := digs (m - n)) (((digs_size _) : (digs 0).size = 16).trans ((digs_size _) : (digs (m - n)).size = 16).symm)) rfl rfl rfl rfl rfl rfl ?_
  refine h_done (d_seq ?_)
  refine d_par 9 1 [⟨.quiet, 0, fun _ => .pointer (some ⟨g2_1, 0, none⟩), []⟩, ⟨.quiet, 0, fun _ => .bool true, [0]⟩, ⟨.quiet, 0, fun _ => .bool true, [1]⟩, ⟨.quiet, 0, fun _ => .agg (digs (m - n)), [2]⟩, ⟨.call, 1, fun _ => .bool (decide (m - n = 0)), [3, 2]⟩, ⟨.quiet, 1, fun _ => .bool (!(decide (m - n = 0))), [4, 2]⟩, ⟨.quiet, 1, fun _ => .bool (!(decide (m - n = 0))), [2, 5]⟩, ⟨.quiet, 0, fun _ => .agg (digs (m - n)), []⟩, ⟨.quiet, 1, fun _ => .agg (bigs (!(decide (m - n = 0))) (m - n)), [6, 7]⟩] [(2, .pointer (some ⟨g2_1, 0, none⟩)), (4, .pointer (some ⟨g4_3, 0, none⟩)), (5, .pointer (some ⟨g5_4, 0, none⟩))] (by kernel_rfl) (by kernel_rfl) ⟨rfl, rfl, rfl, trivial⟩ ?_ ?_
  · skip
    refine o_cons (o_q hflW (fun _ _ => rfl) (fun _ _ => rfl)) ?_
    refine o_cons (o_load 3 (reads_one tyBool (bigs_get0 _ _)) (fun _ _ => rfl) rfl (fun _ _ => rfl) rfl) ?_
    refine o_cons (o_q hflW (fun _ _ => rfl) (fun _ _ => rfl)) ?_
    refine o_cons (o_load 0 (reads_all (tyDigC _)) (fun _ _ => rfl) rfl (fun _ _ => rfl) rfl) ?_
    refine o_cons (o_call (ent_of Tryd.func64 (by kernel_rfl) rfl) (fun w hU => rzero_any _ (m - n) (Nat.lt_of_le_of_lt (Nat.sub_le _ _) hm)) (fun _ _ => rfl) rfl (fun _ _ => rfl) (fun _ _ => rfl)) ?_
    refine o_cons (o_val (fun _ _ => rfl) (fun w hH σ g b W hU hb => by exact exec_not rfl rfl rfl hb)) ?_
    refine o_cons (o_q hflW (fun _ _ => rfl) (fun _ _ => rfl)) ?_
    refine o_cons (o_load 0 (reads_all (tyDigC _)) (fun _ _ => rfl) rfl (fun _ _ => rfl) rfl) ?_
    refine o_cons (o_build (cs := bigs (!(decide (m - n = 0))) (m - n)) (built_big _ _) (fun _ _ => rfl) rfl (fun _ _ => rfl)) ?_
    exact o_nil
  intro σ5 gs5
  refine WL2.keep (env' := [(4, .pointer (some ⟨g4_3, 0, none⟩)), (46, .agg (bigs (!(decide (m - n = 0))) (m - n)))]) ⟨rfl, rfl, trivial⟩ ?_
  refine h_store 1 (v := .agg (bigs (!(decide (m - n = 0))) (m - n))) (bigs (!(decide (m - n = 0))) (m - n)) tyBig.2 (bigs_size _ _) (ble_size zBig_size) (bigs_oneL _ _) (over_all (c := zBig) (v := bigs (!(decide (m - n = 0))) (m - n)) ((zBig_size : (zBig).size = 17).trans ((bigs_size _ _) : (bigs (!(decide (m - n = 0))) (m - n)).size = 17).symm)) rfl rfl rfl rfl rfl rfl ?_
  refine h_nil (f_to (d_ret ?_))
  exact f_fin1 (.cell 1 (v := .agg (bigs (!(decide (m - n = 0))) (m - n))) (reads_all (tyBigsC _ _)) rfl rfl) (fun w h => ⟨rfl, h.up.below⟩) rfl

theorem sum_ft_less (w : World) (m n : Nat) (hm : m < BP 16) (hn : n < BP 16) (hl : m < n) : Calls Tryd.prog 38 #[BigV false m, BigV true n] w fun e w' => e = .returned (BigV true (n - m)) ∧ Below w.heap.size w w' := by
  refine d_in (args := [.agg (bigs false m), .agg (bigs true n)]) 47 Tryd.func38 rfl rfl rfl ?_
  refine d_reg ?_
  refine h_box (cs := bigs false m) rfl rfl rfl rfl ?_; intro g2_1
  refine h_box (cs := bigs true n) rfl rfl rfl rfl ?_; intro g3_2
  refine h_alloc zeBig rfl rfl ?_; intro g4_3
  refine h_done (d_seq (d_reg ?_))
  refine h_q hflW rfl ?_
  refine h_load 2 (v := .bool false) (reads_one tyBool (bigs_get0 _ _)) rfl rfl rfl rfl ?_
  refine h_q hflW rfl ?_
  refine h_load 1 (v := .bool true) (reads_one tyBool (bigs_get0 _ _)) rfl rfl rfl rfl ?_
  refine h_eqs (eqB false true) rfl rfl rfl rfl ?_
  refine h_done (d_else rfl (d_skip (f_to (d_seq (d_reg ?_)))))
  refine h_q hflW rfl ?_
  refine h_load 2 (v := .agg (digs m)) (reads_D _ _) rfl rfl rfl rfl ?_
  refine h_q hflW rfl ?_
  refine h_load 1 (v := .agg (digs n)) (reads_D _ _) rfl rfl rfl rfl ?_
  refine h_call (ent_of Tryd.func62 (by kernel_rfl) rfl) (fun w hH => cmpE _ m n (-1) hm hn (if_pos hl)) rfl rfl rfl rfl ?_
  refine h_cmp (cmp_lss_t (by decide)) rfl rfl rfl rfl ?_
  refine h_done (d_then rfl (d_seq ?_))
  refine d_par 8 1 [⟨.quiet, 0, fun _ => .pointer (some ⟨g3_2, 0, none⟩), []⟩, ⟨.quiet, 0, fun _ => .bool true, [0]⟩, ⟨.quiet, 0, fun _ => .pointer (some ⟨g3_2, 1, none⟩), []⟩, ⟨.quiet, 0, fun _ => .agg (digs n), [2]⟩, ⟨.quiet, 0, fun _ => .pointer (some ⟨g2_1, 1, none⟩), []⟩, ⟨.quiet, 0, fun _ => .agg (digs m), [4]⟩, ⟨.call, 1, fun _ => .agg (digs (n - m)), [3, 5]⟩, ⟨.quiet, 1, fun _ => .agg (bigs true (n - m)), [1, 6]⟩] [(2, .pointer (some ⟨g2_1, 0, none⟩)), (3, .pointer (some ⟨g3_2, 0, none⟩)), (4, .pointer (some ⟨g4_3, 0, none⟩))] (by kernel_rfl) (by kernel_rfl) ⟨rfl, rfl, rfl, trivial⟩ ?_ ?_
  · skip
    refine o_cons (o_q hflW (fun _ _ => rfl) (fun _ _ => rfl)) ?_
    refine o_cons (o_load 1 (reads_one tyBool (bigs_get0 _ _)) (fun _ _ => rfl) rfl (fun _ _ => rfl) rfl) ?_
    refine o_cons (o_q hflW (fun _ _ => rfl) (fun _ _ => rfl)) ?_
    refine o_cons (o_load 1 (reads_D _ _) (fun _ _ => rfl) rfl (fun _ _ => rfl) rfl) ?_
    refine o_cons (o_q hflW (fun _ _ => rfl) (fun _ _ => rfl)) ?_
    refine o_cons (o_load 2 (reads_D _ _) (fun _ _ => rfl) rfl (fun _ _ => rfl) rfl) ?_
    refine o_cons (o_call (ent_of Tryd.func63 (by kernel_rfl) rfl) (fun w hU => rsub_any _ n m hn (Nat.le_of_lt hl)) (fun _ _ => rfl) rfl (fun _ _ => rfl) (fun _ _ => rfl)) ?_
    refine o_cons (o_build (cs := bigs true (n - m)) (built_big _ _) (fun _ _ => rfl) rfl (fun _ _ => rfl)) ?_
    exact o_nil
  intro σ4 gs4
  refine WL2.keep (env' := [(2, .pointer (some ⟨g2_1, 0, none⟩)), (3, .pointer (some ⟨g3_2, 0, none⟩)), (4, .pointer (some ⟨g4_3, 0, none⟩)), (32, .agg (bigs true (n - m)))]) ⟨rfl, rfl, rfl, rfl, trivial⟩ ?_
  refine h_store 0 (v := .agg (bigs true (n - m))) (bigs true (n - m)) tyBig.2 (bigs_size _ _) (ble_size zBig_size) (bigs_oneL _ _) (over_all (c := zBig) (v := bigs true (n - m)) ((zBig_size : (zBig).size = 17).trans ((bigs_size _ _) : (bigs true (n - m)).size = 17).symm)) rfl rfl rfl rfl rfl rfl ?_
  refine h_nil (f_to (d_ret (f_then_ret ?_)))
  exact f_fin1 (.cell 0 (v := .agg (bigs true (n - m))) (reads_all (tyBigsC _ _)) rfl rfl) (fun w h => ⟨rfl, h.up.below⟩) rfl

theorem sum_ft_more (w : World) (m n : Nat) (hm : m < BP 16) (hn : n < BP 16) (hl : n ≤ m) : Calls Tryd.prog 38 #[BigV false m, BigV true n] w fun e w' => e = .returned (BigV false (m - n)) ∧ Below w.heap.size w w' := by
  obtain ⟨c, hc, hc0⟩ : ∃ c : Int, cmpN m n = c ∧ 0 ≤ c := ⟨_, rfl, by unfold cmpN; rw [if_neg (by omega)]; split <;> decide⟩
  refine d_in (args := [.agg (bigs false m), .agg (bigs true n)]) 47 Tryd.func38 rfl rfl rfl ?_
  refine d_reg ?_
  refine h_box (cs := bigs false m) rfl rfl rfl rfl ?_; intro g2_1
  refine h_box (cs := bigs true n) rfl rfl rfl rfl ?_; intro g3_2
  refine h_alloc zeBig rfl rfl ?_; intro g4_3
  refine h_done (d_seq (d_reg ?_))
  refine h_q hflW rfl ?_
  refine h_load 2 (v := .bool false) (reads_one tyBool (bigs_get0 _ _)) rfl rfl rfl rfl ?_
  refine h_q hflW rfl ?_
  refine h_load 1 (v := .bool true) (reads_one tyBool (bigs_get0 _ _)) rfl rfl rfl rfl ?_
  refine h_eqs (eqB false true) rfl rfl rfl rfl ?_
  refine h_done (d_else rfl (d_skip (f_to (d_seq (d_reg ?_)))))
  refine h_q hflW rfl ?_
  refine h_load 2 (v := .agg (digs m)) (reads_D _ _) rfl rfl rfl rfl ?_
  refine h_q hflW rfl ?_
  refine h_load 1 (v := .agg (digs n)) (reads_D _ _) rfl rfl rfl rfl ?_
  refine h_call (ent_of Tryd.func62 (by kernel_rfl) rfl) (fun w hH => cmpE _ m n c hm hn hc) rfl rfl rfl rfl ?_
  refine h_cmp (cmp_lss_f (by omega)) rfl rfl rfl rfl ?_
  refine h_done (d_else rfl (d_skip (f_to (d_reg ?_))))
  refine h_q hflW rfl ?_
  refine h_load 2 (v := .agg (digs m)) (reads_D _ _) rfl rfl rfl rfl ?_
  refine h_q hflW rfl ?_
  refine h_load 1 (v := .agg (digs n)) (reads_D _ _) rfl rfl rfl rfl ?_
  refine h_call (ent_of Tryd.func63 (by kernel_rfl) rfl) (fun w hH => rsub_any _ m n hm hl) rfl rfl rfl rfl ?_
  refine h_alloc zeDig rfl rfl ?_; intro g5_4
  refine h_store 0 (v := .agg (digs (m - n))) (digs (m - n)) tyDigits.2 (digs_size _) (ble_size (digs_size _)) (digs_oneL _) (over_all (c := digs 0) (v := digs (m - n)) (((digs_size _) : (digs 0).size = 16).trans ((digs_size _) : (digs (m - n)).size = 16).symm)) rfl rfl rfl rfl rfl rfl ?_
  refine h_done (d_seq ?_)
  refine d_par 9 0 [⟨.quiet, 0, fun _ => .pointer (some ⟨g2_1, 0, none⟩), []⟩, ⟨.quiet, 0, fun _ => .bool false, [0]⟩, ⟨.quiet, 0, fun _ => .bool false, [1]⟩, ⟨.skip, 0, fun _ => undef, [2]⟩, ⟨.skip, 0, fun _ => undef, [3, 2]⟩, ⟨.skip, 0, fun _ => undef, [4, 2]⟩, ⟨.quiet, 0, fun _ => .bool false, [2, 5]⟩, ⟨.quiet, 0, fun _ => .agg (digs (m - n)), []⟩, ⟨.quiet, 0, fun _ => .agg (bigs false (m - n)), [6, 7]⟩] [(2, .pointer (some ⟨g2_1, 0, none⟩)), (4, .pointer (some ⟨g4_3, 0, none⟩)), (5, .pointer (some ⟨g5_4, 0, none⟩))] (by kernel_rfl) (by kernel_rfl) ⟨rfl, rfl, rfl, trivial⟩ ?_ ?_
  · skip
    refine o_cons (o_q hflW (fun _ _ => rfl) (fun _ _ => rfl)) ?_
    refine o_cons (o_load 3 (reads_one tyBool (bigs_get0 _ _)) (fun _ _ => rfl) rfl (fun _ _ => rfl) rfl) ?_
    refine o_cons (o_q hflW (fun _ _ => rfl) (fun _ _ => rfl)) ?_
    refine o_cons (o_skip (fun _ _ => rfl)) ?_
    refine o_cons (o_skip (fun _ _ => rfl)) ?_
    refine o_cons (o_skip (fun _ _ => rfl)) ?_
    refine o_cons (o_q hflW (fun _ _ => rfl) (fun _ _ => rfl)) ?_
    refine o_cons (o_load 0 (reads_all (tyDigC _)) (fun _ _ => rfl) rfl (fun _ _ => rfl) rfl) ?_
    refine o_cons (o_build (cs := bigs false (m - n)) (built_big _ _) (fun _ _ => rfl) rfl (fun _ _ => rfl)) ?_
    exact o_nil
  intro σ5 gs5
  refine WL2.keep (env' := [(4, .pointer (some ⟨g4_3, 0, none⟩)), (46, .agg (bigs false (m - n)))]) ⟨rfl, rfl, trivial⟩ ?_
  refine h_store 1 (v := .agg (bigs false (m - n))) (bigs false (m - n)) tyBig.2 (bigs_size _ _) (ble_size zBig_size) (bigs_oneL _ _) (over_all (c := zBig) (v := bigs false (m - n)) ((zBig_size : (zBig).size = 17).trans ((bigs_size _ _) : (bigs false (m - n)).size = 17).symm)) rfl rfl rfl rfl rfl rfl ?_
  refine h_nil (f_to (d_ret ?_))
  exact f_fin1 (.cell 1 (v := .agg (bigs false (m - n))) (reads_all (tyBigsC _ _)) rfl rfl) (fun w h => ⟨rfl, h.up.below⟩) rfl

theorem rsum_any (w : World) (x y : Int) (hx : x.natAbs < BP 15) (hy : y.natAbs < BP 15) : Calls Tryd.prog 38 #[BigZ x, BigZ y] w fun e w' => e = .returned (BigZ (x + y)) ∧ Below w.heap.size w w' := by
  have h15 : BP 16 = BP 15 * 4294967296 := BP_succ 15
  have hx' : x.natAbs < BP 16 := by omega
  have hy' : y.natAbs < BP 16 := by omega
  have hxy : x.natAbs + y.natAbs < BP 16 := by omega
  by_cases h : decide (x < 0) = decide (y < 0)
  · rw [← sum_same h]
    unfold BigZ
    rw [← h]
    cases decide (x < 0) with
    | false => exact sum_ff w _ _ hxy
    | true => exact sum_tt w _ _ hxy
  · by_cases hl : x.natAbs < y.natAbs
    · rw [← sum_less h hl]
      unfold BigZ
      by_cases h1 : x < 0 <;> by_cases h2 : y < 0
      · simp [h1, h2] at h
      · simpa [h1, h2] using sum_tf_less w _ _ hx' hy' hl
      · simpa [h1, h2] using sum_ft_less w _ _ hx' hy' hl
      · simp [h1, h2] at h
    · rw [← sum_more h (by omega)]
      unfold BigZ
      by_cases h1 : x < 0 <;> by_cases h2 : y < 0
      · simp [h1, h2] at h
      · simpa [h1, h2] using sum_tf_more w _ _ hx' hy' (by omega)
      · simpa [h1, h2] using sum_ft_more w _ _ hx' hy' (by omega)
      · simp [h1, h2] at h
end Go.Proofs.YtmamedobphlpkaaDoor

namespace Go.Proofs.YtmamedobphlpkaaDoor
open Go.RowKit

theorem prod_small {x y : Int} {i j k : Nat} (hx : x.natAbs < BP i) (hy : y.natAbs < BP j) (h : i + j ≤ k) : (x * y).natAbs < BP k := by
  rw [Int.natAbs_mul]
  have h1 : x.natAbs * y.natAbs ≤ x.natAbs * BP j := Nat.mul_le_mul_left _ (Nat.le_of_lt hy)
  have h2 : x.natAbs * BP j < BP i * BP j := Nat.mul_lt_mul_of_pos_right hx (BP_pos j)
  rw [← BP_add] at h2
  have h3 := BP_le h
  omega
theorem sum_small {x y : Int} {i : Nat} (hx : x.natAbs < BP i) (hy : y.natAbs < BP i) : (x + y).natAbs < BP (i + 1) := by
  have h := BP_succ i
  omega
theorem neg_small {x : Int} {i : Nat} (hx : x.natAbs < BP i) : (-x).natAbs < BP i := by omega
end Go.Proofs.YtmamedobphlpkaaDoor

namespace Go.Proofs.YtmamedobphlpkaaDoor
open Go.RowKit

end Go.Proofs.YtmamedobphlpkaaDoor

namespace Go.Proofs.YtmamedobphlpkaaDoor
open Go.RowKit

theorem cmpbig_same (w : World) (x y : Int) (sx : x.natAbs < BP 14) (sy : y.natAbs < BP 14) (h : x = y) : Calls Tryd.prog 46 #[BigZ x, BigZ y] w fun e w' => e = .returned (.int .i64 (0)) ∧ Below w.heap.size w w' := by
  refine d_in (args := [BigZ x, BigZ y]) 15 Tryd.func46 rfl rfl rfl ?_
  refine d_reg ?_
  refine h_box (cs := bigZ x) rfl rfl rfl rfl ?_; intro g2_1
  refine h_box (cs := bigZ y) rfl rfl rfl rfl ?_; intro g3_2
  refine h_q hflW rfl ?_
  refine h_done (d_seq ?_)
  refine d_par 5 2 [⟨.quiet, 0, fun _ => BigZ x, []⟩, ⟨.quiet, 0, fun _ => BigZ y, []⟩, ⟨.call, 1, fun _ => BigZ (-y), [1]⟩, ⟨.call, 2, fun _ => BigZ (x + -y), [0, 2]⟩, ⟨.alloc 55 zBig, 0, fun _ => undef, []⟩] [(2, .pointer (some ⟨g2_1, 0, none⟩)), (3, .pointer (some ⟨g3_2, 0, none⟩)), (4, .int .i64 0)] (by kernel_rfl) (by kernel_rfl) ⟨rfl, rfl, rfl, trivial⟩ ?_ ?_
  · skip
    refine o_cons (o_load 1 (reads_all (tyBigC _)) (fun _ _ => rfl) rfl (fun _ _ => rfl) rfl) ?_
    refine o_cons (o_load 0 (reads_all (tyBigC _)) (fun _ _ => rfl) rfl (fun _ _ => rfl) rfl) ?_
    refine o_cons (o_call (ent_of Tryd.func39 (by kernel_rfl) rfl) (fun w hU => minus_any _ y (Nat.lt_of_lt_of_le sy (BP_le (by decide)))) (fun _ _ => rfl) rfl (fun _ _ => rfl) (fun _ _ => rfl)) ?_
    refine o_cons (o_call (ent_of Tryd.func38 (by kernel_rfl) rfl) (fun w hU => rsum_any _ x (-y) (Nat.lt_of_lt_of_le sx (BP_le (by decide))) (Nat.lt_of_lt_of_le (neg_small sy) (BP_le (by decide)))) (fun _ _ => rfl) rfl (fun _ _ => rfl) (fun _ _ => rfl)) ?_
    refine o_cons (o_alloc zeBig rfl rfl) ?_
    exact o_nil
  intro σ3 gs3
  refine WL2.keep (env' := [(4, .int .i64 0), (9, BigZ (x + -y)), (5, .pointer (some ⟨(gs3 4), 0, none⟩))]) ⟨rfl, rfl, rfl, trivial⟩ ?_
  refine h_store 0 (v := BigZ (x + -y)) (bigZ (x + -y)) tyBig.2 (bigZ_size _) (ble_size zBig_size) (bigZ_one _) (over_all (c := zBig) (v := bigZ (x + -y)) ((zBig_size : (zBig).size = 17).trans ((bigZ_size _) : (bigZ (x + -y)).size = 17).symm)) rfl rfl rfl rfl rfl rfl ?_
  refine h_nil (f_to (d_seq (d_reg ?_)))
  refine h_q hflW rfl ?_
  refine h_load 0 (v := .agg (digs (((x + -y)).natAbs))) (reads_D _ _) rfl rfl rfl rfl ?_
  refine h_call (ent_of Tryd.func64 (by kernel_rfl) rfl) (fun w hH => zeroB _ (x + -y).natAbs true (Nat.lt_of_lt_of_le (sum_small sx (neg_small sy)) (BP_le (by decide))) (by simp; omega)) rfl rfl rfl rfl ?_
  refine h_done (d_then rfl (d_reg ?_))
  refine h_q hflW rfl ?_
  refine h_done (d_ret (f_then_ret ?_))
  exact f_fin1 (.tmp rfl) (fun w h => ⟨rfl, h.up.below⟩) rfl

theorem cmpbig_less (w : World) (x y : Int) (sx : x.natAbs < BP 14) (sy : y.natAbs < BP 14) (h : x < y) : Calls Tryd.prog 46 #[BigZ x, BigZ y] w fun e w' => e = .returned (.int .i64 (-1)) ∧ Below w.heap.size w w' := by
  refine d_in (args := [BigZ x, BigZ y]) 15 Tryd.func46 rfl rfl rfl ?_
  refine d_reg ?_
  refine h_box (cs := bigZ x) rfl rfl rfl rfl ?_; intro g2_1
  refine h_box (cs := bigZ y) rfl rfl rfl rfl ?_; intro g3_2
  refine h_q hflW rfl ?_
  refine h_done (d_seq ?_)
  refine d_par 5 2 [⟨.quiet, 0, fun _ => BigZ x, []⟩, ⟨.quiet, 0, fun _ => BigZ y, []⟩, ⟨.call, 1, fun _ => BigZ (-y), [1]⟩, ⟨.call, 2, fun _ => BigZ (x + -y), [0, 2]⟩, ⟨.alloc 55 zBig, 0, fun _ => undef, []⟩] [(2, .pointer (some ⟨g2_1, 0, none⟩)), (3, .pointer (some ⟨g3_2, 0, none⟩)), (4, .int .i64 0)] (by kernel_rfl) (by kernel_rfl) ⟨rfl, rfl, rfl, trivial⟩ ?_ ?_
  · skip
    refine o_cons (o_load 1 (reads_all (tyBigC _)) (fun _ _ => rfl) rfl (fun _ _ => rfl) rfl) ?_
    refine o_cons (o_load 0 (reads_all (tyBigC _)) (fun _ _ => rfl) rfl (fun _ _ => rfl) rfl) ?_
    refine o_cons (o_call (ent_of Tryd.func39 (by kernel_rfl) rfl) (fun w hU => minus_any _ y (Nat.lt_of_lt_of_le sy (BP_le (by decide)))) (fun _ _ => rfl) rfl (fun _ _ => rfl) (fun _ _ => rfl)) ?_
    refine o_cons (o_call (ent_of Tryd.func38 (by kernel_rfl) rfl) (fun w hU => rsum_any _ x (-y) (Nat.lt_of_lt_of_le sx (BP_le (by decide))) (Nat.lt_of_lt_of_le (neg_small sy) (BP_le (by decide)))) (fun _ _ => rfl) rfl (fun _ _ => rfl) (fun _ _ => rfl)) ?_
    refine o_cons (o_alloc zeBig rfl rfl) ?_
    exact o_nil
  intro σ3 gs3
  refine WL2.keep (env' := [(4, .int .i64 0), (9, BigZ (x + -y)), (5, .pointer (some ⟨(gs3 4), 0, none⟩))]) ⟨rfl, rfl, rfl, trivial⟩ ?_
  refine h_store 0 (v := BigZ (x + -y)) (bigZ (x + -y)) tyBig.2 (bigZ_size _) (ble_size zBig_size) (bigZ_one _) (over_all (c := zBig) (v := bigZ (x + -y)) ((zBig_size : (zBig).size = 17).trans ((bigZ_size _) : (bigZ (x + -y)).size = 17).symm)) rfl rfl rfl rfl rfl rfl ?_
  refine h_nil (f_to (d_seq (d_reg ?_)))
  refine h_q hflW rfl ?_
  refine h_load 0 (v := .agg (digs (((x + -y)).natAbs))) (reads_D _ _) rfl rfl rfl rfl ?_
  refine h_call (ent_of Tryd.func64 (by kernel_rfl) rfl) (fun w hH => zeroB _ (x + -y).natAbs false (Nat.lt_of_lt_of_le (sum_small sx (neg_small sy)) (BP_le (by decide))) (by simp; omega)) rfl rfl rfl rfl ?_
  refine h_done (d_else rfl (d_skip (f_to (d_seq (d_reg ?_)))))
  refine h_q hflW rfl ?_
  refine h_load 0 (v := .bool true) (reads_one tyBool (bigZ_neg (by omega))) rfl rfl rfl rfl ?_
  refine h_done (d_then rfl (d_reg ?_))
  refine h_q hflW rfl ?_
  refine h_done (d_ret (f_then_ret ?_))
  exact f_fin1 (.tmp rfl) (fun w h => ⟨rfl, h.up.below⟩) rfl

theorem cmpbig_more (w : World) (x y : Int) (sx : x.natAbs < BP 14) (sy : y.natAbs < BP 14) (h : y < x) : Calls Tryd.prog 46 #[BigZ x, BigZ y] w fun e w' => e = .returned (.int .i64 (1)) ∧ Below w.heap.size w w' := by
  refine d_in (args := [BigZ x, BigZ y]) 15 Tryd.func46 rfl rfl rfl ?_
  refine d_reg ?_
  refine h_box (cs := bigZ x) rfl rfl rfl rfl ?_; intro g2_1
  refine h_box (cs := bigZ y) rfl rfl rfl rfl ?_; intro g3_2
  refine h_q hflW rfl ?_
  refine h_done (d_seq ?_)
  refine d_par 5 2 [⟨.quiet, 0, fun _ => BigZ x, []⟩, ⟨.quiet, 0, fun _ => BigZ y, []⟩, ⟨.call, 1, fun _ => BigZ (-y), [1]⟩, ⟨.call, 2, fun _ => BigZ (x + -y), [0, 2]⟩, ⟨.alloc 55 zBig, 0, fun _ => undef, []⟩] [(2, .pointer (some ⟨g2_1, 0, none⟩)), (3, .pointer (some ⟨g3_2, 0, none⟩)), (4, .int .i64 0)] (by kernel_rfl) (by kernel_rfl) ⟨rfl, rfl, rfl, trivial⟩ ?_ ?_
  · skip
    refine o_cons (o_load 1 (reads_all (tyBigC _)) (fun _ _ => rfl) rfl (fun _ _ => rfl) rfl) ?_
    refine o_cons (o_load 0 (reads_all (tyBigC _)) (fun _ _ => rfl) rfl (fun _ _ => rfl) rfl) ?_
    refine o_cons (o_call (ent_of Tryd.func39 (by kernel_rfl) rfl) (fun w hU => minus_any _ y (Nat.lt_of_lt_of_le sy (BP_le (by decide)))) (fun _ _ => rfl) rfl (fun _ _ => rfl) (fun _ _ => rfl)) ?_
    refine o_cons (o_call (ent_of Tryd.func38 (by kernel_rfl) rfl) (fun w hU => rsum_any _ x (-y) (Nat.lt_of_lt_of_le sx (BP_le (by decide))) (Nat.lt_of_lt_of_le (neg_small sy) (BP_le (by decide)))) (fun _ _ => rfl) rfl (fun _ _ => rfl) (fun _ _ => rfl)) ?_
    refine o_cons (o_alloc zeBig rfl rfl) ?_
    exact o_nil
  intro σ3 gs3
  refine WL2.keep (env' := [(4, .int .i64 0), (9, BigZ (x + -y)), (5, .pointer (some ⟨(gs3 4), 0, none⟩))]) ⟨rfl, rfl, rfl, trivial⟩ ?_
  refine h_store 0 (v := BigZ (x + -y)) (bigZ (x + -y)) tyBig.2 (bigZ_size _) (ble_size zBig_size) (bigZ_one _) (over_all (c := zBig) (v := bigZ (x + -y)) ((zBig_size : (zBig).size = 17).trans ((bigZ_size _) : (bigZ (x + -y)).size = 17).symm)) rfl rfl rfl rfl rfl rfl ?_
  refine h_nil (f_to (d_seq (d_reg ?_)))
  refine h_q hflW rfl ?_
  refine h_load 0 (v := .agg (digs (((x + -y)).natAbs))) (reads_D _ _) rfl rfl rfl rfl ?_
  refine h_call (ent_of Tryd.func64 (by kernel_rfl) rfl) (fun w hH => zeroB _ (x + -y).natAbs false (Nat.lt_of_lt_of_le (sum_small sx (neg_small sy)) (BP_le (by decide))) (by simp; omega)) rfl rfl rfl rfl ?_
  refine h_done (d_else rfl (d_skip (f_to (d_seq (d_reg ?_)))))
  refine h_q hflW rfl ?_
  refine h_load 0 (v := .bool false) (reads_one tyBool (bigZ_pos (by omega))) rfl rfl rfl rfl ?_
  refine h_done (d_else rfl (d_skip (f_to (d_reg ?_))))
  refine h_q hflW rfl ?_
  refine h_done (d_ret ?_)
  exact f_fin1 (.tmp rfl) (fun w h => ⟨rfl, h.up.below⟩) rfl

theorem cmpbig_any (w : World) (x y : Int) (sx : x.natAbs < BP 14) (sy : y.natAbs < BP 14) : Calls Tryd.prog 46 #[BigZ x, BigZ y] w fun e w' => e = .returned (.int .i64 (cmp3 x y)) ∧ Below w.heap.size w w' := by
  rcases cmp3_cases x y with ⟨h, e⟩ | ⟨h, e⟩ | ⟨h, e⟩
  · rw [e]; exact cmpbig_less w x y sx sy h
  · rw [e]; exact cmpbig_more w x y sx sy h
  · rw [e]; exact cmpbig_same w x y sx sy h

end Go.Proofs.YtmamedobphlpkaaDoor

namespace Go.Proofs.YtmamedobphlpkaaDoor
open Go.RowKit

theorem digs_1 : digs 1 = #[.int .u64 1, .int .u64 0, .int .u64 0, .int .u64 0, .int .u64 0, .int .u64 0, .int .u64 0, .int .u64 0, .int .u64 0, .int .u64 0, .int .u64 0, .int .u64 0, .int .u64 0, .int .u64 0, .int .u64 0, .int .u64 0] := by kernel_rfl
theorem digs_10 : digs 10 = #[.int .u64 10, .int .u64 0, .int .u64 0, .int .u64 0, .int .u64 0, .int .u64 0, .int .u64 0, .int .u64 0, .int .u64 0, .int .u64 0, .int .u64 0, .int .u64 0, .int .u64 0, .int .u64 0, .int .u64 0, .int .u64 0] := by kernel_rfl
theorem ten_small {k : Nat} (h : k ≤ 77) : 10 ^ k < BP 8 := by
  have h1 : 10 ^ k ≤ 10 ^ 77 := Nat.pow_le_pow_right (by decide) h
  have h2 : (10 : Nat) ^ 77 < BP 8 := by decide
  omega

set_option maxRecDepth 100000 in
set_option maxHeartbeats 2000000 in
theorem rten_any (w : World) (n : Int) (hn : -9223372036854775808 ≤ n ∧ n ≤ 77) : Calls Tryd.prog 70 #[.int .i64 n] w fun e w' => e = .returned (DV (10 ^ n.toNat)) ∧ Below w.heap.size w w' := by
  have hA := ((Row.new w 53 (digs 0)).alloc (.cells (digs 1) 53)).alloc (.cells (digs 10) 53)
  have hB := (Row.new (w.alloc (.cells (digs 0) 53)) 53 (digs 1)).alloc (.cells (digs 10) 53)
  have hC := Row.new ((w.alloc (.cells (digs 0) 53)).alloc (.cells (digs 1) 53)) 53 (digs 10)
  have hU := (((Up.refl w).alloc (.cells (digs 0) 53)).alloc (.cells (digs 1) 53)).alloc (.cells (digs 10) 53)
  simp only [alloc_size] at hB hC
  unfold DV
  obtain ⟨R, hR⟩ : ∃ R, R = 10 ^ n.toNat := ⟨_, rfl⟩
  rw [← hR]
  have HR := hid hR
  have HN := hid hn
  clear hn hR
  go_enter Tryd.func70, Tryd.ntmps70
  go_wp2_with fail
  obtain ⟨V, hV⟩ : ∃ V, V = ((w.alloc (.cells (digs 0) 53)).alloc (.cells (digs 1) 53)).alloc (.cells (digs 10) 53) := ⟨_, rfl⟩
  rw [digs_0, digs_1, digs_10] at hV
  rw [← hV]
  rw [← digs_0, ← digs_1, ← digs_10] at hV
  rw [← hV] at hA hB hC hU
  clear hV
  go_loopw [5] (fun i wr => ∃ j p : Nat, i = .int .i64 (j : Int) ∧ j ≤ n.toNat ∧ p = 10 ^ j ∧ Row wr w.heap.size 53 (digs 0) ∧ Row wr (w.heap.size + 1) 53 (digs p) ∧ Row wr (w.heap.size + 1 + 1) 53 (digs 10) ∧ Up w.heap.size w wr) (fun i _ => 77 - (intOf i).toNat)
  case atStart => exact ⟨0, 1, rfl, Nat.zero_le _, rfl, hA, hB, hC, hU⟩
  case round =>
    clear hA hB hC hU
    obtain ⟨j, p, rfl, hj, hp, hA, hB, hC, hU⟩ := hrel
    have hn := HN.out
    by_cases hlt : (j : Int) < n
    · have hm := fun w => rmul_any w p 10 (by rw [hp]; exact ten_small (by omega)) (by decide)
      rw [hp, ← Nat.pow_succ, ← hp] at hm
      obtain ⟨q, hq⟩ : ∃ q, q = 10 ^ (j + 1) := ⟨_, rfl⟩
      rw [show 10 ^ (j + 1) = q from hq.symm] at hm
      unfold DV at hm
      obtain ⟨E1, hE1⟩ : ∃ X, X = digs p := ⟨_, rfl⟩
      obtain ⟨E2, hE2⟩ : ∃ X, X = digs 10 := ⟨_, rfl⟩
      obtain ⟨E3, hE3⟩ : ∃ X, X = digs q := ⟨_, rfl⟩
      rw [← hE1, ← hE2, ← hE3] at hm
      rw [← hE1] at hB
      rw [← hE2] at hC
      have HE1 := hid hE1
      have HE2 := hid hE2
      have HE3 := hid hE3
      have HM := hid hm
      have HQ := hid hq
      clear hm hE1 hE2 hE3 hq hp
      go_wp2_with (first | (refine wpList_load_row rfl 53 (.tmp 3) rfl (w.heap.size + 1) rfl 53 E1 (0, 0) _ hB Tryd.underlying53 rfl (size_De HE1) ?_) | (refine wpList_load_row rfl 53 (.tmp 4) rfl (w.heap.size + 1 + 1) rfl 53 E2 (0, 0) _ hC Tryd.underlying53 rfl (size_De HE2) ?_))
      refine Calls.mono (HM.out _) ?_; rintro e w1 ⟨rfl, hb⟩
      replace hA := hA.mod (Mod.of_below hb Nil) (fun hf => hf)
      replace hB := hB.mod (Mod.of_below hb Nil) (fun hf => hf)
      replace hC := hC.mod (Mod.of_below hb Nil) (fun hf => hf)
      replace hU := hU.trans hb
      clear hb
      go_wp2_with (refine wpList_store_row rfl 53 _ _ rfl (w.heap.size + 1) E3 rfl rfl 53 E1 hB (size_De HE3) (by rw [sizeE HE1, sizeE HE3]) (oneE HE3) ?_)
      go_roundw
      case rel => exact ⟨j + 1, q, by go_num, by omega, HQ.out, hA.farRow (by omega) _, by rw [← HE3.out]; exact hB.putRow _, by rw [← HE2.out]; exact hC.farRow (by omega) _, hU.setRow (by omega) _⟩
      case measure => simp [intOf]; omega
    · have hjn : p = R := by rw [hp, HR.out]; congr 1; omega
      subst hjn
      clear hn hj hp
      go_wp2_with (first | (refine wpList_load_row rfl 53 _ rfl (w.heap.size + 1) rfl 53 (digs p) (0, 0) _ hB Tryd.underlying53 rfl (size_Dn p) ?_) | (refine wpList_store_row rfl 53 _ _ rfl (w.heap.size) (digs p) rfl rfl 53 (digs 0) hA (size_Dn p) (by rw [digs_size, digs_size]) (digs_one p) ?_))
      exact bodyPost_ret (v := .agg (digs p)) (results_cell_row Tryd.results70 _ _ (w.heap.size) 53 (digs p) (0, 0) _ rfl (hA.putRow _) Tryd.underlying53 rfl (size_Dn p)) rfl ⟨rfl, (hU.setRow (by omega) _).below⟩
end Go.Proofs.YtmamedobphlpkaaDoor
