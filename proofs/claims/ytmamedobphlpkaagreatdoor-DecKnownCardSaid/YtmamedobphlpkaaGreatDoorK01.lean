/-
  KnownDL
-/
import Derived.Test.YtmamedobphlpkaaGreatDoorD03
set_option linter.unusedSimpArgs false
set_option linter.unusedVariables false

namespace Go.Proofs.YtmamedobphlpkaaGreatDoor
open Go.RowKit

theorem lawKnown (w : World) (htab : Lib.TabIs Tryz.prog w "internal/strconv.uint64pow10" .u64 Lib.pow10Tab) (hg : 5 < w.heap.size) (hE : ErrIs w) : Calls Tryz.prog 3 #[] w fun e w' => e = .returned (.bool true) ∧ Below w.heap.size w w' := by
  refine d_in (args := []) 133 Tryz.func3 rfl rfl rfl ?_
  refine d_reg ?_
  refine h_q hfl rfl ?_
  refine h_done (d_reg ?_)
  refine h_call (ent_of Tryz.func7 (by kernel_rfl) rfl) (fun w hH => dn_any _ (1) (0) (by decide)) rfl rfl rfl rfl ?_
  refine h_call (ent_of Tryz.func7 (by kernel_rfl) rfl) (fun w hH => dn_any _ (1) (2) (by decide)) rfl rfl rfl rfl ?_
  refine h_call (ent_of Tryz.func6 (by kernel_rfl) rfl) (fun w hH => as_val (.tuple #[Dc 99 2, .int .i64 0]) (subd_any _ 1 0 1 2 (by unfold Fits; omega) (by unfold Fits; omega)) (by kernel_rfl)) rfl rfl rfl rfl ?_
  refine h_q hfl rfl ?_
  refine h_alloc zeDec rfl rfl ?_; intro g1_1
  refine h_store 0 (v := Dc 99 2) (#[hiW 99, loW 99, .int .i64 2]) tyDec.2 rfl rfl rfl rfl rfl rfl rfl rfl rfl rfl ?_
  refine h_q hfl rfl ?_
  refine h_done (d_reg ?_)
  refine h_call (ent_of Tryz.func7 (by kernel_rfl) rfl) (fun w hH => dn_any _ (5) (1) (by decide)) rfl rfl rfl rfl ?_
  refine h_call (ent_of Tryz.func8 (by kernel_rfl) rfl) (fun w hH => as_val (.tuple #[Dc (-5) 1, .int .i64 0]) (negP_any _ 5 1 (by unfold Fits; omega)) (by kernel_rfl)) rfl rfl rfl rfl ?_
  refine h_q hfl rfl ?_
  refine h_alloc zeDec rfl rfl ?_; intro g3_2
  refine h_store 0 (v := Dc (-5) 1) (#[hiW (-5), loW (-5), .int .i64 1]) tyDec.2 rfl rfl rfl rfl rfl rfl rfl rfl rfl rfl ?_
  refine h_q hfl rfl ?_
  refine h_done (d_reg ?_)
  refine h_call (ent_of Tryz.func7 (by kernel_rfl) rfl) (fun w hH => dn_any _ (150) (2) (by decide)) rfl rfl rfl rfl ?_
  refine h_call (ent_of Tryz.func7 (by kernel_rfl) rfl) (fun w hH => dn_any _ (15) (1) (by decide)) rfl rfl rfl rfl ?_
  refine h_call (ent_of Tryz.func9 (by kernel_rfl) rfl) (fun w hH => as_val (.tuple #[.int .i64 0, .int .i64 0]) (cmpV_any _ 150 2 15 1 (by unfold Fits; omega) (by unfold Fits; omega)) (by kernel_rfl)) rfl rfl rfl rfl ?_
  refine h_q hfl rfl ?_
  refine h_done (d_reg ?_)
  refine h_call (ent_of Tryz.func7 (by kernel_rfl) rfl) (fun w hH => dn_any _ (1) (1) (by decide)) rfl rfl rfl rfl ?_
  refine h_call (ent_of Tryz.func7 (by kernel_rfl) rfl) (fun w hH => dn_any _ (9) (2) (by decide)) rfl rfl rfl rfl ?_
  refine h_call (ent_of Tryz.func9 (by kernel_rfl) rfl) (fun w hH => as_val (.tuple #[.int .i64 1, .int .i64 0]) (cmpV_any _ 1 1 9 2 (by unfold Fits; omega) (by unfold Fits; omega)) (by kernel_rfl)) rfl rfl rfl rfl ?_
  refine h_q hfl rfl ?_
  refine h_done (d_reg ?_)
  refine h_call (ent_of Tryz.func7 (by kernel_rfl) rfl) (fun w hH => dn_any _ (15) (2) (by decide)) rfl rfl rfl rfl ?_
  refine h_call (ent_of Tryz.func7 (by kernel_rfl) rfl) (fun w hH => dn_any _ (5) (1) (by decide)) rfl rfl rfl rfl ?_
  refine h_call (ent_of Tryz.func10 (by kernel_rfl) rfl) (fun w hH => as_val (.tuple #[Dc 8 2, .int .i64 0]) (mulP_any _ 15 2 5 1 2 (by unfold Fits; omega) (by unfold Fits; omega)) (by kernel_rfl)) rfl rfl rfl rfl ?_
  refine h_q hfl rfl ?_
  refine h_alloc zeDec rfl rfl ?_; intro g9_3
  refine h_store 0 (v := Dc 8 2) (#[hiW 8, loW 8, .int .i64 2]) tyDec.2 rfl rfl rfl rfl rfl rfl rfl rfl rfl rfl ?_
  refine h_q hfl rfl ?_
  refine h_done (d_reg ?_)
  refine h_call (ent_of Tryz.func7 (by kernel_rfl) rfl) (fun w hH => dn_any _ (25) (1) (by decide)) rfl rfl rfl rfl ?_
  refine h_call (ent_of Tryz.func11 (by kernel_rfl) rfl) (fun w hH => as_val (.tuple #[Dc 2 0, .int .i64 0]) (rescP_any _ 25 1 0 (by unfold Fits; omega)) (by kernel_rfl)) rfl rfl rfl rfl ?_
  refine h_q hfl rfl ?_
  refine h_alloc zeDec rfl rfl ?_; intro g11_4
  refine h_store 0 (v := Dc 2 0) (#[hiW 2, loW 2, .int .i64 0]) tyDec.2 rfl rfl rfl rfl rfl rfl rfl rfl rfl rfl ?_
  refine h_q hfl rfl ?_
  refine h_done ?_
  refine WC2.keep (env' := [(0, .bool false), (1, .pointer (some ⟨g1_1, 0, none⟩)), (3, .pointer (some ⟨g3_2, 0, none⟩)), (5, .int .i64 0), (7, .int .i64 1), (9, .pointer (some ⟨g9_3, 0, none⟩)), (11, .pointer (some ⟨g11_4, 0, none⟩))]) ⟨rfl, rfl, rfl, rfl, rfl, rfl, rfl, trivial⟩ ?_
  refine d_reg ?_
  refine h_call (ent_of Tryz.func7 (by kernel_rfl) rfl) (fun w hH => dn_any _ (-35) (1) (by decide)) rfl rfl rfl rfl ?_
  refine h_call (ent_of Tryz.func11 (by kernel_rfl) rfl) (fun w hH => as_val (.tuple #[Dc (-4) 0, .int .i64 0]) (rescP_any _ (-35) 1 0 (by unfold Fits; omega)) (by kernel_rfl)) rfl rfl rfl rfl ?_
  refine h_q hfl rfl ?_
  refine h_alloc zeDec rfl rfl ?_; intro g13_5
  refine h_store 0 (v := Dc (-4) 0) (#[hiW (-4), loW (-4), .int .i64 0]) tyDec.2 rfl rfl rfl rfl rfl rfl rfl rfl rfl rfl ?_
  refine h_q hfl rfl ?_
  refine h_done (d_reg ?_)
  refine h_call (ent_of Tryz.func12 (by kernel_rfl) rfl) (fun w hH => parseDL _ (l := [48, 46, 53, 48]) (v := .tuple #[Dc 50 2, .int .i64 0]) ⟨[48, 46, 53, 48], [48], [53, 48], false, true, rfl, ⟨by decide, .inr ⟨rfl, rfl⟩⟩, by kernel_rfl⟩ (by decide) (hE.up hH.up.below)) rfl rfl rfl rfl ?_
  refine h_q hfl rfl ?_
  refine h_alloc zeDec rfl rfl ?_; intro g15_6
  refine h_store 0 (v := Dc 50 2) (#[hiW 50, loW 50, .int .i64 2]) tyDec.2 rfl rfl rfl rfl rfl rfl rfl rfl rfl rfl ?_
  refine h_q hfl rfl ?_
  refine h_done (d_reg ?_)
  refine h_call (ent_of Tryz.func12 (by kernel_rfl) rfl) (fun w hH => parseDL _ (l := [45, 48, 46, 48]) (v := .tuple #[Dc 0 0, .int .i64 23]) ⟨[48, 46, 48], [48], [48], true, true, rfl, ⟨by decide, .inr ⟨rfl, rfl⟩⟩, by kernel_rfl⟩ (by decide) (hE.up hH.up.below)) rfl rfl rfl rfl ?_
  refine h_q hfl rfl ?_
  refine h_alloc zeDec rfl rfl ?_; intro g17_7
  refine h_store 0 (v := Dc 0 0) (#[hiW 0, loW 0, .int .i64 0]) tyDec.2 rfl rfl rfl rfl rfl rfl rfl rfl rfl rfl ?_
  refine h_q hfl rfl ?_
  refine h_done (d_reg ?_)
  refine h_call (ent_of Tryz.func7 (by kernel_rfl) rfl) (fun w hH => dn_any _ (1) (19) (by decide)) rfl rfl rfl rfl ?_
  refine h_call (ent_of Tryz.func13 (by kernel_rfl) rfl) (fun w hH => textd_bad _ 1 19 (by unfold May; omega)) rfl rfl rfl rfl ?_
  refine h_q hfl rfl ?_
  refine h_done (d_seq ?_)
  refine d_par 60 11 [⟨.call, 1, fun _ => .bool true, []⟩, ⟨.quiet, 1, fun _ => .bool true, [0]⟩, ⟨.quiet, 1, fun _ => .agg #[hiW 99, loW 99, .int .i64 2], [1]⟩, ⟨.call, 2, fun _ => Dc 99 2, [1]⟩, ⟨.quiet, 2, fun _ => .bool true, [2, 3, 1]⟩, ⟨.quiet, 2, fun _ => .bool true, [1, 4]⟩, ⟨.quiet, 2, fun _ => .bool true, [5]⟩, ⟨.quiet, 2, fun _ => .agg #[hiW (-5), loW (-5), .int .i64 1], [6]⟩, ⟨.call, 3, fun _ => Dc (-5) 1, [6]⟩, ⟨.quiet, 3, fun _ => .bool true, [7, 8, 6]⟩, ⟨.quiet, 3, fun _ => .bool true, [6, 9]⟩, ⟨.quiet, 3, fun _ => .bool true, [10]⟩, ⟨.quiet, 3, fun _ => .int .i64 0, [11]⟩, ⟨.quiet, 3, fun _ => .bool true, [12, 11]⟩, ⟨.quiet, 3, fun _ => .bool true, [11, 13]⟩, ⟨.quiet, 3, fun _ => .bool true, [14]⟩, ⟨.quiet, 3, fun _ => .int .i64 1, [15]⟩, ⟨.quiet, 3, fun _ => .bool true, [16, 15]⟩, ⟨.quiet, 3, fun _ => .bool true, [15, 17]⟩, ⟨.quiet, 3, fun _ => .bool true, [18]⟩, ⟨.quiet, 3, fun _ => .agg #[hiW 8, loW 8, .int .i64 2], [19]⟩, ⟨.call, 4, fun _ => Dc 8 2, [19]⟩, ⟨.quiet, 4, fun _ => .bool true, [20, 21, 19]⟩, ⟨.quiet, 4, fun _ => .bool true, [19, 22]⟩, ⟨.quiet, 4, fun _ => .bool true, [23]⟩, ⟨.quiet, 4, fun _ => .agg #[hiW 2, loW 2, .int .i64 0], [24]⟩, ⟨.call, 5, fun _ => Dc 2 0, [24]⟩, ⟨.quiet, 5, fun _ => .bool true, [25, 26, 24]⟩, ⟨.quiet, 5, fun _ => .bool true, [24, 27]⟩, ⟨.quiet, 5, fun _ => .bool true, [28]⟩, ⟨.quiet, 5, fun _ => .agg #[hiW (-4), loW (-4), .int .i64 0], [29]⟩, ⟨.call, 6, fun _ => Dc (-4) 0, [29]⟩, ⟨.quiet, 6, fun _ => .bool true, [30, 31, 29]⟩, ⟨.quiet, 6, fun _ => .bool true, [29, 32]⟩, ⟨.quiet, 6, fun _ => .bool true, [33]⟩, ⟨.quiet, 6, fun _ => .agg #[hiW 50, loW 50, .int .i64 2], [34]⟩, ⟨.call, 7, fun _ => Dc 50 2, [34]⟩, ⟨.quiet, 7, fun _ => .bool true, [35, 36, 34]⟩, ⟨.quiet, 7, fun _ => .bool true, [34, 37]⟩, ⟨.quiet, 7, fun _ => .bool true, [38]⟩, ⟨.quiet, 7, fun _ => .int .i64 0, [39]⟩, ⟨.quiet, 7, fun _ => .bool true, [40, 39]⟩, ⟨.quiet, 7, fun _ => .bool true, [39, 41]⟩, ⟨.quiet, 7, fun _ => .bool true, [42]⟩, ⟨.quiet, 7, fun _ => .int .i64 23, [43]⟩, ⟨.quiet, 7, fun _ => .bool true, [44, 43]⟩, ⟨.quiet, 7, fun _ => .bool true, [43, 45]⟩, ⟨.quiet, 7, fun _ => .bool true, [46]⟩, ⟨.quiet, 7, fun _ => .int .i64 21, [47]⟩, ⟨.quiet, 7, fun _ => .bool true, [48, 47]⟩, ⟨.quiet, 7, fun _ => .bool true, [47, 49]⟩, ⟨.quiet, 7, fun _ => .bool true, [50]⟩, ⟨.call, 8, fun _ => Dc 1 18, [51]⟩, ⟨.call, 9, fun _ => .bool true, [52, 51]⟩, ⟨.quiet, 9, fun _ => .bool true, [51, 53]⟩, ⟨.quiet, 9, fun _ => .bool true, [54]⟩, ⟨.call, 10, fun _ => Dc 1 (-1), [55]⟩, ⟨.call, 11, fun _ => .bool false, [56, 55]⟩, ⟨.quiet, 11, fun _ => .bool true, [57, 55]⟩, ⟨.quiet, 11, fun _ => .bool true, [55, 58]⟩] [(0, .bool false), (1, .pointer (some ⟨g1_1, 0, none⟩)), (3, .pointer (some ⟨g3_2, 0, none⟩)), (5, .int .i64 0), (7, .int .i64 1), (9, .pointer (some ⟨g9_3, 0, none⟩)), (11, .pointer (some ⟨g11_4, 0, none⟩)), (13, .pointer (some ⟨g13_5, 0, none⟩)), (15, .pointer (some ⟨g15_6, 0, none⟩)), (16, .int .i64 0), (18, .int .i64 23), (20, .int .i64 21)] (by kernel_rfl) (by kernel_rfl) ⟨rfl, rfl, rfl, rfl, rfl, rfl, rfl, rfl, rfl, rfl, rfl, rfl, trivial⟩ ?_ ?_
  · skip
    refine o_cons (o_call (ent_of Tryz.func14 (by kernel_rfl) rfl) (fun w hU => known3_any _ (tab_below htab hU.below hg) (Nat.lt_of_lt_of_le hg hU.size)) (fun _ _ => rfl) rfl (fun _ _ => rfl) (fun _ _ => rfl)) ?_
    refine o_cons (o_q hfl (fun _ _ => rfl) (fun _ _ => rfl)) ?_
    refine o_cons (o_load 6 (reads_agg (cs := [hiW 99, loW 99, .int .i64 2]) tyDec rfl) (fun _ _ => rfl) rfl (fun _ _ => rfl) rfl) ?_
    refine o_cons (o_call (ent_of Tryz.func7 (by kernel_rfl) rfl) (fun w hU => dn_any _ (99) (2) (by decide)) (fun _ _ => rfl) rfl (fun _ _ => rfl) (fun _ _ => rfl)) ?_
    refine o_cons (o_eqs (eqD_same _ _ _) (fun _ _ => rfl) rfl (fun _ _ => rfl) (fun _ _ => rfl)) ?_
    refine o_cons (o_q hfl (fun _ _ => rfl) (fun _ _ => rfl)) ?_
    refine o_cons (o_q hfl (fun _ _ => rfl) (fun _ _ => rfl)) ?_
    refine o_cons (o_load 5 (reads_agg (cs := [hiW (-5), loW (-5), .int .i64 1]) tyDec rfl) (fun _ _ => rfl) rfl (fun _ _ => rfl) rfl) ?_
    refine o_cons (o_call (ent_of Tryz.func7 (by kernel_rfl) rfl) (fun w hU => dn_any _ (-5) (1) (by decide)) (fun _ _ => rfl) rfl (fun _ _ => rfl) (fun _ _ => rfl)) ?_
    refine o_cons (o_eqs (eqD_same _ _ _) (fun _ _ => rfl) rfl (fun _ _ => rfl) (fun _ _ => rfl)) ?_
    refine o_cons (o_q hfl (fun _ _ => rfl) (fun _ _ => rfl)) ?_
    refine o_cons (o_q hfl (fun _ _ => rfl) (fun _ _ => rfl)) ?_
    refine o_cons (o_q hfl (fun _ _ => rfl) (fun _ _ => rfl)) ?_
    refine o_cons (o_cmp (cmp_eql_t (by decide)) (fun _ _ => rfl) rfl (fun _ _ => rfl) (fun _ _ => rfl)) ?_
    refine o_cons (o_q hfl (fun _ _ => rfl) (fun _ _ => rfl)) ?_
    refine o_cons (o_q hfl (fun _ _ => rfl) (fun _ _ => rfl)) ?_
    refine o_cons (o_q hfl (fun _ _ => rfl) (fun _ _ => rfl)) ?_
    refine o_cons (o_cmp (cmp_eql_t (by decide)) (fun _ _ => rfl) rfl (fun _ _ => rfl) (fun _ _ => rfl)) ?_
    refine o_cons (o_q hfl (fun _ _ => rfl) (fun _ _ => rfl)) ?_
    refine o_cons (o_q hfl (fun _ _ => rfl) (fun _ _ => rfl)) ?_
    refine o_cons (o_load 4 (reads_agg (cs := [hiW 8, loW 8, .int .i64 2]) tyDec rfl) (fun _ _ => rfl) rfl (fun _ _ => rfl) rfl) ?_
    refine o_cons (o_call (ent_of Tryz.func7 (by kernel_rfl) rfl) (fun w hU => dn_any _ (8) (2) (by decide)) (fun _ _ => rfl) rfl (fun _ _ => rfl) (fun _ _ => rfl)) ?_
    refine o_cons (o_eqs (eqD_same _ _ _) (fun _ _ => rfl) rfl (fun _ _ => rfl) (fun _ _ => rfl)) ?_
    refine o_cons (o_q hfl (fun _ _ => rfl) (fun _ _ => rfl)) ?_
    refine o_cons (o_q hfl (fun _ _ => rfl) (fun _ _ => rfl)) ?_
    refine o_cons (o_load 3 (reads_agg (cs := [hiW 2, loW 2, .int .i64 0]) tyDec rfl) (fun _ _ => rfl) rfl (fun _ _ => rfl) rfl) ?_
    refine o_cons (o_call (ent_of Tryz.func7 (by kernel_rfl) rfl) (fun w hU => dn_any _ (2) (0) (by decide)) (fun _ _ => rfl) rfl (fun _ _ => rfl) (fun _ _ => rfl)) ?_
    refine o_cons (o_eqs (eqD_same _ _ _) (fun _ _ => rfl) rfl (fun _ _ => rfl) (fun _ _ => rfl)) ?_
    refine o_cons (o_q hfl (fun _ _ => rfl) (fun _ _ => rfl)) ?_
    refine o_cons (o_q hfl (fun _ _ => rfl) (fun _ _ => rfl)) ?_
    refine o_cons (o_load 2 (reads_agg (cs := [hiW (-4), loW (-4), .int .i64 0]) tyDec rfl) (fun _ _ => rfl) rfl (fun _ _ => rfl) rfl) ?_
    refine o_cons (o_call (ent_of Tryz.func7 (by kernel_rfl) rfl) (fun w hU => dn_any _ (-4) (0) (by decide)) (fun _ _ => rfl) rfl (fun _ _ => rfl) (fun _ _ => rfl)) ?_
    refine o_cons (o_eqs (eqD_same _ _ _) (fun _ _ => rfl) rfl (fun _ _ => rfl) (fun _ _ => rfl)) ?_
    refine o_cons (o_q hfl (fun _ _ => rfl) (fun _ _ => rfl)) ?_
    refine o_cons (o_q hfl (fun _ _ => rfl) (fun _ _ => rfl)) ?_
    refine o_cons (o_load 1 (reads_agg (cs := [hiW 50, loW 50, .int .i64 2]) tyDec rfl) (fun _ _ => rfl) rfl (fun _ _ => rfl) rfl) ?_
    refine o_cons (o_call (ent_of Tryz.func7 (by kernel_rfl) rfl) (fun w hU => dn_any _ (50) (2) (by decide)) (fun _ _ => rfl) rfl (fun _ _ => rfl) (fun _ _ => rfl)) ?_
    refine o_cons (o_eqs (eqD_same _ _ _) (fun _ _ => rfl) rfl (fun _ _ => rfl) (fun _ _ => rfl)) ?_
    refine o_cons (o_q hfl (fun _ _ => rfl) (fun _ _ => rfl)) ?_
    refine o_cons (o_q hfl (fun _ _ => rfl) (fun _ _ => rfl)) ?_
    refine o_cons (o_q hfl (fun _ _ => rfl) (fun _ _ => rfl)) ?_
    refine o_cons (o_cmp (cmp_eql_t (by decide)) (fun _ _ => rfl) rfl (fun _ _ => rfl) (fun _ _ => rfl)) ?_
    refine o_cons (o_q hfl (fun _ _ => rfl) (fun _ _ => rfl)) ?_
    refine o_cons (o_q hfl (fun _ _ => rfl) (fun _ _ => rfl)) ?_
    refine o_cons (o_q hfl (fun _ _ => rfl) (fun _ _ => rfl)) ?_
    refine o_cons (o_cmp (cmp_eql_t (by decide)) (fun _ _ => rfl) rfl (fun _ _ => rfl) (fun _ _ => rfl)) ?_
    refine o_cons (o_q hfl (fun _ _ => rfl) (fun _ _ => rfl)) ?_
    refine o_cons (o_q hfl (fun _ _ => rfl) (fun _ _ => rfl)) ?_
    refine o_cons (o_q hfl (fun _ _ => rfl) (fun _ _ => rfl)) ?_
    refine o_cons (o_cmp (cmp_eql_t (by decide)) (fun _ _ => rfl) rfl (fun _ _ => rfl) (fun _ _ => rfl)) ?_
    refine o_cons (o_q hfl (fun _ _ => rfl) (fun _ _ => rfl)) ?_
    refine o_cons (o_q hfl (fun _ _ => rfl) (fun _ _ => rfl)) ?_
    refine o_cons (o_call (ent_of Tryz.func7 (by kernel_rfl) rfl) (fun w hU => dn_any _ (1) (18) (by decide)) (fun _ _ => rfl) rfl (fun _ _ => rfl) (fun _ _ => rfl)) ?_
    refine o_cons (o_call (ent_of Tryz.func15 (by kernel_rfl) rfl) (fun w hU => as_val (.bool true) (right_any _ 1 18) (by kernel_rfl)) (fun _ _ => rfl) rfl (fun _ _ => rfl) (fun _ _ => rfl)) ?_
    refine o_cons (o_q hfl (fun _ _ => rfl) (fun _ _ => rfl)) ?_
    refine o_cons (o_q hfl (fun _ _ => rfl) (fun _ _ => rfl)) ?_
    refine o_cons (o_call (ent_of Tryz.func7 (by kernel_rfl) rfl) (fun w hU => dn_any _ (1) (-1) (by decide)) (fun _ _ => rfl) rfl (fun _ _ => rfl) (fun _ _ => rfl)) ?_
    refine o_cons (o_call (ent_of Tryz.func15 (by kernel_rfl) rfl) (fun w hU => as_val (.bool false) (right_any _ 1 (-1)) (by kernel_rfl)) (fun _ _ => rfl) rfl (fun _ _ => rfl) (fun _ _ => rfl)) ?_
    refine o_cons (o_q hfl (fun _ _ => rfl) (fun _ _ => rfl)) ?_
    refine o_cons (o_q hfl (fun _ _ => rfl) (fun _ _ => rfl)) ?_
    exact o_nil
  intro σ8 gs8
  refine WL2.keep (env' := [(0, .bool false), (132, .bool true)]) ⟨rfl, rfl, trivial⟩ ?_
  refine h_q hfl rfl ?_
  refine h_nil (f_to (d_ret ?_))
  exact f_fin1 (.tmp rfl) (fun w h => ⟨rfl, h.up.below⟩) rfl
end Go.Proofs.YtmamedobphlpkaaGreatDoor
