/-
  KnownL
-/
import Derived.Test.YtfalllekhcocgaaDoorA08
import Derived.Test.YtfalllekhcocgaaDoorA09
import Derived.Test.YtfalllekhcocgaaDoorA11
import Derived.Test.YtfalllekhcocgaaDoorC01
set_option linter.unusedSimpArgs false
set_option linter.unusedVariables false

namespace Go.Proofs.YtfalllekhcocgaaDoor
open Go.RowKit

theorem as_val {f : FuncId} {args : Array Value} {w : World} {v0 : Value} (v : Value) (hc : Calls Tryd.prog f args w fun e w' => e = .returned v0 ∧ Below w.heap.size w w') (h : v0 = v) : Calls Tryd.prog f args w fun e w' => e = .returned v ∧ Below w.heap.size w w' := h ▸ hc
theorem textLeast : textZ (-170141183460469231731687303715884105728) = [45, 49, 55, 48, 49, 52, 49, 49, 56, 51, 52, 54, 48, 52, 54, 57, 50, 51, 49, 55, 51, 49, 54, 56, 55, 51, 48, 51, 55, 49, 53, 56, 56, 52, 49, 48, 53, 55, 50, 56] := by
  have h := dd_nv (l := [49, 55, 48, 49, 52, 49, 49, 56, 51, 52, 54, 48, 52, 54, 57, 50, 51, 49, 55, 51, 49, 54, 56, 55, 51, 48, 51, 55, 49, 53, 56, 56, 52, 49, 48, 53, 55, 50, 56]) (by decide)
  have e : nv [49, 55, 48, 49, 52, 49, 49, 56, 51, 52, 54, 48, 52, 54, 57, 50, 51, 49, 55, 51, 49, 54, 56, 55, 51, 48, 51, 55, 49, 53, 56, 56, 52, 49, 48, 53, 55, 50, 56] = 170141183460469231731687303715884105728 := by kernel_rfl
  rw [e] at h
  unfold textZ
  rw [if_pos (by decide), show ((-170141183460469231731687303715884105728 : Int)).natAbs = 170141183460469231731687303715884105728 by decide, h]

theorem lawKnown (w : World) (htab : Lib.TabIs Tryd.prog w "internal/strconv.uint64pow10" .u64 Lib.pow10Tab) (hg : 2 < w.heap.size) (hE : ErrIs w) : Calls Tryd.prog 3 #[] w fun e w' => e = .returned (.bool true) ∧ Below w.heap.size w w' := by
  refine d_in (args := []) 149 Tryd.func3 rfl rfl rfl ?_
  refine d_reg ?_
  refine h_q hflW rfl ?_
  refine h_done (d_reg ?_)
  refine h_build (cs := #[hiW (-170141183460469231731687303715884105728), loW (-170141183460469231731687303715884105728)]) (by kernel_rfl) rfl rfl rfl ?_
  refine h_alloc zeWide rfl rfl ?_; intro g1_1
  refine h_store 0 (v := .agg #[hiW (-170141183460469231731687303715884105728), loW (-170141183460469231731687303715884105728)]) (#[hiW (-170141183460469231731687303715884105728), loW (-170141183460469231731687303715884105728)]) tyWide.2 rfl rfl rfl rfl rfl rfl rfl rfl rfl rfl ?_
  refine h_done (d_reg ?_)
  refine h_load 0 (v := .agg #[hiW (-170141183460469231731687303715884105728), loW (-170141183460469231731687303715884105728)]) (reads_agg (cs := [hiW (-170141183460469231731687303715884105728), loW (-170141183460469231731687303715884105728)]) tyWide rfl) rfl rfl rfl rfl ?_
  refine h_call (ent_of Tryd.func14 (by kernel_rfl) rfl) (fun w hH => as_val (.tuple #[WV 0, .int .i64 20]) (neg_any _ (-170141183460469231731687303715884105728) (by unfold Fits; omega)) (by kernel_rfl)) rfl rfl rfl rfl ?_
  refine h_q hflW rfl ?_
  refine h_alloc zeWide rfl rfl ?_; intro g2_2
  refine h_store 0 (v := WV 0) (#[hiW 0, loW 0]) tyWide.2 rfl rfl rfl rfl rfl rfl rfl rfl rfl rfl ?_
  refine h_q hflW rfl ?_
  refine h_done (d_reg ?_)
  refine h_build (cs := #[hiW 18446744073709551616, loW 18446744073709551616]) (by kernel_rfl) rfl rfl rfl ?_
  refine h_build (cs := #[hiW 9223372036854775808, loW 9223372036854775808]) (by kernel_rfl) rfl rfl rfl ?_
  refine h_call (ent_of Tryd.func15 (by kernel_rfl) rfl) (fun w hH => as_val (.tuple #[WV 0, .int .i64 20]) (mul_any _ 18446744073709551616 9223372036854775808 (by unfold Fits; omega) (by unfold Fits; omega)) (by kernel_rfl)) rfl rfl rfl rfl ?_
  refine h_q hflW rfl ?_
  refine h_alloc zeWide rfl rfl ?_; intro g4_3
  refine h_store 0 (v := WV 0) (#[hiW 0, loW 0]) tyWide.2 rfl rfl rfl rfl rfl rfl rfl rfl rfl rfl ?_
  refine h_q hflW rfl ?_
  refine h_done (d_reg ?_)
  refine h_build (cs := #[hiW 9223372036854775808, loW 9223372036854775808]) (by kernel_rfl) rfl rfl rfl ?_
  refine h_build (cs := #[hiW 9223372036854775808, loW 9223372036854775808]) (by kernel_rfl) rfl rfl rfl ?_
  refine h_call (ent_of Tryd.func15 (by kernel_rfl) rfl) (fun w hH => as_val (.tuple #[WV 85070591730234615865843651857942052864, .int .i64 0]) (mul_any _ 9223372036854775808 9223372036854775808 (by unfold Fits; omega) (by unfold Fits; omega)) (by kernel_rfl)) rfl rfl rfl rfl ?_
  refine h_q hflW rfl ?_
  refine h_alloc zeWide rfl rfl ?_; intro g6_4
  refine h_store 0 (v := WV 85070591730234615865843651857942052864) (#[hiW 85070591730234615865843651857942052864, loW 85070591730234615865843651857942052864]) tyWide.2 rfl rfl rfl rfl rfl rfl rfl rfl rfl rfl ?_
  refine h_q hflW rfl ?_
  refine h_done (d_reg ?_)
  refine h_call (ent_of Tryd.func17 (by kernel_rfl) rfl) (fun w hH => of_any _ (1) (by decide)) rfl rfl rfl rfl ?_
  refine h_call (ent_of Tryd.func17 (by kernel_rfl) rfl) (fun w hH => of_any _ (0) (by decide)) rfl rfl rfl rfl ?_
  refine h_call (ent_of Tryd.func16 (by kernel_rfl) rfl) (fun w hH => as_val (.tuple #[WV 0, WV 0, .int .i64 22]) (divc_any _ 1 0 (by unfold Fits; omega) (by unfold Fits; omega)) (by kernel_rfl)) rfl rfl rfl rfl ?_
  refine h_q hflW rfl ?_
  refine h_alloc zeWide rfl rfl ?_; intro g8_5
  refine h_alloc zeWide rfl rfl ?_; intro g9_6
  refine h_store 1 (v := WV 0) (#[hiW 0, loW 0]) tyWide.2 rfl rfl rfl rfl rfl rfl rfl rfl rfl rfl ?_
  refine h_store 0 (v := WV 0) (#[hiW 0, loW 0]) tyWide.2 rfl rfl rfl rfl rfl rfl rfl rfl rfl rfl ?_
  refine h_q hflW rfl ?_
  refine h_done (d_reg ?_)
  refine h_call (ent_of Tryd.func17 (by kernel_rfl) rfl) (fun w hH => of_any _ (25) (by decide)) rfl rfl rfl rfl ?_
  refine h_call (ent_of Tryd.func17 (by kernel_rfl) rfl) (fun w hH => of_any _ (1) (by decide)) rfl rfl rfl rfl ?_
  refine h_call (ent_of Tryd.func18 (by kernel_rfl) rfl) (fun w hH => as_val (.tuple #[WV 2, .int .i64 0]) (scaled_any _ 25 1 1 (by unfold Fits; omega) (by unfold Fits; omega) (by decide)) (by kernel_rfl)) rfl rfl rfl rfl ?_
  refine h_q hflW rfl ?_
  refine h_alloc zeWide rfl rfl ?_; intro g11_7
  refine h_store 0 (v := WV 2) (#[hiW 2, loW 2]) tyWide.2 rfl rfl rfl rfl rfl rfl rfl rfl rfl rfl ?_
  refine h_q hflW rfl ?_
  refine h_done (d_reg ?_)
  refine h_call (ent_of Tryd.func17 (by kernel_rfl) rfl) (fun w hH => of_any _ (-25) (by decide)) rfl rfl rfl rfl ?_
  refine h_call (ent_of Tryd.func17 (by kernel_rfl) rfl) (fun w hH => of_any _ (1) (by decide)) rfl rfl rfl rfl ?_
  refine h_call (ent_of Tryd.func18 (by kernel_rfl) rfl) (fun w hH => as_val (.tuple #[WV (-2), .int .i64 0]) (scaled_any _ (-25) 1 1 (by unfold Fits; omega) (by unfold Fits; omega) (by decide)) (by kernel_rfl)) rfl rfl rfl rfl ?_
  refine h_q hflW rfl ?_
  refine h_alloc zeWide rfl rfl ?_; intro g13_8
  refine h_store 0 (v := WV (-2)) (#[hiW (-2), loW (-2)]) tyWide.2 rfl rfl rfl rfl rfl rfl rfl rfl rfl rfl ?_
  refine h_q hflW rfl ?_
  refine h_done ?_
  refine WC2.keep (env' := [(0, .bool false), (1, .pointer (some ⟨g1_1, 0, none⟩)), (3, .int .i64 20), (5, .int .i64 20), (6, .pointer (some ⟨g6_4, 0, none⟩)), (7, .int .i64 0), (10, .int .i64 22), (11, .pointer (some ⟨g11_7, 0, none⟩)), (13, .pointer (some ⟨g13_8, 0, none⟩))]) ⟨rfl, rfl, rfl, rfl, rfl, rfl, rfl, rfl, rfl, trivial⟩ ?_
  refine d_reg ?_
  refine h_call (ent_of Tryd.func17 (by kernel_rfl) rfl) (fun w hH => of_any _ (1) (by decide)) rfl rfl rfl rfl ?_
  refine h_call (ent_of Tryd.func17 (by kernel_rfl) rfl) (fun w hH => of_any _ (1) (by decide)) rfl rfl rfl rfl ?_
  refine h_call (ent_of Tryd.func18 (by kernel_rfl) rfl) (fun w hH => as_val (.tuple #[WV 0, .int .i64 1]) (scaled_bad _ 1 1 37 (by decide)) (by kernel_rfl)) rfl rfl rfl rfl ?_
  refine h_q hflW rfl ?_
  refine h_alloc zeWide rfl rfl ?_; intro g15_9
  refine h_store 0 (v := WV 0) (#[hiW 0, loW 0]) tyWide.2 rfl rfl rfl rfl rfl rfl rfl rfl rfl rfl ?_
  refine h_q hflW rfl ?_
  refine h_done (d_reg ?_)
  refine h_call (ent_of Tryd.func19 (by kernel_rfl) rfl) (fun w hH => parseL _ (l := [45, 48]) (v := .tuple #[WV 0, .int .i64 23]) (by kernel_rfl) (by decide) (hE.up hH.up.below)) rfl rfl rfl rfl ?_
  refine h_q hflW rfl ?_
  refine h_alloc zeWide rfl rfl ?_; intro g17_10
  refine h_store 0 (v := WV 0) (#[hiW 0, loW 0]) tyWide.2 rfl rfl rfl rfl rfl rfl rfl rfl rfl rfl ?_
  refine h_q hflW rfl ?_
  refine h_done (d_reg ?_)
  refine h_call (ent_of Tryd.func19 (by kernel_rfl) rfl) (fun w hH => parseL _ (l := [48, 48, 55]) (v := .tuple #[WV 0, .int .i64 23]) (by kernel_rfl) (by decide) (hE.up hH.up.below)) rfl rfl rfl rfl ?_
  refine h_q hflW rfl ?_
  refine h_alloc zeWide rfl rfl ?_; intro g19_11
  refine h_store 0 (v := WV 0) (#[hiW 0, loW 0]) tyWide.2 rfl rfl rfl rfl rfl rfl rfl rfl rfl rfl ?_
  refine h_q hflW rfl ?_
  refine h_done (d_reg ?_)
  refine h_q hflW rfl ?_
  refine h_done (d_reg ?_)
  refine h_q hflW rfl ?_
  refine h_call (ent_of Tryd.func19 (by kernel_rfl) rfl) (fun w hH => parseL _ (l := [45, 49, 55, 48, 49, 52, 49, 49, 56, 51, 52, 54, 48, 52, 54, 57, 50, 51, 49, 55, 51, 49, 54, 56, 55, 51, 48, 51, 55, 49, 53, 56, 56, 52, 49, 48, 53, 55, 50, 56]) (v := .tuple #[WV (-170141183460469231731687303715884105728), .int .i64 0]) (by kernel_rfl) (by decide) (hE.up hH.up.below)) rfl rfl rfl rfl ?_
  refine h_q hflW rfl ?_
  refine h_alloc zeWide rfl rfl ?_; intro g22_12
  refine h_store 0 (v := WV (-170141183460469231731687303715884105728)) (#[hiW (-170141183460469231731687303715884105728), loW (-170141183460469231731687303715884105728)]) tyWide.2 rfl rfl rfl rfl rfl rfl rfl rfl rfl rfl ?_
  refine h_q hflW rfl ?_
  refine h_done (d_reg ?_)
  refine h_call (ent_of Tryd.func19 (by kernel_rfl) rfl) (fun w hH => parseL _ (l := [49, 55, 48, 49, 52, 49, 49, 56, 51, 52, 54, 48, 52, 54, 57, 50, 51, 49, 55, 51, 49, 54, 56, 55, 51, 48, 51, 55, 49, 53, 56, 56, 52, 49, 48, 53, 55, 50, 56]) (v := .tuple #[WV 0, .int .i64 20]) (by kernel_rfl) (by decide) (hE.up hH.up.below)) rfl rfl rfl rfl ?_
  refine h_q hflW rfl ?_
  refine h_alloc zeWide rfl rfl ?_; intro g24_13
  refine h_store 0 (v := WV 0) (#[hiW 0, loW 0]) tyWide.2 rfl rfl rfl rfl rfl rfl rfl rfl rfl rfl ?_
  refine h_q hflW rfl ?_
  refine h_done (d_seq ?_)
  refine d_par 63 4 [⟨.call, 1, fun _ => .bool true, []⟩, ⟨.quiet, 1, fun _ => .bool true, [0]⟩, ⟨.quiet, 1, fun _ => .int .i64 20, [1]⟩, ⟨.quiet, 1, fun _ => .bool true, [2, 1]⟩, ⟨.quiet, 1, fun _ => .bool true, [1, 3]⟩, ⟨.quiet, 1, fun _ => .bool true, [4]⟩, ⟨.quiet, 1, fun _ => .int .i64 20, [5]⟩, ⟨.quiet, 1, fun _ => .bool true, [6, 5]⟩, ⟨.quiet, 1, fun _ => .bool true, [5, 7]⟩, ⟨.quiet, 1, fun _ => .bool true, [8]⟩, ⟨.quiet, 1, fun _ => .agg #[hiW 85070591730234615865843651857942052864, loW 85070591730234615865843651857942052864], [9]⟩, ⟨.quiet, 1, fun _ => .agg #[hiW 85070591730234615865843651857942052864, loW 85070591730234615865843651857942052864], [9]⟩, ⟨.quiet, 1, fun _ => .bool true, [10, 11, 9]⟩, ⟨.quiet, 1, fun _ => .bool true, [9, 12]⟩, ⟨.quiet, 1, fun _ => .bool true, [13]⟩, ⟨.quiet, 1, fun _ => .int .i64 0, [14]⟩, ⟨.quiet, 1, fun _ => .bool true, [15, 14]⟩, ⟨.quiet, 1, fun _ => .bool true, [14, 16]⟩, ⟨.quiet, 1, fun _ => .bool true, [17]⟩, ⟨.quiet, 1, fun _ => .int .i64 22, [18]⟩, ⟨.quiet, 1, fun _ => .bool true, [19, 18]⟩, ⟨.quiet, 1, fun _ => .bool true, [18, 20]⟩, ⟨.quiet, 1, fun _ => .bool true, [21]⟩, ⟨.quiet, 1, fun _ => .agg #[hiW 2, loW 2], [22]⟩, ⟨.call, 2, fun _ => WV 2, [22]⟩, ⟨.quiet, 2, fun _ => .bool true, [23, 24, 22]⟩, ⟨.quiet, 2, fun _ => .bool true, [22, 25]⟩, ⟨.quiet, 2, fun _ => .bool true, [26]⟩, ⟨.quiet, 2, fun _ => .agg #[hiW (-2), loW (-2)], [27]⟩, ⟨.call, 3, fun _ => WV (-2), [27]⟩, ⟨.quiet, 3, fun _ => .bool true, [28, 29, 27]⟩, ⟨.quiet, 3, fun _ => .bool true, [27, 30]⟩, ⟨.quiet, 3, fun _ => .bool true, [31]⟩, ⟨.quiet, 3, fun _ => .int .i64 1, [32]⟩, ⟨.quiet, 3, fun _ => .bool true, [33, 32]⟩, ⟨.quiet, 3, fun _ => .bool true, [32, 34]⟩, ⟨.quiet, 3, fun _ => .bool true, [35]⟩, ⟨.quiet, 3, fun _ => .int .i64 23, [36]⟩, ⟨.quiet, 3, fun _ => .bool true, [37, 36]⟩, ⟨.quiet, 3, fun _ => .bool true, [36, 38]⟩, ⟨.quiet, 3, fun _ => .bool true, [39]⟩, ⟨.quiet, 3, fun _ => .int .i64 23, [40]⟩, ⟨.quiet, 3, fun _ => .bool true, [41, 40]⟩, ⟨.quiet, 3, fun _ => .bool true, [40, 42]⟩, ⟨.quiet, 3, fun _ => .bool true, [43]⟩, ⟨.quiet, 3, fun _ => .agg #[hiW (-170141183460469231731687303715884105728), loW (-170141183460469231731687303715884105728)], [44]⟩, ⟨.quiet, 3, fun _ => .agg #[hiW (-170141183460469231731687303715884105728), loW (-170141183460469231731687303715884105728)], [44]⟩, ⟨.quiet, 3, fun _ => .bool true, [45, 46, 44]⟩, ⟨.quiet, 3, fun _ => .bool true, [44, 47]⟩, ⟨.quiet, 3, fun _ => .bool true, [48]⟩, ⟨.quiet, 3, fun _ => .int .i64 0, [49]⟩, ⟨.quiet, 3, fun _ => .bool true, [50, 49]⟩, ⟨.quiet, 3, fun _ => .bool true, [49, 51]⟩, ⟨.quiet, 3, fun _ => .bool true, [52]⟩, ⟨.quiet, 3, fun _ => .agg #[hiW (-170141183460469231731687303715884105728), loW (-170141183460469231731687303715884105728)], [53]⟩, ⟨.call, 4, fun _ => .string (bs ([45, 49, 55, 48, 49, 52, 49, 49, 56, 51, 52, 54, 48, 52, 54, 57, 50, 51, 49, 55, 51, 49, 54, 56, 55, 51, 48, 51, 55, 49, 53, 56, 56, 52, 49, 48, 53, 55, 50, 56])), [54, 53]⟩, ⟨.quiet, 3, fun _ => .string (bs ([45, 49, 55, 48, 49, 52, 49, 49, 56, 51, 52, 54, 48, 52, 54, 57, 50, 51, 49, 55, 51, 49, 54, 56, 55, 51, 48, 51, 55, 49, 53, 56, 56, 52, 49, 48, 53, 55, 50, 56])), [53]⟩, ⟨.quiet, 4, fun _ => .bool true, [55, 56, 53]⟩, ⟨.quiet, 4, fun _ => .bool true, [53, 57]⟩, ⟨.quiet, 4, fun _ => .bool true, [58]⟩, ⟨.quiet, 4, fun _ => .int .i64 20, [59]⟩, ⟨.quiet, 4, fun _ => .bool true, [60, 59]⟩, ⟨.quiet, 4, fun _ => .bool true, [59, 61]⟩] [(0, .bool false), (1, .pointer (some ⟨g1_1, 0, none⟩)), (3, .int .i64 20), (5, .int .i64 20), (6, .pointer (some ⟨g6_4, 0, none⟩)), (7, .int .i64 0), (10, .int .i64 22), (11, .pointer (some ⟨g11_7, 0, none⟩)), (13, .pointer (some ⟨g13_8, 0, none⟩)), (16, .int .i64 1), (18, .int .i64 23), (20, .int .i64 23), (21, .string (bs ([45, 49, 55, 48, 49, 52, 49, 49, 56, 51, 52, 54, 48, 52, 54, 57, 50, 51, 49, 55, 51, 49, 54, 56, 55, 51, 48, 51, 55, 49, 53, 56, 56, 52, 49, 48, 53, 55, 50, 56]))), (22, .pointer (some ⟨g22_12, 0, none⟩)), (23, .int .i64 0), (25, .int .i64 20)] (by kernel_rfl) (by kernel_rfl) ⟨rfl, rfl, rfl, rfl, rfl, rfl, rfl, rfl, rfl, rfl, rfl, rfl, rfl, rfl, rfl, rfl, trivial⟩ ?_ ?_
  · skip
    refine o_cons (o_call (ent_of Tryd.func20 (by kernel_rfl) rfl) (fun w hU => known_any _ (tab_below htab hU.below hg) (Nat.lt_of_lt_of_le hg hU.size)) (fun _ _ => rfl) rfl (fun _ _ => rfl) (fun _ _ => rfl)) ?_
    refine o_cons (o_q hflW (fun _ _ => rfl) (fun _ _ => rfl)) ?_
    refine o_cons (o_q hflW (fun _ _ => rfl) (fun _ _ => rfl)) ?_
    refine o_cons (o_cmp (cmp_eql_t (by decide)) (fun _ _ => rfl) rfl (fun _ _ => rfl) (fun _ _ => rfl)) ?_
    refine o_cons (o_q hflW (fun _ _ => rfl) (fun _ _ => rfl)) ?_
    refine o_cons (o_q hflW (fun _ _ => rfl) (fun _ _ => rfl)) ?_
    refine o_cons (o_q hflW (fun _ _ => rfl) (fun _ _ => rfl)) ?_
    refine o_cons (o_cmp (cmp_eql_t (by decide)) (fun _ _ => rfl) rfl (fun _ _ => rfl) (fun _ _ => rfl)) ?_
    refine o_cons (o_q hflW (fun _ _ => rfl) (fun _ _ => rfl)) ?_
    refine o_cons (o_q hflW (fun _ _ => rfl) (fun _ _ => rfl)) ?_
    refine o_cons (o_load 9 (reads_agg (cs := [hiW 85070591730234615865843651857942052864, loW 85070591730234615865843651857942052864]) tyWide rfl) (fun _ _ => rfl) rfl (fun _ _ => rfl) rfl) ?_
    refine o_cons (o_build (cs := #[hiW 85070591730234615865843651857942052864, loW 85070591730234615865843651857942052864]) (by kernel_rfl) (fun _ _ => rfl) rfl (fun _ _ => rfl)) ?_
    refine o_cons (o_eqs (eqW_same _ _) (fun _ _ => rfl) rfl (fun _ _ => rfl) (fun _ _ => rfl)) ?_
    refine o_cons (o_q hflW (fun _ _ => rfl) (fun _ _ => rfl)) ?_
    refine o_cons (o_q hflW (fun _ _ => rfl) (fun _ _ => rfl)) ?_
    refine o_cons (o_q hflW (fun _ _ => rfl) (fun _ _ => rfl)) ?_
    refine o_cons (o_cmp (cmp_eql_t (by decide)) (fun _ _ => rfl) rfl (fun _ _ => rfl) (fun _ _ => rfl)) ?_
    refine o_cons (o_q hflW (fun _ _ => rfl) (fun _ _ => rfl)) ?_
    refine o_cons (o_q hflW (fun _ _ => rfl) (fun _ _ => rfl)) ?_
    refine o_cons (o_q hflW (fun _ _ => rfl) (fun _ _ => rfl)) ?_
    refine o_cons (o_cmp (cmp_eql_t (by decide)) (fun _ _ => rfl) rfl (fun _ _ => rfl) (fun _ _ => rfl)) ?_
    refine o_cons (o_q hflW (fun _ _ => rfl) (fun _ _ => rfl)) ?_
    refine o_cons (o_q hflW (fun _ _ => rfl) (fun _ _ => rfl)) ?_
    refine o_cons (o_load 6 (reads_agg (cs := [hiW 2, loW 2]) tyWide rfl) (fun _ _ => rfl) rfl (fun _ _ => rfl) rfl) ?_
    refine o_cons (o_call (ent_of Tryd.func17 (by kernel_rfl) rfl) (fun w hU => of_any _ (2) (by decide)) (fun _ _ => rfl) rfl (fun _ _ => rfl) (fun _ _ => rfl)) ?_
    refine o_cons (o_eqs (eqW_same _ _) (fun _ _ => rfl) rfl (fun _ _ => rfl) (fun _ _ => rfl)) ?_
    refine o_cons (o_q hflW (fun _ _ => rfl) (fun _ _ => rfl)) ?_
    refine o_cons (o_q hflW (fun _ _ => rfl) (fun _ _ => rfl)) ?_
    refine o_cons (o_load 5 (reads_agg (cs := [hiW (-2), loW (-2)]) tyWide rfl) (fun _ _ => rfl) rfl (fun _ _ => rfl) rfl) ?_
    refine o_cons (o_call (ent_of Tryd.func17 (by kernel_rfl) rfl) (fun w hU => of_any _ (-2) (by decide)) (fun _ _ => rfl) rfl (fun _ _ => rfl) (fun _ _ => rfl)) ?_
    refine o_cons (o_eqs (eqW_same _ _) (fun _ _ => rfl) rfl (fun _ _ => rfl) (fun _ _ => rfl)) ?_
    refine o_cons (o_q hflW (fun _ _ => rfl) (fun _ _ => rfl)) ?_
    refine o_cons (o_q hflW (fun _ _ => rfl) (fun _ _ => rfl)) ?_
    refine o_cons (o_q hflW (fun _ _ => rfl) (fun _ _ => rfl)) ?_
    refine o_cons (o_cmp (cmp_eql_t (by decide)) (fun _ _ => rfl) rfl (fun _ _ => rfl) (fun _ _ => rfl)) ?_
    refine o_cons (o_q hflW (fun _ _ => rfl) (fun _ _ => rfl)) ?_
    refine o_cons (o_q hflW (fun _ _ => rfl) (fun _ _ => rfl)) ?_
    refine o_cons (o_q hflW (fun _ _ => rfl) (fun _ _ => rfl)) ?_
    refine o_cons (o_cmp (cmp_eql_t (by decide)) (fun _ _ => rfl) rfl (fun _ _ => rfl) (fun _ _ => rfl)) ?_
    refine o_cons (o_q hflW (fun _ _ => rfl) (fun _ _ => rfl)) ?_
    refine o_cons (o_q hflW (fun _ _ => rfl) (fun _ _ => rfl)) ?_
    refine o_cons (o_q hflW (fun _ _ => rfl) (fun _ _ => rfl)) ?_
    refine o_cons (o_cmp (cmp_eql_t (by decide)) (fun _ _ => rfl) rfl (fun _ _ => rfl) (fun _ _ => rfl)) ?_
    refine o_cons (o_q hflW (fun _ _ => rfl) (fun _ _ => rfl)) ?_
    refine o_cons (o_q hflW (fun _ _ => rfl) (fun _ _ => rfl)) ?_
    refine o_cons (o_load 1 (reads_agg (cs := [hiW (-170141183460469231731687303715884105728), loW (-170141183460469231731687303715884105728)]) tyWide rfl) (fun _ _ => rfl) rfl (fun _ _ => rfl) rfl) ?_
    refine o_cons (o_load 12 (reads_agg (cs := [hiW (-170141183460469231731687303715884105728), loW (-170141183460469231731687303715884105728)]) tyWide rfl) (fun _ _ => rfl) rfl (fun _ _ => rfl) rfl) ?_
    refine o_cons (o_eqs (eqW_same _ _) (fun _ _ => rfl) rfl (fun _ _ => rfl) (fun _ _ => rfl)) ?_
    refine o_cons (o_q hflW (fun _ _ => rfl) (fun _ _ => rfl)) ?_
    refine o_cons (o_q hflW (fun _ _ => rfl) (fun _ _ => rfl)) ?_
    refine o_cons (o_q hflW (fun _ _ => rfl) (fun _ _ => rfl)) ?_
    refine o_cons (o_cmp (cmp_eql_t (by decide)) (fun _ _ => rfl) rfl (fun _ _ => rfl) (fun _ _ => rfl)) ?_
    refine o_cons (o_q hflW (fun _ _ => rfl) (fun _ _ => rfl)) ?_
    refine o_cons (o_q hflW (fun _ _ => rfl) (fun _ _ => rfl)) ?_
    refine o_cons (o_load 1 (reads_agg (cs := [hiW (-170141183460469231731687303715884105728), loW (-170141183460469231731687303715884105728)]) tyWide rfl) (fun _ _ => rfl) rfl (fun _ _ => rfl) rfl) ?_
    refine o_cons (o_call (ent_of Tryd.func21 (by kernel_rfl) rfl) (fun w hU => textL _ (x := -170141183460469231731687303715884105728) (l := [45, 49, 55, 48, 49, 52, 49, 49, 56, 51, 52, 54, 48, 52, 54, 57, 50, 51, 49, 55, 51, 49, 54, 56, 55, 51, 48, 51, 55, 49, 53, 56, 56, 52, 49, 48, 53, 55, 50, 56]) textLeast (by unfold Fits; omega) (tab_below htab hU.below hg) (Nat.lt_of_lt_of_le hg hU.size)) (fun _ _ => rfl) rfl (fun _ _ => rfl) (fun _ _ => rfl)) ?_
    refine o_cons (o_q hflW (fun _ _ => rfl) (fun _ _ => rfl)) ?_
    refine o_cons (o_same (beq_self_eq_true _) (fun _ _ => rfl) rfl (fun _ _ => rfl) (fun _ _ => rfl)) ?_
    refine o_cons (o_q hflW (fun _ _ => rfl) (fun _ _ => rfl)) ?_
    refine o_cons (o_q hflW (fun _ _ => rfl) (fun _ _ => rfl)) ?_
    refine o_cons (o_q hflW (fun _ _ => rfl) (fun _ _ => rfl)) ?_
    refine o_cons (o_cmp (cmp_eql_t (by decide)) (fun _ _ => rfl) rfl (fun _ _ => rfl) (fun _ _ => rfl)) ?_
    refine o_cons (o_q hflW (fun _ _ => rfl) (fun _ _ => rfl)) ?_
    exact o_nil
  intro σ14 gs14
  refine WL2.keep (env' := [(0, .bool false), (148, .bool true)]) ⟨rfl, rfl, trivial⟩ ?_
  refine h_q hflW rfl ?_
  refine h_nil (f_to (d_ret ?_))
  exact f_fin1 (.tmp rfl) (fun w h => ⟨rfl, h.up.below⟩) rfl
end Go.Proofs.YtfalllekhcocgaaDoor
