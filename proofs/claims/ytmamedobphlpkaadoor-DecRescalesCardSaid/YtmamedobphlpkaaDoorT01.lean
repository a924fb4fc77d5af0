/-
  Laws3
-/
import Derived.Test.YtmamedobphlpkaaDoorF08
import Derived.Test.YtmamedobphlpkaaDoorS06
set_option linter.unusedSimpArgs false
set_option linter.unusedVariables false

namespace Go.Proofs.YtmamedobphlpkaaDoor
open Go.RowKit

theorem raddL (w : World) {c s d t : Int} {p} (h : sumP (· + ·) c s d t = p) (hc : Fits c) (hd : Fits d) : Calls Tryd.prog 12 #[Dc c s, Dc d t] w fun e w' => e = .returned (.tuple #[Dc p.1 p.2.1, .int .i64 p.2.2]) ∧ Below w.heap.size w w' := by
  subst h; exact raddP_any w c s d t hc hd
theorem rsubL (w : World) {c s d t : Int} {p} (h : sumP (· - ·) c s d t = p) (hc : Fits c) (hd : Fits d) : Calls Tryd.prog 14 #[Dc c s, Dc d t] w fun e w' => e = .returned (.tuple #[Dc p.1 p.2.1, .int .i64 p.2.2]) ∧ Below w.heap.size w w' := by
  subst h; exact rsubP_any w c s d t hc hd
theorem rnegL (w : World) {c s : Int} {p} (h : negP c s = p) (hc : Fits c) : Calls Tryd.prog 16 #[Dc c s] w fun e w' => e = .returned (.tuple #[Dc p.1 p.2.1, .int .i64 p.2.2]) ∧ Below w.heap.size w w' := by
  subst h; exact rnegP_any w c s hc
theorem rmulL (w : World) {c s d t u : Int} {p} (h : mulP c s d t u = p) (hc : Fits c) (hd : Fits d) : Calls Tryd.prog 24 #[Dc c s, Dc d t, .int .i64 u] w fun e w' => e = .returned (.tuple #[Dc p.1 p.2.1, .int .i64 p.2.2]) ∧ Below w.heap.size w w' := by
  subst h; exact rmulP_any w c s d t u hc hd
theorem rrescL (w : World) {c s t : Int} {p} (h : rescP c s t = p) (hc : Fits c) : Calls Tryd.prog 26 #[Dc c s, .int .i64 t] w fun e w' => e = .returned (.tuple #[Dc p.1 p.2.1, .int .i64 p.2.2]) ∧ Below w.heap.size w w' := by
  subst h; exact rrescP_any w c s t hc
theorem rcmpL (w : World) {c s d t : Int} {p} (h : cmpP c s d t = p) (hc : Fits c) (hd : Fits d) : Calls Tryd.prog 21 #[Dc c s, Dc d t] w fun e w' => e = .returned (.tuple #[.int .i64 p.1, .int .i64 p.2]) ∧ Below w.heap.size w w' := by
  subst h; rw [← cmpV_P]; exact rcmpV_any w c s d t hc hd

theorem lawAdds_0 (w : World) (c s d t : Int) (is : Bool) (hc : Fits c) (hd : Fits d) (hs : -9223372036854775808 ≤ s ∧ s < 9223372036854775808) (ht : -9223372036854775808 ≤ t ∧ t < 9223372036854775808) {m n : Int} (hm : nearS is s = m) (hn : nearS is t = n) {p q r : Int × Int × Int} (hp : sumP (· + ·) c m d n = p) (hq : sumP (· - ·) c m d n = q) (hr : negP c m = r) (htab : Lib.TabIs Tryd.prog w "internal/strconv.uint64pow10" .u64 Lib.pow10Tab) (hg : 2 < w.heap.size) : Calls Tryd.prog 3 #[Dc c s, Dc d t, .bool is] w fun e w' => e = .returned (.bool true) ∧ Below w.heap.size w w' := by
  refine d_in (args := [Dc c s, Dc d t, .bool is]) 97 Tryd.func3 rfl rfl rfl ?_
  refine d_reg ?_
  refine h_box (cs := #[hiW c, loW c, .int .i64 s]) rfl rfl rfl rfl ?_; intro g3_1
  refine h_box (cs := #[hiW d, loW d, .int .i64 t]) rfl rfl rfl rfl ?_; intro g4_2
  refine h_q hfl rfl ?_
  refine h_done (d_reg ?_)
  refine h_load 1 (v := .agg #[hiW c, loW c, .int .i64 s]) (reads_agg (cs := [hiW c, loW c, .int .i64 s]) tyDec rfl) rfl rfl rfl rfl ?_
  refine h_q hfl rfl ?_
  refine h_call (ent_of Tryd.func10 (by kernel_rfl) rfl) (fun w hH => nearB _ hm hs) rfl rfl rfl rfl ?_
  refine h_store 1 (v := Dc c m) (#[hiW c, loW c, .int .i64 m]) tyDec.2 rfl rfl rfl rfl rfl rfl rfl rfl rfl rfl ?_
  refine h_done (d_reg ?_)
  refine h_load 0 (v := .agg #[hiW d, loW d, .int .i64 t]) (reads_agg (cs := [hiW d, loW d, .int .i64 t]) tyDec rfl) rfl rfl rfl rfl ?_
  refine h_q hfl rfl ?_
  refine h_call (ent_of Tryd.func10 (by kernel_rfl) rfl) (fun w hH => nearB _ hn ht) rfl rfl rfl rfl ?_
  refine h_store 0 (v := Dc d n) (#[hiW d, loW d, .int .i64 n]) tyDec.2 rfl rfl rfl rfl rfl rfl rfl rfl rfl rfl ?_
  refine h_done (d_reg ?_)
  refine h_load 1 (v := .agg #[hiW c, loW c, .int .i64 m]) (reads_agg (cs := [hiW c, loW c, .int .i64 m]) tyDec rfl) rfl rfl rfl rfl ?_
  refine h_load 0 (v := .agg #[hiW d, loW d, .int .i64 n]) (reads_agg (cs := [hiW d, loW d, .int .i64 n]) tyDec rfl) rfl rfl rfl rfl ?_
  refine h_call (ent_of Tryd.func11 (by kernel_rfl) rfl) (fun w hH => addL _ hp hc hd) rfl rfl rfl rfl ?_
  refine h_q hfl rfl ?_
  refine h_alloc zeDec rfl rfl ?_; intro g7_3
  refine h_store 0 (v := Dc p.1 p.2.1) (#[hiW p.1, loW p.1, .int .i64 p.2.1]) tyDec.2 rfl rfl rfl rfl rfl rfl rfl rfl rfl rfl ?_
  refine h_q hfl rfl ?_
  refine h_done (d_reg ?_)
  refine h_load 2 (v := .agg #[hiW c, loW c, .int .i64 m]) (reads_agg (cs := [hiW c, loW c, .int .i64 m]) tyDec rfl) rfl rfl rfl rfl ?_
  refine h_load 1 (v := .agg #[hiW d, loW d, .int .i64 n]) (reads_agg (cs := [hiW d, loW d, .int .i64 n]) tyDec rfl) rfl rfl rfl rfl ?_
  refine h_call (ent_of Tryd.func12 (by kernel_rfl) rfl) (fun w hH => raddL _ hp hc hd) rfl rfl rfl rfl ?_
  refine h_q hfl rfl ?_
  refine h_alloc zeDec rfl rfl ?_; intro g9_4
  refine h_store 0 (v := Dc p.1 p.2.1) (#[hiW p.1, loW p.1, .int .i64 p.2.1]) tyDec.2 rfl rfl rfl rfl rfl rfl rfl rfl rfl rfl ?_
  refine h_q hfl rfl ?_
  refine h_done (d_reg ?_)
  refine h_load 3 (v := .agg #[hiW c, loW c, .int .i64 m]) (reads_agg (cs := [hiW c, loW c, .int .i64 m]) tyDec rfl) rfl rfl rfl rfl ?_
  refine h_load 2 (v := .agg #[hiW d, loW d, .int .i64 n]) (reads_agg (cs := [hiW d, loW d, .int .i64 n]) tyDec rfl) rfl rfl rfl rfl ?_
  refine h_call (ent_of Tryd.func13 (by kernel_rfl) rfl) (fun w hH => subL _ hq hc hd) rfl rfl rfl rfl ?_
  refine h_q hfl rfl ?_
  refine h_alloc zeDec rfl rfl ?_; intro g11_5
  refine h_store 0 (v := Dc q.1 q.2.1) (#[hiW q.1, loW q.1, .int .i64 q.2.1]) tyDec.2 rfl rfl rfl rfl rfl rfl rfl rfl rfl rfl ?_
  refine h_q hfl rfl ?_
  refine h_done (d_reg ?_)
  refine h_load 4 (v := .agg #[hiW c, loW c, .int .i64 m]) (reads_agg (cs := [hiW c, loW c, .int .i64 m]) tyDec rfl) rfl rfl rfl rfl ?_
  refine h_load 3 (v := .agg #[hiW d, loW d, .int .i64 n]) (reads_agg (cs := [hiW d, loW d, .int .i64 n]) tyDec rfl) rfl rfl rfl rfl ?_
  refine h_call (ent_of Tryd.func14 (by kernel_rfl) rfl) (fun w hH => rsubL _ hq hc hd) rfl rfl rfl rfl ?_
  refine h_q hfl rfl ?_
  refine h_alloc zeDec rfl rfl ?_; intro g13_6
  refine h_store 0 (v := Dc q.1 q.2.1) (#[hiW q.1, loW q.1, .int .i64 q.2.1]) tyDec.2 rfl rfl rfl rfl rfl rfl rfl rfl rfl rfl ?_
  refine h_q hfl rfl ?_
  refine h_done (d_reg ?_)
  refine h_load 5 (v := .agg #[hiW c, loW c, .int .i64 m]) (reads_agg (cs := [hiW c, loW c, .int .i64 m]) tyDec rfl) rfl rfl rfl rfl ?_
  refine h_call (ent_of Tryd.func15 (by kernel_rfl) rfl) (fun w hH => negL _ hr hc) rfl rfl rfl rfl ?_
  refine h_q hfl rfl ?_
  refine h_alloc zeDec rfl rfl ?_; intro g15_7
  refine h_store 0 (v := Dc r.1 r.2.1) (#[hiW r.1, loW r.1, .int .i64 r.2.1]) tyDec.2 rfl rfl rfl rfl rfl rfl rfl rfl rfl rfl ?_
  refine h_q hfl rfl ?_
  refine h_done ?_
  refine WC2.keep (env' := [(3, .pointer (some ⟨g3_1, 0, none⟩)), (6, .bool false), (7, .pointer (some ⟨g7_3, 0, none⟩)), (8, .int .i64 p.2.2), (9, .pointer (some ⟨g9_4, 0, none⟩)), (10, .int .i64 p.2.2), (11, .pointer (some ⟨g11_5, 0, none⟩)), (12, .int .i64 q.2.2), (13, .pointer (some ⟨g13_6, 0, none⟩)), (14, .int .i64 q.2.2), (15, .pointer (some ⟨g15_7, 0, none⟩)), (16, .int .i64 r.2.2)]) ⟨rfl, rfl, rfl, rfl, rfl, rfl, rfl, rfl, rfl, rfl, rfl, rfl, trivial⟩ ?_
  refine d_reg ?_
  refine h_load 6 (v := .agg #[hiW c, loW c, .int .i64 m]) (reads_agg (cs := [hiW c, loW c, .int .i64 m]) tyDec rfl) rfl rfl rfl rfl ?_
  refine h_call (ent_of Tryd.func16 (by kernel_rfl) rfl) (fun w hH => rnegL _ hr hc) rfl rfl rfl rfl ?_
  refine h_q hfl rfl ?_
  refine h_alloc zeDec rfl rfl ?_; intro g17_8
  refine h_store 0 (v := Dc r.1 r.2.1) (#[hiW r.1, loW r.1, .int .i64 r.2.1]) tyDec.2 rfl rfl rfl rfl rfl rfl rfl rfl rfl rfl ?_
  refine h_q hfl rfl ?_
  refine h_done (d_seq ?_)
  refine d_par 38 3 [⟨.call, 1, fun _ => .bool true, []⟩, ⟨.quiet, 1, fun _ => .bool true, [0]⟩, ⟨.quiet, 1, fun _ => .agg #[hiW p.1, loW p.1, .int .i64 p.2.1], [1]⟩, ⟨.quiet, 1, fun _ => .agg #[hiW p.1, loW p.1, .int .i64 p.2.1], [1]⟩, ⟨.quiet, 1, fun _ => .bool true, [2, 3, 1]⟩, ⟨.quiet, 1, fun _ => .bool true, [1, 4]⟩, ⟨.quiet, 1, fun _ => .bool true, [5]⟩, ⟨.quiet, 1, fun _ => .int .i64 p.2.2, [6]⟩, ⟨.quiet, 1, fun _ => .int .i64 p.2.2, [6]⟩, ⟨.quiet, 1, fun _ => .bool true, [7, 8, 6]⟩, ⟨.quiet, 1, fun _ => .bool true, [6, 9]⟩, ⟨.quiet, 1, fun _ => .bool true, [10]⟩, ⟨.quiet, 1, fun _ => .agg #[hiW q.1, loW q.1, .int .i64 q.2.1], [11]⟩, ⟨.quiet, 1, fun _ => .agg #[hiW q.1, loW q.1, .int .i64 q.2.1], [11]⟩, ⟨.quiet, 1, fun _ => .bool true, [12, 13, 11]⟩, ⟨.quiet, 1, fun _ => .bool true, [11, 14]⟩, ⟨.quiet, 1, fun _ => .bool true, [15]⟩, ⟨.quiet, 1, fun _ => .int .i64 q.2.2, [16]⟩, ⟨.quiet, 1, fun _ => .int .i64 q.2.2, [16]⟩, ⟨.quiet, 1, fun _ => .bool true, [17, 18, 16]⟩, ⟨.quiet, 1, fun _ => .bool true, [16, 19]⟩, ⟨.quiet, 1, fun _ => .bool true, [20]⟩, ⟨.quiet, 1, fun _ => .agg #[hiW r.1, loW r.1, .int .i64 r.2.1], [21]⟩, ⟨.quiet, 1, fun _ => .agg #[hiW r.1, loW r.1, .int .i64 r.2.1], [21]⟩, ⟨.quiet, 1, fun _ => .bool true, [22, 23, 21]⟩, ⟨.quiet, 1, fun _ => .bool true, [21, 24]⟩, ⟨.quiet, 1, fun _ => .bool true, [25]⟩, ⟨.quiet, 1, fun _ => .int .i64 r.2.2, [26]⟩, ⟨.quiet, 1, fun _ => .int .i64 r.2.2, [26]⟩, ⟨.quiet, 1, fun _ => .bool true, [27, 28, 26]⟩, ⟨.quiet, 1, fun _ => .bool true, [26, 29]⟩, ⟨.quiet, 1, fun _ => .bool true, [30]⟩, ⟨.quiet, 1, fun _ => .agg #[hiW c, loW c, .int .i64 m], [31]⟩, ⟨.call, 2, fun _ => .bool (decide (May m)), [32, 31]⟩, ⟨.quiet, 1, fun _ => .agg #[hiW c, loW c, .int .i64 m], [31]⟩, ⟨.call, 3, fun _ => .bool (decide (May m)), [34, 31]⟩, ⟨.quiet, 3, fun _ => .bool true, [33, 35, 31]⟩, ⟨.quiet, 3, fun _ => .bool true, [31, 36]⟩] [(3, .pointer (some ⟨g3_1, 0, none⟩)), (6, .bool false), (7, .pointer (some ⟨g7_3, 0, none⟩)), (8, .int .i64 p.2.2), (9, .pointer (some ⟨g9_4, 0, none⟩)), (10, .int .i64 p.2.2), (11, .pointer (some ⟨g11_5, 0, none⟩)), (12, .int .i64 q.2.2), (13, .pointer (some ⟨g13_6, 0, none⟩)), (14, .int .i64 q.2.2), (15, .pointer (some ⟨g15_7, 0, none⟩)), (16, .int .i64 r.2.2), (17, .pointer (some ⟨g17_8, 0, none⟩)), (18, .int .i64 r.2.2)] (by kernel_rfl) (by kernel_rfl) ⟨rfl, rfl, rfl, rfl, rfl, rfl, rfl, rfl, rfl, rfl, rfl, rfl, rfl, rfl, trivial⟩ ?_ ?_
  · skip
    refine o_cons (o_call (ent_of Tryd.func17 (by kernel_rfl) rfl) (fun w hU => known3_any _ (tab_below htab hU.below hg) (Nat.lt_of_lt_of_le hg hU.size)) (fun _ _ => rfl) rfl (fun _ _ => rfl) (fun _ _ => rfl)) ?_
    refine o_cons (o_q hfl (fun _ _ => rfl) (fun _ _ => rfl)) ?_
    refine o_cons (o_load 5 (reads_agg (cs := [hiW p.1, loW p.1, .int .i64 p.2.1]) tyDec rfl) (fun _ _ => rfl) rfl (fun _ _ => rfl) rfl) ?_
    refine o_cons (o_load 4 (reads_agg (cs := [hiW p.1, loW p.1, .int .i64 p.2.1]) tyDec rfl) (fun _ _ => rfl) rfl (fun _ _ => rfl) rfl) ?_
    refine o_cons (o_eqs (eqD_same _ _ _) (fun _ _ => rfl) rfl (fun _ _ => rfl) (fun _ _ => rfl)) ?_
    refine o_cons (o_q hfl (fun _ _ => rfl) (fun _ _ => rfl)) ?_
    refine o_cons (o_q hfl (fun _ _ => rfl) (fun _ _ => rfl)) ?_
    refine o_cons (o_q hfl (fun _ _ => rfl) (fun _ _ => rfl)) ?_
    refine o_cons (o_q hfl (fun _ _ => rfl) (fun _ _ => rfl)) ?_
    refine o_cons (o_cmp (cmp_eql_t rfl) (fun _ _ => rfl) rfl (fun _ _ => rfl) (fun _ _ => rfl)) ?_
    refine o_cons (o_q hfl (fun _ _ => rfl) (fun _ _ => rfl)) ?_
    refine o_cons (o_q hfl (fun _ _ => rfl) (fun _ _ => rfl)) ?_
    refine o_cons (o_load 3 (reads_agg (cs := [hiW q.1, loW q.1, .int .i64 q.2.1]) tyDec rfl) (fun _ _ => rfl) rfl (fun _ _ => rfl) rfl) ?_
    refine o_cons (o_load 2 (reads_agg (cs := [hiW q.1, loW q.1, .int .i64 q.2.1]) tyDec rfl) (fun _ _ => rfl) rfl (fun _ _ => rfl) rfl) ?_
    refine o_cons (o_eqs (eqD_same _ _ _) (fun _ _ => rfl) rfl (fun _ _ => rfl) (fun _ _ => rfl)) ?_
    refine o_cons (o_q hfl (fun _ _ => rfl) (fun _ _ => rfl)) ?_
    refine o_cons (o_q hfl (fun _ _ => rfl) (fun _ _ => rfl)) ?_
    refine o_cons (o_q hfl (fun _ _ => rfl) (fun _ _ => rfl)) ?_
    refine o_cons (o_q hfl (fun _ _ => rfl) (fun _ _ => rfl)) ?_
    refine o_cons (o_cmp (cmp_eql_t rfl) (fun _ _ => rfl) rfl (fun _ _ => rfl) (fun _ _ => rfl)) ?_
    refine o_cons (o_q hfl (fun _ _ => rfl) (fun _ _ => rfl)) ?_
    refine o_cons (o_q hfl (fun _ _ => rfl) (fun _ _ => rfl)) ?_
    refine o_cons (o_load 1 (reads_agg (cs := [hiW r.1, loW r.1, .int .i64 r.2.1]) tyDec rfl) (fun _ _ => rfl) rfl (fun _ _ => rfl) rfl) ?_
    refine o_cons (o_load 0 (reads_agg (cs := [hiW r.1, loW r.1, .int .i64 r.2.1]) tyDec rfl) (fun _ _ => rfl) rfl (fun _ _ => rfl) rfl) ?_
    refine o_cons (o_eqs (eqD_same _ _ _) (fun _ _ => rfl) rfl (fun _ _ => rfl) (fun _ _ => rfl)) ?_
    refine o_cons (o_q hfl (fun _ _ => rfl) (fun _ _ => rfl)) ?_
    refine o_cons (o_q hfl (fun _ _ => rfl) (fun _ _ => rfl)) ?_
    refine o_cons (o_q hfl (fun _ _ => rfl) (fun _ _ => rfl)) ?_
    refine o_cons (o_q hfl (fun _ _ => rfl) (fun _ _ => rfl)) ?_
    refine o_cons (o_cmp (cmp_eql_t rfl) (fun _ _ => rfl) rfl (fun _ _ => rfl) (fun _ _ => rfl)) ?_
    refine o_cons (o_q hfl (fun _ _ => rfl) (fun _ _ => rfl)) ?_
    refine o_cons (o_q hfl (fun _ _ => rfl) (fun _ _ => rfl)) ?_
    refine o_cons (o_load 7 (reads_agg (cs := [hiW c, loW c, .int .i64 m]) tyDec rfl) (fun _ _ => rfl) rfl (fun _ _ => rfl) rfl) ?_
    refine o_cons (o_call (ent_of Tryd.func18 (by kernel_rfl) rfl) (fun w hU => right_any _ c m) (fun _ _ => rfl) rfl (fun _ _ => rfl) (fun _ _ => rfl)) ?_
    refine o_cons (o_load 7 (reads_agg (cs := [hiW c, loW c, .int .i64 m]) tyDec rfl) (fun _ _ => rfl) rfl (fun _ _ => rfl) rfl) ?_
    refine o_cons (o_call (ent_of Tryd.func19 (by kernel_rfl) rfl) (fun w hU => rright_any _ c m) (fun _ _ => rfl) rfl (fun _ _ => rfl) (fun _ _ => rfl)) ?_
    refine o_cons (o_eqs (eqB_same _) (fun _ _ => rfl) rfl (fun _ _ => rfl) (fun _ _ => rfl)) ?_
    refine o_cons (o_q hfl (fun _ _ => rfl) (fun _ _ => rfl)) ?_
    exact o_nil
  intro σ9 gs9
  refine WL2.keep (env' := [(6, .bool false), (96, .bool true)]) ⟨rfl, rfl, trivial⟩ ?_
  refine h_q hfl rfl ?_
  refine h_nil (f_to (d_ret ?_))
  exact f_fin1 (.tmp rfl) (fun w h => ⟨rfl, h.up.below⟩) rfl
theorem lawAdds (w : World) (c s d t : Int) (is : Bool) (hc : Fits c) (hd : Fits d) (hs : -9223372036854775808 ≤ s ∧ s < 9223372036854775808) (ht : -9223372036854775808 ≤ t ∧ t < 9223372036854775808) (htab : Lib.TabIs Tryd.prog w "internal/strconv.uint64pow10" .u64 Lib.pow10Tab) (hg : 2 < w.heap.size) : Calls Tryd.prog 3 #[Dc c s, Dc d t, .bool is] w fun e w' => e = .returned (.bool true) ∧ Below w.heap.size w w' := lawAdds_0 w c s d t is hc hd hs ht rfl rfl rfl rfl rfl htab hg

theorem lawCmps_0 (w : World) (c s d t : Int) (is : Bool) (hc : Fits c) (hd : Fits d) (hs : -9223372036854775808 ≤ s ∧ s < 9223372036854775808) (ht : -9223372036854775808 ≤ t ∧ t < 9223372036854775808) {m n : Int} (hm : nearS is s = m) (hn : nearS is t = n) {p : Int × Int} (hp : cmpP c m d n = p) (htab : Lib.TabIs Tryd.prog w "internal/strconv.uint64pow10" .u64 Lib.pow10Tab) (hg : 2 < w.heap.size) : Calls Tryd.prog 4 #[Dc c s, Dc d t, .bool is] w fun e w' => e = .returned (.bool true) ∧ Below w.heap.size w w' := by
  refine d_in (args := [Dc c s, Dc d t, .bool is]) 40 Tryd.func4 rfl rfl rfl ?_
  refine d_reg ?_
  refine h_box (cs := #[hiW c, loW c, .int .i64 s]) rfl rfl rfl rfl ?_; intro g3_1
  refine h_box (cs := #[hiW d, loW d, .int .i64 t]) rfl rfl rfl rfl ?_; intro g4_2
  refine h_q hfl rfl ?_
  refine h_done (d_reg ?_)
  refine h_load 1 (v := .agg #[hiW c, loW c, .int .i64 s]) (reads_agg (cs := [hiW c, loW c, .int .i64 s]) tyDec rfl) rfl rfl rfl rfl ?_
  refine h_q hfl rfl ?_
  refine h_call (ent_of Tryd.func10 (by kernel_rfl) rfl) (fun w hH => nearB _ hm hs) rfl rfl rfl rfl ?_
  refine h_store 1 (v := Dc c m) (#[hiW c, loW c, .int .i64 m]) tyDec.2 rfl rfl rfl rfl rfl rfl rfl rfl rfl rfl ?_
  refine h_done (d_reg ?_)
  refine h_load 0 (v := .agg #[hiW d, loW d, .int .i64 t]) (reads_agg (cs := [hiW d, loW d, .int .i64 t]) tyDec rfl) rfl rfl rfl rfl ?_
  refine h_q hfl rfl ?_
  refine h_call (ent_of Tryd.func10 (by kernel_rfl) rfl) (fun w hH => nearB _ hn ht) rfl rfl rfl rfl ?_
  refine h_store 0 (v := Dc d n) (#[hiW d, loW d, .int .i64 n]) tyDec.2 rfl rfl rfl rfl rfl rfl rfl rfl rfl rfl ?_
  refine h_done (d_reg ?_)
  refine h_load 1 (v := .agg #[hiW c, loW c, .int .i64 m]) (reads_agg (cs := [hiW c, loW c, .int .i64 m]) tyDec rfl) rfl rfl rfl rfl ?_
  refine h_load 0 (v := .agg #[hiW d, loW d, .int .i64 n]) (reads_agg (cs := [hiW d, loW d, .int .i64 n]) tyDec rfl) rfl rfl rfl rfl ?_
  refine h_call (ent_of Tryd.func20 (by kernel_rfl) rfl) (fun w hH => cmpL _ hp hc hd) rfl rfl rfl rfl ?_
  refine h_q hfl rfl ?_
  refine h_done (d_reg ?_)
  refine h_load 1 (v := .agg #[hiW c, loW c, .int .i64 m]) (reads_agg (cs := [hiW c, loW c, .int .i64 m]) tyDec rfl) rfl rfl rfl rfl ?_
  refine h_load 0 (v := .agg #[hiW d, loW d, .int .i64 n]) (reads_agg (cs := [hiW d, loW d, .int .i64 n]) tyDec rfl) rfl rfl rfl rfl ?_
  refine h_call (ent_of Tryd.func21 (by kernel_rfl) rfl) (fun w hH => rcmpL _ hp hc hd) rfl rfl rfl rfl ?_
  refine h_q hfl rfl ?_
  refine h_done (d_reg ?_)
  refine h_call (ent_of Tryd.func17 (by kernel_rfl) rfl) (fun w hH => known3_any _ (tab_below htab hH.up.below hg) (Nat.lt_of_lt_of_le hg hH.up.size)) rfl rfl rfl rfl ?_
  refine h_q hfl rfl ?_
  refine h_cmp (cmp_eql_t rfl) rfl rfl rfl rfl ?_
  refine h_q hfl rfl ?_
  refine h_cmp (cmp_eql_t rfl) rfl rfl rfl rfl ?_
  refine h_q hfl rfl ?_
  refine h_done (d_ret ?_)
  exact f_fin1 (.tmp rfl) (fun w h => ⟨rfl, h.up.below⟩) rfl
theorem lawCmps (w : World) (c s d t : Int) (is : Bool) (hc : Fits c) (hd : Fits d) (hs : -9223372036854775808 ≤ s ∧ s < 9223372036854775808) (ht : -9223372036854775808 ≤ t ∧ t < 9223372036854775808) (htab : Lib.TabIs Tryd.prog w "internal/strconv.uint64pow10" .u64 Lib.pow10Tab) (hg : 2 < w.heap.size) : Calls Tryd.prog 4 #[Dc c s, Dc d t, .bool is] w fun e w' => e = .returned (.bool true) ∧ Below w.heap.size w w' := lawCmps_0 w c s d t is hc hd hs ht rfl rfl rfl htab hg

theorem lawMuls_t (w : World) (c s d t u : Int) (hc : Fits c) (hd : Fits d) (hs : -9223372036854775808 ≤ s ∧ s < 9223372036854775808) (ht : -9223372036854775808 ≤ t ∧ t < 9223372036854775808) (hu : -9223372036854775808 ≤ u ∧ u < 9223372036854775808) {m n : Int} (hm : nearS true s = m) (hn : nearS true t = n) {v : Int} (hv : u % 19 = v) {p : Int × Int × Int} (hp : mulP c m d n v = p) (htab : Lib.TabIs Tryd.prog w "internal/strconv.uint64pow10" .u64 Lib.pow10Tab) (hg : 2 < w.heap.size) : Calls Tryd.prog 5 #[Dc c s, Dc d t, .int .i64 u, .bool true] w fun e w' => e = .returned (.bool true) ∧ Below w.heap.size w w' := by
  refine d_in (args := [Dc c s, Dc d t, .int .i64 u, .bool true]) 47 Tryd.func5 rfl rfl rfl ?_
  refine d_reg ?_
  refine h_box (cs := #[hiW c, loW c, .int .i64 s]) rfl rfl rfl rfl ?_; intro g4_1
  refine h_box (cs := #[hiW d, loW d, .int .i64 t]) rfl rfl rfl rfl ?_; intro g5_2
  refine h_q hfl rfl ?_
  refine h_done (d_seq (d_reg ?_))
  refine h_q hfl rfl ?_
  refine h_done (d_then rfl (d_reg1 ?_))
  refine h_q hfl rfl ?_
  refine h_call (ent_of Tryd.func22 (by kernel_rfl) rfl) (fun w hH => pickL _ hv hu (by decide)) rfl rfl rfl rfl ?_
  refine h_q hfl rfl ?_
  refine h_nil (f_to (d_reg ?_))
  refine h_load 1 (v := .agg #[hiW c, loW c, .int .i64 s]) (reads_agg (cs := [hiW c, loW c, .int .i64 s]) tyDec rfl) rfl rfl rfl rfl ?_
  refine h_q hfl rfl ?_
  refine h_call (ent_of Tryd.func10 (by kernel_rfl) rfl) (fun w hH => nearB _ hm hs) rfl rfl rfl rfl ?_
  refine h_store 1 (v := Dc c m) (#[hiW c, loW c, .int .i64 m]) tyDec.2 rfl rfl rfl rfl rfl rfl rfl rfl rfl rfl ?_
  refine h_done (d_reg ?_)
  refine h_load 0 (v := .agg #[hiW d, loW d, .int .i64 t]) (reads_agg (cs := [hiW d, loW d, .int .i64 t]) tyDec rfl) rfl rfl rfl rfl ?_
  refine h_q hfl rfl ?_
  refine h_call (ent_of Tryd.func10 (by kernel_rfl) rfl) (fun w hH => nearB _ hn ht) rfl rfl rfl rfl ?_
  refine h_store 0 (v := Dc d n) (#[hiW d, loW d, .int .i64 n]) tyDec.2 rfl rfl rfl rfl rfl rfl rfl rfl rfl rfl ?_
  refine h_done (d_reg ?_)
  refine h_load 1 (v := .agg #[hiW c, loW c, .int .i64 m]) (reads_agg (cs := [hiW c, loW c, .int .i64 m]) tyDec rfl) rfl rfl rfl rfl ?_
  refine h_load 0 (v := .agg #[hiW d, loW d, .int .i64 n]) (reads_agg (cs := [hiW d, loW d, .int .i64 n]) tyDec rfl) rfl rfl rfl rfl ?_
  refine h_q hfl rfl ?_
  refine h_call (ent_of Tryd.func23 (by kernel_rfl) rfl) (fun w hH => mulL _ hp hc hd) rfl rfl rfl rfl ?_
  refine h_q hfl rfl ?_
  refine h_alloc zeDec rfl rfl ?_; intro g9_3
  refine h_store 0 (v := Dc p.1 p.2.1) (#[hiW p.1, loW p.1, .int .i64 p.2.1]) tyDec.2 rfl rfl rfl rfl rfl rfl rfl rfl rfl rfl ?_
  refine h_q hfl rfl ?_
  refine h_done (d_reg ?_)
  refine h_load 2 (v := .agg #[hiW c, loW c, .int .i64 m]) (reads_agg (cs := [hiW c, loW c, .int .i64 m]) tyDec rfl) rfl rfl rfl rfl ?_
  refine h_load 1 (v := .agg #[hiW d, loW d, .int .i64 n]) (reads_agg (cs := [hiW d, loW d, .int .i64 n]) tyDec rfl) rfl rfl rfl rfl ?_
  refine h_q hfl rfl ?_
  refine h_call (ent_of Tryd.func24 (by kernel_rfl) rfl) (fun w hH => rmulL _ hp hc hd) rfl rfl rfl rfl ?_
  refine h_q hfl rfl ?_
  refine h_alloc zeDec rfl rfl ?_; intro g11_4
  refine h_store 0 (v := Dc p.1 p.2.1) (#[hiW p.1, loW p.1, .int .i64 p.2.1]) tyDec.2 rfl rfl rfl rfl rfl rfl rfl rfl rfl rfl ?_
  refine h_q hfl rfl ?_
  refine h_done (d_reg ?_)
  refine h_call (ent_of Tryd.func17 (by kernel_rfl) rfl) (fun w hH => known3_any _ (tab_below htab hH.up.below hg) (Nat.lt_of_lt_of_le hg hH.up.size)) rfl rfl rfl rfl ?_
  refine h_q hfl rfl ?_
  refine h_load 1 (v := .agg #[hiW p.1, loW p.1, .int .i64 p.2.1]) (reads_agg (cs := [hiW p.1, loW p.1, .int .i64 p.2.1]) tyDec rfl) rfl rfl rfl rfl ?_
  refine h_load 0 (v := .agg #[hiW p.1, loW p.1, .int .i64 p.2.1]) (reads_agg (cs := [hiW p.1, loW p.1, .int .i64 p.2.1]) tyDec rfl) rfl rfl rfl rfl ?_
  refine h_eqs (eqD_same _ _ _) rfl rfl rfl rfl ?_
  refine h_q hfl rfl ?_
  refine h_cmp (cmp_eql_t rfl) rfl rfl rfl rfl ?_
  refine h_q hfl rfl ?_
  refine h_done ?_
  refine WC2.keep (env' := [(8, .bool true)]) ⟨rfl, trivial⟩ ?_
  refine d_ret ?_
  exact f_fin1 (.tmp rfl) (fun w h => ⟨rfl, h.up.below⟩) rfl

theorem lawRescales_t (w : World) (c s u : Int) (hc : Fits c) (hs : -9223372036854775808 ≤ s ∧ s < 9223372036854775808) (hu : -9223372036854775808 ≤ u ∧ u < 9223372036854775808) {m : Int} (hm : nearS true s = m) {v : Int} (hv : u % 19 = v) {p : Int × Int × Int} (hp : rescP c m v = p) (htab : Lib.TabIs Tryd.prog w "internal/strconv.uint64pow10" .u64 Lib.pow10Tab) (hg : 2 < w.heap.size) : Calls Tryd.prog 6 #[Dc c s, .int .i64 u, .bool true] w fun e w' => e = .returned (.bool true) ∧ Below w.heap.size w w' := by
  refine d_in (args := [Dc c s, .int .i64 u, .bool true]) 40 Tryd.func6 rfl rfl rfl ?_
  refine d_reg ?_
  refine h_box (cs := #[hiW c, loW c, .int .i64 s]) rfl rfl rfl rfl ?_; intro g3_1
  refine h_q hfl rfl ?_
  refine h_done (d_seq (d_reg ?_))
  refine h_q hfl rfl ?_
  refine h_done (d_then rfl (d_reg1 ?_))
  refine h_q hfl rfl ?_
  refine h_call (ent_of Tryd.func22 (by kernel_rfl) rfl) (fun w hH => pickL _ hv hu (by decide)) rfl rfl rfl rfl ?_
  refine h_q hfl rfl ?_
  refine h_nil (f_to (d_reg ?_))
  refine h_load 0 (v := .agg #[hiW c, loW c, .int .i64 s]) (reads_agg (cs := [hiW c, loW c, .int .i64 s]) tyDec rfl) rfl rfl rfl rfl ?_
  refine h_q hfl rfl ?_
  refine h_call (ent_of Tryd.func10 (by kernel_rfl) rfl) (fun w hH => nearB _ hm hs) rfl rfl rfl rfl ?_
  refine h_store 0 (v := Dc c m) (#[hiW c, loW c, .int .i64 m]) tyDec.2 rfl rfl rfl rfl rfl rfl rfl rfl rfl rfl ?_
  refine h_done (d_reg ?_)
  refine h_load 0 (v := .agg #[hiW c, loW c, .int .i64 m]) (reads_agg (cs := [hiW c, loW c, .int .i64 m]) tyDec rfl) rfl rfl rfl rfl ?_
  refine h_q hfl rfl ?_
  refine h_call (ent_of Tryd.func25 (by kernel_rfl) rfl) (fun w hH => rescL _ hp hc) rfl rfl rfl rfl ?_
  refine h_q hfl rfl ?_
  refine h_alloc zeDec rfl rfl ?_; intro g7_2
  refine h_store 0 (v := Dc p.1 p.2.1) (#[hiW p.1, loW p.1, .int .i64 p.2.1]) tyDec.2 rfl rfl rfl rfl rfl rfl rfl rfl rfl rfl ?_
  refine h_q hfl rfl ?_
  refine h_done (d_reg ?_)
  refine h_load 1 (v := .agg #[hiW c, loW c, .int .i64 m]) (reads_agg (cs := [hiW c, loW c, .int .i64 m]) tyDec rfl) rfl rfl rfl rfl ?_
  refine h_q hfl rfl ?_
  refine h_call (ent_of Tryd.func26 (by kernel_rfl) rfl) (fun w hH => rrescL _ hp hc) rfl rfl rfl rfl ?_
  refine h_q hfl rfl ?_
  refine h_alloc zeDec rfl rfl ?_; intro g9_3
  refine h_store 0 (v := Dc p.1 p.2.1) (#[hiW p.1, loW p.1, .int .i64 p.2.1]) tyDec.2 rfl rfl rfl rfl rfl rfl rfl rfl rfl rfl ?_
  refine h_q hfl rfl ?_
  refine h_done (d_reg ?_)
  refine h_call (ent_of Tryd.func17 (by kernel_rfl) rfl) (fun w hH => known3_any _ (tab_below htab hH.up.below hg) (Nat.lt_of_lt_of_le hg hH.up.size)) rfl rfl rfl rfl ?_
  refine h_q hfl rfl ?_
  refine h_load 1 (v := .agg #[hiW p.1, loW p.1, .int .i64 p.2.1]) (reads_agg (cs := [hiW p.1, loW p.1, .int .i64 p.2.1]) tyDec rfl) rfl rfl rfl rfl ?_
  refine h_load 0 (v := .agg #[hiW p.1, loW p.1, .int .i64 p.2.1]) (reads_agg (cs := [hiW p.1, loW p.1, .int .i64 p.2.1]) tyDec rfl) rfl rfl rfl rfl ?_
  refine h_eqs (eqD_same _ _ _) rfl rfl rfl rfl ?_
  refine h_q hfl rfl ?_
  refine h_cmp (cmp_eql_t rfl) rfl rfl rfl rfl ?_
  refine h_q hfl rfl ?_
  refine h_done (d_ret ?_)
  exact f_fin1 (.tmp rfl) (fun w h => ⟨rfl, h.up.below⟩) rfl

theorem lawMuls_f (w : World) (c s d t u : Int) (hc : Fits c) (hd : Fits d) (hs : -9223372036854775808 ≤ s ∧ s < 9223372036854775808) (ht : -9223372036854775808 ≤ t ∧ t < 9223372036854775808) (hu : -9223372036854775808 ≤ u ∧ u < 9223372036854775808) {m n : Int} (hm : nearS false s = m) (hn : nearS false t = n) {p : Int × Int × Int} (hp : mulP c m d n u = p) (htab : Lib.TabIs Tryd.prog w "internal/strconv.uint64pow10" .u64 Lib.pow10Tab) (hg : 2 < w.heap.size) : Calls Tryd.prog 5 #[Dc c s, Dc d t, .int .i64 u, .bool false] w fun e w' => e = .returned (.bool true) ∧ Below w.heap.size w w' := by
  refine d_in (args := [Dc c s, Dc d t, .int .i64 u, .bool false]) 47 Tryd.func5 rfl rfl rfl ?_
  refine d_reg ?_
  refine h_box (cs := #[hiW c, loW c, .int .i64 s]) rfl rfl rfl rfl ?_; intro g4_1
  refine h_box (cs := #[hiW d, loW d, .int .i64 t]) rfl rfl rfl rfl ?_; intro g5_2
  refine h_q hfl rfl ?_
  refine h_done (d_seq (d_reg ?_))
  refine h_q hfl rfl ?_
  refine h_done (d_else rfl (d_skip (f_to (d_reg ?_))))
  refine h_load 1 (v := .agg #[hiW c, loW c, .int .i64 s]) (reads_agg (cs := [hiW c, loW c, .int .i64 s]) tyDec rfl) rfl rfl rfl rfl ?_
  refine h_q hfl rfl ?_
  refine h_call (ent_of Tryd.func10 (by kernel_rfl) rfl) (fun w hH => nearB _ hm hs) rfl rfl rfl rfl ?_
  refine h_store 1 (v := Dc c m) (#[hiW c, loW c, .int .i64 m]) tyDec.2 rfl rfl rfl rfl rfl rfl rfl rfl rfl rfl ?_
  refine h_done (d_reg ?_)
  refine h_load 0 (v := .agg #[hiW d, loW d, .int .i64 t]) (reads_agg (cs := [hiW d, loW d, .int .i64 t]) tyDec rfl) rfl rfl rfl rfl ?_
  refine h_q hfl rfl ?_
  refine h_call (ent_of Tryd.func10 (by kernel_rfl) rfl) (fun w hH => nearB _ hn ht) rfl rfl rfl rfl ?_
  refine h_store 0 (v := Dc d n) (#[hiW d, loW d, .int .i64 n]) tyDec.2 rfl rfl rfl rfl rfl rfl rfl rfl rfl rfl ?_
  refine h_done (d_reg ?_)
  refine h_load 1 (v := .agg #[hiW c, loW c, .int .i64 m]) (reads_agg (cs := [hiW c, loW c, .int .i64 m]) tyDec rfl) rfl rfl rfl rfl ?_
  refine h_load 0 (v := .agg #[hiW d, loW d, .int .i64 n]) (reads_agg (cs := [hiW d, loW d, .int .i64 n]) tyDec rfl) rfl rfl rfl rfl ?_
  refine h_q hfl rfl ?_
  refine h_call (ent_of Tryd.func23 (by kernel_rfl) rfl) (fun w hH => mulL _ hp hc hd) rfl rfl rfl rfl ?_
  refine h_q hfl rfl ?_
  refine h_alloc zeDec rfl rfl ?_; intro g9_3
  refine h_store 0 (v := Dc p.1 p.2.1) (#[hiW p.1, loW p.1, .int .i64 p.2.1]) tyDec.2 rfl rfl rfl rfl rfl rfl rfl rfl rfl rfl ?_
  refine h_q hfl rfl ?_
  refine h_done (d_reg ?_)
  refine h_load 2 (v := .agg #[hiW c, loW c, .int .i64 m]) (reads_agg (cs := [hiW c, loW c, .int .i64 m]) tyDec rfl) rfl rfl rfl rfl ?_
  refine h_load 1 (v := .agg #[hiW d, loW d, .int .i64 n]) (reads_agg (cs := [hiW d, loW d, .int .i64 n]) tyDec rfl) rfl rfl rfl rfl ?_
  refine h_q hfl rfl ?_
  refine h_call (ent_of Tryd.func24 (by kernel_rfl) rfl) (fun w hH => rmulL _ hp hc hd) rfl rfl rfl rfl ?_
  refine h_q hfl rfl ?_
  refine h_alloc zeDec rfl rfl ?_; intro g11_4
  refine h_store 0 (v := Dc p.1 p.2.1) (#[hiW p.1, loW p.1, .int .i64 p.2.1]) tyDec.2 rfl rfl rfl rfl rfl rfl rfl rfl rfl rfl ?_
  refine h_q hfl rfl ?_
  refine h_done (d_reg ?_)
  refine h_call (ent_of Tryd.func17 (by kernel_rfl) rfl) (fun w hH => known3_any _ (tab_below htab hH.up.below hg) (Nat.lt_of_lt_of_le hg hH.up.size)) rfl rfl rfl rfl ?_
  refine h_q hfl rfl ?_
  refine h_load 1 (v := .agg #[hiW p.1, loW p.1, .int .i64 p.2.1]) (reads_agg (cs := [hiW p.1, loW p.1, .int .i64 p.2.1]) tyDec rfl) rfl rfl rfl rfl ?_
  refine h_load 0 (v := .agg #[hiW p.1, loW p.1, .int .i64 p.2.1]) (reads_agg (cs := [hiW p.1, loW p.1, .int .i64 p.2.1]) tyDec rfl) rfl rfl rfl rfl ?_
  refine h_eqs (eqD_same _ _ _) rfl rfl rfl rfl ?_
  refine h_q hfl rfl ?_
  refine h_cmp (cmp_eql_t rfl) rfl rfl rfl rfl ?_
  refine h_q hfl rfl ?_
  refine h_done (d_ret ?_)
  exact f_fin1 (.tmp rfl) (fun w h => ⟨rfl, h.up.below⟩) rfl

theorem lawRescales_f (w : World) (c s u : Int) (hc : Fits c) (hs : -9223372036854775808 ≤ s ∧ s < 9223372036854775808) (hu : -9223372036854775808 ≤ u ∧ u < 9223372036854775808) {m : Int} (hm : nearS false s = m) {p : Int × Int × Int} (hp : rescP c m u = p) (htab : Lib.TabIs Tryd.prog w "internal/strconv.uint64pow10" .u64 Lib.pow10Tab) (hg : 2 < w.heap.size) : Calls Tryd.prog 6 #[Dc c s, .int .i64 u, .bool false] w fun e w' => e = .returned (.bool true) ∧ Below w.heap.size w w' := by
  refine d_in (args := [Dc c s, .int .i64 u, .bool false]) 40 Tryd.func6 rfl rfl rfl ?_
  refine d_reg ?_
  refine h_box (cs := #[hiW c, loW c, .int .i64 s]) rfl rfl rfl rfl ?_; intro g3_1
  refine h_q hfl rfl ?_
  refine h_done (d_seq (d_reg ?_))
  refine h_q hfl rfl ?_
  refine h_done (d_else rfl (d_skip (f_to (d_reg ?_))))
  refine h_load 0 (v := .agg #[hiW c, loW c, .int .i64 s]) (reads_agg (cs := [hiW c, loW c, .int .i64 s]) tyDec rfl) rfl rfl rfl rfl ?_
  refine h_q hfl rfl ?_
  refine h_call (ent_of Tryd.func10 (by kernel_rfl) rfl) (fun w hH => nearB _ hm hs) rfl rfl rfl rfl ?_
  refine h_store 0 (v := Dc c m) (#[hiW c, loW c, .int .i64 m]) tyDec.2 rfl rfl rfl rfl rfl rfl rfl rfl rfl rfl ?_
  refine h_done (d_reg ?_)
  refine h_load 0 (v := .agg #[hiW c, loW c, .int .i64 m]) (reads_agg (cs := [hiW c, loW c, .int .i64 m]) tyDec rfl) rfl rfl rfl rfl ?_
  refine h_q hfl rfl ?_
  refine h_call (ent_of Tryd.func25 (by kernel_rfl) rfl) (fun w hH => rescL _ hp hc) rfl rfl rfl rfl ?_
  refine h_q hfl rfl ?_
  refine h_alloc zeDec rfl rfl ?_; intro g7_2
  refine h_store 0 (v := Dc p.1 p.2.1) (#[hiW p.1, loW p.1, .int .i64 p.2.1]) tyDec.2 rfl rfl rfl rfl rfl rfl rfl rfl rfl rfl ?_
  refine h_q hfl rfl ?_
  refine h_done (d_reg ?_)
  refine h_load 1 (v := .agg #[hiW c, loW c, .int .i64 m]) (reads_agg (cs := [hiW c, loW c, .int .i64 m]) tyDec rfl) rfl rfl rfl rfl ?_
  refine h_q hfl rfl ?_
  refine h_call (ent_of Tryd.func26 (by kernel_rfl) rfl) (fun w hH => rrescL _ hp hc) rfl rfl rfl rfl ?_
  refine h_q hfl rfl ?_
  refine h_alloc zeDec rfl rfl ?_; intro g9_3
  refine h_store 0 (v := Dc p.1 p.2.1) (#[hiW p.1, loW p.1, .int .i64 p.2.1]) tyDec.2 rfl rfl rfl rfl rfl rfl rfl rfl rfl rfl ?_
  refine h_q hfl rfl ?_
  refine h_done (d_reg ?_)
  refine h_call (ent_of Tryd.func17 (by kernel_rfl) rfl) (fun w hH => known3_any _ (tab_below htab hH.up.below hg) (Nat.lt_of_lt_of_le hg hH.up.size)) rfl rfl rfl rfl ?_
  refine h_q hfl rfl ?_
  refine h_load 1 (v := .agg #[hiW p.1, loW p.1, .int .i64 p.2.1]) (reads_agg (cs := [hiW p.1, loW p.1, .int .i64 p.2.1]) tyDec rfl) rfl rfl rfl rfl ?_
  refine h_load 0 (v := .agg #[hiW p.1, loW p.1, .int .i64 p.2.1]) (reads_agg (cs := [hiW p.1, loW p.1, .int .i64 p.2.1]) tyDec rfl) rfl rfl rfl rfl ?_
  refine h_eqs (eqD_same _ _ _) rfl rfl rfl rfl ?_
  refine h_q hfl rfl ?_
  refine h_cmp (cmp_eql_t rfl) rfl rfl rfl rfl ?_
  refine h_q hfl rfl ?_
  refine h_done (d_ret ?_)
  exact f_fin1 (.tmp rfl) (fun w h => ⟨rfl, h.up.below⟩) rfl
theorem lawMuls (w : World) (c s d t u : Int) (is : Bool) (hc : Fits c) (hd : Fits d) (hs : -9223372036854775808 ≤ s ∧ s < 9223372036854775808) (ht : -9223372036854775808 ≤ t ∧ t < 9223372036854775808) (hu : -9223372036854775808 ≤ u ∧ u < 9223372036854775808) (htab : Lib.TabIs Tryd.prog w "internal/strconv.uint64pow10" .u64 Lib.pow10Tab) (hg : 2 < w.heap.size) : Calls Tryd.prog 5 #[Dc c s, Dc d t, .int .i64 u, .bool is] w fun e w' => e = .returned (.bool true) ∧ Below w.heap.size w w' := by
  cases is
  · exact lawMuls_f w c s d t u hc hd hs ht hu rfl rfl rfl htab hg
  · exact lawMuls_t w c s d t u hc hd hs ht hu rfl rfl rfl rfl htab hg
theorem lawRescales (w : World) (c s u : Int) (is : Bool) (hc : Fits c) (hs : -9223372036854775808 ≤ s ∧ s < 9223372036854775808) (hu : -9223372036854775808 ≤ u ∧ u < 9223372036854775808) (htab : Lib.TabIs Tryd.prog w "internal/strconv.uint64pow10" .u64 Lib.pow10Tab) (hg : 2 < w.heap.size) : Calls Tryd.prog 6 #[Dc c s, .int .i64 u, .bool is] w fun e w' => e = .returned (.bool true) ∧ Below w.heap.size w w' := by
  cases is
  · exact lawRescales_f w c s u hc hs hu rfl rfl htab hg
  · exact lawRescales_t w c s u hc hs hu rfl rfl rfl htab hg
end Go.Proofs.YtmamedobphlpkaaDoor
