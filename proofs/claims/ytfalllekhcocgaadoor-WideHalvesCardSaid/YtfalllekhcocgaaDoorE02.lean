/-
  HalvesL
-/
import Derived.Test.YtfalllekhcocgaaDoorA11
import Derived.Test.YtfalllekhcocgaaDoorB01
import Derived.Test.YtfalllekhcocgaaDoorB03
import Derived.Test.YtfalllekhcocgaaDoorE01
set_option linter.unusedSimpArgs false
set_option linter.unusedVariables false

namespace Go.Proofs.YtfalllekhcocgaaDoor
open Go.RowKit

theorem pickV (w : World) {k n m : Int} (h : k % n = m) (hk : -9223372036854775808 ≤ k ∧ k < 9223372036854775808) (hn : 0 < n ∧ n ≤ 1048576) : Calls Tryd.prog 34 #[.int .i64 k, .int .i64 n] w fun e w' => e = .returned (.int .i64 m) ∧ Below w.heap.size w w' := by
  subst h; exact as_same (pick_any w k n hk hn)
theorem powV (w : World) {j : Nat} {T : Int} (h : ((10 ^ j : Nat) : Int) = T) (hf : Fits T) (hj : j ≤ 38) : Calls Tryd.prog 35 #[.int .i64 (j : Int)] w fun e w' => e = .returned (.tuple #[WV T, .int .i64 0]) ∧ Below w.heap.size w w' := by
  have := pow_any w j hj
  rwa [h, resV_fit hf] at this
theorem divVV (w : World) {x y : Int} {v : Value} (h : divV x y = v) (hx : Fits x) (hy : Fits y) : Calls Tryd.prog 16 #[WV x, WV y] w fun e w' => e = .returned v ∧ Below w.heap.size w w' := by
  rw [← h]; exact divc_any w x y hx hy
theorem mulVV (w : World) {yh xl y x : Int} {v : Value} (e : WV y = .agg #[.int .i64 yh, .int .u64 xl]) (h : resV (y * x) = v) (hy : Fits y) (hx : Fits x) : Calls Tryd.prog 15 #[.agg #[.int .i64 yh, .int .u64 xl], WV x] w fun e w' => e = .returned v ∧ Below w.heap.size w w' := by
  rw [← h, ← e]; exact mul_any w y x hy hx
theorem addVV (w : World) {x y : Int} {v : Value} (h : resV (x + y) = v) (hx : Fits x) (hy : Fits y) : Calls Tryd.prog 22 #[WV x, WV y] w fun e w' => e = .returned v ∧ Below w.heap.size w w' := by
  rw [← h]; exact add_any w x y hx hy
theorem scaVV (w : World) {x y : Int} {j : Nat} {v : Value} (h : resV (roundZ (x * y) (j : Int)) = v) (hx : Fits x) (hy : Fits y) (hj : j ≤ 36) : Calls Tryd.prog 18 #[WV x, WV y, .int .i64 (j : Int)] w fun e w' => e = .returned v ∧ Below w.heap.size w w' := by
  rw [← h, ← scZ_round]; exact scaled_any w x y j hx hy hj
theorem rscVV (w : World) {x y : Int} {j : Nat} {v : Value} (h : resV (roundZ (x * y) (j : Int)) = v) (hx : Fits x) (hy : Fits y) (hj : j ≤ 36) : Calls Tryd.prog 33 #[WV x, WV y, .int .i64 (j : Int)] w fun e w' => e = .returned v ∧ Below w.heap.size w w' := by
  rw [← h]; exact rscaled_any w x y (j : Int) hx hy (by omega)
theorem ten_fits : ∀ j : Nat, j ≤ 38 → Fits ((10 ^ j : Nat) : Int) := by decide
theorem half_fits {T : Int} (h : Fits T) (h0 : 0 ≤ T) : ∃ a r, divV T 2 = .tuple #[WV a, WV r, .int .i64 0] ∧ Fits a := by
  have hf : Fits (dq T 2) := by unfold dq mag; unfold Fits at *; (repeat' split) <;> omega
  exact ⟨_, _, by unfold divV; rw [if_neg (by decide), if_pos hf], hf⟩
theorem res_wv (z : Int) : ∃ x e : Int, resV z = .tuple #[WV x, .int .i64 e] := by
  unfold resV
  split <;> exact ⟨_, _, rfl⟩
theorem res_ways (z : Int) : (∃ p, p = z ∧ Fits p ∧ resV z = .tuple #[WV p, .int .i64 0]) ∨ resV z = .tuple #[WV 0, .int .i64 20] := by
  by_cases h : Fits z
  · exact .inl ⟨z, rfl, h, resV_fit h⟩
  · exact .inr (resV_over h)

theorem lawHalves (w : World) (xh xl k off : Int) (hxl : 0 ≤ xl ∧ xl < 18446744073709551616) (hk : -9223372036854775808 ≤ k ∧ k < 9223372036854775808) (hoff : -9223372036854775808 ≤ off ∧ off < 9223372036854775808) (htab : Lib.TabIs Tryd.prog w "internal/strconv.uint64pow10" .u64 Lib.pow10Tab) (hg : 2 < w.heap.size) : Calls Tryd.prog 8 #[.agg #[.int .i64 xh, .int .u64 xl], .int .i64 k, .int .i64 off] w fun e w' => e = .returned (.bool true) ∧ Below w.heap.size w w' := by
  obtain ⟨u, hu⟩ : ∃ u, k % 18 = u := ⟨_, rfl⟩
  have hu1 := Int.emod_nonneg k (show (18 : Int) ≠ 0 by decide)
  have hu2 := Int.emod_lt_of_pos k (show (0 : Int) < 18 by decide)
  rw [hu] at hu1 hu2
  obtain ⟨j, hj⟩ : ∃ j : Nat, (j : Int) = 1 + u := ⟨(1 + u).toNat, by omega⟩
  obtain ⟨v, hv3⟩ : ∃ v, off % 3 = v := ⟨_, rfl⟩
  have hv1 := Int.emod_nonneg off (show (3 : Int) ≠ 0 by decide)
  have hv2 := Int.emod_lt_of_pos off (show (0 : Int) < 3 by decide)
  rw [hv3] at hv1 hv2
  obtain ⟨T, hT⟩ : ∃ T, ((10 ^ j : Nat) : Int) = T := ⟨_, rfl⟩
  have hTf : Fits T := by rw [← hT]; exact ten_fits j (by omega)
  have hT0 : 0 ≤ T := by rw [← hT]; exact Int.natCast_nonneg _
  obtain ⟨a, r, hdiv, haf⟩ := half_fits hTf hT0
  obtain ⟨yh, hyh⟩ : ∃ yh, xh.tmod 1073741824 = yh := ⟨_, rfl⟩
  have hyb : -1073741824 < yh ∧ yh < 1073741824 := by rw [← hyh]; exact ⟨by have := Int.lt_tmod_of_pos xh (show (0 : Int) < 1073741824 by decide); omega, Int.tmod_lt_of_pos xh (by decide)⟩
  obtain ⟨y, hyd⟩ : ∃ y, y = yh * 18446744073709551616 + xl := ⟨_, rfl⟩
  have hy : WV y = .agg #[.int .i64 yh, .int .u64 xl] := by rw [hyd]; exact WV_words hxl.1 hxl.2
  have hyf : Fits y := by unfold Fits; omega
  refine d_in (args := [.agg #[.int .i64 xh, .int .u64 xl], .int .i64 k, .int .i64 off]) 98 Tryd.func8 rfl rfl rfl ?_
  refine d_reg ?_
  refine h_box (cs := #[.int .i64 xh, .int .u64 xl]) rfl rfl rfl rfl ?_; intro g3_1
  refine h_q hflW rfl ?_
  refine h_done (d_reg ?_)
  refine h_q hflW rfl ?_
  refine h_call (ent_of Tryd.func34 (by kernel_rfl) rfl) (fun w hH => pickV _ hu hk (by decide)) rfl rfl rfl rfl ?_
  refine h_ar (z' := (j : Int)) (by rw [IntWalk.i64_in _ (by omega)]; omega) rfl rfl rfl rfl rfl ?_
  refine h_q hflW rfl ?_
  refine h_done (d_reg ?_)
  refine h_q hflW rfl ?_
  refine h_call (ent_of Tryd.func35 (by kernel_rfl) rfl) (fun w hH => powV _ hT hTf (by omega)) rfl rfl rfl rfl ?_
  refine h_q hflW rfl ?_
  refine h_alloc zeWide rfl rfl ?_; intro g7_2
  refine h_store 0 (v := WV T) (#[hiW T, loW T]) tyWide.2 rfl rfl rfl rfl rfl rfl rfl rfl rfl rfl ?_
  refine h_q hflW rfl ?_
  refine h_done (d_seq ?_)
  refine d_par 11 2 [⟨.quiet, 0, fun _ => .agg #[hiW T, loW T], []⟩, ⟨.call, 1, fun _ => WV 2, []⟩, ⟨.call, 2, fun _ => .tuple #[WV a, WV r, .int .i64 0], [0, 1]⟩, ⟨.quiet, 2, fun _ => .tuple #[WV a, WV r, .int .i64 0], [2]⟩, ⟨.quiet, 2, fun _ => WV a, [3]⟩, ⟨.quiet, 2, fun _ => WV r, [3]⟩, ⟨.quiet, 2, fun _ => .int .i64 0, [3]⟩, ⟨.alloc 24 #[.int .i64 0, .int .u64 0], 0, fun _ => undef, []⟩, ⟨.alloc 24 #[.int .i64 0, .int .u64 0], 0, fun _ => undef, []⟩, ⟨.store 7 #[hiW a, loW a], 2, fun _ => undef, [7, 4]⟩, ⟨.store 8 #[hiW r, loW r], 2, fun _ => undef, [8, 5]⟩] [(2, .int .i64 off), (3, .pointer (some ⟨g3_1, 0, none⟩)), (6, .bool false), (1, .int .i64 (j : Int)), (7, .pointer (some ⟨g7_2, 0, none⟩)), (8, .int .i64 0)] (by kernel_rfl) (by kernel_rfl) ⟨rfl, rfl, rfl, rfl, rfl, rfl, trivial⟩ ?_ ?_
  · skip
    refine o_cons (o_load 0 (reads_agg (cs := [hiW T, loW T]) tyWide rfl) (fun _ _ => rfl) rfl (fun _ _ => rfl) rfl) ?_
    refine o_cons (o_call (ent_of Tryd.func17 (by kernel_rfl) rfl) (fun w hU => of_any _ 2 (by decide)) (fun _ _ => rfl) rfl (fun _ _ => rfl) (fun _ _ => rfl)) ?_
    refine o_cons (o_call (ent_of Tryd.func16 (by kernel_rfl) rfl) (fun w hU => divVV _ hdiv hTf (by unfold Fits; omega)) (fun _ _ => rfl) rfl (fun _ _ => rfl) (fun _ _ => rfl)) ?_
    refine o_cons (o_q hflW (fun _ _ => rfl) (fun _ _ => rfl)) ?_
    refine o_cons (o_q hflW (fun _ _ => rfl) (fun _ _ => rfl)) ?_
    refine o_cons (o_q hflW (fun _ _ => rfl) (fun _ _ => rfl)) ?_
    refine o_cons (o_q hflW (fun _ _ => rfl) (fun _ _ => rfl)) ?_
    refine o_cons (o_alloc zeWide rfl rfl) ?_
    refine o_cons (o_alloc zeWide rfl rfl) ?_
    refine o_cons (o_store (t := 7) (v := WV a) rfl rfl tyWide.2 rfl rfl rfl rfl (fun _ _ => rfl) rfl (fun _ _ => rfl) (fun _ _ => rfl)) ?_
    refine o_cons (o_store (t := 8) (v := WV r) rfl rfl tyWide.2 rfl rfl rfl rfl (fun _ _ => rfl) rfl (fun _ _ => rfl) (fun _ _ => rfl)) ?_
    exact o_nil
  intro σ3 gs3
  refine WL2.keep (env' := [(2, .int .i64 off), (3, .pointer (some ⟨g3_1, 0, none⟩)), (6, .bool false), (1, .int .i64 (j : Int)), (7, .pointer (some ⟨g7_2, 0, none⟩)), (8, .int .i64 0), (32, .int .i64 0), (9, .pointer (some ⟨(gs3 7), 0, none⟩))]) ⟨rfl, rfl, rfl, rfl, rfl, rfl, rfl, rfl, trivial⟩ ?_
  refine h_q hflW rfl ?_
  refine h_nil (f_to (d_reg ?_))
  refine h_q hflW rfl ?_
  refine h_load 3 (v := .int .i64 xh) (reads_one tyInt64 rfl) rfl rfl rfl rfl ?_
  refine h_val rfl (.int .i64 yh) (fun b w hb hH => by exact exec_remN rfl rfl rfl (by decide) hyh hb) ?_
  refine h_q hflW rfl ?_
  refine h_store 3 (v := .int .i64 yh) (#[.int .i64 yh, .int .u64 xl]) tyInt64.2 rfl rfl rfl rfl rfl rfl rfl rfl rfl rfl ?_
  refine h_done ?_
  rcases res_ways (y * T) with ⟨p, hpd, hpf, hs⟩ | hs
  · skip
    refine d_reg ?_
    refine h_load 3 (v := .agg #[.int .i64 yh, .int .u64 xl]) (reads_agg (cs := [.int .i64 yh, .int .u64 xl]) tyWide rfl) rfl rfl rfl rfl ?_
    refine h_load 2 (v := .agg #[hiW T, loW T]) (reads_agg (cs := [hiW T, loW T]) tyWide rfl) rfl rfl rfl rfl ?_
    refine h_call (ent_of Tryd.func15 (by kernel_rfl) rfl) (fun w hH => mulVV _ hy hs hyf hTf) rfl rfl rfl rfl ?_
    refine h_q hflW rfl ?_
    refine h_alloc zeWide rfl rfl ?_; intro g12_4
    refine h_store 0 (v := WV p) (#[hiW p, loW p]) tyWide.2 rfl rfl rfl rfl rfl rfl rfl rfl rfl rfl ?_
    refine h_q hflW rfl ?_
    refine h_done (d_seq (d_reg ?_))
    refine h_call (ent_of Tryd.func20 (by kernel_rfl) rfl) (fun w hH => known_any _ (tab_below htab hH.up.below hg) (Nat.lt_of_lt_of_le hg hH.up.size)) rfl rfl rfl rfl ?_
    refine h_q hflW rfl ?_
    refine h_cmp (cmp_neq_f (by decide)) rfl rfl rfl rfl ?_
    refine h_q hflW rfl ?_
    refine h_done (d_else rfl (d_skip (f_to (d_seq (d_reg ?_)))))
    refine h_q hflW rfl ?_
    refine h_cmp (cmp_neq_f (by decide)) rfl rfl rfl rfl ?_
    refine h_done (d_else rfl (d_skip (f_to ?_)))
    rcases res_ways (p + a) with ⟨q, hqd, hqf, hs⟩ | hs
    · skip
      refine d_reg ?_
      refine h_load 0 (v := .agg #[hiW p, loW p]) (reads_agg (cs := [hiW p, loW p]) tyWide rfl) rfl rfl rfl rfl ?_
      refine h_load 1 (v := .agg #[hiW a, loW a]) (reads_agg (cs := [hiW a, loW a]) tyWide rfl) rfl rfl rfl rfl ?_
      refine h_call (ent_of Tryd.func22 (by kernel_rfl) rfl) (fun w hH => addVV _ hs hpf haf) rfl rfl rfl rfl ?_
      refine h_q hflW rfl ?_
      refine h_store 0 (v := WV q) (#[hiW q, loW q]) tyWide.2 rfl rfl rfl rfl rfl rfl rfl rfl rfl rfl ?_
      refine h_q hflW rfl ?_
      refine h_done (d_seq (d_reg ?_))
      refine h_q hflW rfl ?_
      refine h_cmp (cmp_neq_f (by decide)) rfl rfl rfl rfl ?_
      refine h_done (d_else rfl (d_skip (f_to ?_)))
      rcases res_ways (q + (v - 1)) with ⟨s, hsd, hsf, hs⟩ | hs
      · skip
        refine d_seq ?_
        refine d_any (by kernel_rfl) ?_
        refine b_two 0 1 (by kernel_rfl) ?_ ?_
        · skip
          refine b_load 0 (v := .agg #[hiW q, loW q]) (reads_agg (cs := [hiW q, loW q]) tyWide rfl) rfl rfl rfl rfl rfl ?_
          refine b_one 1 (by kernel_rfl) ?_
          refine b_q hflW rfl rfl rfl ?_
          refine b_one 2 (by kernel_rfl) ?_
          refine b_call (ent_of Tryd.func34 (by kernel_rfl) rfl) (fun w hH => pickV _ hv3 hoff (by decide)) rfl rfl rfl rfl rfl ?_
          refine b_one 3 (by kernel_rfl) ?_
          refine b_ar (z' := v - 1) (IntWalk.i64_in _ (by omega)) rfl rfl rfl rfl rfl rfl ?_
          refine b_one 4 (by kernel_rfl) ?_
          refine b_call (ent_of Tryd.func17 (by kernel_rfl) rfl) (fun w hH => of_any _ (v - 1) (by omega)) rfl rfl rfl rfl rfl ?_
          refine b_one 5 (by kernel_rfl) ?_
          refine b_call (ent_of Tryd.func22 (by kernel_rfl) rfl) (fun w hH => addVV _ hs hqf (by unfold Fits; omega)) rfl rfl rfl rfl rfl ?_
          refine b_one 6 (by kernel_rfl) ?_
          refine b_q hflW rfl rfl rfl ?_
          refine b_two 7 8 (by kernel_rfl) ?_ ?_
          · skip
            refine b_q hflW rfl rfl rfl ?_
            refine b_two 8 9 (by kernel_rfl) ?_ ?_
            · skip
              refine b_q hflW rfl rfl rfl ?_
              refine b_one 9 (by kernel_rfl) ?_
              refine b_store 0 (v := WV s) (#[hiW s, loW s]) tyWide.2 rfl rfl rfl rfl rfl rfl rfl rfl rfl rfl rfl ?_
              refine b_one 10 (by kernel_rfl) ?_
              refine b_q hflW rfl rfl rfl ?_
              refine b_done (by kernel_rfl) ?_
              refine f_to ?_
              refine WC2.keep (env' := [(6, .bool false), (1, .int .i64 (j : Int)), (12, .pointer (some ⟨g12_4, 0, none⟩)), (13, .int .i64 0)]) ⟨rfl, rfl, rfl, rfl, trivial⟩ ?_
              refine d_seq (d_reg ?_)
              refine h_q hflW rfl ?_
              refine h_cmp (cmp_neq_f (by decide)) rfl rfl rfl rfl ?_
              refine h_done (d_else rfl (d_skip (f_to ?_)))
              obtain ⟨ra, re, hr⟩ := res_wv (roundZ (s * 1) (j : Int))
              refine d_seq ?_
              refine d_par 9 2 [⟨.quiet, 0, fun _ => .agg #[hiW s, loW s], []⟩, ⟨.call, 1, fun _ => WV 1, []⟩, ⟨.quiet, 0, fun _ => .int .i64 (j : Int), []⟩, ⟨.call, 2, fun _ => .tuple #[WV ra, .int .i64 re], [0, 1, 2]⟩, ⟨.quiet, 2, fun _ => .tuple #[WV ra, .int .i64 re], [3]⟩, ⟨.quiet, 2, fun _ => WV ra, [4]⟩, ⟨.quiet, 2, fun _ => .int .i64 re, [4]⟩, ⟨.alloc 24 #[.int .i64 0, .int .u64 0], 0, fun _ => undef, []⟩, ⟨.store 7 #[hiW ra, loW ra], 2, fun _ => undef, [7, 5]⟩] [(6, .bool false), (1, .int .i64 (j : Int)), (12, .pointer (some ⟨g12_4, 0, none⟩))] (by kernel_rfl) (by kernel_rfl) ⟨rfl, rfl, rfl, trivial⟩ ?_ ?_
              · skip
                refine o_cons (o_load 0 (reads_agg (cs := [hiW s, loW s]) tyWide rfl) (fun _ _ => rfl) rfl (fun _ _ => rfl) rfl) ?_
                refine o_cons (o_call (ent_of Tryd.func17 (by kernel_rfl) rfl) (fun w hU => of_any _ 1 (by decide)) (fun _ _ => rfl) rfl (fun _ _ => rfl) (fun _ _ => rfl)) ?_
                refine o_cons (o_q hflW (fun _ _ => rfl) (fun _ _ => rfl)) ?_
                refine o_cons (o_call (ent_of Tryd.func18 (by kernel_rfl) rfl) (fun w hU => scaVV _ hr hsf (by unfold Fits; omega) (by omega)) (fun _ _ => rfl) rfl (fun _ _ => rfl) (fun _ _ => rfl)) ?_
                refine o_cons (o_q hflW (fun _ _ => rfl) (fun _ _ => rfl)) ?_
                refine o_cons (o_q hflW (fun _ _ => rfl) (fun _ _ => rfl)) ?_
                refine o_cons (o_q hflW (fun _ _ => rfl) (fun _ _ => rfl)) ?_
                refine o_cons (o_alloc zeWide rfl rfl) ?_
                refine o_cons (o_store (t := 7) (v := WV ra) rfl rfl tyWide.2 rfl rfl rfl rfl (fun _ _ => rfl) rfl (fun _ _ => rfl) (fun _ _ => rfl)) ?_
                exact o_nil
              intro σ5 gs5
              refine WL2.keep (env' := [(6, .bool false), (1, .int .i64 (j : Int)), (12, .pointer (some ⟨g12_4, 0, none⟩)), (82, .int .i64 re), (14, .pointer (some ⟨(gs5 7), 0, none⟩))]) ⟨rfl, rfl, rfl, rfl, rfl, trivial⟩ ?_
              refine h_q hflW rfl ?_
              refine h_nil (f_to (d_seq ?_))
              refine d_par 9 2 [⟨.quiet, 0, fun _ => .agg #[hiW s, loW s], []⟩, ⟨.call, 1, fun _ => WV 1, []⟩, ⟨.quiet, 0, fun _ => .int .i64 (j : Int), []⟩, ⟨.call, 2, fun _ => .tuple #[WV ra, .int .i64 re], [0, 1, 2]⟩, ⟨.quiet, 2, fun _ => .tuple #[WV ra, .int .i64 re], [3]⟩, ⟨.quiet, 2, fun _ => WV ra, [4]⟩, ⟨.quiet, 2, fun _ => .int .i64 re, [4]⟩, ⟨.alloc 24 #[.int .i64 0, .int .u64 0], 0, fun _ => undef, []⟩, ⟨.store 7 #[hiW ra, loW ra], 2, fun _ => undef, [7, 5]⟩] [(6, .bool false), (1, .int .i64 (j : Int)), (12, .pointer (some ⟨g12_4, 0, none⟩)), (14, .pointer (some ⟨(gs5 7), 0, none⟩)), (15, .int .i64 re)] (by kernel_rfl) (by kernel_rfl) ⟨rfl, rfl, rfl, rfl, rfl, trivial⟩ ?_ ?_
              · skip
                refine o_cons (o_load 1 (reads_agg (cs := [hiW s, loW s]) tyWide rfl) (fun _ _ => rfl) rfl (fun _ _ => rfl) rfl) ?_
                refine o_cons (o_call (ent_of Tryd.func17 (by kernel_rfl) rfl) (fun w hU => of_any _ 1 (by decide)) (fun _ _ => rfl) rfl (fun _ _ => rfl) (fun _ _ => rfl)) ?_
                refine o_cons (o_q hflW (fun _ _ => rfl) (fun _ _ => rfl)) ?_
                refine o_cons (o_call (ent_of Tryd.func33 (by kernel_rfl) rfl) (fun w hU => rscVV _ hr hsf (by unfold Fits; omega) (by omega)) (fun _ _ => rfl) rfl (fun _ _ => rfl) (fun _ _ => rfl)) ?_
                refine o_cons (o_q hflW (fun _ _ => rfl) (fun _ _ => rfl)) ?_
                refine o_cons (o_q hflW (fun _ _ => rfl) (fun _ _ => rfl)) ?_
                refine o_cons (o_q hflW (fun _ _ => rfl) (fun _ _ => rfl)) ?_
                refine o_cons (o_alloc zeWide rfl rfl) ?_
                refine o_cons (o_store (t := 7) (v := WV ra) rfl rfl tyWide.2 rfl rfl rfl rfl (fun _ _ => rfl) rfl (fun _ _ => rfl) (fun _ _ => rfl)) ?_
                exact o_nil
              intro σ6 gs6
              refine WL2.keep (env' := [(6, .bool false), (14, .pointer (some ⟨(gs5 7), 0, none⟩)), (15, .int .i64 re), (89, .int .i64 re), (16, .pointer (some ⟨(gs6 7), 0, none⟩))]) ⟨rfl, rfl, rfl, rfl, rfl, trivial⟩ ?_
              refine h_q hflW rfl ?_
              refine h_nil (f_to (d_reg ?_))
              refine h_load 1 (v := .agg #[hiW ra, loW ra]) (reads_agg (cs := [hiW ra, loW ra]) tyWide rfl) rfl rfl rfl rfl ?_
              refine h_load 0 (v := .agg #[hiW ra, loW ra]) (reads_agg (cs := [hiW ra, loW ra]) tyWide rfl) rfl rfl rfl rfl ?_
              refine h_eqs (eqW_same _ _) rfl rfl rfl rfl ?_
              refine h_q hflW rfl ?_
              refine h_cmp (cmp_eql_t rfl) rfl rfl rfl rfl ?_
              refine h_q hflW rfl ?_
              refine h_done (d_ret ?_)
              exact f_fin1 (.tmp rfl) (fun w h => ⟨rfl, h.up.below⟩) rfl
            · skip
              refine b_store 0 (v := WV s) (#[hiW s, loW s]) tyWide.2 rfl rfl rfl rfl rfl rfl rfl rfl rfl rfl rfl ?_
              refine b_one 8 (by kernel_rfl) ?_
              refine b_q hflW rfl rfl rfl ?_
              refine b_one 10 (by kernel_rfl) ?_
              refine b_q hflW rfl rfl rfl ?_
              refine b_done (by kernel_rfl) ?_
              refine f_to ?_
              refine WC2.keep (env' := [(6, .bool false), (1, .int .i64 (j : Int)), (12, .pointer (some ⟨g12_4, 0, none⟩)), (13, .int .i64 0)]) ⟨rfl, rfl, rfl, rfl, trivial⟩ ?_
              refine d_seq (d_reg ?_)
              refine h_q hflW rfl ?_
              refine h_cmp (cmp_neq_f (by decide)) rfl rfl rfl rfl ?_
              refine h_done (d_else rfl (d_skip (f_to ?_)))
              obtain ⟨ra, re, hr⟩ := res_wv (roundZ (s * 1) (j : Int))
              refine d_seq ?_
              refine d_par 9 2 [⟨.quiet, 0, fun _ => .agg #[hiW s, loW s], []⟩, ⟨.call, 1, fun _ => WV 1, []⟩, ⟨.quiet, 0, fun _ => .int .i64 (j : Int), []⟩, ⟨.call, 2, fun _ => .tuple #[WV ra, .int .i64 re], [0, 1, 2]⟩, ⟨.quiet, 2, fun _ => .tuple #[WV ra, .int .i64 re], [3]⟩, ⟨.quiet, 2, fun _ => WV ra, [4]⟩, ⟨.quiet, 2, fun _ => .int .i64 re, [4]⟩, ⟨.alloc 24 #[.int .i64 0, .int .u64 0], 0, fun _ => undef, []⟩, ⟨.store 7 #[hiW ra, loW ra], 2, fun _ => undef, [7, 5]⟩] [(6, .bool false), (1, .int .i64 (j : Int)), (12, .pointer (some ⟨g12_4, 0, none⟩))] (by kernel_rfl) (by kernel_rfl) ⟨rfl, rfl, rfl, trivial⟩ ?_ ?_
              · skip
                refine o_cons (o_load 0 (reads_agg (cs := [hiW s, loW s]) tyWide rfl) (fun _ _ => rfl) rfl (fun _ _ => rfl) rfl) ?_
                refine o_cons (o_call (ent_of Tryd.func17 (by kernel_rfl) rfl) (fun w hU => of_any _ 1 (by decide)) (fun _ _ => rfl) rfl (fun _ _ => rfl) (fun _ _ => rfl)) ?_
                refine o_cons (o_q hflW (fun _ _ => rfl) (fun _ _ => rfl)) ?_
                refine o_cons (o_call (ent_of Tryd.func18 (by kernel_rfl) rfl) (fun w hU => scaVV _ hr hsf (by unfold Fits; omega) (by omega)) (fun _ _ => rfl) rfl (fun _ _ => rfl) (fun _ _ => rfl)) ?_
                refine o_cons (o_q hflW (fun _ _ => rfl) (fun _ _ => rfl)) ?_
                refine o_cons (o_q hflW (fun _ _ => rfl) (fun _ _ => rfl)) ?_
                refine o_cons (o_q hflW (fun _ _ => rfl) (fun _ _ => rfl)) ?_
                refine o_cons (o_alloc zeWide rfl rfl) ?_
                refine o_cons (o_store (t := 7) (v := WV ra) rfl rfl tyWide.2 rfl rfl rfl rfl (fun _ _ => rfl) rfl (fun _ _ => rfl) (fun _ _ => rfl)) ?_
                exact o_nil
              intro σ7 gs7
              refine WL2.keep (env' := [(6, .bool false), (1, .int .i64 (j : Int)), (12, .pointer (some ⟨g12_4, 0, none⟩)), (82, .int .i64 re), (14, .pointer (some ⟨(gs7 7), 0, none⟩))]) ⟨rfl, rfl, rfl, rfl, rfl, trivial⟩ ?_
              refine h_q hflW rfl ?_
              refine h_nil (f_to (d_seq ?_))
              refine d_par 9 2 [⟨.quiet, 0, fun _ => .agg #[hiW s, loW s], []⟩, ⟨.call, 1, fun _ => WV 1, []⟩, ⟨.quiet, 0, fun _ => .int .i64 (j : Int), []⟩, ⟨.call, 2, fun _ => .tuple #[WV ra, .int .i64 re], [0, 1, 2]⟩, ⟨.quiet, 2, fun _ => .tuple #[WV ra, .int .i64 re], [3]⟩, ⟨.quiet, 2, fun _ => WV ra, [4]⟩, ⟨.quiet, 2, fun _ => .int .i64 re, [4]⟩, ⟨.alloc 24 #[.int .i64 0, .int .u64 0], 0, fun _ => undef, []⟩, ⟨.store 7 #[hiW ra, loW ra], 2, fun _ => undef, [7, 5]⟩] [(6, .bool false), (1, .int .i64 (j : Int)), (12, .pointer (some ⟨g12_4, 0, none⟩)), (14, .pointer (some ⟨(gs7 7), 0, none⟩)), (15, .int .i64 re)] (by kernel_rfl) (by kernel_rfl) ⟨rfl, rfl, rfl, rfl, rfl, trivial⟩ ?_ ?_
              · skip
                refine o_cons (o_load 1 (reads_agg (cs := [hiW s, loW s]) tyWide rfl) (fun _ _ => rfl) rfl (fun _ _ => rfl) rfl) ?_
                refine o_cons (o_call (ent_of Tryd.func17 (by kernel_rfl) rfl) (fun w hU => of_any _ 1 (by decide)) (fun _ _ => rfl) rfl (fun _ _ => rfl) (fun _ _ => rfl)) ?_
                refine o_cons (o_q hflW (fun _ _ => rfl) (fun _ _ => rfl)) ?_
                refine o_cons (o_call (ent_of Tryd.func33 (by kernel_rfl) rfl) (fun w hU => rscVV _ hr hsf (by unfold Fits; omega) (by omega)) (fun _ _ => rfl) rfl (fun _ _ => rfl) (fun _ _ => rfl)) ?_
                refine o_cons (o_q hflW (fun _ _ => rfl) (fun _ _ => rfl)) ?_
                refine o_cons (o_q hflW (fun _ _ => rfl) (fun _ _ => rfl)) ?_
                refine o_cons (o_q hflW (fun _ _ => rfl) (fun _ _ => rfl)) ?_
                refine o_cons (o_alloc zeWide rfl rfl) ?_
                refine o_cons (o_store (t := 7) (v := WV ra) rfl rfl tyWide.2 rfl rfl rfl rfl (fun _ _ => rfl) rfl (fun _ _ => rfl) (fun _ _ => rfl)) ?_
                exact o_nil
              intro σ8 gs8
              refine WL2.keep (env' := [(6, .bool false), (14, .pointer (some ⟨(gs7 7), 0, none⟩)), (15, .int .i64 re), (89, .int .i64 re), (16, .pointer (some ⟨(gs8 7), 0, none⟩))]) ⟨rfl, rfl, rfl, rfl, rfl, trivial⟩ ?_
              refine h_q hflW rfl ?_
              refine h_nil (f_to (d_reg ?_))
              refine h_load 1 (v := .agg #[hiW ra, loW ra]) (reads_agg (cs := [hiW ra, loW ra]) tyWide rfl) rfl rfl rfl rfl ?_
              refine h_load 0 (v := .agg #[hiW ra, loW ra]) (reads_agg (cs := [hiW ra, loW ra]) tyWide rfl) rfl rfl rfl rfl ?_
              refine h_eqs (eqW_same _ _) rfl rfl rfl rfl ?_
              refine h_q hflW rfl ?_
              refine h_cmp (cmp_eql_t rfl) rfl rfl rfl rfl ?_
              refine h_q hflW rfl ?_
              refine h_done (d_ret ?_)
              exact f_fin1 (.tmp rfl) (fun w h => ⟨rfl, h.up.below⟩) rfl
          · skip
            refine b_q hflW rfl rfl rfl ?_
            refine b_one 7 (by kernel_rfl) ?_
            refine b_q hflW rfl rfl rfl ?_
            refine b_one 9 (by kernel_rfl) ?_
            refine b_store 0 (v := WV s) (#[hiW s, loW s]) tyWide.2 rfl rfl rfl rfl rfl rfl rfl rfl rfl rfl rfl ?_
            refine b_one 10 (by kernel_rfl) ?_
            refine b_q hflW rfl rfl rfl ?_
            refine b_done (by kernel_rfl) ?_
            refine f_to ?_
            refine WC2.keep (env' := [(6, .bool false), (1, .int .i64 (j : Int)), (12, .pointer (some ⟨g12_4, 0, none⟩)), (13, .int .i64 0)]) ⟨rfl, rfl, rfl, rfl, trivial⟩ ?_
            refine d_seq (d_reg ?_)
            refine h_q hflW rfl ?_
            refine h_cmp (cmp_neq_f (by decide)) rfl rfl rfl rfl ?_
            refine h_done (d_else rfl (d_skip (f_to ?_)))
            obtain ⟨ra, re, hr⟩ := res_wv (roundZ (s * 1) (j : Int))
            refine d_seq ?_
            refine d_par 9 2 [⟨.quiet, 0, fun _ => .agg #[hiW s, loW s], []⟩, ⟨.call, 1, fun _ => WV 1, []⟩, ⟨.quiet, 0, fun _ => .int .i64 (j : Int), []⟩, ⟨.call, 2, fun _ => .tuple #[WV ra, .int .i64 re], [0, 1, 2]⟩, ⟨.quiet, 2, fun _ => .tuple #[WV ra, .int .i64 re], [3]⟩, ⟨.quiet, 2, fun _ => WV ra, [4]⟩, ⟨.quiet, 2, fun _ => .int .i64 re, [4]⟩, ⟨.alloc 24 #[.int .i64 0, .int .u64 0], 0, fun _ => undef, []⟩, ⟨.store 7 #[hiW ra, loW ra], 2, fun _ => undef, [7, 5]⟩] [(6, .bool false), (1, .int .i64 (j : Int)), (12, .pointer (some ⟨g12_4, 0, none⟩))] (by kernel_rfl) (by kernel_rfl) ⟨rfl, rfl, rfl, trivial⟩ ?_ ?_
            · skip
              refine o_cons (o_load 0 (reads_agg (cs := [hiW s, loW s]) tyWide rfl) (fun _ _ => rfl) rfl (fun _ _ => rfl) rfl) ?_
              refine o_cons (o_call (ent_of Tryd.func17 (by kernel_rfl) rfl) (fun w hU => of_any _ 1 (by decide)) (fun _ _ => rfl) rfl (fun _ _ => rfl) (fun _ _ => rfl)) ?_
              refine o_cons (o_q hflW (fun _ _ => rfl) (fun _ _ => rfl)) ?_
              refine o_cons (o_call (ent_of Tryd.func18 (by kernel_rfl) rfl) (fun w hU => scaVV _ hr hsf (by unfold Fits; omega) (by omega)) (fun _ _ => rfl) rfl (fun _ _ => rfl) (fun _ _ => rfl)) ?_
              refine o_cons (o_q hflW (fun _ _ => rfl) (fun _ _ => rfl)) ?_
              refine o_cons (o_q hflW (fun _ _ => rfl) (fun _ _ => rfl)) ?_
              refine o_cons (o_q hflW (fun _ _ => rfl) (fun _ _ => rfl)) ?_
              refine o_cons (o_alloc zeWide rfl rfl) ?_
              refine o_cons (o_store (t := 7) (v := WV ra) rfl rfl tyWide.2 rfl rfl rfl rfl (fun _ _ => rfl) rfl (fun _ _ => rfl) (fun _ _ => rfl)) ?_
              exact o_nil
            intro σ9 gs9
            refine WL2.keep (env' := [(6, .bool false), (1, .int .i64 (j : Int)), (12, .pointer (some ⟨g12_4, 0, none⟩)), (82, .int .i64 re), (14, .pointer (some ⟨(gs9 7), 0, none⟩))]) ⟨rfl, rfl, rfl, rfl, rfl, trivial⟩ ?_
            refine h_q hflW rfl ?_
            refine h_nil (f_to (d_seq ?_))
            refine d_par 9 2 [⟨.quiet, 0, fun _ => .agg #[hiW s, loW s], []⟩, ⟨.call, 1, fun _ => WV 1, []⟩, ⟨.quiet, 0, fun _ => .int .i64 (j : Int), []⟩, ⟨.call, 2, fun _ => .tuple #[WV ra, .int .i64 re], [0, 1, 2]⟩, ⟨.quiet, 2, fun _ => .tuple #[WV ra, .int .i64 re], [3]⟩, ⟨.quiet, 2, fun _ => WV ra, [4]⟩, ⟨.quiet, 2, fun _ => .int .i64 re, [4]⟩, ⟨.alloc 24 #[.int .i64 0, .int .u64 0], 0, fun _ => undef, []⟩, ⟨.store 7 #[hiW ra, loW ra], 2, fun _ => undef, [7, 5]⟩] [(6, .bool false), (1, .int .i64 (j : Int)), (12, .pointer (some ⟨g12_4, 0, none⟩)), (14, .pointer (some ⟨(gs9 7), 0, none⟩)), (15, .int .i64 re)] (by kernel_rfl) (by kernel_rfl) ⟨rfl, rfl, rfl, rfl, rfl, trivial⟩ ?_ ?_
            · skip
              refine o_cons (o_load 1 (reads_agg (cs := [hiW s, loW s]) tyWide rfl) (fun _ _ => rfl) rfl (fun _ _ => rfl) rfl) ?_
              refine o_cons (o_call (ent_of Tryd.func17 (by kernel_rfl) rfl) (fun w hU => of_any _ 1 (by decide)) (fun _ _ => rfl) rfl (fun _ _ => rfl) (fun _ _ => rfl)) ?_
              refine o_cons (o_q hflW (fun _ _ => rfl) (fun _ _ => rfl)) ?_
              refine o_cons (o_call (ent_of Tryd.func33 (by kernel_rfl) rfl) (fun w hU => rscVV _ hr hsf (by unfold Fits; omega) (by omega)) (fun _ _ => rfl) rfl (fun _ _ => rfl) (fun _ _ => rfl)) ?_
              refine o_cons (o_q hflW (fun _ _ => rfl) (fun _ _ => rfl)) ?_
              refine o_cons (o_q hflW (fun _ _ => rfl) (fun _ _ => rfl)) ?_
              refine o_cons (o_q hflW (fun _ _ => rfl) (fun _ _ => rfl)) ?_
              refine o_cons (o_alloc zeWide rfl rfl) ?_
              refine o_cons (o_store (t := 7) (v := WV ra) rfl rfl tyWide.2 rfl rfl rfl rfl (fun _ _ => rfl) rfl (fun _ _ => rfl) (fun _ _ => rfl)) ?_
              exact o_nil
            intro σ10 gs10
            refine WL2.keep (env' := [(6, .bool false), (14, .pointer (some ⟨(gs9 7), 0, none⟩)), (15, .int .i64 re), (89, .int .i64 re), (16, .pointer (some ⟨(gs10 7), 0, none⟩))]) ⟨rfl, rfl, rfl, rfl, rfl, trivial⟩ ?_
            refine h_q hflW rfl ?_
            refine h_nil (f_to (d_reg ?_))
            refine h_load 1 (v := .agg #[hiW ra, loW ra]) (reads_agg (cs := [hiW ra, loW ra]) tyWide rfl) rfl rfl rfl rfl ?_
            refine h_load 0 (v := .agg #[hiW ra, loW ra]) (reads_agg (cs := [hiW ra, loW ra]) tyWide rfl) rfl rfl rfl rfl ?_
            refine h_eqs (eqW_same _ _) rfl rfl rfl rfl ?_
            refine h_q hflW rfl ?_
            refine h_cmp (cmp_eql_t rfl) rfl rfl rfl rfl ?_
            refine h_q hflW rfl ?_
            refine h_done (d_ret ?_)
            exact f_fin1 (.tmp rfl) (fun w h => ⟨rfl, h.up.below⟩) rfl
        · skip
          refine b_q hflW rfl rfl rfl ?_
          refine b_two 0 2 (by kernel_rfl) ?_ ?_
          · skip
            refine b_load 0 (v := .agg #[hiW q, loW q]) (reads_agg (cs := [hiW q, loW q]) tyWide rfl) rfl rfl rfl rfl rfl ?_
            refine b_one 2 (by kernel_rfl) ?_
            refine b_call (ent_of Tryd.func34 (by kernel_rfl) rfl) (fun w hH => pickV _ hv3 hoff (by decide)) rfl rfl rfl rfl rfl ?_
            refine b_one 3 (by kernel_rfl) ?_
            refine b_ar (z' := v - 1) (IntWalk.i64_in _ (by omega)) rfl rfl rfl rfl rfl rfl ?_
            refine b_one 4 (by kernel_rfl) ?_
            refine b_call (ent_of Tryd.func17 (by kernel_rfl) rfl) (fun w hH => of_any _ (v - 1) (by omega)) rfl rfl rfl rfl rfl ?_
            refine b_one 5 (by kernel_rfl) ?_
            refine b_call (ent_of Tryd.func22 (by kernel_rfl) rfl) (fun w hH => addVV _ hs hqf (by unfold Fits; omega)) rfl rfl rfl rfl rfl ?_
            refine b_one 6 (by kernel_rfl) ?_
            refine b_q hflW rfl rfl rfl ?_
            refine b_two 7 8 (by kernel_rfl) ?_ ?_
            · skip
              refine b_q hflW rfl rfl rfl ?_
              refine b_two 8 9 (by kernel_rfl) ?_ ?_
              · skip
                refine b_q hflW rfl rfl rfl ?_
                refine b_one 9 (by kernel_rfl) ?_
                refine b_store 0 (v := WV s) (#[hiW s, loW s]) tyWide.2 rfl rfl rfl rfl rfl rfl rfl rfl rfl rfl rfl ?_
                refine b_one 10 (by kernel_rfl) ?_
                refine b_q hflW rfl rfl rfl ?_
                refine b_done (by kernel_rfl) ?_
                refine f_to ?_
                refine WC2.keep (env' := [(6, .bool false), (1, .int .i64 (j : Int)), (12, .pointer (some ⟨g12_4, 0, none⟩)), (13, .int .i64 0)]) ⟨rfl, rfl, rfl, rfl, trivial⟩ ?_
                refine d_seq (d_reg ?_)
                refine h_q hflW rfl ?_
                refine h_cmp (cmp_neq_f (by decide)) rfl rfl rfl rfl ?_
                refine h_done (d_else rfl (d_skip (f_to ?_)))
                obtain ⟨ra, re, hr⟩ := res_wv (roundZ (s * 1) (j : Int))
                refine d_seq ?_
                refine d_par 9 2 [⟨.quiet, 0, fun _ => .agg #[hiW s, loW s], []⟩, ⟨.call, 1, fun _ => WV 1, []⟩, ⟨.quiet, 0, fun _ => .int .i64 (j : Int), []⟩, ⟨.call, 2, fun _ => .tuple #[WV ra, .int .i64 re], [0, 1, 2]⟩, ⟨.quiet, 2, fun _ => .tuple #[WV ra, .int .i64 re], [3]⟩, ⟨.quiet, 2, fun _ => WV ra, [4]⟩, ⟨.quiet, 2, fun _ => .int .i64 re, [4]⟩, ⟨.alloc 24 #[.int .i64 0, .int .u64 0], 0, fun _ => undef, []⟩, ⟨.store 7 #[hiW ra, loW ra], 2, fun _ => undef, [7, 5]⟩] [(6, .bool false), (1, .int .i64 (j : Int)), (12, .pointer (some ⟨g12_4, 0, none⟩))] (by kernel_rfl) (by kernel_rfl) ⟨rfl, rfl, rfl, trivial⟩ ?_ ?_
                · skip
                  refine o_cons (o_load 0 (reads_agg (cs := [hiW s, loW s]) tyWide rfl) (fun _ _ => rfl) rfl (fun _ _ => rfl) rfl) ?_
                  refine o_cons (o_call (ent_of Tryd.func17 (by kernel_rfl) rfl) (fun w hU => of_any _ 1 (by decide)) (fun _ _ => rfl) rfl (fun _ _ => rfl) (fun _ _ => rfl)) ?_
                  refine o_cons (o_q hflW (fun _ _ => rfl) (fun _ _ => rfl)) ?_
                  refine o_cons (o_call (ent_of Tryd.func18 (by kernel_rfl) rfl) (fun w hU => scaVV _ hr hsf (by unfold Fits; omega) (by omega)) (fun _ _ => rfl) rfl (fun _ _ => rfl) (fun _ _ => rfl)) ?_
                  refine o_cons (o_q hflW (fun _ _ => rfl) (fun _ _ => rfl)) ?_
                  refine o_cons (o_q hflW (fun _ _ => rfl) (fun _ _ => rfl)) ?_
                  refine o_cons (o_q hflW (fun _ _ => rfl) (fun _ _ => rfl)) ?_
                  refine o_cons (o_alloc zeWide rfl rfl) ?_
                  refine o_cons (o_store (t := 7) (v := WV ra) rfl rfl tyWide.2 rfl rfl rfl rfl (fun _ _ => rfl) rfl (fun _ _ => rfl) (fun _ _ => rfl)) ?_
                  exact o_nil
                intro σ11 gs11
                refine WL2.keep (env' := [(6, .bool false), (1, .int .i64 (j : Int)), (12, .pointer (some ⟨g12_4, 0, none⟩)), (82, .int .i64 re), (14, .pointer (some ⟨(gs11 7), 0, none⟩))]) ⟨rfl, rfl, rfl, rfl, rfl, trivial⟩ ?_
                refine h_q hflW rfl ?_
                refine h_nil (f_to (d_seq ?_))
                refine d_par 9 2 [⟨.quiet, 0, fun _ => .agg #[hiW s, loW s], []⟩, ⟨.call, 1, fun _ => WV 1, []⟩, ⟨.quiet, 0, fun _ => .int .i64 (j : Int), []⟩, ⟨.call, 2, fun _ => .tuple #[WV ra, .int .i64 re], [0, 1, 2]⟩, ⟨.quiet, 2, fun _ => .tuple #[WV ra, .int .i64 re], [3]⟩, ⟨.quiet, 2, fun _ => WV ra, [4]⟩, ⟨.quiet, 2, fun _ => .int .i64 re, [4]⟩, ⟨.alloc 24 #[.int .i64 0, .int .u64 0], 0, fun _ => undef, []⟩, ⟨.store 7 #[hiW ra, loW ra], 2, fun _ => undef, [7, 5]⟩] [(6, .bool false), (1, .int .i64 (j : Int)), (12, .pointer (some ⟨g12_4, 0, none⟩)), (14, .pointer (some ⟨(gs11 7), 0, none⟩)), (15, .int .i64 re)] (by kernel_rfl) (by kernel_rfl) ⟨rfl, rfl, rfl, rfl, rfl, trivial⟩ ?_ ?_
                · skip
                  refine o_cons (o_load 1 (reads_agg (cs := [hiW s, loW s]) tyWide rfl) (fun _ _ => rfl) rfl (fun _ _ => rfl) rfl) ?_
                  refine o_cons (o_call (ent_of Tryd.func17 (by kernel_rfl) rfl) (fun w hU => of_any _ 1 (by decide)) (fun _ _ => rfl) rfl (fun _ _ => rfl) (fun _ _ => rfl)) ?_
                  refine o_cons (o_q hflW (fun _ _ => rfl) (fun _ _ => rfl)) ?_
                  refine o_cons (o_call (ent_of Tryd.func33 (by kernel_rfl) rfl) (fun w hU => rscVV _ hr hsf (by unfold Fits; omega) (by omega)) (fun _ _ => rfl) rfl (fun _ _ => rfl) (fun _ _ => rfl)) ?_
                  refine o_cons (o_q hflW (fun _ _ => rfl) (fun _ _ => rfl)) ?_
                  refine o_cons (o_q hflW (fun _ _ => rfl) (fun _ _ => rfl)) ?_
                  refine o_cons (o_q hflW (fun _ _ => rfl) (fun _ _ => rfl)) ?_
                  refine o_cons (o_alloc zeWide rfl rfl) ?_
                  refine o_cons (o_store (t := 7) (v := WV ra) rfl rfl tyWide.2 rfl rfl rfl rfl (fun _ _ => rfl) rfl (fun _ _ => rfl) (fun _ _ => rfl)) ?_
                  exact o_nil
                intro σ12 gs12
                refine WL2.keep (env' := [(6, .bool false), (14, .pointer (some ⟨(gs11 7), 0, none⟩)), (15, .int .i64 re), (89, .int .i64 re), (16, .pointer (some ⟨(gs12 7), 0, none⟩))]) ⟨rfl, rfl, rfl, rfl, rfl, trivial⟩ ?_
                refine h_q hflW rfl ?_
                refine h_nil (f_to (d_reg ?_))
                refine h_load 1 (v := .agg #[hiW ra, loW ra]) (reads_agg (cs := [hiW ra, loW ra]) tyWide rfl) rfl rfl rfl rfl ?_
                refine h_load 0 (v := .agg #[hiW ra, loW ra]) (reads_agg (cs := [hiW ra, loW ra]) tyWide rfl) rfl rfl rfl rfl ?_
                refine h_eqs (eqW_same _ _) rfl rfl rfl rfl ?_
                refine h_q hflW rfl ?_
                refine h_cmp (cmp_eql_t rfl) rfl rfl rfl rfl ?_
                refine h_q hflW rfl ?_
                refine h_done (d_ret ?_)
                exact f_fin1 (.tmp rfl) (fun w h => ⟨rfl, h.up.below⟩) rfl
              · skip
                refine b_store 0 (v := WV s) (#[hiW s, loW s]) tyWide.2 rfl rfl rfl rfl rfl rfl rfl rfl rfl rfl rfl ?_
                refine b_one 8 (by kernel_rfl) ?_
                refine b_q hflW rfl rfl rfl ?_
                refine b_one 10 (by kernel_rfl) ?_
                refine b_q hflW rfl rfl rfl ?_
                refine b_done (by kernel_rfl) ?_
                refine f_to ?_
                refine WC2.keep (env' := [(6, .bool false), (1, .int .i64 (j : Int)), (12, .pointer (some ⟨g12_4, 0, none⟩)), (13, .int .i64 0)]) ⟨rfl, rfl, rfl, rfl, trivial⟩ ?_
                refine d_seq (d_reg ?_)
                refine h_q hflW rfl ?_
                refine h_cmp (cmp_neq_f (by decide)) rfl rfl rfl rfl ?_
                refine h_done (d_else rfl (d_skip (f_to ?_)))
                obtain ⟨ra, re, hr⟩ := res_wv (roundZ (s * 1) (j : Int))
                refine d_seq ?_
                refine d_par 9 2 [⟨.quiet, 0, fun _ => .agg #[hiW s, loW s], []⟩, ⟨.call, 1, fun _ => WV 1, []⟩, ⟨.quiet, 0, fun _ => .int .i64 (j : Int), []⟩, ⟨.call, 2, fun _ => .tuple #[WV ra, .int .i64 re], [0, 1, 2]⟩, ⟨.quiet, 2, fun _ => .tuple #[WV ra, .int .i64 re], [3]⟩, ⟨.quiet, 2, fun _ => WV ra, [4]⟩, ⟨.quiet, 2, fun _ => .int .i64 re, [4]⟩, ⟨.alloc 24 #[.int .i64 0, .int .u64 0], 0, fun _ => undef, []⟩, ⟨.store 7 #[hiW ra, loW ra], 2, fun _ => undef, [7, 5]⟩] [(6, .bool false), (1, .int .i64 (j : Int)), (12, .pointer (some ⟨g12_4, 0, none⟩))] (by kernel_rfl) (by kernel_rfl) ⟨rfl, rfl, rfl, trivial⟩ ?_ ?_
                · skip
                  refine o_cons (o_load 0 (reads_agg (cs := [hiW s, loW s]) tyWide rfl) (fun _ _ => rfl) rfl (fun _ _ => rfl) rfl) ?_
                  refine o_cons (o_call (ent_of Tryd.func17 (by kernel_rfl) rfl) (fun w hU => of_any _ 1 (by decide)) (fun _ _ => rfl) rfl (fun _ _ => rfl) (fun _ _ => rfl)) ?_
                  refine o_cons (o_q hflW (fun _ _ => rfl) (fun _ _ => rfl)) ?_
                  refine o_cons (o_call (ent_of Tryd.func18 (by kernel_rfl) rfl) (fun w hU => scaVV _ hr hsf (by unfold Fits; omega) (by omega)) (fun _ _ => rfl) rfl (fun _ _ => rfl) (fun _ _ => rfl)) ?_
                  refine o_cons (o_q hflW (fun _ _ => rfl) (fun _ _ => rfl)) ?_
                  refine o_cons (o_q hflW (fun _ _ => rfl) (fun _ _ => rfl)) ?_
                  refine o_cons (o_q hflW (fun _ _ => rfl) (fun _ _ => rfl)) ?_
                  refine o_cons (o_alloc zeWide rfl rfl) ?_
                  refine o_cons (o_store (t := 7) (v := WV ra) rfl rfl tyWide.2 rfl rfl rfl rfl (fun _ _ => rfl) rfl (fun _ _ => rfl) (fun _ _ => rfl)) ?_
                  exact o_nil
                intro σ13 gs13
                refine WL2.keep (env' := [(6, .bool false), (1, .int .i64 (j : Int)), (12, .pointer (some ⟨g12_4, 0, none⟩)), (82, .int .i64 re), (14, .pointer (some ⟨(gs13 7), 0, none⟩))]) ⟨rfl, rfl, rfl, rfl, rfl, trivial⟩ ?_
                refine h_q hflW rfl ?_
                refine h_nil (f_to (d_seq ?_))
                refine d_par 9 2 [⟨.quiet, 0, fun _ => .agg #[hiW s, loW s], []⟩, ⟨.call, 1, fun _ => WV 1, []⟩, ⟨.quiet, 0, fun _ => .int .i64 (j : Int), []⟩, ⟨.call, 2, fun _ => .tuple #[WV ra, .int .i64 re], [0, 1, 2]⟩, ⟨.quiet, 2, fun _ => .tuple #[WV ra, .int .i64 re], [3]⟩, ⟨.quiet, 2, fun _ => WV ra, [4]⟩, ⟨.quiet, 2, fun _ => .int .i64 re, [4]⟩, ⟨.alloc 24 #[.int .i64 0, .int .u64 0], 0, fun _ => undef, []⟩, ⟨.store 7 #[hiW ra, loW ra], 2, fun _ => undef, [7, 5]⟩] [(6, .bool false), (1, .int .i64 (j : Int)), (12, .pointer (some ⟨g12_4, 0, none⟩)), (14, .pointer (some ⟨(gs13 7), 0, none⟩)), (15, .int .i64 re)] (by kernel_rfl) (by kernel_rfl) ⟨rfl, rfl, rfl, rfl, rfl, trivial⟩ ?_ ?_
                · skip
                  refine o_cons (o_load 1 (reads_agg (cs := [hiW s, loW s]) tyWide rfl) (fun _ _ => rfl) rfl (fun _ _ => rfl) rfl) ?_
                  refine o_cons (o_call (ent_of Tryd.func17 (by kernel_rfl) rfl) (fun w hU => of_any _ 1 (by decide)) (fun _ _ => rfl) rfl (fun _ _ => rfl) (fun _ _ => rfl)) ?_
                  refine o_cons (o_q hflW (fun _ _ => rfl) (fun _ _ => rfl)) ?_
                  refine o_cons (o_call (ent_of Tryd.func33 (by kernel_rfl) rfl) (fun w hU => rscVV _ hr hsf (by unfold Fits; omega) (by omega)) (fun _ _ => rfl) rfl (fun _ _ => rfl) (fun _ _ => rfl)) ?_
                  refine o_cons (o_q hflW (fun _ _ => rfl) (fun _ _ => rfl)) ?_
                  refine o_cons (o_q hflW (fun _ _ => rfl) (fun _ _ => rfl)) ?_
                  refine o_cons (o_q hflW (fun _ _ => rfl) (fun _ _ => rfl)) ?_
                  refine o_cons (o_alloc zeWide rfl rfl) ?_
                  refine o_cons (o_store (t := 7) (v := WV ra) rfl rfl tyWide.2 rfl rfl rfl rfl (fun _ _ => rfl) rfl (fun _ _ => rfl) (fun _ _ => rfl)) ?_
                  exact o_nil
                intro σ14 gs14
                refine WL2.keep (env' := [(6, .bool false), (14, .pointer (some ⟨(gs13 7), 0, none⟩)), (15, .int .i64 re), (89, .int .i64 re), (16, .pointer (some ⟨(gs14 7), 0, none⟩))]) ⟨rfl, rfl, rfl, rfl, rfl, trivial⟩ ?_
                refine h_q hflW rfl ?_
                refine h_nil (f_to (d_reg ?_))
                refine h_load 1 (v := .agg #[hiW ra, loW ra]) (reads_agg (cs := [hiW ra, loW ra]) tyWide rfl) rfl rfl rfl rfl ?_
                refine h_load 0 (v := .agg #[hiW ra, loW ra]) (reads_agg (cs := [hiW ra, loW ra]) tyWide rfl) rfl rfl rfl rfl ?_
                refine h_eqs (eqW_same _ _) rfl rfl rfl rfl ?_
                refine h_q hflW rfl ?_
                refine h_cmp (cmp_eql_t rfl) rfl rfl rfl rfl ?_
                refine h_q hflW rfl ?_
                refine h_done (d_ret ?_)
                exact f_fin1 (.tmp rfl) (fun w h => ⟨rfl, h.up.below⟩) rfl
            · skip
              refine b_q hflW rfl rfl rfl ?_
              refine b_one 7 (by kernel_rfl) ?_
              refine b_q hflW rfl rfl rfl ?_
              refine b_one 9 (by kernel_rfl) ?_
              refine b_store 0 (v := WV s) (#[hiW s, loW s]) tyWide.2 rfl rfl rfl rfl rfl rfl rfl rfl rfl rfl rfl ?_
              refine b_one 10 (by kernel_rfl) ?_
              refine b_q hflW rfl rfl rfl ?_
              refine b_done (by kernel_rfl) ?_
              refine f_to ?_
              refine WC2.keep (env' := [(6, .bool false), (1, .int .i64 (j : Int)), (12, .pointer (some ⟨g12_4, 0, none⟩)), (13, .int .i64 0)]) ⟨rfl, rfl, rfl, rfl, trivial⟩ ?_
              refine d_seq (d_reg ?_)
              refine h_q hflW rfl ?_
              refine h_cmp (cmp_neq_f (by decide)) rfl rfl rfl rfl ?_
              refine h_done (d_else rfl (d_skip (f_to ?_)))
              obtain ⟨ra, re, hr⟩ := res_wv (roundZ (s * 1) (j : Int))
              refine d_seq ?_
              refine d_par 9 2 [⟨.quiet, 0, fun _ => .agg #[hiW s, loW s], []⟩, ⟨.call, 1, fun _ => WV 1, []⟩, ⟨.quiet, 0, fun _ => .int .i64 (j : Int), []⟩, ⟨.call, 2, fun _ => .tuple #[WV ra, .int .i64 re], [0, 1, 2]⟩, ⟨.quiet, 2, fun _ => .tuple #[WV ra, .int .i64 re], [3]⟩, ⟨.quiet, 2, fun _ => WV ra, [4]⟩, ⟨.quiet, 2, fun _ => .int .i64 re, [4]⟩, ⟨.alloc 24 #[.int .i64 0, .int .u64 0], 0, fun _ => undef, []⟩, ⟨.store 7 #[hiW ra, loW ra], 2, fun _ => undef, [7, 5]⟩] [(6, .bool false), (1, .int .i64 (j : Int)), (12, .pointer (some ⟨g12_4, 0, none⟩))] (by kernel_rfl) (by kernel_rfl) ⟨rfl, rfl, rfl, trivial⟩ ?_ ?_
              · skip
                refine o_cons (o_load 0 (reads_agg (cs := [hiW s, loW s]) tyWide rfl) (fun _ _ => rfl) rfl (fun _ _ => rfl) rfl) ?_
                refine o_cons (o_call (ent_of Tryd.func17 (by kernel_rfl) rfl) (fun w hU => of_any _ 1 (by decide)) (fun _ _ => rfl) rfl (fun _ _ => rfl) (fun _ _ => rfl)) ?_
                refine o_cons (o_q hflW (fun _ _ => rfl) (fun _ _ => rfl)) ?_
                refine o_cons (o_call (ent_of Tryd.func18 (by kernel_rfl) rfl) (fun w hU => scaVV _ hr hsf (by unfold Fits; omega) (by omega)) (fun _ _ => rfl) rfl (fun _ _ => rfl) (fun _ _ => rfl)) ?_
                refine o_cons (o_q hflW (fun _ _ => rfl) (fun _ _ => rfl)) ?_
                refine o_cons (o_q hflW (fun _ _ => rfl) (fun _ _ => rfl)) ?_
                refine o_cons (o_q hflW (fun _ _ => rfl) (fun _ _ => rfl)) ?_
                refine o_cons (o_alloc zeWide rfl rfl) ?_
                refine o_cons (o_store (t := 7) (v := WV ra) rfl rfl tyWide.2 rfl rfl rfl rfl (fun _ _ => rfl) rfl (fun _ _ => rfl) (fun _ _ => rfl)) ?_
                exact o_nil
              intro σ15 gs15
              refine WL2.keep (env' := [(6, .bool false), (1, .int .i64 (j : Int)), (12, .pointer (some ⟨g12_4, 0, none⟩)), (82, .int .i64 re), (14, .pointer (some ⟨(gs15 7), 0, none⟩))]) ⟨rfl, rfl, rfl, rfl, rfl, trivial⟩ ?_
              refine h_q hflW rfl ?_
              refine h_nil (f_to (d_seq ?_))
              refine d_par 9 2 [⟨.quiet, 0, fun _ => .agg #[hiW s, loW s], []⟩, ⟨.call, 1, fun _ => WV 1, []⟩, ⟨.quiet, 0, fun _ => .int .i64 (j : Int), []⟩, ⟨.call, 2, fun _ => .tuple #[WV ra, .int .i64 re], [0, 1, 2]⟩, ⟨.quiet, 2, fun _ => .tuple #[WV ra, .int .i64 re], [3]⟩, ⟨.quiet, 2, fun _ => WV ra, [4]⟩, ⟨.quiet, 2, fun _ => .int .i64 re, [4]⟩, ⟨.alloc 24 #[.int .i64 0, .int .u64 0], 0, fun _ => undef, []⟩, ⟨.store 7 #[hiW ra, loW ra], 2, fun _ => undef, [7, 5]⟩] [(6, .bool false), (1, .int .i64 (j : Int)), (12, .pointer (some ⟨g12_4, 0, none⟩)), (14, .pointer (some ⟨(gs15 7), 0, none⟩)), (15, .int .i64 re)] (by kernel_rfl) (by kernel_rfl) ⟨rfl, rfl, rfl, rfl, rfl, trivial⟩ ?_ ?_
              · skip
                refine o_cons (o_load 1 (reads_agg (cs := [hiW s, loW s]) tyWide rfl) (fun _ _ => rfl) rfl (fun _ _ => rfl) rfl) ?_
                refine o_cons (o_call (ent_of Tryd.func17 (by kernel_rfl) rfl) (fun w hU => of_any _ 1 (by decide)) (fun _ _ => rfl) rfl (fun _ _ => rfl) (fun _ _ => rfl)) ?_
                refine o_cons (o_q hflW (fun _ _ => rfl) (fun _ _ => rfl)) ?_
                refine o_cons (o_call (ent_of Tryd.func33 (by kernel_rfl) rfl) (fun w hU => rscVV _ hr hsf (by unfold Fits; omega) (by omega)) (fun _ _ => rfl) rfl (fun _ _ => rfl) (fun _ _ => rfl)) ?_
                refine o_cons (o_q hflW (fun _ _ => rfl) (fun _ _ => rfl)) ?_
                refine o_cons (o_q hflW (fun _ _ => rfl) (fun _ _ => rfl)) ?_
                refine o_cons (o_q hflW (fun _ _ => rfl) (fun _ _ => rfl)) ?_
                refine o_cons (o_alloc zeWide rfl rfl) ?_
                refine o_cons (o_store (t := 7) (v := WV ra) rfl rfl tyWide.2 rfl rfl rfl rfl (fun _ _ => rfl) rfl (fun _ _ => rfl) (fun _ _ => rfl)) ?_
                exact o_nil
              intro σ16 gs16
              refine WL2.keep (env' := [(6, .bool false), (14, .pointer (some ⟨(gs15 7), 0, none⟩)), (15, .int .i64 re), (89, .int .i64 re), (16, .pointer (some ⟨(gs16 7), 0, none⟩))]) ⟨rfl, rfl, rfl, rfl, rfl, trivial⟩ ?_
              refine h_q hflW rfl ?_
              refine h_nil (f_to (d_reg ?_))
              refine h_load 1 (v := .agg #[hiW ra, loW ra]) (reads_agg (cs := [hiW ra, loW ra]) tyWide rfl) rfl rfl rfl rfl ?_
              refine h_load 0 (v := .agg #[hiW ra, loW ra]) (reads_agg (cs := [hiW ra, loW ra]) tyWide rfl) rfl rfl rfl rfl ?_
              refine h_eqs (eqW_same _ _) rfl rfl rfl rfl ?_
              refine h_q hflW rfl ?_
              refine h_cmp (cmp_eql_t rfl) rfl rfl rfl rfl ?_
              refine h_q hflW rfl ?_
              refine h_done (d_ret ?_)
              exact f_fin1 (.tmp rfl) (fun w h => ⟨rfl, h.up.below⟩) rfl
          · skip
            refine b_call (ent_of Tryd.func34 (by kernel_rfl) rfl) (fun w hH => pickV _ hv3 hoff (by decide)) rfl rfl rfl rfl rfl ?_
            refine b_two 0 3 (by kernel_rfl) ?_ ?_
            · skip
              refine b_load 0 (v := .agg #[hiW q, loW q]) (reads_agg (cs := [hiW q, loW q]) tyWide rfl) rfl rfl rfl rfl rfl ?_
              refine b_one 3 (by kernel_rfl) ?_
              refine b_ar (z' := v - 1) (IntWalk.i64_in _ (by omega)) rfl rfl rfl rfl rfl rfl ?_
              refine b_one 4 (by kernel_rfl) ?_
              refine b_call (ent_of Tryd.func17 (by kernel_rfl) rfl) (fun w hH => of_any _ (v - 1) (by omega)) rfl rfl rfl rfl rfl ?_
              refine b_one 5 (by kernel_rfl) ?_
              refine b_call (ent_of Tryd.func22 (by kernel_rfl) rfl) (fun w hH => addVV _ hs hqf (by unfold Fits; omega)) rfl rfl rfl rfl rfl ?_
              refine b_one 6 (by kernel_rfl) ?_
              refine b_q hflW rfl rfl rfl ?_
              refine b_two 7 8 (by kernel_rfl) ?_ ?_
              · skip
                refine b_q hflW rfl rfl rfl ?_
                refine b_two 8 9 (by kernel_rfl) ?_ ?_
                · skip
                  refine b_q hflW rfl rfl rfl ?_
                  refine b_one 9 (by kernel_rfl) ?_
                  refine b_store 0 (v := WV s) (#[hiW s, loW s]) tyWide.2 rfl rfl rfl rfl rfl rfl rfl rfl rfl rfl rfl ?_
                  refine b_one 10 (by kernel_rfl) ?_
                  refine b_q hflW rfl rfl rfl ?_
                  refine b_done (by kernel_rfl) ?_
                  refine f_to ?_
                  refine WC2.keep (env' := [(6, .bool false), (1, .int .i64 (j : Int)), (12, .pointer (some ⟨g12_4, 0, none⟩)), (13, .int .i64 0)]) ⟨rfl, rfl, rfl, rfl, trivial⟩ ?_
                  refine d_seq (d_reg ?_)
                  refine h_q hflW rfl ?_
                  refine h_cmp (cmp_neq_f (by decide)) rfl rfl rfl rfl ?_
                  refine h_done (d_else rfl (d_skip (f_to ?_)))
                  obtain ⟨ra, re, hr⟩ := res_wv (roundZ (s * 1) (j : Int))
                  refine d_seq ?_
                  refine d_par 9 2 [⟨.quiet, 0, fun _ => .agg #[hiW s, loW s], []⟩, ⟨.call, 1, fun _ => WV 1, []⟩, ⟨.quiet, 0, fun _ => .int .i64 (j : Int), []⟩, ⟨.call, 2, fun _ => .tuple #[WV ra, .int .i64 re], [0, 1, 2]⟩, ⟨.quiet, 2, fun _ => .tuple #[WV ra, .int .i64 re], [3]⟩, ⟨.quiet, 2, fun _ => WV ra, [4]⟩, ⟨.quiet, 2, fun _ => .int .i64 re, [4]⟩, ⟨.alloc 24 #[.int .i64 0, .int .u64 0], 0, fun _ => undef, []⟩, ⟨.store 7 #[hiW ra, loW ra], 2, fun _ => undef, [7, 5]⟩] [(6, .bool false), (1, .int .i64 (j : Int)), (12, .pointer (some ⟨g12_4, 0, none⟩))] (by kernel_rfl) (by kernel_rfl) ⟨rfl, rfl, rfl, trivial⟩ ?_ ?_
                  · skip
                    refine o_cons (o_load 0 (reads_agg (cs := [hiW s, loW s]) tyWide rfl) (fun _ _ => rfl) rfl (fun _ _ => rfl) rfl) ?_
                    refine o_cons (o_call (ent_of Tryd.func17 (by kernel_rfl) rfl) (fun w hU => of_any _ 1 (by decide)) (fun _ _ => rfl) rfl (fun _ _ => rfl) (fun _ _ => rfl)) ?_
                    refine o_cons (o_q hflW (fun _ _ => rfl) (fun _ _ => rfl)) ?_
                    refine o_cons (o_call (ent_of Tryd.func18 (by kernel_rfl) rfl) (fun w hU => scaVV _ hr hsf (by unfold Fits; omega) (by omega)) (fun _ _ => rfl) rfl (fun _ _ => rfl) (fun _ _ => rfl)) ?_
                    refine o_cons (o_q hflW (fun _ _ => rfl) (fun _ _ => rfl)) ?_
                    refine o_cons (o_q hflW (fun _ _ => rfl) (fun _ _ => rfl)) ?_
                    refine o_cons (o_q hflW (fun _ _ => rfl) (fun _ _ => rfl)) ?_
                    refine o_cons (o_alloc zeWide rfl rfl) ?_
                    refine o_cons (o_store (t := 7) (v := WV ra) rfl rfl tyWide.2 rfl rfl rfl rfl (fun _ _ => rfl) rfl (fun _ _ => rfl) (fun _ _ => rfl)) ?_
                    exact o_nil
                  intro σ17 gs17
                  refine WL2.keep (env' := [(6, .bool false), (1, .int .i64 (j : Int)), (12, .pointer (some ⟨g12_4, 0, none⟩)), (82, .int .i64 re), (14, .pointer (some ⟨(gs17 7), 0, none⟩))]) ⟨rfl, rfl, rfl, rfl, rfl, trivial⟩ ?_
                  refine h_q hflW rfl ?_
                  refine h_nil (f_to (d_seq ?_))
                  refine d_par 9 2 [⟨.quiet, 0, fun _ => .agg #[hiW s, loW s], []⟩, ⟨.call, 1, fun _ => WV 1, []⟩, ⟨.quiet, 0, fun _ => .int .i64 (j : Int), []⟩, ⟨.call, 2, fun _ => .tuple #[WV ra, .int .i64 re], [0, 1, 2]⟩, ⟨.quiet, 2, fun _ => .tuple #[WV ra, .int .i64 re], [3]⟩, ⟨.quiet, 2, fun _ => WV ra, [4]⟩, ⟨.quiet, 2, fun _ => .int .i64 re, [4]⟩, ⟨.alloc 24 #[.int .i64 0, .int .u64 0], 0, fun _ => undef, []⟩, ⟨.store 7 #[hiW ra, loW ra], 2, fun _ => undef, [7, 5]⟩] [(6, .bool false), (1, .int .i64 (j : Int)), (12, .pointer (some ⟨g12_4, 0, none⟩)), (14, .pointer (some ⟨(gs17 7), 0, none⟩)), (15, .int .i64 re)] (by kernel_rfl) (by kernel_rfl) ⟨rfl, rfl, rfl, rfl, rfl, trivial⟩ ?_ ?_
                  · skip
                    refine o_cons (o_load 1 (reads_agg (cs := [hiW s, loW s]) tyWide rfl) (fun _ _ => rfl) rfl (fun _ _ => rfl) rfl) ?_
                    refine o_cons (o_call (ent_of Tryd.func17 (by kernel_rfl) rfl) (fun w hU => of_any _ 1 (by decide)) (fun _ _ => rfl) rfl (fun _ _ => rfl) (fun _ _ => rfl)) ?_
                    refine o_cons (o_q hflW (fun _ _ => rfl) (fun _ _ => rfl)) ?_
                    refine o_cons (o_call (ent_of Tryd.func33 (by kernel_rfl) rfl) (fun w hU => rscVV _ hr hsf (by unfold Fits; omega) (by omega)) (fun _ _ => rfl) rfl (fun _ _ => rfl) (fun _ _ => rfl)) ?_
                    refine o_cons (o_q hflW (fun _ _ => rfl) (fun _ _ => rfl)) ?_
                    refine o_cons (o_q hflW (fun _ _ => rfl) (fun _ _ => rfl)) ?_
                    refine o_cons (o_q hflW (fun _ _ => rfl) (fun _ _ => rfl)) ?_
                    refine o_cons (o_alloc zeWide rfl rfl) ?_
                    refine o_cons (o_store (t := 7) (v := WV ra) rfl rfl tyWide.2 rfl rfl rfl rfl (fun _ _ => rfl) rfl (fun _ _ => rfl) (fun _ _ => rfl)) ?_
                    exact o_nil
                  intro σ18 gs18
                  refine WL2.keep (env' := [(6, .bool false), (14, .pointer (some ⟨(gs17 7), 0, none⟩)), (15, .int .i64 re), (89, .int .i64 re), (16, .pointer (some ⟨(gs18 7), 0, none⟩))]) ⟨rfl, rfl, rfl, rfl, rfl, trivial⟩ ?_
                  refine h_q hflW rfl ?_
                  refine h_nil (f_to (d_reg ?_))
                  refine h_load 1 (v := .agg #[hiW ra, loW ra]) (reads_agg (cs := [hiW ra, loW ra]) tyWide rfl) rfl rfl rfl rfl ?_
                  refine h_load 0 (v := .agg #[hiW ra, loW ra]) (reads_agg (cs := [hiW ra, loW ra]) tyWide rfl) rfl rfl rfl rfl ?_
                  refine h_eqs (eqW_same _ _) rfl rfl rfl rfl ?_
                  refine h_q hflW rfl ?_
                  refine h_cmp (cmp_eql_t rfl) rfl rfl rfl rfl ?_
                  refine h_q hflW rfl ?_
                  refine h_done (d_ret ?_)
                  exact f_fin1 (.tmp rfl) (fun w h => ⟨rfl, h.up.below⟩) rfl
                · skip
                  refine b_store 0 (v := WV s) (#[hiW s, loW s]) tyWide.2 rfl rfl rfl rfl rfl rfl rfl rfl rfl rfl rfl ?_
                  refine b_one 8 (by kernel_rfl) ?_
                  refine b_q hflW rfl rfl rfl ?_
                  refine b_one 10 (by kernel_rfl) ?_
                  refine b_q hflW rfl rfl rfl ?_
                  refine b_done (by kernel_rfl) ?_
                  refine f_to ?_
                  refine WC2.keep (env' := [(6, .bool false), (1, .int .i64 (j : Int)), (12, .pointer (some ⟨g12_4, 0, none⟩)), (13, .int .i64 0)]) ⟨rfl, rfl, rfl, rfl, trivial⟩ ?_
                  refine d_seq (d_reg ?_)
                  refine h_q hflW rfl ?_
                  refine h_cmp (cmp_neq_f (by decide)) rfl rfl rfl rfl ?_
                  refine h_done (d_else rfl (d_skip (f_to ?_)))
                  obtain ⟨ra, re, hr⟩ := res_wv (roundZ (s * 1) (j : Int))
                  refine d_seq ?_
                  refine d_par 9 2 [⟨.quiet, 0, fun _ => .agg #[hiW s, loW s], []⟩, ⟨.call, 1, fun _ => WV 1, []⟩, ⟨.quiet, 0, fun _ => .int .i64 (j : Int), []⟩, ⟨.call, 2, fun _ => .tuple #[WV ra, .int .i64 re], [0, 1, 2]⟩, ⟨.quiet, 2, fun _ => .tuple #[WV ra, .int .i64 re], [3]⟩, ⟨.quiet, 2, fun _ => WV ra, [4]⟩, ⟨.quiet, 2, fun _ => .int .i64 re, [4]⟩, ⟨.alloc 24 #[.int .i64 0, .int .u64 0], 0, fun _ => undef, []⟩, ⟨.store 7 #[hiW ra, loW ra], 2, fun _ => undef, [7, 5]⟩] [(6, .bool false), (1, .int .i64 (j : Int)), (12, .pointer (some ⟨g12_4, 0, none⟩))] (by kernel_rfl) (by kernel_rfl) ⟨rfl, rfl, rfl, trivial⟩ ?_ ?_
                  · skip
                    refine o_cons (o_load 0 (reads_agg (cs := [hiW s, loW s]) tyWide rfl) (fun _ _ => rfl) rfl (fun _ _ => rfl) rfl) ?_
                    refine o_cons (o_call (ent_of Tryd.func17 (by kernel_rfl) rfl) (fun w hU => of_any _ 1 (by decide)) (fun _ _ => rfl) rfl (fun _ _ => rfl) (fun _ _ => rfl)) ?_
                    refine o_cons (o_q hflW (fun _ _ => rfl) (fun _ _ => rfl)) ?_
                    refine o_cons (o_call (ent_of Tryd.func18 (by kernel_rfl) rfl) (fun w hU => scaVV _ hr hsf (by unfold Fits; omega) (by omega)) (fun _ _ => rfl) rfl (fun _ _ => rfl) (fun _ _ => rfl)) ?_
                    refine o_cons (o_q hflW (fun _ _ => rfl) (fun _ _ => rfl)) ?_
                    refine o_cons (o_q hflW (fun _ _ => rfl) (fun _ _ => rfl)) ?_
                    refine o_cons (o_q hflW (fun _ _ => rfl) (fun _ _ => rfl)) ?_
                    refine o_cons (o_alloc zeWide rfl rfl) ?_
                    refine o_cons (o_store (t := 7) (v := WV ra) rfl rfl tyWide.2 rfl rfl rfl rfl (fun _ _ => rfl) rfl (fun _ _ => rfl) (fun _ _ => rfl)) ?_
                    exact o_nil
                  intro σ19 gs19
                  refine WL2.keep (env' := [(6, .bool false), (1, .int .i64 (j : Int)), (12, .pointer (some ⟨g12_4, 0, none⟩)), (82, .int .i64 re), (14, .pointer (some ⟨(gs19 7), 0, none⟩))]) ⟨rfl, rfl, rfl, rfl, rfl, trivial⟩ ?_
                  refine h_q hflW rfl ?_
                  refine h_nil (f_to (d_seq ?_))
                  refine d_par 9 2 [⟨.quiet, 0, fun _ => .agg #[hiW s, loW s], []⟩, ⟨.call, 1, fun _ => WV 1, []⟩, ⟨.quiet, 0, fun _ => .int .i64 (j : Int), []⟩, ⟨.call, 2, fun _ => .tuple #[WV ra, .int .i64 re], [0, 1, 2]⟩, ⟨.quiet, 2, fun _ => .tuple #[WV ra, .int .i64 re], [3]⟩, ⟨.quiet, 2, fun _ => WV ra, [4]⟩, ⟨.quiet, 2, fun _ => .int .i64 re, [4]⟩, ⟨.alloc 24 #[.int .i64 0, .int .u64 0], 0, fun _ => undef, []⟩, ⟨.store 7 #[hiW ra, loW ra], 2, fun _ => undef, [7, 5]⟩] [(6, .bool false), (1, .int .i64 (j : Int)), (12, .pointer (some ⟨g12_4, 0, none⟩)), (14, .pointer (some ⟨(gs19 7), 0, none⟩)), (15, .int .i64 re)] (by kernel_rfl) (by kernel_rfl) ⟨rfl, rfl, rfl, rfl, rfl, trivial⟩ ?_ ?_
                  · skip
                    refine o_cons (o_load 1 (reads_agg (cs := [hiW s, loW s]) tyWide rfl) (fun _ _ => rfl) rfl (fun _ _ => rfl) rfl) ?_
                    refine o_cons (o_call (ent_of Tryd.func17 (by kernel_rfl) rfl) (fun w hU => of_any _ 1 (by decide)) (fun _ _ => rfl) rfl (fun _ _ => rfl) (fun _ _ => rfl)) ?_
                    refine o_cons (o_q hflW (fun _ _ => rfl) (fun _ _ => rfl)) ?_
                    refine o_cons (o_call (ent_of Tryd.func33 (by kernel_rfl) rfl) (fun w hU => rscVV _ hr hsf (by unfold Fits; omega) (by omega)) (fun _ _ => rfl) rfl (fun _ _ => rfl) (fun _ _ => rfl)) ?_
                    refine o_cons (o_q hflW (fun _ _ => rfl) (fun _ _ => rfl)) ?_
                    refine o_cons (o_q hflW (fun _ _ => rfl) (fun _ _ => rfl)) ?_
                    refine o_cons (o_q hflW (fun _ _ => rfl) (fun _ _ => rfl)) ?_
                    refine o_cons (o_alloc zeWide rfl rfl) ?_
                    refine o_cons (o_store (t := 7) (v := WV ra) rfl rfl tyWide.2 rfl rfl rfl rfl (fun _ _ => rfl) rfl (fun _ _ => rfl) (fun _ _ => rfl)) ?_
                    exact o_nil
                  intro σ20 gs20
                  refine WL2.keep (env' := [(6, .bool false), (14, .pointer (some ⟨(gs19 7), 0, none⟩)), (15, .int .i64 re), (89, .int .i64 re), (16, .pointer (some ⟨(gs20 7), 0, none⟩))]) ⟨rfl, rfl, rfl, rfl, rfl, trivial⟩ ?_
                  refine h_q hflW rfl ?_
                  refine h_nil (f_to (d_reg ?_))
                  refine h_load 1 (v := .agg #[hiW ra, loW ra]) (reads_agg (cs := [hiW ra, loW ra]) tyWide rfl) rfl rfl rfl rfl ?_
                  refine h_load 0 (v := .agg #[hiW ra, loW ra]) (reads_agg (cs := [hiW ra, loW ra]) tyWide rfl) rfl rfl rfl rfl ?_
                  refine h_eqs (eqW_same _ _) rfl rfl rfl rfl ?_
                  refine h_q hflW rfl ?_
                  refine h_cmp (cmp_eql_t rfl) rfl rfl rfl rfl ?_
                  refine h_q hflW rfl ?_
                  refine h_done (d_ret ?_)
                  exact f_fin1 (.tmp rfl) (fun w h => ⟨rfl, h.up.below⟩) rfl
              · skip
                refine b_q hflW rfl rfl rfl ?_
                refine b_one 7 (by kernel_rfl) ?_
                refine b_q hflW rfl rfl rfl ?_
                refine b_one 9 (by kernel_rfl) ?_
                refine b_store 0 (v := WV s) (#[hiW s, loW s]) tyWide.2 rfl rfl rfl rfl rfl rfl rfl rfl rfl rfl rfl ?_
                refine b_one 10 (by kernel_rfl) ?_
                refine b_q hflW rfl rfl rfl ?_
                refine b_done (by kernel_rfl) ?_
                refine f_to ?_
                refine WC2.keep (env' := [(6, .bool false), (1, .int .i64 (j : Int)), (12, .pointer (some ⟨g12_4, 0, none⟩)), (13, .int .i64 0)]) ⟨rfl, rfl, rfl, rfl, trivial⟩ ?_
                refine d_seq (d_reg ?_)
                refine h_q hflW rfl ?_
                refine h_cmp (cmp_neq_f (by decide)) rfl rfl rfl rfl ?_
                refine h_done (d_else rfl (d_skip (f_to ?_)))
                obtain ⟨ra, re, hr⟩ := res_wv (roundZ (s * 1) (j : Int))
                refine d_seq ?_
                refine d_par 9 2 [⟨.quiet, 0, fun _ => .agg #[hiW s, loW s], []⟩, ⟨.call, 1, fun _ => WV 1, []⟩, ⟨.quiet, 0, fun _ => .int .i64 (j : Int), []⟩, ⟨.call, 2, fun _ => .tuple #[WV ra, .int .i64 re], [0, 1, 2]⟩, ⟨.quiet, 2, fun _ => .tuple #[WV ra, .int .i64 re], [3]⟩, ⟨.quiet, 2, fun _ => WV ra, [4]⟩, ⟨.quiet, 2, fun _ => .int .i64 re, [4]⟩, ⟨.alloc 24 #[.int .i64 0, .int .u64 0], 0, fun _ => undef, []⟩, ⟨.store 7 #[hiW ra, loW ra], 2, fun _ => undef, [7, 5]⟩] [(6, .bool false), (1, .int .i64 (j : Int)), (12, .pointer (some ⟨g12_4, 0, none⟩))] (by kernel_rfl) (by kernel_rfl) ⟨rfl, rfl, rfl, trivial⟩ ?_ ?_
                · skip
                  refine o_cons (o_load 0 (reads_agg (cs := [hiW s, loW s]) tyWide rfl) (fun _ _ => rfl) rfl (fun _ _ => rfl) rfl) ?_
                  refine o_cons (o_call (ent_of Tryd.func17 (by kernel_rfl) rfl) (fun w hU => of_any _ 1 (by decide)) (fun _ _ => rfl) rfl (fun _ _ => rfl) (fun _ _ => rfl)) ?_
                  refine o_cons (o_q hflW (fun _ _ => rfl) (fun _ _ => rfl)) ?_
                  refine o_cons (o_call (ent_of Tryd.func18 (by kernel_rfl) rfl) (fun w hU => scaVV _ hr hsf (by unfold Fits; omega) (by omega)) (fun _ _ => rfl) rfl (fun _ _ => rfl) (fun _ _ => rfl)) ?_
                  refine o_cons (o_q hflW (fun _ _ => rfl) (fun _ _ => rfl)) ?_
                  refine o_cons (o_q hflW (fun _ _ => rfl) (fun _ _ => rfl)) ?_
                  refine o_cons (o_q hflW (fun _ _ => rfl) (fun _ _ => rfl)) ?_
                  refine o_cons (o_alloc zeWide rfl rfl) ?_
                  refine o_cons (o_store (t := 7) (v := WV ra) rfl rfl tyWide.2 rfl rfl rfl rfl (fun _ _ => rfl) rfl (fun _ _ => rfl) (fun _ _ => rfl)) ?_
                  exact o_nil
                intro σ21 gs21
                refine WL2.keep (env' := [(6, .bool false), (1, .int .i64 (j : Int)), (12, .pointer (some ⟨g12_4, 0, none⟩)), (82, .int .i64 re), (14, .pointer (some ⟨(gs21 7), 0, none⟩))]) ⟨rfl, rfl, rfl, rfl, rfl, trivial⟩ ?_
                refine h_q hflW rfl ?_
                refine h_nil (f_to (d_seq ?_))
                refine d_par 9 2 [⟨.quiet, 0, fun _ => .agg #[hiW s, loW s], []⟩, ⟨.call, 1, fun _ => WV 1, []⟩, ⟨.quiet, 0, fun _ => .int .i64 (j : Int), []⟩, ⟨.call, 2, fun _ => .tuple #[WV ra, .int .i64 re], [0, 1, 2]⟩, ⟨.quiet, 2, fun _ => .tuple #[WV ra, .int .i64 re], [3]⟩, ⟨.quiet, 2, fun _ => WV ra, [4]⟩, ⟨.quiet, 2, fun _ => .int .i64 re, [4]⟩, ⟨.alloc 24 #[.int .i64 0, .int .u64 0], 0, fun _ => undef, []⟩, ⟨.store 7 #[hiW ra, loW ra], 2, fun _ => undef, [7, 5]⟩] [(6, .bool false), (1, .int .i64 (j : Int)), (12, .pointer (some ⟨g12_4, 0, none⟩)), (14, .pointer (some ⟨(gs21 7), 0, none⟩)), (15, .int .i64 re)] (by kernel_rfl) (by kernel_rfl) ⟨rfl, rfl, rfl, rfl, rfl, trivial⟩ ?_ ?_
                · skip
                  refine o_cons (o_load 1 (reads_agg (cs := [hiW s, loW s]) tyWide rfl) (fun _ _ => rfl) rfl (fun _ _ => rfl) rfl) ?_
                  refine o_cons (o_call (ent_of Tryd.func17 (by kernel_rfl) rfl) (fun w hU => of_any _ 1 (by decide)) (fun _ _ => rfl) rfl (fun _ _ => rfl) (fun _ _ => rfl)) ?_
                  refine o_cons (o_q hflW (fun _ _ => rfl) (fun _ _ => rfl)) ?_
                  refine o_cons (o_call (ent_of Tryd.func33 (by kernel_rfl) rfl) (fun w hU => rscVV _ hr hsf (by unfold Fits; omega) (by omega)) (fun _ _ => rfl) rfl (fun _ _ => rfl) (fun _ _ => rfl)) ?_
                  refine o_cons (o_q hflW (fun _ _ => rfl) (fun _ _ => rfl)) ?_
                  refine o_cons (o_q hflW (fun _ _ => rfl) (fun _ _ => rfl)) ?_
                  refine o_cons (o_q hflW (fun _ _ => rfl) (fun _ _ => rfl)) ?_
                  refine o_cons (o_alloc zeWide rfl rfl) ?_
                  refine o_cons (o_store (t := 7) (v := WV ra) rfl rfl tyWide.2 rfl rfl rfl rfl (fun _ _ => rfl) rfl (fun _ _ => rfl) (fun _ _ => rfl)) ?_
                  exact o_nil
                intro σ22 gs22
                refine WL2.keep (env' := [(6, .bool false), (14, .pointer (some ⟨(gs21 7), 0, none⟩)), (15, .int .i64 re), (89, .int .i64 re), (16, .pointer (some ⟨(gs22 7), 0, none⟩))]) ⟨rfl, rfl, rfl, rfl, rfl, trivial⟩ ?_
                refine h_q hflW rfl ?_
                refine h_nil (f_to (d_reg ?_))
                refine h_load 1 (v := .agg #[hiW ra, loW ra]) (reads_agg (cs := [hiW ra, loW ra]) tyWide rfl) rfl rfl rfl rfl ?_
                refine h_load 0 (v := .agg #[hiW ra, loW ra]) (reads_agg (cs := [hiW ra, loW ra]) tyWide rfl) rfl rfl rfl rfl ?_
                refine h_eqs (eqW_same _ _) rfl rfl rfl rfl ?_
                refine h_q hflW rfl ?_
                refine h_cmp (cmp_eql_t rfl) rfl rfl rfl rfl ?_
                refine h_q hflW rfl ?_
                refine h_done (d_ret ?_)
                exact f_fin1 (.tmp rfl) (fun w h => ⟨rfl, h.up.below⟩) rfl
            · skip
              refine b_ar (z' := v - 1) (IntWalk.i64_in _ (by omega)) rfl rfl rfl rfl rfl rfl ?_
              refine b_two 0 4 (by kernel_rfl) ?_ ?_
              · skip
                refine b_load 0 (v := .agg #[hiW q, loW q]) (reads_agg (cs := [hiW q, loW q]) tyWide rfl) rfl rfl rfl rfl rfl ?_
                refine b_one 4 (by kernel_rfl) ?_
                refine b_call (ent_of Tryd.func17 (by kernel_rfl) rfl) (fun w hH => of_any _ (v - 1) (by omega)) rfl rfl rfl rfl rfl ?_
                refine b_one 5 (by kernel_rfl) ?_
                refine b_call (ent_of Tryd.func22 (by kernel_rfl) rfl) (fun w hH => addVV _ hs hqf (by unfold Fits; omega)) rfl rfl rfl rfl rfl ?_
                refine b_one 6 (by kernel_rfl) ?_
                refine b_q hflW rfl rfl rfl ?_
                refine b_two 7 8 (by kernel_rfl) ?_ ?_
                · skip
                  refine b_q hflW rfl rfl rfl ?_
                  refine b_two 8 9 (by kernel_rfl) ?_ ?_
                  · skip
                    refine b_q hflW rfl rfl rfl ?_
                    refine b_one 9 (by kernel_rfl) ?_
                    refine b_store 0 (v := WV s) (#[hiW s, loW s]) tyWide.2 rfl rfl rfl rfl rfl rfl rfl rfl rfl rfl rfl ?_
                    refine b_one 10 (by kernel_rfl) ?_
                    refine b_q hflW rfl rfl rfl ?_
                    refine b_done (by kernel_rfl) ?_
                    refine f_to ?_
                    refine WC2.keep (env' := [(6, .bool false), (1, .int .i64 (j : Int)), (12, .pointer (some ⟨g12_4, 0, none⟩)), (13, .int .i64 0)]) ⟨rfl, rfl, rfl, rfl, trivial⟩ ?_
                    refine d_seq (d_reg ?_)
                    refine h_q hflW rfl ?_
                    refine h_cmp (cmp_neq_f (by decide)) rfl rfl rfl rfl ?_
                    refine h_done (d_else rfl (d_skip (f_to ?_)))
                    obtain ⟨ra, re, hr⟩ := res_wv (roundZ (s * 1) (j : Int))
                    refine d_seq ?_
                    refine d_par 9 2 [⟨.quiet, 0, fun _ => .agg #[hiW s, loW s], []⟩, ⟨.call, 1, fun _ => WV 1, []⟩, ⟨.quiet, 0, fun _ => .int .i64 (j : Int), []⟩, ⟨.call, 2, fun _ => .tuple #[WV ra, .int .i64 re], [0, 1, 2]⟩, ⟨.quiet, 2, fun _ => .tuple #[WV ra, .int .i64 re], [3]⟩, ⟨.quiet, 2, fun _ => WV ra, [4]⟩, ⟨.quiet, 2, fun _ => .int .i64 re, [4]⟩, ⟨.alloc 24 #[.int .i64 0, .int .u64 0], 0, fun _ => undef, []⟩, ⟨.store 7 #[hiW ra, loW ra], 2, fun _ => undef, [7, 5]⟩] [(6, .bool false), (1, .int .i64 (j : Int)), (12, .pointer (some ⟨g12_4, 0, none⟩))] (by kernel_rfl) (by kernel_rfl) ⟨rfl, rfl, rfl, trivial⟩ ?_ ?_
                    · skip
                      refine o_cons (o_load 0 (reads_agg (cs := [hiW s, loW s]) tyWide rfl) (fun _ _ => rfl) rfl (fun _ _ => rfl) rfl) ?_
                      refine o_cons (o_call (ent_of Tryd.func17 (by kernel_rfl) rfl) (fun w hU => of_any _ 1 (by decide)) (fun _ _ => rfl) rfl (fun _ _ => rfl) (fun _ _ => rfl)) ?_
                      refine o_cons (o_q hflW (fun _ _ => rfl) (fun _ _ => rfl)) ?_
                      refine o_cons (o_call (ent_of Tryd.func18 (by kernel_rfl) rfl) (fun w hU => scaVV _ hr hsf (by unfold Fits; omega) (by omega)) (fun _ _ => rfl) rfl (fun _ _ => rfl) (fun _ _ => rfl)) ?_
                      refine o_cons (o_q hflW (fun _ _ => rfl) (fun _ _ => rfl)) ?_
                      refine o_cons (o_q hflW (fun _ _ => rfl) (fun _ _ => rfl)) ?_
                      refine o_cons (o_q hflW (fun _ _ => rfl) (fun _ _ => rfl)) ?_
                      refine o_cons (o_alloc zeWide rfl rfl) ?_
                      refine o_cons (o_store (t := 7) (v := WV ra) rfl rfl tyWide.2 rfl rfl rfl rfl (fun _ _ => rfl) rfl (fun _ _ => rfl) (fun _ _ => rfl)) ?_
                      exact o_nil
                    intro σ23 gs23
                    refine WL2.keep (env' := [(6, .bool false), (1, .int .i64 (j : Int)), (12, .pointer (some ⟨g12_4, 0, none⟩)), (82, .int .i64 re), (14, .pointer (some ⟨(gs23 7), 0, none⟩))]) ⟨rfl, rfl, rfl, rfl, rfl, trivial⟩ ?_
                    refine h_q hflW rfl ?_
                    refine h_nil (f_to (d_seq ?_))
                    refine d_par 9 2 [⟨.quiet, 0, fun _ => .agg #[hiW s, loW s], []⟩, ⟨.call, 1, fun _ => WV 1, []⟩, ⟨.quiet, 0, fun _ => .int .i64 (j : Int), []⟩, ⟨.call, 2, fun _ => .tuple #[WV ra, .int .i64 re], [0, 1, 2]⟩, ⟨.quiet, 2, fun _ => .tuple #[WV ra, .int .i64 re], [3]⟩, ⟨.quiet, 2, fun _ => WV ra, [4]⟩, ⟨.quiet, 2, fun _ => .int .i64 re, [4]⟩, ⟨.alloc 24 #[.int .i64 0, .int .u64 0], 0, fun _ => undef, []⟩, ⟨.store 7 #[hiW ra, loW ra], 2, fun _ => undef, [7, 5]⟩] [(6, .bool false), (1, .int .i64 (j : Int)), (12, .pointer (some ⟨g12_4, 0, none⟩)), (14, .pointer (some ⟨(gs23 7), 0, none⟩)), (15, .int .i64 re)] (by kernel_rfl) (by kernel_rfl) ⟨rfl, rfl, rfl, rfl, rfl, trivial⟩ ?_ ?_
                    · skip
                      refine o_cons (o_load 1 (reads_agg (cs := [hiW s, loW s]) tyWide rfl) (fun _ _ => rfl) rfl (fun _ _ => rfl) rfl) ?_
                      refine o_cons (o_call (ent_of Tryd.func17 (by kernel_rfl) rfl) (fun w hU => of_any _ 1 (by decide)) (fun _ _ => rfl) rfl (fun _ _ => rfl) (fun _ _ => rfl)) ?_
                      refine o_cons (o_q hflW (fun _ _ => rfl) (fun _ _ => rfl)) ?_
                      refine o_cons (o_call (ent_of Tryd.func33 (by kernel_rfl) rfl) (fun w hU => rscVV _ hr hsf (by unfold Fits; omega) (by omega)) (fun _ _ => rfl) rfl (fun _ _ => rfl) (fun _ _ => rfl)) ?_
                      refine o_cons (o_q hflW (fun _ _ => rfl) (fun _ _ => rfl)) ?_
                      refine o_cons (o_q hflW (fun _ _ => rfl) (fun _ _ => rfl)) ?_
                      refine o_cons (o_q hflW (fun _ _ => rfl) (fun _ _ => rfl)) ?_
                      refine o_cons (o_alloc zeWide rfl rfl) ?_
                      refine o_cons (o_store (t := 7) (v := WV ra) rfl rfl tyWide.2 rfl rfl rfl rfl (fun _ _ => rfl) rfl (fun _ _ => rfl) (fun _ _ => rfl)) ?_
                      exact o_nil
                    intro σ24 gs24
                    refine WL2.keep (env' := [(6, .bool false), (14, .pointer (some ⟨(gs23 7), 0, none⟩)), (15, .int .i64 re), (89, .int .i64 re), (16, .pointer (some ⟨(gs24 7), 0, none⟩))]) ⟨rfl, rfl, rfl, rfl, rfl, trivial⟩ ?_
                    refine h_q hflW rfl ?_
                    refine h_nil (f_to (d_reg ?_))
                    refine h_load 1 (v := .agg #[hiW ra, loW ra]) (reads_agg (cs := [hiW ra, loW ra]) tyWide rfl) rfl rfl rfl rfl ?_
                    refine h_load 0 (v := .agg #[hiW ra, loW ra]) (reads_agg (cs := [hiW ra, loW ra]) tyWide rfl) rfl rfl rfl rfl ?_
                    refine h_eqs (eqW_same _ _) rfl rfl rfl rfl ?_
                    refine h_q hflW rfl ?_
                    refine h_cmp (cmp_eql_t rfl) rfl rfl rfl rfl ?_
                    refine h_q hflW rfl ?_
                    refine h_done (d_ret ?_)
                    exact f_fin1 (.tmp rfl) (fun w h => ⟨rfl, h.up.below⟩) rfl
                  · skip
                    refine b_store 0 (v := WV s) (#[hiW s, loW s]) tyWide.2 rfl rfl rfl rfl rfl rfl rfl rfl rfl rfl rfl ?_
                    refine b_one 8 (by kernel_rfl) ?_
                    refine b_q hflW rfl rfl rfl ?_
                    refine b_one 10 (by kernel_rfl) ?_
                    refine b_q hflW rfl rfl rfl ?_
                    refine b_done (by kernel_rfl) ?_
                    refine f_to ?_
                    refine WC2.keep (env' := [(6, .bool false), (1, .int .i64 (j : Int)), (12, .pointer (some ⟨g12_4, 0, none⟩)), (13, .int .i64 0)]) ⟨rfl, rfl, rfl, rfl, trivial⟩ ?_
                    refine d_seq (d_reg ?_)
                    refine h_q hflW rfl ?_
                    refine h_cmp (cmp_neq_f (by decide)) rfl rfl rfl rfl ?_
                    refine h_done (d_else rfl (d_skip (f_to ?_)))
                    obtain ⟨ra, re, hr⟩ := res_wv (roundZ (s * 1) (j : Int))
                    refine d_seq ?_
                    refine d_par 9 2 [⟨.quiet, 0, fun _ => .agg #[hiW s, loW s], []⟩, ⟨.call, 1, fun _ => WV 1, []⟩, ⟨.quiet, 0, fun _ => .int .i64 (j : Int), []⟩, ⟨.call, 2, fun _ => .tuple #[WV ra, .int .i64 re], [0, 1, 2]⟩, ⟨.quiet, 2, fun _ => .tuple #[WV ra, .int .i64 re], [3]⟩, ⟨.quiet, 2, fun _ => WV ra, [4]⟩, ⟨.quiet, 2, fun _ => .int .i64 re, [4]⟩, ⟨.alloc 24 #[.int .i64 0, .int .u64 0], 0, fun _ => undef, []⟩, ⟨.store 7 #[hiW ra, loW ra], 2, fun _ => undef, [7, 5]⟩] [(6, .bool false), (1, .int .i64 (j : Int)), (12, .pointer (some ⟨g12_4, 0, none⟩))] (by kernel_rfl) (by kernel_rfl) ⟨rfl, rfl, rfl, trivial⟩ ?_ ?_
                    · skip
                      refine o_cons (o_load 0 (reads_agg (cs := [hiW s, loW s]) tyWide rfl) (fun _ _ => rfl) rfl (fun _ _ => rfl) rfl) ?_
                      refine o_cons (o_call (ent_of Tryd.func17 (by kernel_rfl) rfl) (fun w hU => of_any _ 1 (by decide)) (fun _ _ => rfl) rfl (fun _ _ => rfl) (fun _ _ => rfl)) ?_
                      refine o_cons (o_q hflW (fun _ _ => rfl) (fun _ _ => rfl)) ?_
                      refine o_cons (o_call (ent_of Tryd.func18 (by kernel_rfl) rfl) (fun w hU => scaVV _ hr hsf (by unfold Fits; omega) (by omega)) (fun _ _ => rfl) rfl (fun _ _ => rfl) (fun _ _ => rfl)) ?_
                      refine o_cons (o_q hflW (fun _ _ => rfl) (fun _ _ => rfl)) ?_
                      refine o_cons (o_q hflW (fun _ _ => rfl) (fun _ _ => rfl)) ?_
                      refine o_cons (o_q hflW (fun _ _ => rfl) (fun _ _ => rfl)) ?_
                      refine o_cons (o_alloc zeWide rfl rfl) ?_
                      refine o_cons (o_store (t := 7) (v := WV ra) rfl rfl tyWide.2 rfl rfl rfl rfl (fun _ _ => rfl) rfl (fun _ _ => rfl) (fun _ _ => rfl)) ?_
                      exact o_nil
                    intro σ25 gs25
                    refine WL2.keep (env' := [(6, .bool false), (1, .int .i64 (j : Int)), (12, .pointer (some ⟨g12_4, 0, none⟩)), (82, .int .i64 re), (14, .pointer (some ⟨(gs25 7), 0, none⟩))]) ⟨rfl, rfl, rfl, rfl, rfl, trivial⟩ ?_
                    refine h_q hflW rfl ?_
                    refine h_nil (f_to (d_seq ?_))
                    refine d_par 9 2 [⟨.quiet, 0, fun _ => .agg #[hiW s, loW s], []⟩, ⟨.call, 1, fun _ => WV 1, []⟩, ⟨.quiet, 0, fun _ => .int .i64 (j : Int), []⟩, ⟨.call, 2, fun _ => .tuple #[WV ra, .int .i64 re], [0, 1, 2]⟩, ⟨.quiet, 2, fun _ => .tuple #[WV ra, .int .i64 re], [3]⟩, ⟨.quiet, 2, fun _ => WV ra, [4]⟩, ⟨.quiet, 2, fun _ => .int .i64 re, [4]⟩, ⟨.alloc 24 #[.int .i64 0, .int .u64 0], 0, fun _ => undef, []⟩, ⟨.store 7 #[hiW ra, loW ra], 2, fun _ => undef, [7, 5]⟩] [(6, .bool false), (1, .int .i64 (j : Int)), (12, .pointer (some ⟨g12_4, 0, none⟩)), (14, .pointer (some ⟨(gs25 7), 0, none⟩)), (15, .int .i64 re)] (by kernel_rfl) (by kernel_rfl) ⟨rfl, rfl, rfl, rfl, rfl, trivial⟩ ?_ ?_
                    · skip
                      refine o_cons (o_load 1 (reads_agg (cs := [hiW s, loW s]) tyWide rfl) (fun _ _ => rfl) rfl (fun _ _ => rfl) rfl) ?_
                      refine o_cons (o_call (ent_of Tryd.func17 (by kernel_rfl) rfl) (fun w hU => of_any _ 1 (by decide)) (fun _ _ => rfl) rfl (fun _ _ => rfl) (fun _ _ => rfl)) ?_
                      refine o_cons (o_q hflW (fun _ _ => rfl) (fun _ _ => rfl)) ?_
                      refine o_cons (o_call (ent_of Tryd.func33 (by kernel_rfl) rfl) (fun w hU => rscVV _ hr hsf (by unfold Fits; omega) (by omega)) (fun _ _ => rfl) rfl (fun _ _ => rfl) (fun _ _ => rfl)) ?_
                      refine o_cons (o_q hflW (fun _ _ => rfl) (fun _ _ => rfl)) ?_
                      refine o_cons (o_q hflW (fun _ _ => rfl) (fun _ _ => rfl)) ?_
                      refine o_cons (o_q hflW (fun _ _ => rfl) (fun _ _ => rfl)) ?_
                      refine o_cons (o_alloc zeWide rfl rfl) ?_
                      refine o_cons (o_store (t := 7) (v := WV ra) rfl rfl tyWide.2 rfl rfl rfl rfl (fun _ _ => rfl) rfl (fun _ _ => rfl) (fun _ _ => rfl)) ?_
                      exact o_nil
                    intro σ26 gs26
                    refine WL2.keep (env' := [(6, .bool false), (14, .pointer (some ⟨(gs25 7), 0, none⟩)), (15, .int .i64 re), (89, .int .i64 re), (16, .pointer (some ⟨(gs26 7), 0, none⟩))]) ⟨rfl, rfl, rfl, rfl, rfl, trivial⟩ ?_
                    refine h_q hflW rfl ?_
                    refine h_nil (f_to (d_reg ?_))
                    refine h_load 1 (v := .agg #[hiW ra, loW ra]) (reads_agg (cs := [hiW ra, loW ra]) tyWide rfl) rfl rfl rfl rfl ?_
                    refine h_load 0 (v := .agg #[hiW ra, loW ra]) (reads_agg (cs := [hiW ra, loW ra]) tyWide rfl) rfl rfl rfl rfl ?_
                    refine h_eqs (eqW_same _ _) rfl rfl rfl rfl ?_
                    refine h_q hflW rfl ?_
                    refine h_cmp (cmp_eql_t rfl) rfl rfl rfl rfl ?_
                    refine h_q hflW rfl ?_
                    refine h_done (d_ret ?_)
                    exact f_fin1 (.tmp rfl) (fun w h => ⟨rfl, h.up.below⟩) rfl
                · skip
                  refine b_q hflW rfl rfl rfl ?_
                  refine b_one 7 (by kernel_rfl) ?_
                  refine b_q hflW rfl rfl rfl ?_
                  refine b_one 9 (by kernel_rfl) ?_
                  refine b_store 0 (v := WV s) (#[hiW s, loW s]) tyWide.2 rfl rfl rfl rfl rfl rfl rfl rfl rfl rfl rfl ?_
                  refine b_one 10 (by kernel_rfl) ?_
                  refine b_q hflW rfl rfl rfl ?_
                  refine b_done (by kernel_rfl) ?_
                  refine f_to ?_
                  refine WC2.keep (env' := [(6, .bool false), (1, .int .i64 (j : Int)), (12, .pointer (some ⟨g12_4, 0, none⟩)), (13, .int .i64 0)]) ⟨rfl, rfl, rfl, rfl, trivial⟩ ?_
                  refine d_seq (d_reg ?_)
                  refine h_q hflW rfl ?_
                  refine h_cmp (cmp_neq_f (by decide)) rfl rfl rfl rfl ?_
                  refine h_done (d_else rfl (d_skip (f_to ?_)))
                  obtain ⟨ra, re, hr⟩ := res_wv (roundZ (s * 1) (j : Int))
                  refine d_seq ?_
                  refine d_par 9 2 [⟨.quiet, 0, fun _ => .agg #[hiW s, loW s], []⟩, ⟨.call, 1, fun _ => WV 1, []⟩, ⟨.quiet, 0, fun _ => .int .i64 (j : Int), []⟩, ⟨.call, 2, fun _ => .tuple #[WV ra, .int .i64 re], [0, 1, 2]⟩, ⟨.quiet, 2, fun _ => .tuple #[WV ra, .int .i64 re], [3]⟩, ⟨.quiet, 2, fun _ => WV ra, [4]⟩, ⟨.quiet, 2, fun _ => .int .i64 re, [4]⟩, ⟨.alloc 24 #[.int .i64 0, .int .u64 0], 0, fun _ => undef, []⟩, ⟨.store 7 #[hiW ra, loW ra], 2, fun _ => undef, [7, 5]⟩] [(6, .bool false), (1, .int .i64 (j : Int)), (12, .pointer (some ⟨g12_4, 0, none⟩))] (by kernel_rfl) (by kernel_rfl) ⟨rfl, rfl, rfl, trivial⟩ ?_ ?_
                  · skip
                    refine o_cons (o_load 0 (reads_agg (cs := [hiW s, loW s]) tyWide rfl) (fun _ _ => rfl) rfl (fun _ _ => rfl) rfl) ?_
                    refine o_cons (o_call (ent_of Tryd.func17 (by kernel_rfl) rfl) (fun w hU => of_any _ 1 (by decide)) (fun _ _ => rfl) rfl (fun _ _ => rfl) (fun _ _ => rfl)) ?_
                    refine o_cons (o_q hflW (fun _ _ => rfl) (fun _ _ => rfl)) ?_
                    refine o_cons (o_call (ent_of Tryd.func18 (by kernel_rfl) rfl) (fun w hU => scaVV _ hr hsf (by unfold Fits; omega) (by omega)) (fun _ _ => rfl) rfl (fun _ _ => rfl) (fun _ _ => rfl)) ?_
                    refine o_cons (o_q hflW (fun _ _ => rfl) (fun _ _ => rfl)) ?_
                    refine o_cons (o_q hflW (fun _ _ => rfl) (fun _ _ => rfl)) ?_
                    refine o_cons (o_q hflW (fun _ _ => rfl) (fun _ _ => rfl)) ?_
                    refine o_cons (o_alloc zeWide rfl rfl) ?_
                    refine o_cons (o_store (t := 7) (v := WV ra) rfl rfl tyWide.2 rfl rfl rfl rfl (fun _ _ => rfl) rfl (fun _ _ => rfl) (fun _ _ => rfl)) ?_
                    exact o_nil
                  intro σ27 gs27
                  refine WL2.keep (env' := [(6, .bool false), (1, .int .i64 (j : Int)), (12, .pointer (some ⟨g12_4, 0, none⟩)), (82, .int .i64 re), (14, .pointer (some ⟨(gs27 7), 0, none⟩))]) ⟨rfl, rfl, rfl, rfl, rfl, trivial⟩ ?_
                  refine h_q hflW rfl ?_
                  refine h_nil (f_to (d_seq ?_))
                  refine d_par 9 2 [⟨.quiet, 0, fun _ => .agg #[hiW s, loW s], []⟩, ⟨.call, 1, fun _ => WV 1, []⟩, ⟨.quiet, 0, fun _ => .int .i64 (j : Int), []⟩, ⟨.call, 2, fun _ => .tuple #[WV ra, .int .i64 re], [0, 1, 2]⟩, ⟨.quiet, 2, fun _ => .tuple #[WV ra, .int .i64 re], [3]⟩, ⟨.quiet, 2, fun _ => WV ra, [4]⟩, ⟨.quiet, 2, fun _ => .int .i64 re, [4]⟩, ⟨.alloc 24 #[.int .i64 0, .int .u64 0], 0, fun _ => undef, []⟩, ⟨.store 7 #[hiW ra, loW ra], 2, fun _ => undef, [7, 5]⟩] [(6, .bool false), (1, .int .i64 (j : Int)), (12, .pointer (some ⟨g12_4, 0, none⟩)), (14, .pointer (some ⟨(gs27 7), 0, none⟩)), (15, .int .i64 re)] (by kernel_rfl) (by kernel_rfl) ⟨rfl, rfl, rfl, rfl, rfl, trivial⟩ ?_ ?_
                  · skip
                    refine o_cons (o_load 1 (reads_agg (cs := [hiW s, loW s]) tyWide rfl) (fun _ _ => rfl) rfl (fun _ _ => rfl) rfl) ?_
                    refine o_cons (o_call (ent_of Tryd.func17 (by kernel_rfl) rfl) (fun w hU => of_any _ 1 (by decide)) (fun _ _ => rfl) rfl (fun _ _ => rfl) (fun _ _ => rfl)) ?_
                    refine o_cons (o_q hflW (fun _ _ => rfl) (fun _ _ => rfl)) ?_
                    refine o_cons (o_call (ent_of Tryd.func33 (by kernel_rfl) rfl) (fun w hU => rscVV _ hr hsf (by unfold Fits; omega) (by omega)) (fun _ _ => rfl) rfl (fun _ _ => rfl) (fun _ _ => rfl)) ?_
                    refine o_cons (o_q hflW (fun _ _ => rfl) (fun _ _ => rfl)) ?_
                    refine o_cons (o_q hflW (fun _ _ => rfl) (fun _ _ => rfl)) ?_
                    refine o_cons (o_q hflW (fun _ _ => rfl) (fun _ _ => rfl)) ?_
                    refine o_cons (o_alloc zeWide rfl rfl) ?_
                    refine o_cons (o_store (t := 7) (v := WV ra) rfl rfl tyWide.2 rfl rfl rfl rfl (fun _ _ => rfl) rfl (fun _ _ => rfl) (fun _ _ => rfl)) ?_
                    exact o_nil
                  intro σ28 gs28
                  refine WL2.keep (env' := [(6, .bool false), (14, .pointer (some ⟨(gs27 7), 0, none⟩)), (15, .int .i64 re), (89, .int .i64 re), (16, .pointer (some ⟨(gs28 7), 0, none⟩))]) ⟨rfl, rfl, rfl, rfl, rfl, trivial⟩ ?_
                  refine h_q hflW rfl ?_
                  refine h_nil (f_to (d_reg ?_))
                  refine h_load 1 (v := .agg #[hiW ra, loW ra]) (reads_agg (cs := [hiW ra, loW ra]) tyWide rfl) rfl rfl rfl rfl ?_
                  refine h_load 0 (v := .agg #[hiW ra, loW ra]) (reads_agg (cs := [hiW ra, loW ra]) tyWide rfl) rfl rfl rfl rfl ?_
                  refine h_eqs (eqW_same _ _) rfl rfl rfl rfl ?_
                  refine h_q hflW rfl ?_
                  refine h_cmp (cmp_eql_t rfl) rfl rfl rfl rfl ?_
                  refine h_q hflW rfl ?_
                  refine h_done (d_ret ?_)
                  exact f_fin1 (.tmp rfl) (fun w h => ⟨rfl, h.up.below⟩) rfl
              · skip
                refine b_call (ent_of Tryd.func17 (by kernel_rfl) rfl) (fun w hH => of_any _ (v - 1) (by omega)) rfl rfl rfl rfl rfl ?_
                refine b_one 0 (by kernel_rfl) ?_
                refine b_load 0 (v := .agg #[hiW q, loW q]) (reads_agg (cs := [hiW q, loW q]) tyWide rfl) rfl rfl rfl rfl rfl ?_
                refine b_one 5 (by kernel_rfl) ?_
                refine b_call (ent_of Tryd.func22 (by kernel_rfl) rfl) (fun w hH => addVV _ hs hqf (by unfold Fits; omega)) rfl rfl rfl rfl rfl ?_
                refine b_one 6 (by kernel_rfl) ?_
                refine b_q hflW rfl rfl rfl ?_
                refine b_two 7 8 (by kernel_rfl) ?_ ?_
                · skip
                  refine b_q hflW rfl rfl rfl ?_
                  refine b_two 8 9 (by kernel_rfl) ?_ ?_
                  · skip
                    refine b_q hflW rfl rfl rfl ?_
                    refine b_one 9 (by kernel_rfl) ?_
                    refine b_store 0 (v := WV s) (#[hiW s, loW s]) tyWide.2 rfl rfl rfl rfl rfl rfl rfl rfl rfl rfl rfl ?_
                    refine b_one 10 (by kernel_rfl) ?_
                    refine b_q hflW rfl rfl rfl ?_
                    refine b_done (by kernel_rfl) ?_
                    refine f_to ?_
                    refine WC2.keep (env' := [(6, .bool false), (1, .int .i64 (j : Int)), (12, .pointer (some ⟨g12_4, 0, none⟩)), (13, .int .i64 0)]) ⟨rfl, rfl, rfl, rfl, trivial⟩ ?_
                    refine d_seq (d_reg ?_)
                    refine h_q hflW rfl ?_
                    refine h_cmp (cmp_neq_f (by decide)) rfl rfl rfl rfl ?_
                    refine h_done (d_else rfl (d_skip (f_to ?_)))
                    obtain ⟨ra, re, hr⟩ := res_wv (roundZ (s * 1) (j : Int))
                    refine d_seq ?_
                    refine d_par 9 2 [⟨.quiet, 0, fun _ => .agg #[hiW s, loW s], []⟩, ⟨.call, 1, fun _ => WV 1, []⟩, ⟨.quiet, 0, fun _ => .int .i64 (j : Int), []⟩, ⟨.call, 2, fun _ => .tuple #[WV ra, .int .i64 re], [0, 1, 2]⟩, ⟨.quiet, 2, fun _ => .tuple #[WV ra, .int .i64 re], [3]⟩, ⟨.quiet, 2, fun _ => WV ra, [4]⟩, ⟨.quiet, 2, fun _ => .int .i64 re, [4]⟩, ⟨.alloc 24 #[.int .i64 0, .int .u64 0], 0, fun _ => undef, []⟩, ⟨.store 7 #[hiW ra, loW ra], 2, fun _ => undef, [7, 5]⟩] [(6, .bool false), (1, .int .i64 (j : Int)), (12, .pointer (some ⟨g12_4, 0, none⟩))] (by kernel_rfl) (by kernel_rfl) ⟨rfl, rfl, rfl, trivial⟩ ?_ ?_
                    · skip
                      refine o_cons (o_load 0 (reads_agg (cs := [hiW s, loW s]) tyWide rfl) (fun _ _ => rfl) rfl (fun _ _ => rfl) rfl) ?_
                      refine o_cons (o_call (ent_of Tryd.func17 (by kernel_rfl) rfl) (fun w hU => of_any _ 1 (by decide)) (fun _ _ => rfl) rfl (fun _ _ => rfl) (fun _ _ => rfl)) ?_
                      refine o_cons (o_q hflW (fun _ _ => rfl) (fun _ _ => rfl)) ?_
                      refine o_cons (o_call (ent_of Tryd.func18 (by kernel_rfl) rfl) (fun w hU => scaVV _ hr hsf (by unfold Fits; omega) (by omega)) (fun _ _ => rfl) rfl (fun _ _ => rfl) (fun _ _ => rfl)) ?_
                      refine o_cons (o_q hflW (fun _ _ => rfl) (fun _ _ => rfl)) ?_
                      refine o_cons (o_q hflW (fun _ _ => rfl) (fun _ _ => rfl)) ?_
                      refine o_cons (o_q hflW (fun _ _ => rfl) (fun _ _ => rfl)) ?_
                      refine o_cons (o_alloc zeWide rfl rfl) ?_
                      refine o_cons (o_store (t := 7) (v := WV ra) rfl rfl tyWide.2 rfl rfl rfl rfl (fun _ _ => rfl) rfl (fun _ _ => rfl) (fun _ _ => rfl)) ?_
                      exact o_nil
                    intro σ29 gs29
                    refine WL2.keep (env' := [(6, .bool false), (1, .int .i64 (j : Int)), (12, .pointer (some ⟨g12_4, 0, none⟩)), (82, .int .i64 re), (14, .pointer (some ⟨(gs29 7), 0, none⟩))]) ⟨rfl, rfl, rfl, rfl, rfl, trivial⟩ ?_
                    refine h_q hflW rfl ?_
                    refine h_nil (f_to (d_seq ?_))
                    refine d_par 9 2 [⟨.quiet, 0, fun _ => .agg #[hiW s, loW s], []⟩, ⟨.call, 1, fun _ => WV 1, []⟩, ⟨.quiet, 0, fun _ => .int .i64 (j : Int), []⟩, ⟨.call, 2, fun _ => .tuple #[WV ra, .int .i64 re], [0, 1, 2]⟩, ⟨.quiet, 2, fun _ => .tuple #[WV ra, .int .i64 re], [3]⟩, ⟨.quiet, 2, fun _ => WV ra, [4]⟩, ⟨.quiet, 2, fun _ => .int .i64 re, [4]⟩, ⟨.alloc 24 #[.int .i64 0, .int .u64 0], 0, fun _ => undef, []⟩, ⟨.store 7 #[hiW ra, loW ra], 2, fun _ => undef, [7, 5]⟩] [(6, .bool false), (1, .int .i64 (j : Int)), (12, .pointer (some ⟨g12_4, 0, none⟩)), (14, .pointer (some ⟨(gs29 7), 0, none⟩)), (15, .int .i64 re)] (by kernel_rfl) (by kernel_rfl) ⟨rfl, rfl, rfl, rfl, rfl, trivial⟩ ?_ ?_
                    · skip
                      refine o_cons (o_load 1 (reads_agg (cs := [hiW s, loW s]) tyWide rfl) (fun _ _ => rfl) rfl (fun _ _ => rfl) rfl) ?_
                      refine o_cons (o_call (ent_of Tryd.func17 (by kernel_rfl) rfl) (fun w hU => of_any _ 1 (by decide)) (fun _ _ => rfl) rfl (fun _ _ => rfl) (fun _ _ => rfl)) ?_
                      refine o_cons (o_q hflW (fun _ _ => rfl) (fun _ _ => rfl)) ?_
                      refine o_cons (o_call (ent_of Tryd.func33 (by kernel_rfl) rfl) (fun w hU => rscVV _ hr hsf (by unfold Fits; omega) (by omega)) (fun _ _ => rfl) rfl (fun _ _ => rfl) (fun _ _ => rfl)) ?_
                      refine o_cons (o_q hflW (fun _ _ => rfl) (fun _ _ => rfl)) ?_
                      refine o_cons (o_q hflW (fun _ _ => rfl) (fun _ _ => rfl)) ?_
                      refine o_cons (o_q hflW (fun _ _ => rfl) (fun _ _ => rfl)) ?_
                      refine o_cons (o_alloc zeWide rfl rfl) ?_
                      refine o_cons (o_store (t := 7) (v := WV ra) rfl rfl tyWide.2 rfl rfl rfl rfl (fun _ _ => rfl) rfl (fun _ _ => rfl) (fun _ _ => rfl)) ?_
                      exact o_nil
                    intro σ30 gs30
                    refine WL2.keep (env' := [(6, .bool false), (14, .pointer (some ⟨(gs29 7), 0, none⟩)), (15, .int .i64 re), (89, .int .i64 re), (16, .pointer (some ⟨(gs30 7), 0, none⟩))]) ⟨rfl, rfl, rfl, rfl, rfl, trivial⟩ ?_
                    refine h_q hflW rfl ?_
                    refine h_nil (f_to (d_reg ?_))
                    refine h_load 1 (v := .agg #[hiW ra, loW ra]) (reads_agg (cs := [hiW ra, loW ra]) tyWide rfl) rfl rfl rfl rfl ?_
                    refine h_load 0 (v := .agg #[hiW ra, loW ra]) (reads_agg (cs := [hiW ra, loW ra]) tyWide rfl) rfl rfl rfl rfl ?_
                    refine h_eqs (eqW_same _ _) rfl rfl rfl rfl ?_
                    refine h_q hflW rfl ?_
                    refine h_cmp (cmp_eql_t rfl) rfl rfl rfl rfl ?_
                    refine h_q hflW rfl ?_
                    refine h_done (d_ret ?_)
                    exact f_fin1 (.tmp rfl) (fun w h => ⟨rfl, h.up.below⟩) rfl
                  · skip
                    refine b_store 0 (v := WV s) (#[hiW s, loW s]) tyWide.2 rfl rfl rfl rfl rfl rfl rfl rfl rfl rfl rfl ?_
                    refine b_one 8 (by kernel_rfl) ?_
                    refine b_q hflW rfl rfl rfl ?_
                    refine b_one 10 (by kernel_rfl) ?_
                    refine b_q hflW rfl rfl rfl ?_
                    refine b_done (by kernel_rfl) ?_
                    refine f_to ?_
                    refine WC2.keep (env' := [(6, .bool false), (1, .int .i64 (j : Int)), (12, .pointer (some ⟨g12_4, 0, none⟩)), (13, .int .i64 0)]) ⟨rfl, rfl, rfl, rfl, trivial⟩ ?_
                    refine d_seq (d_reg ?_)
                    refine h_q hflW rfl ?_
                    refine h_cmp (cmp_neq_f (by decide)) rfl rfl rfl rfl ?_
                    refine h_done (d_else rfl (d_skip (f_to ?_)))
                    obtain ⟨ra, re, hr⟩ := res_wv (roundZ (s * 1) (j : Int))
                    refine d_seq ?_
                    refine d_par 9 2 [⟨.quiet, 0, fun _ => .agg #[hiW s, loW s], []⟩, ⟨.call, 1, fun _ => WV 1, []⟩, ⟨.quiet, 0, fun _ => .int .i64 (j : Int), []⟩, ⟨.call, 2, fun _ => .tuple #[WV ra, .int .i64 re], [0, 1, 2]⟩, ⟨.quiet, 2, fun _ => .tuple #[WV ra, .int .i64 re], [3]⟩, ⟨.quiet, 2, fun _ => WV ra, [4]⟩, ⟨.quiet, 2, fun _ => .int .i64 re, [4]⟩, ⟨.alloc 24 #[.int .i64 0, .int .u64 0], 0, fun _ => undef, []⟩, ⟨.store 7 #[hiW ra, loW ra], 2, fun _ => undef, [7, 5]⟩] [(6, .bool false), (1, .int .i64 (j : Int)), (12, .pointer (some ⟨g12_4, 0, none⟩))] (by kernel_rfl) (by kernel_rfl) ⟨rfl, rfl, rfl, trivial⟩ ?_ ?_
                    · skip
                      refine o_cons (o_load 0 (reads_agg (cs := [hiW s, loW s]) tyWide rfl) (fun _ _ => rfl) rfl (fun _ _ => rfl) rfl) ?_
                      refine o_cons (o_call (ent_of Tryd.func17 (by kernel_rfl) rfl) (fun w hU => of_any _ 1 (by decide)) (fun _ _ => rfl) rfl (fun _ _ => rfl) (fun _ _ => rfl)) ?_
                      refine o_cons (o_q hflW (fun _ _ => rfl) (fun _ _ => rfl)) ?_
                      refine o_cons (o_call (ent_of Tryd.func18 (by kernel_rfl) rfl) (fun w hU => scaVV _ hr hsf (by unfold Fits; omega) (by omega)) (fun _ _ => rfl) rfl (fun _ _ => rfl) (fun _ _ => rfl)) ?_
                      refine o_cons (o_q hflW (fun _ _ => rfl) (fun _ _ => rfl)) ?_
                      refine o_cons (o_q hflW (fun _ _ => rfl) (fun _ _ => rfl)) ?_
                      refine o_cons (o_q hflW (fun _ _ => rfl) (fun _ _ => rfl)) ?_
                      refine o_cons (o_alloc zeWide rfl rfl) ?_
                      refine o_cons (o_store (t := 7) (v := WV ra) rfl rfl tyWide.2 rfl rfl rfl rfl (fun _ _ => rfl) rfl (fun _ _ => rfl) (fun _ _ => rfl)) ?_
                      exact o_nil
                    intro σ31 gs31
                    refine WL2.keep (env' := [(6, .bool false), (1, .int .i64 (j : Int)), (12, .pointer (some ⟨g12_4, 0, none⟩)), (82, .int .i64 re), (14, .pointer (some ⟨(gs31 7), 0, none⟩))]) ⟨rfl, rfl, rfl, rfl, rfl, trivial⟩ ?_
                    refine h_q hflW rfl ?_
                    refine h_nil (f_to (d_seq ?_))
                    refine d_par 9 2 [⟨.quiet, 0, fun _ => .agg #[hiW s, loW s], []⟩, ⟨.call, 1, fun _ => WV 1, []⟩, ⟨.quiet, 0, fun _ => .int .i64 (j : Int), []⟩, ⟨.call, 2, fun _ => .tuple #[WV ra, .int .i64 re], [0, 1, 2]⟩, ⟨.quiet, 2, fun _ => .tuple #[WV ra, .int .i64 re], [3]⟩, ⟨.quiet, 2, fun _ => WV ra, [4]⟩, ⟨.quiet, 2, fun _ => .int .i64 re, [4]⟩, ⟨.alloc 24 #[.int .i64 0, .int .u64 0], 0, fun _ => undef, []⟩, ⟨.store 7 #[hiW ra, loW ra], 2, fun _ => undef, [7, 5]⟩] [(6, .bool false), (1, .int .i64 (j : Int)), (12, .pointer (some ⟨g12_4, 0, none⟩)), (14, .pointer (some ⟨(gs31 7), 0, none⟩)), (15, .int .i64 re)] (by kernel_rfl) (by kernel_rfl) ⟨rfl, rfl, rfl, rfl, rfl, trivial⟩ ?_ ?_
                    · skip
                      refine o_cons (o_load 1 (reads_agg (cs := [hiW s, loW s]) tyWide rfl) (fun _ _ => rfl) rfl (fun _ _ => rfl) rfl) ?_
                      refine o_cons (o_call (ent_of Tryd.func17 (by kernel_rfl) rfl) (fun w hU => of_any _ 1 (by decide)) (fun _ _ => rfl) rfl (fun _ _ => rfl) (fun _ _ => rfl)) ?_
                      refine o_cons (o_q hflW (fun _ _ => rfl) (fun _ _ => rfl)) ?_
                      refine o_cons (o_call (ent_of Tryd.func33 (by kernel_rfl) rfl) (fun w hU => rscVV _ hr hsf (by unfold Fits; omega) (by omega)) (fun _ _ => rfl) rfl (fun _ _ => rfl) (fun _ _ => rfl)) ?_
                      refine o_cons (o_q hflW (fun _ _ => rfl) (fun _ _ => rfl)) ?_
                      refine o_cons (o_q hflW (fun _ _ => rfl) (fun _ _ => rfl)) ?_
                      refine o_cons (o_q hflW (fun _ _ => rfl) (fun _ _ => rfl)) ?_
                      refine o_cons (o_alloc zeWide rfl rfl) ?_
                      refine o_cons (o_store (t := 7) (v := WV ra) rfl rfl tyWide.2 rfl rfl rfl rfl (fun _ _ => rfl) rfl (fun _ _ => rfl) (fun _ _ => rfl)) ?_
                      exact o_nil
                    intro σ32 gs32
                    refine WL2.keep (env' := [(6, .bool false), (14, .pointer (some ⟨(gs31 7), 0, none⟩)), (15, .int .i64 re), (89, .int .i64 re), (16, .pointer (some ⟨(gs32 7), 0, none⟩))]) ⟨rfl, rfl, rfl, rfl, rfl, trivial⟩ ?_
                    refine h_q hflW rfl ?_
                    refine h_nil (f_to (d_reg ?_))
                    refine h_load 1 (v := .agg #[hiW ra, loW ra]) (reads_agg (cs := [hiW ra, loW ra]) tyWide rfl) rfl rfl rfl rfl ?_
                    refine h_load 0 (v := .agg #[hiW ra, loW ra]) (reads_agg (cs := [hiW ra, loW ra]) tyWide rfl) rfl rfl rfl rfl ?_
                    refine h_eqs (eqW_same _ _) rfl rfl rfl rfl ?_
                    refine h_q hflW rfl ?_
                    refine h_cmp (cmp_eql_t rfl) rfl rfl rfl rfl ?_
                    refine h_q hflW rfl ?_
                    refine h_done (d_ret ?_)
                    exact f_fin1 (.tmp rfl) (fun w h => ⟨rfl, h.up.below⟩) rfl
                · skip
                  refine b_q hflW rfl rfl rfl ?_
                  refine b_one 7 (by kernel_rfl) ?_
                  refine b_q hflW rfl rfl rfl ?_
                  refine b_one 9 (by kernel_rfl) ?_
                  refine b_store 0 (v := WV s) (#[hiW s, loW s]) tyWide.2 rfl rfl rfl rfl rfl rfl rfl rfl rfl rfl rfl ?_
                  refine b_one 10 (by kernel_rfl) ?_
                  refine b_q hflW rfl rfl rfl ?_
                  refine b_done (by kernel_rfl) ?_
                  refine f_to ?_
                  refine WC2.keep (env' := [(6, .bool false), (1, .int .i64 (j : Int)), (12, .pointer (some ⟨g12_4, 0, none⟩)), (13, .int .i64 0)]) ⟨rfl, rfl, rfl, rfl, trivial⟩ ?_
                  refine d_seq (d_reg ?_)
                  refine h_q hflW rfl ?_
                  refine h_cmp (cmp_neq_f (by decide)) rfl rfl rfl rfl ?_
                  refine h_done (d_else rfl (d_skip (f_to ?_)))
                  obtain ⟨ra, re, hr⟩ := res_wv (roundZ (s * 1) (j : Int))
                  refine d_seq ?_
                  refine d_par 9 2 [⟨.quiet, 0, fun _ => .agg #[hiW s, loW s], []⟩, ⟨.call, 1, fun _ => WV 1, []⟩, ⟨.quiet, 0, fun _ => .int .i64 (j : Int), []⟩, ⟨.call, 2, fun _ => .tuple #[WV ra, .int .i64 re], [0, 1, 2]⟩, ⟨.quiet, 2, fun _ => .tuple #[WV ra, .int .i64 re], [3]⟩, ⟨.quiet, 2, fun _ => WV ra, [4]⟩, ⟨.quiet, 2, fun _ => .int .i64 re, [4]⟩, ⟨.alloc 24 #[.int .i64 0, .int .u64 0], 0, fun _ => undef, []⟩, ⟨.store 7 #[hiW ra, loW ra], 2, fun _ => undef, [7, 5]⟩] [(6, .bool false), (1, .int .i64 (j : Int)), (12, .pointer (some ⟨g12_4, 0, none⟩))] (by kernel_rfl) (by kernel_rfl) ⟨rfl, rfl, rfl, trivial⟩ ?_ ?_
                  · skip
                    refine o_cons (o_load 0 (reads_agg (cs := [hiW s, loW s]) tyWide rfl) (fun _ _ => rfl) rfl (fun _ _ => rfl) rfl) ?_
                    refine o_cons (o_call (ent_of Tryd.func17 (by kernel_rfl) rfl) (fun w hU => of_any _ 1 (by decide)) (fun _ _ => rfl) rfl (fun _ _ => rfl) (fun _ _ => rfl)) ?_
                    refine o_cons (o_q hflW (fun _ _ => rfl) (fun _ _ => rfl)) ?_
                    refine o_cons (o_call (ent_of Tryd.func18 (by kernel_rfl) rfl) (fun w hU => scaVV _ hr hsf (by unfold Fits; omega) (by omega)) (fun _ _ => rfl) rfl (fun _ _ => rfl) (fun _ _ => rfl)) ?_
                    refine o_cons (o_q hflW (fun _ _ => rfl) (fun _ _ => rfl)) ?_
                    refine o_cons (o_q hflW (fun _ _ => rfl) (fun _ _ => rfl)) ?_
                    refine o_cons (o_q hflW (fun _ _ => rfl) (fun _ _ => rfl)) ?_
                    refine o_cons (o_alloc zeWide rfl rfl) ?_
                    refine o_cons (o_store (t := 7) (v := WV ra) rfl rfl tyWide.2 rfl rfl rfl rfl (fun _ _ => rfl) rfl (fun _ _ => rfl) (fun _ _ => rfl)) ?_
                    exact o_nil
                  intro σ33 gs33
                  refine WL2.keep (env' := [(6, .bool false), (1, .int .i64 (j : Int)), (12, .pointer (some ⟨g12_4, 0, none⟩)), (82, .int .i64 re), (14, .pointer (some ⟨(gs33 7), 0, none⟩))]) ⟨rfl, rfl, rfl, rfl, rfl, trivial⟩ ?_
                  refine h_q hflW rfl ?_
                  refine h_nil (f_to (d_seq ?_))
                  refine d_par 9 2 [⟨.quiet, 0, fun _ => .agg #[hiW s, loW s], []⟩, ⟨.call, 1, fun _ => WV 1, []⟩, ⟨.quiet, 0, fun _ => .int .i64 (j : Int), []⟩, ⟨.call, 2, fun _ => .tuple #[WV ra, .int .i64 re], [0, 1, 2]⟩, ⟨.quiet, 2, fun _ => .tuple #[WV ra, .int .i64 re], [3]⟩, ⟨.quiet, 2, fun _ => WV ra, [4]⟩, ⟨.quiet, 2, fun _ => .int .i64 re, [4]⟩, ⟨.alloc 24 #[.int .i64 0, .int .u64 0], 0, fun _ => undef, []⟩, ⟨.store 7 #[hiW ra, loW ra], 2, fun _ => undef, [7, 5]⟩] [(6, .bool false), (1, .int .i64 (j : Int)), (12, .pointer (some ⟨g12_4, 0, none⟩)), (14, .pointer (some ⟨(gs33 7), 0, none⟩)), (15, .int .i64 re)] (by kernel_rfl) (by kernel_rfl) ⟨rfl, rfl, rfl, rfl, rfl, trivial⟩ ?_ ?_
                  · skip
                    refine o_cons (o_load 1 (reads_agg (cs := [hiW s, loW s]) tyWide rfl) (fun _ _ => rfl) rfl (fun _ _ => rfl) rfl) ?_
                    refine o_cons (o_call (ent_of Tryd.func17 (by kernel_rfl) rfl) (fun w hU => of_any _ 1 (by decide)) (fun _ _ => rfl) rfl (fun _ _ => rfl) (fun _ _ => rfl)) ?_
                    refine o_cons (o_q hflW (fun _ _ => rfl) (fun _ _ => rfl)) ?_
                    refine o_cons (o_call (ent_of Tryd.func33 (by kernel_rfl) rfl) (fun w hU => rscVV _ hr hsf (by unfold Fits; omega) (by omega)) (fun _ _ => rfl) rfl (fun _ _ => rfl) (fun _ _ => rfl)) ?_
                    refine o_cons (o_q hflW (fun _ _ => rfl) (fun _ _ => rfl)) ?_
                    refine o_cons (o_q hflW (fun _ _ => rfl) (fun _ _ => rfl)) ?_
                    refine o_cons (o_q hflW (fun _ _ => rfl) (fun _ _ => rfl)) ?_
                    refine o_cons (o_alloc zeWide rfl rfl) ?_
                    refine o_cons (o_store (t := 7) (v := WV ra) rfl rfl tyWide.2 rfl rfl rfl rfl (fun _ _ => rfl) rfl (fun _ _ => rfl) (fun _ _ => rfl)) ?_
                    exact o_nil
                  intro σ34 gs34
                  refine WL2.keep (env' := [(6, .bool false), (14, .pointer (some ⟨(gs33 7), 0, none⟩)), (15, .int .i64 re), (89, .int .i64 re), (16, .pointer (some ⟨(gs34 7), 0, none⟩))]) ⟨rfl, rfl, rfl, rfl, rfl, trivial⟩ ?_
                  refine h_q hflW rfl ?_
                  refine h_nil (f_to (d_reg ?_))
                  refine h_load 1 (v := .agg #[hiW ra, loW ra]) (reads_agg (cs := [hiW ra, loW ra]) tyWide rfl) rfl rfl rfl rfl ?_
                  refine h_load 0 (v := .agg #[hiW ra, loW ra]) (reads_agg (cs := [hiW ra, loW ra]) tyWide rfl) rfl rfl rfl rfl ?_
                  refine h_eqs (eqW_same _ _) rfl rfl rfl rfl ?_
                  refine h_q hflW rfl ?_
                  refine h_cmp (cmp_eql_t rfl) rfl rfl rfl rfl ?_
                  refine h_q hflW rfl ?_
                  refine h_done (d_ret ?_)
                  exact f_fin1 (.tmp rfl) (fun w h => ⟨rfl, h.up.below⟩) rfl
      · skip
        refine d_seq ?_
        refine d_any (by kernel_rfl) ?_
        refine b_two 0 1 (by kernel_rfl) ?_ ?_
        · skip
          refine b_load 0 (v := .agg #[hiW q, loW q]) (reads_agg (cs := [hiW q, loW q]) tyWide rfl) rfl rfl rfl rfl rfl ?_
          refine b_one 1 (by kernel_rfl) ?_
          refine b_q hflW rfl rfl rfl ?_
          refine b_one 2 (by kernel_rfl) ?_
          refine b_call (ent_of Tryd.func34 (by kernel_rfl) rfl) (fun w hH => pickV _ hv3 hoff (by decide)) rfl rfl rfl rfl rfl ?_
          refine b_one 3 (by kernel_rfl) ?_
          refine b_ar (z' := v - 1) (IntWalk.i64_in _ (by omega)) rfl rfl rfl rfl rfl rfl ?_
          refine b_one 4 (by kernel_rfl) ?_
          refine b_call (ent_of Tryd.func17 (by kernel_rfl) rfl) (fun w hH => of_any _ (v - 1) (by omega)) rfl rfl rfl rfl rfl ?_
          refine b_one 5 (by kernel_rfl) ?_
          refine b_call (ent_of Tryd.func22 (by kernel_rfl) rfl) (fun w hH => addVV _ hs hqf (by unfold Fits; omega)) rfl rfl rfl rfl rfl ?_
          refine b_one 6 (by kernel_rfl) ?_
          refine b_q hflW rfl rfl rfl ?_
          refine b_two 7 8 (by kernel_rfl) ?_ ?_
          · skip
            refine b_q hflW rfl rfl rfl ?_
            refine b_two 8 9 (by kernel_rfl) ?_ ?_
            · skip
              refine b_q hflW rfl rfl rfl ?_
              refine b_one 9 (by kernel_rfl) ?_
              refine b_store 0 (v := WV 0) (#[hiW 0, loW 0]) tyWide.2 rfl rfl rfl rfl rfl rfl rfl rfl rfl rfl rfl ?_
              refine b_one 10 (by kernel_rfl) ?_
              refine b_q hflW rfl rfl rfl ?_
              refine b_done (by kernel_rfl) ?_
              refine f_to ?_
              refine WC2.keep (env' := [(6, .bool false), (1, .int .i64 (j : Int)), (12, .pointer (some ⟨g12_4, 0, none⟩)), (13, .int .i64 20)]) ⟨rfl, rfl, rfl, rfl, trivial⟩ ?_
              refine d_seq (d_reg ?_)
              refine h_q hflW rfl ?_
              refine h_cmp (cmp_neq_t (by decide)) rfl rfl rfl rfl ?_
              refine h_done (d_then rfl (d_reg ?_))
              refine h_q hflW rfl ?_
              refine h_cmp (cmp_eql_t (by decide)) rfl rfl rfl rfl ?_
              refine h_q hflW rfl ?_
              refine h_done (d_ret (f_then_ret ?_))
              exact f_fin1 (.tmp rfl) (fun w h => ⟨rfl, h.up.below⟩) rfl
            · skip
              refine b_store 0 (v := WV 0) (#[hiW 0, loW 0]) tyWide.2 rfl rfl rfl rfl rfl rfl rfl rfl rfl rfl rfl ?_
              refine b_one 8 (by kernel_rfl) ?_
              refine b_q hflW rfl rfl rfl ?_
              refine b_one 10 (by kernel_rfl) ?_
              refine b_q hflW rfl rfl rfl ?_
              refine b_done (by kernel_rfl) ?_
              refine f_to ?_
              refine WC2.keep (env' := [(6, .bool false), (1, .int .i64 (j : Int)), (12, .pointer (some ⟨g12_4, 0, none⟩)), (13, .int .i64 20)]) ⟨rfl, rfl, rfl, rfl, trivial⟩ ?_
              refine d_seq (d_reg ?_)
              refine h_q hflW rfl ?_
              refine h_cmp (cmp_neq_t (by decide)) rfl rfl rfl rfl ?_
              refine h_done (d_then rfl (d_reg ?_))
              refine h_q hflW rfl ?_
              refine h_cmp (cmp_eql_t (by decide)) rfl rfl rfl rfl ?_
              refine h_q hflW rfl ?_
              refine h_done (d_ret (f_then_ret ?_))
              exact f_fin1 (.tmp rfl) (fun w h => ⟨rfl, h.up.below⟩) rfl
          · skip
            refine b_q hflW rfl rfl rfl ?_
            refine b_one 7 (by kernel_rfl) ?_
            refine b_q hflW rfl rfl rfl ?_
            refine b_one 9 (by kernel_rfl) ?_
            refine b_store 0 (v := WV 0) (#[hiW 0, loW 0]) tyWide.2 rfl rfl rfl rfl rfl rfl rfl rfl rfl rfl rfl ?_
            refine b_one 10 (by kernel_rfl) ?_
            refine b_q hflW rfl rfl rfl ?_
            refine b_done (by kernel_rfl) ?_
            refine f_to ?_
            refine WC2.keep (env' := [(6, .bool false), (1, .int .i64 (j : Int)), (12, .pointer (some ⟨g12_4, 0, none⟩)), (13, .int .i64 20)]) ⟨rfl, rfl, rfl, rfl, trivial⟩ ?_
            refine d_seq (d_reg ?_)
            refine h_q hflW rfl ?_
            refine h_cmp (cmp_neq_t (by decide)) rfl rfl rfl rfl ?_
            refine h_done (d_then rfl (d_reg ?_))
            refine h_q hflW rfl ?_
            refine h_cmp (cmp_eql_t (by decide)) rfl rfl rfl rfl ?_
            refine h_q hflW rfl ?_
            refine h_done (d_ret (f_then_ret ?_))
            exact f_fin1 (.tmp rfl) (fun w h => ⟨rfl, h.up.below⟩) rfl
        · skip
          refine b_q hflW rfl rfl rfl ?_
          refine b_two 0 2 (by kernel_rfl) ?_ ?_
          · skip
            refine b_load 0 (v := .agg #[hiW q, loW q]) (reads_agg (cs := [hiW q, loW q]) tyWide rfl) rfl rfl rfl rfl rfl ?_
            refine b_one 2 (by kernel_rfl) ?_
            refine b_call (ent_of Tryd.func34 (by kernel_rfl) rfl) (fun w hH => pickV _ hv3 hoff (by decide)) rfl rfl rfl rfl rfl ?_
            refine b_one 3 (by kernel_rfl) ?_
            refine b_ar (z' := v - 1) (IntWalk.i64_in _ (by omega)) rfl rfl rfl rfl rfl rfl ?_
            refine b_one 4 (by kernel_rfl) ?_
            refine b_call (ent_of Tryd.func17 (by kernel_rfl) rfl) (fun w hH => of_any _ (v - 1) (by omega)) rfl rfl rfl rfl rfl ?_
            refine b_one 5 (by kernel_rfl) ?_
            refine b_call (ent_of Tryd.func22 (by kernel_rfl) rfl) (fun w hH => addVV _ hs hqf (by unfold Fits; omega)) rfl rfl rfl rfl rfl ?_
            refine b_one 6 (by kernel_rfl) ?_
            refine b_q hflW rfl rfl rfl ?_
            refine b_two 7 8 (by kernel_rfl) ?_ ?_
            · skip
              refine b_q hflW rfl rfl rfl ?_
              refine b_two 8 9 (by kernel_rfl) ?_ ?_
              · skip
                refine b_q hflW rfl rfl rfl ?_
                refine b_one 9 (by kernel_rfl) ?_
                refine b_store 0 (v := WV 0) (#[hiW 0, loW 0]) tyWide.2 rfl rfl rfl rfl rfl rfl rfl rfl rfl rfl rfl ?_
                refine b_one 10 (by kernel_rfl) ?_
                refine b_q hflW rfl rfl rfl ?_
                refine b_done (by kernel_rfl) ?_
                refine f_to ?_
                refine WC2.keep (env' := [(6, .bool false), (1, .int .i64 (j : Int)), (12, .pointer (some ⟨g12_4, 0, none⟩)), (13, .int .i64 20)]) ⟨rfl, rfl, rfl, rfl, trivial⟩ ?_
                refine d_seq (d_reg ?_)
                refine h_q hflW rfl ?_
                refine h_cmp (cmp_neq_t (by decide)) rfl rfl rfl rfl ?_
                refine h_done (d_then rfl (d_reg ?_))
                refine h_q hflW rfl ?_
                refine h_cmp (cmp_eql_t (by decide)) rfl rfl rfl rfl ?_
                refine h_q hflW rfl ?_
                refine h_done (d_ret (f_then_ret ?_))
                exact f_fin1 (.tmp rfl) (fun w h => ⟨rfl, h.up.below⟩) rfl
              · skip
                refine b_store 0 (v := WV 0) (#[hiW 0, loW 0]) tyWide.2 rfl rfl rfl rfl rfl rfl rfl rfl rfl rfl rfl ?_
                refine b_one 8 (by kernel_rfl) ?_
                refine b_q hflW rfl rfl rfl ?_
                refine b_one 10 (by kernel_rfl) ?_
                refine b_q hflW rfl rfl rfl ?_
                refine b_done (by kernel_rfl) ?_
                refine f_to ?_
                refine WC2.keep (env' := [(6, .bool false), (1, .int .i64 (j : Int)), (12, .pointer (some ⟨g12_4, 0, none⟩)), (13, .int .i64 20)]) ⟨rfl, rfl, rfl, rfl, trivial⟩ ?_
                refine d_seq (d_reg ?_)
                refine h_q hflW rfl ?_
                refine h_cmp (cmp_neq_t (by decide)) rfl rfl rfl rfl ?_
                refine h_done (d_then rfl (d_reg ?_))
                refine h_q hflW rfl ?_
                refine h_cmp (cmp_eql_t (by decide)) rfl rfl rfl rfl ?_
                refine h_q hflW rfl ?_
                refine h_done (d_ret (f_then_ret ?_))
                exact f_fin1 (.tmp rfl) (fun w h => ⟨rfl, h.up.below⟩) rfl
            · skip
              refine b_q hflW rfl rfl rfl ?_
              refine b_one 7 (by kernel_rfl) ?_
              refine b_q hflW rfl rfl rfl ?_
              refine b_one 9 (by kernel_rfl) ?_
              refine b_store 0 (v := WV 0) (#[hiW 0, loW 0]) tyWide.2 rfl rfl rfl rfl rfl rfl rfl rfl rfl rfl rfl ?_
              refine b_one 10 (by kernel_rfl) ?_
              refine b_q hflW rfl rfl rfl ?_
              refine b_done (by kernel_rfl) ?_
              refine f_to ?_
              refine WC2.keep (env' := [(6, .bool false), (1, .int .i64 (j : Int)), (12, .pointer (some ⟨g12_4, 0, none⟩)), (13, .int .i64 20)]) ⟨rfl, rfl, rfl, rfl, trivial⟩ ?_
              refine d_seq (d_reg ?_)
              refine h_q hflW rfl ?_
              refine h_cmp (cmp_neq_t (by decide)) rfl rfl rfl rfl ?_
              refine h_done (d_then rfl (d_reg ?_))
              refine h_q hflW rfl ?_
              refine h_cmp (cmp_eql_t (by decide)) rfl rfl rfl rfl ?_
              refine h_q hflW rfl ?_
              refine h_done (d_ret (f_then_ret ?_))
              exact f_fin1 (.tmp rfl) (fun w h => ⟨rfl, h.up.below⟩) rfl
          · skip
            refine b_call (ent_of Tryd.func34 (by kernel_rfl) rfl) (fun w hH => pickV _ hv3 hoff (by decide)) rfl rfl rfl rfl rfl ?_
            refine b_two 0 3 (by kernel_rfl) ?_ ?_
            · skip
              refine b_load 0 (v := .agg #[hiW q, loW q]) (reads_agg (cs := [hiW q, loW q]) tyWide rfl) rfl rfl rfl rfl rfl ?_
              refine b_one 3 (by kernel_rfl) ?_
              refine b_ar (z' := v - 1) (IntWalk.i64_in _ (by omega)) rfl rfl rfl rfl rfl rfl ?_
              refine b_one 4 (by kernel_rfl) ?_
              refine b_call (ent_of Tryd.func17 (by kernel_rfl) rfl) (fun w hH => of_any _ (v - 1) (by omega)) rfl rfl rfl rfl rfl ?_
              refine b_one 5 (by kernel_rfl) ?_
              refine b_call (ent_of Tryd.func22 (by kernel_rfl) rfl) (fun w hH => addVV _ hs hqf (by unfold Fits; omega)) rfl rfl rfl rfl rfl ?_
              refine b_one 6 (by kernel_rfl) ?_
              refine b_q hflW rfl rfl rfl ?_
              refine b_two 7 8 (by kernel_rfl) ?_ ?_
              · skip
                refine b_q hflW rfl rfl rfl ?_
                refine b_two 8 9 (by kernel_rfl) ?_ ?_
                · skip
                  refine b_q hflW rfl rfl rfl ?_
                  refine b_one 9 (by kernel_rfl) ?_
                  refine b_store 0 (v := WV 0) (#[hiW 0, loW 0]) tyWide.2 rfl rfl rfl rfl rfl rfl rfl rfl rfl rfl rfl ?_
                  refine b_one 10 (by kernel_rfl) ?_
                  refine b_q hflW rfl rfl rfl ?_
                  refine b_done (by kernel_rfl) ?_
                  refine f_to ?_
                  refine WC2.keep (env' := [(6, .bool false), (1, .int .i64 (j : Int)), (12, .pointer (some ⟨g12_4, 0, none⟩)), (13, .int .i64 20)]) ⟨rfl, rfl, rfl, rfl, trivial⟩ ?_
                  refine d_seq (d_reg ?_)
                  refine h_q hflW rfl ?_
                  refine h_cmp (cmp_neq_t (by decide)) rfl rfl rfl rfl ?_
                  refine h_done (d_then rfl (d_reg ?_))
                  refine h_q hflW rfl ?_
                  refine h_cmp (cmp_eql_t (by decide)) rfl rfl rfl rfl ?_
                  refine h_q hflW rfl ?_
                  refine h_done (d_ret (f_then_ret ?_))
                  exact f_fin1 (.tmp rfl) (fun w h => ⟨rfl, h.up.below⟩) rfl
                · skip
                  refine b_store 0 (v := WV 0) (#[hiW 0, loW 0]) tyWide.2 rfl rfl rfl rfl rfl rfl rfl rfl rfl rfl rfl ?_
                  refine b_one 8 (by kernel_rfl) ?_
                  refine b_q hflW rfl rfl rfl ?_
                  refine b_one 10 (by kernel_rfl) ?_
                  refine b_q hflW rfl rfl rfl ?_
                  refine b_done (by kernel_rfl) ?_
                  refine f_to ?_
                  refine WC2.keep (env' := [(6, .bool false), (1, .int .i64 (j : Int)), (12, .pointer (some ⟨g12_4, 0, none⟩)), (13, .int .i64 20)]) ⟨rfl, rfl, rfl, rfl, trivial⟩ ?_
                  refine d_seq (d_reg ?_)
                  refine h_q hflW rfl ?_
                  refine h_cmp (cmp_neq_t (by decide)) rfl rfl rfl rfl ?_
                  refine h_done (d_then rfl (d_reg ?_))
                  refine h_q hflW rfl ?_
                  refine h_cmp (cmp_eql_t (by decide)) rfl rfl rfl rfl ?_
                  refine h_q hflW rfl ?_
                  refine h_done (d_ret (f_then_ret ?_))
                  exact f_fin1 (.tmp rfl) (fun w h => ⟨rfl, h.up.below⟩) rfl
              · skip
                refine b_q hflW rfl rfl rfl ?_
                refine b_one 7 (by kernel_rfl) ?_
                refine b_q hflW rfl rfl rfl ?_
                refine b_one 9 (by kernel_rfl) ?_
                refine b_store 0 (v := WV 0) (#[hiW 0, loW 0]) tyWide.2 rfl rfl rfl rfl rfl rfl rfl rfl rfl rfl rfl ?_
                refine b_one 10 (by kernel_rfl) ?_
                refine b_q hflW rfl rfl rfl ?_
                refine b_done (by kernel_rfl) ?_
                refine f_to ?_
                refine WC2.keep (env' := [(6, .bool false), (1, .int .i64 (j : Int)), (12, .pointer (some ⟨g12_4, 0, none⟩)), (13, .int .i64 20)]) ⟨rfl, rfl, rfl, rfl, trivial⟩ ?_
                refine d_seq (d_reg ?_)
                refine h_q hflW rfl ?_
                refine h_cmp (cmp_neq_t (by decide)) rfl rfl rfl rfl ?_
                refine h_done (d_then rfl (d_reg ?_))
                refine h_q hflW rfl ?_
                refine h_cmp (cmp_eql_t (by decide)) rfl rfl rfl rfl ?_
                refine h_q hflW rfl ?_
                refine h_done (d_ret (f_then_ret ?_))
                exact f_fin1 (.tmp rfl) (fun w h => ⟨rfl, h.up.below⟩) rfl
            · skip
              refine b_ar (z' := v - 1) (IntWalk.i64_in _ (by omega)) rfl rfl rfl rfl rfl rfl ?_
              refine b_two 0 4 (by kernel_rfl) ?_ ?_
              · skip
                refine b_load 0 (v := .agg #[hiW q, loW q]) (reads_agg (cs := [hiW q, loW q]) tyWide rfl) rfl rfl rfl rfl rfl ?_
                refine b_one 4 (by kernel_rfl) ?_
                refine b_call (ent_of Tryd.func17 (by kernel_rfl) rfl) (fun w hH => of_any _ (v - 1) (by omega)) rfl rfl rfl rfl rfl ?_
                refine b_one 5 (by kernel_rfl) ?_
                refine b_call (ent_of Tryd.func22 (by kernel_rfl) rfl) (fun w hH => addVV _ hs hqf (by unfold Fits; omega)) rfl rfl rfl rfl rfl ?_
                refine b_one 6 (by kernel_rfl) ?_
                refine b_q hflW rfl rfl rfl ?_
                refine b_two 7 8 (by kernel_rfl) ?_ ?_
                · skip
                  refine b_q hflW rfl rfl rfl ?_
                  refine b_two 8 9 (by kernel_rfl) ?_ ?_
                  · skip
                    refine b_q hflW rfl rfl rfl ?_
                    refine b_one 9 (by kernel_rfl) ?_
                    refine b_store 0 (v := WV 0) (#[hiW 0, loW 0]) tyWide.2 rfl rfl rfl rfl rfl rfl rfl rfl rfl rfl rfl ?_
                    refine b_one 10 (by kernel_rfl) ?_
                    refine b_q hflW rfl rfl rfl ?_
                    refine b_done (by kernel_rfl) ?_
                    refine f_to ?_
                    refine WC2.keep (env' := [(6, .bool false), (1, .int .i64 (j : Int)), (12, .pointer (some ⟨g12_4, 0, none⟩)), (13, .int .i64 20)]) ⟨rfl, rfl, rfl, rfl, trivial⟩ ?_
                    refine d_seq (d_reg ?_)
                    refine h_q hflW rfl ?_
                    refine h_cmp (cmp_neq_t (by decide)) rfl rfl rfl rfl ?_
                    refine h_done (d_then rfl (d_reg ?_))
                    refine h_q hflW rfl ?_
                    refine h_cmp (cmp_eql_t (by decide)) rfl rfl rfl rfl ?_
                    refine h_q hflW rfl ?_
                    refine h_done (d_ret (f_then_ret ?_))
                    exact f_fin1 (.tmp rfl) (fun w h => ⟨rfl, h.up.below⟩) rfl
                  · skip
                    refine b_store 0 (v := WV 0) (#[hiW 0, loW 0]) tyWide.2 rfl rfl rfl rfl rfl rfl rfl rfl rfl rfl rfl ?_
                    refine b_one 8 (by kernel_rfl) ?_
                    refine b_q hflW rfl rfl rfl ?_
                    refine b_one 10 (by kernel_rfl) ?_
                    refine b_q hflW rfl rfl rfl ?_
                    refine b_done (by kernel_rfl) ?_
                    refine f_to ?_
                    refine WC2.keep (env' := [(6, .bool false), (1, .int .i64 (j : Int)), (12, .pointer (some ⟨g12_4, 0, none⟩)), (13, .int .i64 20)]) ⟨rfl, rfl, rfl, rfl, trivial⟩ ?_
                    refine d_seq (d_reg ?_)
                    refine h_q hflW rfl ?_
                    refine h_cmp (cmp_neq_t (by decide)) rfl rfl rfl rfl ?_
                    refine h_done (d_then rfl (d_reg ?_))
                    refine h_q hflW rfl ?_
                    refine h_cmp (cmp_eql_t (by decide)) rfl rfl rfl rfl ?_
                    refine h_q hflW rfl ?_
                    refine h_done (d_ret (f_then_ret ?_))
                    exact f_fin1 (.tmp rfl) (fun w h => ⟨rfl, h.up.below⟩) rfl
                · skip
                  refine b_q hflW rfl rfl rfl ?_
                  refine b_one 7 (by kernel_rfl) ?_
                  refine b_q hflW rfl rfl rfl ?_
                  refine b_one 9 (by kernel_rfl) ?_
                  refine b_store 0 (v := WV 0) (#[hiW 0, loW 0]) tyWide.2 rfl rfl rfl rfl rfl rfl rfl rfl rfl rfl rfl ?_
                  refine b_one 10 (by kernel_rfl) ?_
                  refine b_q hflW rfl rfl rfl ?_
                  refine b_done (by kernel_rfl) ?_
                  refine f_to ?_
                  refine WC2.keep (env' := [(6, .bool false), (1, .int .i64 (j : Int)), (12, .pointer (some ⟨g12_4, 0, none⟩)), (13, .int .i64 20)]) ⟨rfl, rfl, rfl, rfl, trivial⟩ ?_
                  refine d_seq (d_reg ?_)
                  refine h_q hflW rfl ?_
                  refine h_cmp (cmp_neq_t (by decide)) rfl rfl rfl rfl ?_
                  refine h_done (d_then rfl (d_reg ?_))
                  refine h_q hflW rfl ?_
                  refine h_cmp (cmp_eql_t (by decide)) rfl rfl rfl rfl ?_
                  refine h_q hflW rfl ?_
                  refine h_done (d_ret (f_then_ret ?_))
                  exact f_fin1 (.tmp rfl) (fun w h => ⟨rfl, h.up.below⟩) rfl
              · skip
                refine b_call (ent_of Tryd.func17 (by kernel_rfl) rfl) (fun w hH => of_any _ (v - 1) (by omega)) rfl rfl rfl rfl rfl ?_
                refine b_one 0 (by kernel_rfl) ?_
                refine b_load 0 (v := .agg #[hiW q, loW q]) (reads_agg (cs := [hiW q, loW q]) tyWide rfl) rfl rfl rfl rfl rfl ?_
                refine b_one 5 (by kernel_rfl) ?_
                refine b_call (ent_of Tryd.func22 (by kernel_rfl) rfl) (fun w hH => addVV _ hs hqf (by unfold Fits; omega)) rfl rfl rfl rfl rfl ?_
                refine b_one 6 (by kernel_rfl) ?_
                refine b_q hflW rfl rfl rfl ?_
                refine b_two 7 8 (by kernel_rfl) ?_ ?_
                · skip
                  refine b_q hflW rfl rfl rfl ?_
                  refine b_two 8 9 (by kernel_rfl) ?_ ?_
                  · skip
                    refine b_q hflW rfl rfl rfl ?_
                    refine b_one 9 (by kernel_rfl) ?_
                    refine b_store 0 (v := WV 0) (#[hiW 0, loW 0]) tyWide.2 rfl rfl rfl rfl rfl rfl rfl rfl rfl rfl rfl ?_
                    refine b_one 10 (by kernel_rfl) ?_
                    refine b_q hflW rfl rfl rfl ?_
                    refine b_done (by kernel_rfl) ?_
                    refine f_to ?_
                    refine WC2.keep (env' := [(6, .bool false), (1, .int .i64 (j : Int)), (12, .pointer (some ⟨g12_4, 0, none⟩)), (13, .int .i64 20)]) ⟨rfl, rfl, rfl, rfl, trivial⟩ ?_
                    refine d_seq (d_reg ?_)
                    refine h_q hflW rfl ?_
                    refine h_cmp (cmp_neq_t (by decide)) rfl rfl rfl rfl ?_
                    refine h_done (d_then rfl (d_reg ?_))
                    refine h_q hflW rfl ?_
                    refine h_cmp (cmp_eql_t (by decide)) rfl rfl rfl rfl ?_
                    refine h_q hflW rfl ?_
                    refine h_done (d_ret (f_then_ret ?_))
                    exact f_fin1 (.tmp rfl) (fun w h => ⟨rfl, h.up.below⟩) rfl
                  · skip
                    refine b_store 0 (v := WV 0) (#[hiW 0, loW 0]) tyWide.2 rfl rfl rfl rfl rfl rfl rfl rfl rfl rfl rfl ?_
                    refine b_one 8 (by kernel_rfl) ?_
                    refine b_q hflW rfl rfl rfl ?_
                    refine b_one 10 (by kernel_rfl) ?_
                    refine b_q hflW rfl rfl rfl ?_
                    refine b_done (by kernel_rfl) ?_
                    refine f_to ?_
                    refine WC2.keep (env' := [(6, .bool false), (1, .int .i64 (j : Int)), (12, .pointer (some ⟨g12_4, 0, none⟩)), (13, .int .i64 20)]) ⟨rfl, rfl, rfl, rfl, trivial⟩ ?_
                    refine d_seq (d_reg ?_)
                    refine h_q hflW rfl ?_
                    refine h_cmp (cmp_neq_t (by decide)) rfl rfl rfl rfl ?_
                    refine h_done (d_then rfl (d_reg ?_))
                    refine h_q hflW rfl ?_
                    refine h_cmp (cmp_eql_t (by decide)) rfl rfl rfl rfl ?_
                    refine h_q hflW rfl ?_
                    refine h_done (d_ret (f_then_ret ?_))
                    exact f_fin1 (.tmp rfl) (fun w h => ⟨rfl, h.up.below⟩) rfl
                · skip
                  refine b_q hflW rfl rfl rfl ?_
                  refine b_one 7 (by kernel_rfl) ?_
                  refine b_q hflW rfl rfl rfl ?_
                  refine b_one 9 (by kernel_rfl) ?_
                  refine b_store 0 (v := WV 0) (#[hiW 0, loW 0]) tyWide.2 rfl rfl rfl rfl rfl rfl rfl rfl rfl rfl rfl ?_
                  refine b_one 10 (by kernel_rfl) ?_
                  refine b_q hflW rfl rfl rfl ?_
                  refine b_done (by kernel_rfl) ?_
                  refine f_to ?_
                  refine WC2.keep (env' := [(6, .bool false), (1, .int .i64 (j : Int)), (12, .pointer (some ⟨g12_4, 0, none⟩)), (13, .int .i64 20)]) ⟨rfl, rfl, rfl, rfl, trivial⟩ ?_
                  refine d_seq (d_reg ?_)
                  refine h_q hflW rfl ?_
                  refine h_cmp (cmp_neq_t (by decide)) rfl rfl rfl rfl ?_
                  refine h_done (d_then rfl (d_reg ?_))
                  refine h_q hflW rfl ?_
                  refine h_cmp (cmp_eql_t (by decide)) rfl rfl rfl rfl ?_
                  refine h_q hflW rfl ?_
                  refine h_done (d_ret (f_then_ret ?_))
                  exact f_fin1 (.tmp rfl) (fun w h => ⟨rfl, h.up.below⟩) rfl
    · skip
      refine d_reg ?_
      refine h_load 0 (v := .agg #[hiW p, loW p]) (reads_agg (cs := [hiW p, loW p]) tyWide rfl) rfl rfl rfl rfl ?_
      refine h_load 1 (v := .agg #[hiW a, loW a]) (reads_agg (cs := [hiW a, loW a]) tyWide rfl) rfl rfl rfl rfl ?_
      refine h_call (ent_of Tryd.func22 (by kernel_rfl) rfl) (fun w hH => addVV _ hs hpf haf) rfl rfl rfl rfl ?_
      refine h_q hflW rfl ?_
      refine h_store 0 (v := WV 0) (#[hiW 0, loW 0]) tyWide.2 rfl rfl rfl rfl rfl rfl rfl rfl rfl rfl ?_
      refine h_q hflW rfl ?_
      refine h_done (d_seq (d_reg ?_))
      refine h_q hflW rfl ?_
      refine h_cmp (cmp_neq_t (by decide)) rfl rfl rfl rfl ?_
      refine h_done (d_then rfl (d_reg ?_))
      refine h_q hflW rfl ?_
      refine h_cmp (cmp_eql_t (by decide)) rfl rfl rfl rfl ?_
      refine h_q hflW rfl ?_
      refine h_done (d_ret (f_then_ret ?_))
      exact f_fin1 (.tmp rfl) (fun w h => ⟨rfl, h.up.below⟩) rfl
  · skip
    refine d_reg ?_
    refine h_load 3 (v := .agg #[.int .i64 yh, .int .u64 xl]) (reads_agg (cs := [.int .i64 yh, .int .u64 xl]) tyWide rfl) rfl rfl rfl rfl ?_
    refine h_load 2 (v := .agg #[hiW T, loW T]) (reads_agg (cs := [hiW T, loW T]) tyWide rfl) rfl rfl rfl rfl ?_
    refine h_call (ent_of Tryd.func15 (by kernel_rfl) rfl) (fun w hH => mulVV _ hy hs hyf hTf) rfl rfl rfl rfl ?_
    refine h_q hflW rfl ?_
    refine h_alloc zeWide rfl rfl ?_; intro g12_35
    refine h_store 0 (v := WV 0) (#[hiW 0, loW 0]) tyWide.2 rfl rfl rfl rfl rfl rfl rfl rfl rfl rfl ?_
    refine h_q hflW rfl ?_
    refine h_done (d_seq (d_reg ?_))
    refine h_call (ent_of Tryd.func20 (by kernel_rfl) rfl) (fun w hH => known_any _ (tab_below htab hH.up.below hg) (Nat.lt_of_lt_of_le hg hH.up.size)) rfl rfl rfl rfl ?_
    refine h_q hflW rfl ?_
    refine h_cmp (cmp_neq_f (by decide)) rfl rfl rfl rfl ?_
    refine h_q hflW rfl ?_
    refine h_done (d_else rfl (d_skip (f_to (d_seq (d_reg ?_)))))
    refine h_q hflW rfl ?_
    refine h_cmp (cmp_neq_t (by decide)) rfl rfl rfl rfl ?_
    refine h_done (d_then rfl (d_reg ?_))
    refine h_q hflW rfl ?_
    refine h_cmp (cmp_eql_t (by decide)) rfl rfl rfl rfl ?_
    refine h_q hflW rfl ?_
    refine h_done (d_ret (f_then_ret ?_))
    exact f_fin1 (.tmp rfl) (fun w h => ⟨rfl, h.up.below⟩) rfl
end Go.Proofs.YtfalllekhcocgaaDoor
