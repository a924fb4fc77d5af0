/-
  DskO
-/
import Derived.Test.YtfiojppagmnpcaaAF01
set_option linter.unusedSimpArgs false
set_option linter.unusedVariables false

namespace Go.Proofs.Ytfiojppagmnpcaa.Sep
open Go.RowKit
open Go.Proofs.Ytfiojppagmnpcaa.Mem (Dist Blk Chg below0)

set_option maxRecDepth 100000 in
theorem diskown_true (w : World) (v1 : Value) (l1 : List PtV) (hv1 : PtsRd w v1 l1) (hl1 : l1.length ≤ 9223372036854775807) (hd1 : ∀ x, x ∈ l1 → x.d.length ≤ 140737488351232) : Calls Try.prog 7 #[v1] w fun e w' => e = .returned (.bool true) ∧ Below w.heap.size w w' := by
  refine d_in (args := [v1]) 97 Try.func7 rfl rfl rfl ?_
  refine d_reg ?_
  refine h_q hflS rfl ?_
  refine h_done (d_reg ?_)
  refine h_q hflS rfl ?_
  refine h_act (post := fun (x1 : PsV) => [PartsT 28 x1.v x1.l, fact (x1.l.map (·.2) = ((l1.map (·.d)).take 20).map (·.take 2000))]) rfl (a_doesU (Below.refl _ _) (fun _ h => h.elim) (os' := fun (x1 : PsV) => [PartsT 28 x1.v x1.l, fact (x1.l.map (·.2) = ((l1.map (·.d)).take 20).map (·.take 2000))]) [] 0 (ent_of Try.func19 (by kernel_rfl) rfl) (short_does w v1 l1 hv1 hl1 hd1 20 2000 (by decide) (by decide)) rfl rfl rfl (fun _ => rfl) rfl rfl rfl) ?_; rintro x1
  refine WL2.fact 1 rfl (fun _ h => h.2) ?_; rintro hx1
  refine WL2.leave [1] rfl rfl ?_
  have hs1 := short_of hx1
  obtain ⟨P1, hP1⟩ : ∃ P, x1.l.map (·.2) = P := ⟨_, rfl⟩
  rw [hP1] at hs1
  have hf1 := hs1.flat
  have hn1 : P1.length = x1.l.length := by rw [← hP1, List.length_map]
  refine h_q hflS rfl ?_
  refine h_done (d_reg ?_)
  refine h_q hflS rfl ?_
  refine h_act (post := fun p => [DiskT p (newD 1048576), PartsT 28 x1.v x1.l]) rfl (a_does (os' := fun p => [DiskT p (newD 1048576), PartsT 28 x1.v x1.l]) [] 0 (ent_of Try.func8 (by kernel_rfl) rfl) (disk_new 1048576 (by decide)) rfl rfl rfl (fun _ => rfl) rfl rfl rfl) ?_; rintro p
  refine h_q hflS rfl ?_
  refine h_done (d_seq (d_reg ?_))
  refine h_q hflS rfl ?_
  refine h_act (post := fun _ => [DiskT p (newD 1048576), PartsT 28 x1.v x1.l]) rfl (a_call (ent_of Try.func9 (by kernel_rfl) rfl) (fun w hH => known7_true w) rfl rfl rfl) ?_; rintro ⟨⟩
  refine h_q hflS rfl ?_
  refine h_val rfl (.bool false) (fun b w hb hH => exec_cmp rfl rfl rfl (cmp_neq_f (by decide)) hb) ?_
  refine h_q hflS rfl ?_
  refine h_val rfl (.bool false) (fun b w hb hH => exec_pnil_eql (by kernel_rfl) rfl rfl rfl hb) ?_
  refine h_q hflS rfl ?_
  refine h_done (d_else rfl (d_skip (f_to (d_reg ?_))))
  refine h_q hflS rfl ?_
  refine h_done (d_seq (d_reg ?_))
  refine h_q hflS rfl ?_
  refine h_done (d_block ?_)
  refine d_loop (α := Nat × List (List UInt8)) (fun ⟨i0, ps0⟩ => [(2, .bool false), (0, x1.v), (3, .pointer (some ⟨p, 0, none⟩)), (5, .string (bs ps0.flatten)), (6, .int .i64 ((i0 : Nat) : Int))]) (fun ⟨i0, ps0⟩ => [DiskT p (oneD [97] 1048576 none ps0 none), PartsT 28 x1.v x1.l]) (fun ⟨i0, ps0⟩ => i0 ≤ x1.l.length ∧ ps0 = P1.take i0) (fun ⟨i0, ps0⟩ => x1.l.length - i0) (0, []) ⟨Nat.zero_le _, rfl⟩ ⟨rfl, rfl, rfl, rfl, rfl, trivial⟩ rfl ?_
  rintro ⟨i0, ps0⟩ hI
  refine WC2.at_ (env' := [(2, .bool false), (0, x1.v), (3, .pointer (some ⟨p, 0, none⟩)), (5, .string (bs ps0.flatten)), (6, .int .i64 ((i0 : Nat) : Int))]) (rs' := [DiskT p (oneD [97] 1048576 none ps0 none), PartsT 28 x1.v x1.l]) ⟨rfl, rfl, rfl, rfl, rfl, trivial⟩ rfl ?_
  have hI1 : i0 ≤ x1.l.length := hI.1
  have hI2 : ps0 = P1.take i0 := hI.2
  have hsp := hs1.take i0
  rw [← hI2] at hsp
  have hfp := hsp.flat
  have hlp := hsp.1
  refine d_seq ?_
  have hc : i0 < x1.l.length ∨ x1.l.length ≤ i0 := by omega
  rcases hc with hi | hi
  · skip
    obtain ⟨y0, hy0⟩ : ∃ y, x1.l[i0]? = some y := ⟨_, List.getElem?_eq_getElem hi⟩
    have hyP : P1[i0]? = some y0.2 := by rw [← hP1, List.getElem?_map, hy0]; rfl
    have hyl := hs1.2 _ (List.mem_of_getElem? hyP)
    have hi30 : i0 < 30 := by have := hs1.1; omega
    refine d_reg ?_
    refine h_q hflS rfl ?_
    refine h_val rfl (.int .i64 (x1.l.length : Int)) (fun b w hb hH => e_plen 1 Try.underlying38 rfl rfl rfl hH hb) ?_
    refine h_val rfl (.bool true) (fun b w hb hH => exec_cmp rfl rfl rfl (cmp_lss_t (by omega)) hb) ?_
    refine h_q hflS rfl ?_
    refine h_val rfl (.bool true) (fun b w hb hH => exec_cmp rfl rfl rfl (cmp_lss_t (by have := hs1.1; omega)) hb) ?_
    refine h_q hflS rfl ?_
    refine h_done (d_then rfl (d_skip (f_to (d_seq (d_block (d_reg ?_))))))
    refine h_q hflS rfl ?_
    refine h_val rfl (elp x1.v (i0 * 1)) (fun b w hb hH => e_pidx 1 sl_s_uint8 rfl i0 hi rfl rfl rfl hH hb) ?_
    refine h_val rfl (y0.1) (fun b w hb hH => e_pload 1 ty_s_uint8 rfl i0 hy0 rfl rfl hH hb) ?_
    refine h_act (post := fun _ => [DiskT p (oneD [97] 1048576 none (ps0 ++ [y0.2]) none), PartsT 28 x1.v x1.l]) rfl (a_does (os' := fun _ => [DiskT p (oneD [97] 1048576 none (ps0 ++ [y0.2]) none), PartsT 28 x1.v x1.l]) [0, 1] 0 (ent_of Try.func10 (by kernel_rfl) rfl) (app_one (by decide) (by simp) (by simp only [Option.getD_none, List.length_nil]; omega) (by decide) (by omega) (prt_rd8m hy0)) rfl rfl rfl (fun _ => rfl) rfl rfl rfl) ?_; rintro ⟨⟩
    refine h_done (d_reg1 ?_)
    refine h_q hflS rfl ?_
    refine h_val rfl (elp x1.v (i0 * 1)) (fun b w hb hH => e_pidx 1 sl_s_uint8 rfl i0 hi rfl rfl rfl hH hb) ?_
    refine h_val rfl (y0.1) (fun b w hb hH => e_pload 1 ty_s_uint8 rfl i0 hy0 rfl rfl hH hb) ?_
    refine h_val rfl (.string (bs y0.2)) (fun b w hb hH => exec_str8 Try.underlying28 Try.underlying5 (by kernel_rfl) Try.underlying9 (hH.rd8 1 rfl (prt_rd8m hy0)) rfl rfl hb) ?_
    refine h_val rfl (.string (bs ((ps0 ++ [y0.2]).flatten))) (fun b w hb hH => exec_catR (r := (ps0 ++ [y0.2]).flatten) (by simp) (by omega) rfl rfl rfl hb) ?_
    refine h_q hflS rfl ?_
    refine h_nil (f_block (f_to (d_reg1 ?_)))
    refine h_q hflS rfl ?_
    refine h_val rfl (.int .i64 ((i0 + 1 : Nat) : Int)) (fun b w hb hH => exec_ar rfl rfl rfl rfl (by rw [IntWalk.i64_in _ (by omega)]; omega) hb) ?_
    refine h_q hflS rfl ?_
    refine h_nil ?_
    exact f_again (i0 + 1, ps0 ++ [y0.2]) 0 ⟨hi, by rw [hI2]; exact take_push hyP⟩ (show x1.l.length - (i0 + 1) < x1.l.length - i0 by omega) ⟨rfl, rfl, rfl, rfl, rfl, trivial⟩ rfl
  · skip
    have hps : ps0 = P1 := by rw [hI2, List.take_of_length_le (by omega)]
    clear hI hI2
    subst hps
    refine d_reg ?_
    refine h_q hflS rfl ?_
    refine h_val rfl (.int .i64 (x1.l.length : Int)) (fun b w hb hH => e_plen 1 Try.underlying38 rfl rfl rfl hH hb) ?_
    refine h_val rfl (.bool false) (fun b w hb hH => exec_cmp rfl rfl rfl (cmp_lss_f (by omega)) hb) ?_
    refine h_q hflS rfl ?_
    refine h_done (d_else rfl (d_exit (f_then_exit (f_then_exit (f_block_exit (f_to (d_reg ?_)))))))
    refine h_q hflS rfl ?_
    refine h_act (post := fun b1 => [Vec 5 1 encB b1 ps0.flatten, DiskT p (oneD [97] 1048576 none ps0 none), PartsT 28 x1.v x1.l]) rfl (a_does (os' := fun b1 => [Vec 5 1 encB b1 ps0.flatten, DiskT p (oneD [97] 1048576 none ps0 none), PartsT 28 x1.v x1.l]) [0] 0 (ent_of Try.func14 (by kernel_rfl) rfl) (disk_read (oneD_fit' (by simp only [Option.getD_none, List.length_nil]; omega) (by omega)) read_ones read_oneb) rfl rfl rfl (fun _ => rfl) rfl rfl rfl) ?_; rintro b1
    refine h_q hflS rfl ?_
    refine h_done (d_seq (d_reg ?_))
    refine h_q hflS rfl ?_
    refine h_done (d_block ?_)
    refine d_loop (α := Nat × List UInt8) (fun ⟨j, ll⟩ => [(2, .bool false), (3, .pointer (some ⟨p, 0, none⟩)), (5, .string (bs ps0.flatten)), (7, b1), (9, .int .i64 ((j : Nat) : Int))]) (fun ⟨j, ll⟩ => [Vec 5 1 encB b1 ll, DiskT p (oneD [97] 1048576 none ps0 none), PartsT 28 x1.v x1.l]) (fun ⟨j, ll⟩ => j ≤ ll.length ∧ ll.length = ps0.flatten.length) (fun ⟨j, ll⟩ => ll.length - j) (0, ps0.flatten) ⟨Nat.zero_le _, rfl⟩ ⟨rfl, rfl, rfl, rfl, rfl, trivial⟩ rfl ?_
    rintro ⟨j, ll⟩ hI
    refine WC2.at_ (env' := [(2, .bool false), (3, .pointer (some ⟨p, 0, none⟩)), (5, .string (bs ps0.flatten)), (7, b1), (9, .int .i64 ((j : Nat) : Int))]) (rs' := [Vec 5 1 encB b1 ll, DiskT p (oneD [97] 1048576 none ps0 none), PartsT 28 x1.v x1.l]) ⟨rfl, rfl, rfl, rfl, rfl, trivial⟩ rfl ?_
    have hJ1 : j ≤ ll.length := hI.1
    have hJ2 : ll.length = ps0.flatten.length := hI.2
    refine d_seq ?_
    have hc : j < ll.length ∨ ll.length ≤ j := by omega
    rcases hc with hj | hj
    · skip
      refine d_reg ?_
      refine h_q hflS rfl ?_
      refine h_val rfl (.int .i64 (ll.length : Int)) (fun b w hb hH => e_vlen 0 Try.underlying28 rfl rfl rfl hH hb) ?_
      refine h_val rfl (.bool true) (fun b w hb hH => exec_cmp rfl rfl rfl (cmp_lss_t (by omega)) hb) ?_
      refine h_done (d_then rfl (d_skip (f_to (d_seq (d_block (d_reg1 ?_))))))
      refine h_q hflS rfl ?_
      refine h_val rfl (elp b1 (j * 1)) (fun b w hb hH => e_vidx 0 sl_uint8 okB rfl j hj rfl rfl rfl hH hb) ?_
      refine h_acts (post := fun _ => [Vec 5 1 encB b1 (ll.set j (238 : UInt8)), DiskT p (oneD [97] 1048576 none ps0 none), PartsT 28 x1.v x1.l]) rfl rfl (a_vstore1 0 ty_uint8 okB rfl j hj (238 : UInt8) rfl rfl rfl rfl rfl) ?_; rintro ⟨⟩
      refine h_nil (f_block (f_to (d_reg1 ?_)))
      refine h_q hflS rfl ?_
      refine h_val rfl (.int .i64 (((j : Nat) : Int) + 1)) (fun b w hb hH => exec_ar rfl rfl rfl rfl (IntWalk.i64_in _ (by omega)) hb) ?_
      refine h_q hflS rfl ?_
      refine h_nil ?_
      exact f_again (j + 1, ll.set j 238) 0 ⟨by rw [List.length_set]; exact hj, by rw [List.length_set]; exact hJ2⟩ (by show (ll.set j 238).length - (j + 1) < ll.length - j; rw [List.length_set]; omega) ⟨rfl, rfl, rfl, rfl, rfl, trivial⟩ rfl
    · skip
      obtain ⟨K, hK⟩ : ∃ K, min ll.length 1 = K := ⟨_, rfl⟩
      have hKl : K ≤ ll.length := by omega
      have hK1 : (ll.take K).length = K := by rw [List.length_take]; omega
      have hfl : (ps0 ++ [ll.take K]).flatten = ps0.flatten ++ ll.take K := by simp
      refine d_reg ?_
      refine h_q hflS rfl ?_
      refine h_val rfl (.int .i64 (ll.length : Int)) (fun b w hb hH => e_vlen 0 Try.underlying28 rfl rfl rfl hH hb) ?_
      refine h_val rfl (.bool false) (fun b w hb hH => exec_cmp rfl rfl rfl (cmp_lss_f (by omega)) hb) ?_
      refine h_done (d_else rfl (d_exit (f_then_exit (f_then_exit (f_block_exit (f_to (d_reg ?_)))))))
      refine h_q hflS rfl ?_
      refine h_val rfl (.int .i64 (ll.length : Int)) (fun b w hb hH => e_vlen 0 Try.underlying28 rfl rfl rfl hH hb) ?_
      refine h_val rfl (.int .i64 (K : Int)) (fun b w hb hH => exec_builtin2 rfl rfl (fun cs => (fun w cs => run_min2 (by split <;> omega) _ _ w cs) w cs) hb) ?_
      refine h_val rfl (subv 1 b1 0 K) (fun b w hb hH => e_vsub_hi 0 (b := K) sl_uint8 rfl hKl rfl rfl rfl hH hb) ?_
      refine h_act (post := fun _ => [Vec 5 1 encB b1 ll, DiskT p (oneD [97] 1048576 none (ps0 ++ [ll.take K]) none), PartsT 28 x1.v x1.l]) rfl (a_does (os' := fun _ => [Vec 5 1 encB b1 ll, DiskT p (oneD [97] 1048576 none (ps0 ++ [ll.take K]) none), PartsT 28 x1.v x1.l]) [1, 0] 0 (ent_of Try.func10 (by kernel_rfl) rfl) (app_one (by decide) (by simp) (by simp only [Option.getD_none, List.length_nil]; omega) (by decide) (by omega) (rd8_cut7 hKl rfl)) rfl rfl rfl (fun _ => rfl) rfl rfl rfl) ?_; rintro ⟨⟩
      refine h_done (d_reg ?_)
      refine h_q hflS rfl ?_
      refine h_act (post := fun b2 => [Vec 5 1 encB b2 (ps0.flatten ++ ll.take K), Vec 5 1 encB b1 ll, DiskT p (oneD [97] 1048576 none (ps0 ++ [ll.take K]) none), PartsT 28 x1.v x1.l]) rfl (a_does (os' := fun b2 => [Vec 5 1 encB b2 (ps0.flatten ++ ll.take K), Vec 5 1 encB b1 ll, DiskT p (oneD [97] 1048576 none (ps0 ++ [ll.take K]) none), PartsT 28 x1.v x1.l]) [1] 0 (ent_of Try.func14 (by kernel_rfl) rfl) (disk_read (oneD_fit' (by rw [hfl, List.length_append, hK1]; simp only [Option.getD_none, List.length_nil]; omega) (by simp only [List.length_append, List.length_cons, List.length_nil]; omega)) read_ones (read_oneb.trans hfl)) rfl rfl rfl (fun _ => rfl) rfl rfl rfl) ?_; rintro b2
      refine h_q hflS rfl ?_
      refine h_done (d_reg ?_)
      refine h_q hflS rfl ?_
      refine h_val rfl (.int .i64 (ll.length : Int)) (fun b w hb hH => e_vlen 1 Try.underlying28 rfl rfl rfl hH hb) ?_
      refine h_val rfl (.int .i64 (K : Int)) (fun b w hb hH => exec_builtin2 rfl rfl (fun cs => (fun w cs => run_min2 (by split <;> omega) _ _ w cs) w cs) hb) ?_
      refine h_q hflS rfl ?_
      refine h_done (d_reg ?_)
      refine h_q hflS rfl ?_
      refine h_val rfl (.int .i64 ((ps0.flatten ++ ll.take K).length : Int)) (fun b w hb hH => e_vlen 0 Try.underlying28 rfl rfl rfl hH hb) ?_
      refine h_q hflS rfl ?_
      refine h_val rfl (.int .i64 (ps0.flatten.length : Int)) (fun b w hb hH => exec_builtin2 rfl rfl (fun cs => (fun w cs => run_len_bs Try.underlying9 _ _ w cs) w cs) hb) ?_
      refine h_q hflS rfl ?_
      refine h_val rfl (.int .i64 ((ps0.flatten.length + K : Nat) : Int)) (fun b w hb hH => exec_ar rfl rfl rfl rfl (by rw [IntWalk.i64_in _ (by omega)]; omega) hb) ?_
      refine h_val rfl (.bool true) (fun b w hb hH => exec_cmp rfl rfl rfl (cmp_eql_t (by rw [List.length_append, hK1])) hb) ?_
      refine h_q hflS rfl ?_
      refine h_val rfl (.int .i64 (ps0.flatten.length : Int)) (fun b w hb hH => exec_builtin2 rfl rfl (fun cs => (fun w cs => run_len_bs Try.underlying9 _ _ w cs) w cs) hb) ?_
      refine h_val rfl (subv 1 b2 0 ps0.flatten.length) (fun b w hb hH => e_vsub_hi 0 (b := ps0.flatten.length) sl_uint8 rfl (by rw [List.length_append]; omega) rfl rfl rfl hH hb) ?_
      refine h_val rfl (.string (bs ps0.flatten)) (fun b w hb hH => exec_str8 Try.underlying28 Try.underlying5 (by kernel_rfl) Try.underlying9 (hH.rd8 0 rfl (rd8_cut7 (by rw [List.length_append]; omega) (List.take_left' rfl))) rfl rfl hb) ?_
      refine h_q hflS rfl ?_
      refine h_val rfl (.bool true) (fun b w hb hH => exec_same rfl rfl rfl (by simp) hb) ?_
      refine h_q hflS rfl ?_
      refine h_done (d_ret ?_)
      exact f_fin1 (.tmp rfl) (fun w h => ⟨rfl, below0 h.up⟩) rfl
end Go.Proofs.Ytfiojppagmnpcaa.Sep
