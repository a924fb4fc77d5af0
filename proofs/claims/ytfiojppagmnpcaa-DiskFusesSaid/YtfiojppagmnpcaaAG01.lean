/-
  DskU
-/
import Derived.Test.YtfiojppagmnpcaaAF01
set_option linter.unusedSimpArgs false
set_option linter.unusedVariables false

namespace Go.Proofs.Ytfiojppagmnpcaa.Sep
open Go.RowKit
open Go.Proofs.Ytfiojppagmnpcaa.Mem (Dist Blk Chg below0)

/-- behind i appends, of which the fuse lets N be done -/
def fuD (P : List (List UInt8)) (N i : Nat) : DiskD := if i ≤ N then oneD [97] 1048576 none (P.take i) (some (N - i)) else { oneD [97] 1048576 none (P.take N) (some 0) with down := true }
theorem fu_app {P : List (List UInt8)} {N i : Nat} {b : List UInt8} (h : P[i]? = some b) (hi : i < N) (hl : P.flatten.length ≤ 40000) : appendD (fuD P N i) [97] b = (fuD P N (i + 1), 0) := by
  have hp := take_push h
  have h1 : ((P.take i).flatten.length : Int) + (b.length : Int) ≤ 1048576 := by
    have h2 : (P.take (i + 1)).flatten.length = (P.take i).flatten.length + b.length := by rw [← hp]; simp
    obtain ⟨m, h3, h4⟩ := take_flat P (i + 1)
    have h5 := congrArg List.length h4
    rw [List.length_take] at h5
    omega
  unfold fuD
  rw [if_pos (by omega), if_pos (by omega), oneD_append (by decide) (by simp; omega) (by simp only [Option.getD_none, List.length_nil]; omega), hp]
  simp [Nat.sub_sub]
theorem down_append {d : DiskD} {n b : List UInt8} (h : d.down = true) : appendD d n b = (d, 3) := by
  have h1 : beginD d = ({ d with down := true }, 3) := by unfold beginD; rw [if_pos (.inl h)]
  have h2 : ({ d with down := true } : DiskD) = d := by cases d; simp only [DiskD.mk.injEq, true_and]; exact h.symm
  unfold appendD
  rw [h1]
  simp only
  rw [if_pos (by simp), h2]
theorem fu_burnt {P : List (List UInt8)} {N i : Nat} {b : List UInt8} (hi : N ≤ i) : appendD (fuD P N i) [97] b = (fuD P N (i + 1), 3) := by
  rcases Nat.lt_or_ge N i with h | h
  · have e1 : fuD P N i = fuD P N (i + 1) := by unfold fuD; rw [if_neg (by omega), if_neg (by omega)]
    rw [← e1]
    exact down_append (by unfold fuD; rw [if_neg (by omega)])
  · have e : i = N := by omega
    subst e
    have e1 : fuD P i i = oneD [97] 1048576 none (P.take i) (some 0) := by unfold fuD; rw [if_pos (Nat.le_refl _), Nat.sub_self]
    have e2 : fuD P i (i + 1) = { oneD [97] 1048576 none (P.take i) (some 0) with down := true } := by unfold fuD; rw [if_neg (by omega)]
    rw [e1, e2]; exact oneD_burnt rfl
theorem fu_down {P : List (List UInt8)} {N i : Nat} (hi : N ≤ i) : (fuD P N (i + 1)).down = true := by unfold fuD; rw [if_neg (by omega)]
theorem fu_is (P : List (List UInt8)) (N i : Nat) : ∃ fu dn, fuD P N i = { oneD [97] 1048576 none (P.take (min i N)) fu with down := dn } := by
  unfold fuD
  split
  · rename_i h; exact ⟨some (N - i), false, by rw [Nat.min_eq_left h]; rfl⟩
  · rename_i h; exact ⟨some 0, true, by rw [Nat.min_eq_right (by omega)]⟩
theorem fu_fit {P : List (List UInt8)} {N i : Nat} (hl : P.flatten.length ≤ 40000) (hp : P.length ≤ 20) : (fuD P N i).fit := by
  obtain ⟨fu, dn, e⟩ := fu_is P N i
  rw [e]
  obtain ⟨m, h3, h4⟩ := take_flat P (min i N)
  have h5 := congrArg List.length h4
  rw [List.length_take] at h5
  exact oneD_fit (by simp only [Option.getD_none, List.length_nil]; omega) (by rw [List.length_take]; omega)
theorem fu_wait {P : List (List UInt8)} {N i : Nat} (hi : i ≤ P.length) : (fuD P N i).wait.length = min i N := by
  obtain ⟨fu, dn, e⟩ := fu_is P N i
  rw [e]
  show ((P.take (min i N)).map _).length = _
  rw [List.length_map, List.length_take]; omega
theorem fu_keep {P : List (List UInt8)} {N i : Nat} (hi : i ≤ P.length) : keepD (fuD P N i) ((min i N : Nat) : Int) = min i N := by
  unfold keepD
  rw [fu_wait hi, Int.emod_eq_of_lt (by omega) (by omega)]; omega
theorem fu_crash {P : List (List UInt8)} {N i : Nat} (hi : i ≤ P.length) : crashD (fuD P N i) ((min i N : Nat) : Int) 0 = oneD [97] 1048576 (catO none (P.take (min i N))) [] none := by
  have hk := fu_keep (P := P) (N := N) hi
  have hw := fu_wait (P := P) (N := N) hi
  obtain ⟨fu, dn, e⟩ := fu_is P N i
  have hl : (P.take (min i N)).length = min i N := by rw [List.length_take]; omega
  rw [e, crash_one]
  have e2 : (((min i N : Nat) : Int) % (((P.take (min i N)).length : Int) + 1)).toNat = min i N := by
    rw [hl, Int.emod_eq_of_lt (by omega) (by omega)]; omega
  rw [e2]
  have e3 : (P.take (min i N))[min i N]? = none := List.getElem?_eq_none (by omega)
  unfold leftO
  rw [e3]
  simp only
  rw [List.take_of_length_le (by omega)]

set_option maxRecDepth 100000 in
theorem diskfuses_true (w : World) (n : Int) (hn : -9223372036854775808 ≤ n ∧ n ≤ 9223372036854775807) (v1 : Value) (l1 : List PtV) (hv1 : PtsRd w v1 l1) (hl1 : l1.length ≤ 9223372036854775807) (hd1 : ∀ x, x ∈ l1 → x.d.length ≤ 140737488351232) : Calls Try.prog 6 #[.int .i64 n, v1] w fun e w' => e = .returned (.bool true) ∧ Below w.heap.size w w' := by
  obtain ⟨N, hN⟩ : ∃ N : Nat, n % 12 = (N : Int) := ⟨(n % 12).toNat, by have := Int.emod_nonneg n (show (12 : Int) ≠ 0 by decide); omega⟩
  have hN12 : N < 12 := by have := Int.emod_lt_of_pos n (show (0 : Int) < 12 by decide); omega
  refine d_in (args := [.int .i64 n, v1]) 112 Try.func6 rfl rfl rfl ?_
  refine d_reg ?_
  refine h_q hflS rfl ?_
  refine h_done (d_reg ?_)
  refine h_q hflS rfl ?_
  refine h_act (post := fun _ => []) rfl (a_call (ent_of Try.func20 (by kernel_rfl) rfl) (fun w hH => pick w n 12 hn (by decide) hN) rfl rfl rfl) ?_; rintro ⟨⟩
  refine h_q hflS rfl ?_
  refine h_done (d_reg ?_)
  refine h_q hflS rfl ?_
  refine h_act (post := fun (x1 : PsV) => [PartsT 28 x1.v x1.l, fact (x1.l.map (·.2) = ((l1.map (·.d)).take 20).map (·.take 2000))]) rfl (a_doesU (Below.refl _ _) (fun _ h => h.elim) (os' := fun (x1 : PsV) => [PartsT 28 x1.v x1.l, fact (x1.l.map (·.2) = ((l1.map (·.d)).take 20).map (·.take 2000))]) [] 0 (ent_of Try.func19 (by kernel_rfl) rfl) (short_does w v1 l1 hv1 hl1 hd1 20 2000 (by decide) (by decide)) rfl rfl rfl (fun _ => rfl) rfl rfl rfl) ?_; rintro x1
  refine WL2.fact 1 rfl (fun _ h => h.2) ?_; rintro hx1
  refine WL2.leave [1] rfl rfl ?_
  have hs1 := short_of hx1
  obtain ⟨P1, hP1⟩ : ∃ P, x1.l.map (·.2) = P := ⟨_, rfl⟩
  rw [hP1] at hs1
  have hf1 := hs1.flat
  have hn1 : P1.length = x1.l.length := by rw [← hP1, List.length_map]
  refine h_q hflS rfl ?_
  refine h_done (d_reg ?_)
  refine h_q hflS rfl ?_
  refine h_act (post := fun p => [DiskT p (newD 1048576), PartsT 28 x1.v x1.l]) rfl (a_does (os' := fun p => [DiskT p (newD 1048576), PartsT 28 x1.v x1.l]) [] 0 (ent_of Try.func8 (by kernel_rfl) rfl) (disk_new 1048576 (by decide)) rfl rfl rfl (fun _ => rfl) rfl rfl rfl) ?_; rintro p
  refine h_q hflS rfl ?_
  refine h_done (d_seq (d_reg ?_))
  refine h_q hflS rfl ?_
  refine h_act (post := fun _ => [DiskT p (newD 1048576), PartsT 28 x1.v x1.l]) rfl (a_call (ent_of Try.func9 (by kernel_rfl) rfl) (fun w hH => known7_true w) rfl rfl rfl) ?_; rintro ⟨⟩
  refine h_q hflS rfl ?_
  refine h_val rfl (.bool false) (fun b w hb hH => exec_cmp rfl rfl rfl (cmp_neq_f (by decide)) hb) ?_
  refine h_q hflS rfl ?_
  refine h_val rfl (.bool false) (fun b w hb hH => exec_pnil_eql (by kernel_rfl) rfl rfl rfl hb) ?_
  refine h_q hflS rfl ?_
  refine h_done (d_else rfl (d_skip (f_to (d_reg ?_))))
  refine h_q hflS rfl ?_
  refine h_act (post := fun _ => [DiskT p (fuseD (newD 1048576) (N : Int)), PartsT 28 x1.v x1.l]) rfl (a_does (os' := fun _ => [DiskT p (fuseD (newD 1048576) (N : Int)), PartsT 28 x1.v x1.l]) [0] 0 (ent_of Try.func15 (by kernel_rfl) rfl) (disk_fuse (n := (N : Int)) (by omega) rfl) rfl rfl rfl (fun _ => rfl) rfl rfl rfl) ?_; rintro ⟨⟩
  refine h_done (d_reg ?_)
  refine h_q hflS rfl ?_
  refine h_done (d_seq (d_reg ?_))
  refine h_q hflS rfl ?_
  refine h_done (d_block ?_)
  have hfu : fuseD (newD 1048576) (N : Int) = fuD P1 N 0 := by unfold fuseD fuD; rw [if_pos (by omega), if_pos (by omega)]; rfl
  rw [hfu]
  refine d_loop (α := Nat × Nat) (fun ⟨i0, dn⟩ => [(4, .bool false), (0, .int .i64 (N : Int)), (1, x1.v), (5, .pointer (some ⟨p, 0, none⟩)), (7, .int .i64 ((dn : Nat) : Int)), (8, .int .i64 ((i0 : Nat) : Int))]) (fun ⟨i0, dn⟩ => [DiskT p (fuD P1 N i0), PartsT 28 x1.v x1.l]) (fun ⟨i0, dn⟩ => i0 ≤ x1.l.length ∧ dn = min i0 N) (fun ⟨i0, dn⟩ => x1.l.length - i0) (0, 0) ⟨Nat.zero_le _, (Nat.zero_min _).symm⟩ ⟨rfl, rfl, rfl, rfl, rfl, rfl, trivial⟩ rfl ?_
  rintro ⟨i0, dn⟩ hI
  refine WC2.at_ (env' := [(4, .bool false), (0, .int .i64 (N : Int)), (1, x1.v), (5, .pointer (some ⟨p, 0, none⟩)), (7, .int .i64 ((dn : Nat) : Int)), (8, .int .i64 ((i0 : Nat) : Int))]) (rs' := [DiskT p (fuD P1 N i0), PartsT 28 x1.v x1.l]) ⟨rfl, rfl, rfl, rfl, rfl, rfl, trivial⟩ rfl ?_
  have hI1 : i0 ≤ x1.l.length := hI.1
  have hI2 : dn = min i0 N := hI.2
  have hP20 : P1.length ≤ 20 := hs1.1
  refine d_seq ?_
  have hc : (i0 < x1.l.length ∧ i0 < N) ∨ (i0 < x1.l.length ∧ N ≤ i0) ∨ x1.l.length ≤ i0 := by omega
  rcases hc with ⟨hi, hin⟩ | ⟨hi, hin⟩ | hi
  · skip
    obtain ⟨y0, hy0⟩ : ∃ y, x1.l[i0]? = some y := ⟨_, List.getElem?_eq_getElem hi⟩
    have hyP : P1[i0]? = some y0.2 := by rw [← hP1, List.getElem?_map, hy0]; rfl
    have hyl := hs1.2 _ (List.mem_of_getElem? hyP)
    have hi30 : i0 < 20 := by have := hs1.1; omega
    refine d_reg ?_
    refine h_q hflS rfl ?_
    refine h_val rfl (.int .i64 (x1.l.length : Int)) (fun b w hb hH => e_plen 1 Try.underlying38 rfl rfl rfl hH hb) ?_
    refine h_val rfl (.bool true) (fun b w hb hH => exec_cmp rfl rfl rfl (cmp_lss_t (by omega)) hb) ?_
    refine h_q hflS rfl ?_
    refine h_val rfl (.bool true) (fun b w hb hH => exec_cmp rfl rfl rfl (cmp_lss_t (by have := hs1.1; omega)) hb) ?_
    refine h_q hflS rfl ?_
    refine h_done (d_then rfl (d_skip (f_to (d_seq (d_block (d_reg ?_))))))
    refine h_q hflS rfl ?_
    refine h_val rfl (elp x1.v (i0 * 1)) (fun b w hb hH => e_pidx 1 sl_s_uint8 rfl i0 hi rfl rfl rfl hH hb) ?_
    refine h_val rfl (y0.1) (fun b w hb hH => e_pload 1 ty_s_uint8 rfl i0 hy0 rfl rfl hH hb) ?_
    refine h_act (post := fun _ => [DiskT p (fuD P1 N (i0 + 1)), PartsT 28 x1.v x1.l]) rfl (a_does (os' := fun _ => [DiskT p (fuD P1 N (i0 + 1)), PartsT 28 x1.v x1.l]) [0, 1] 0 (ent_of Try.func10 (by kernel_rfl) rfl) (disk_append (fu_fit hf1 (by omega)) (by omega) (prt_rd8m hy0) (e := 0) (fu_app hyP hin hf1)) rfl rfl rfl (fun _ => rfl) rfl rfl rfl) ?_; rintro ⟨⟩
    refine h_q hflS rfl ?_
    refine h_done (d_seq (d_reg ?_))
    refine h_q hflS rfl ?_
    refine h_val rfl (.bool true) (fun b w hb hH => exec_cmp rfl rfl rfl (cmp_eql_t (by decide)) hb) ?_
    refine h_q hflS rfl ?_
    refine h_val rfl (.bool true) (fun b w hb hH => exec_cmp rfl rfl rfl (cmp_lss_t (by omega)) hb) ?_
    refine h_val rfl (.bool false) (fun b w hb hH => exec_nes (neB true true) rfl rfl rfl hb) ?_
    refine h_q hflS rfl ?_
    refine h_val rfl (.bool false) (fun b w hb hH => exec_cmp rfl rfl rfl (cmp_neq_f (by decide)) hb) ?_
    refine h_q hflS rfl ?_
    refine h_done (d_else rfl (d_skip (f_to (d_reg ?_))))
    refine h_q hflS rfl ?_
    refine h_val rfl (.bool true) (fun b w hb hH => exec_cmp rfl rfl rfl (cmp_eql_t (by decide)) hb) ?_
    refine h_done (d_then rfl (d_reg1 ?_))
    refine h_q hflS rfl ?_
    refine h_val rfl (.int .i64 ((dn + 1 : Nat) : Int)) (fun b w hb hH => exec_ar rfl rfl rfl rfl (by rw [IntWalk.i64_in _ (by omega)]; omega) hb) ?_
    refine h_q hflS rfl ?_
    refine h_nil (f_block (f_to (d_reg1 ?_)))
    refine h_q hflS rfl ?_
    refine h_val rfl (.int .i64 ((i0 + 1 : Nat) : Int)) (fun b w hb hH => exec_ar rfl rfl rfl rfl (by rw [IntWalk.i64_in _ (by omega)]; omega) hb) ?_
    refine h_q hflS rfl ?_
    refine h_nil ?_
    exact f_again (i0 + 1, dn + 1) 0 ⟨hi, by omega⟩ (show x1.l.length - (i0 + 1) < x1.l.length - i0 by omega) ⟨rfl, rfl, rfl, rfl, rfl, rfl, trivial⟩ rfl
  · skip
    obtain ⟨y0, hy0⟩ : ∃ y, x1.l[i0]? = some y := ⟨_, List.getElem?_eq_getElem hi⟩
    have hyP : P1[i0]? = some y0.2 := by rw [← hP1, List.getElem?_map, hy0]; rfl
    have hyl := hs1.2 _ (List.mem_of_getElem? hyP)
    have hi30 : i0 < 20 := by have := hs1.1; omega
    refine d_reg ?_
    refine h_q hflS rfl ?_
    refine h_val rfl (.int .i64 (x1.l.length : Int)) (fun b w hb hH => e_plen 1 Try.underlying38 rfl rfl rfl hH hb) ?_
    refine h_val rfl (.bool true) (fun b w hb hH => exec_cmp rfl rfl rfl (cmp_lss_t (by omega)) hb) ?_
    refine h_q hflS rfl ?_
    refine h_val rfl (.bool true) (fun b w hb hH => exec_cmp rfl rfl rfl (cmp_lss_t (by have := hs1.1; omega)) hb) ?_
    refine h_q hflS rfl ?_
    refine h_done (d_then rfl (d_skip (f_to (d_seq (d_block (d_reg ?_))))))
    refine h_q hflS rfl ?_
    refine h_val rfl (elp x1.v (i0 * 1)) (fun b w hb hH => e_pidx 1 sl_s_uint8 rfl i0 hi rfl rfl rfl hH hb) ?_
    refine h_val rfl (y0.1) (fun b w hb hH => e_pload 1 ty_s_uint8 rfl i0 hy0 rfl rfl hH hb) ?_
    refine h_act (post := fun _ => [DiskT p (fuD P1 N (i0 + 1)), PartsT 28 x1.v x1.l]) rfl (a_does (os' := fun _ => [DiskT p (fuD P1 N (i0 + 1)), PartsT 28 x1.v x1.l]) [0, 1] 0 (ent_of Try.func10 (by kernel_rfl) rfl) (disk_append (fu_fit hf1 (by omega)) (by omega) (prt_rd8m hy0) (e := 3) (fu_burnt hin)) rfl rfl rfl (fun _ => rfl) rfl rfl rfl) ?_; rintro ⟨⟩
    refine h_q hflS rfl ?_
    refine h_done (d_seq (d_reg ?_))
    refine h_q hflS rfl ?_
    refine h_val rfl (.bool false) (fun b w hb hH => exec_cmp rfl rfl rfl (cmp_eql_f (by decide)) hb) ?_
    refine h_q hflS rfl ?_
    refine h_val rfl (.bool false) (fun b w hb hH => exec_cmp rfl rfl rfl (cmp_lss_f (by omega)) hb) ?_
    refine h_val rfl (.bool false) (fun b w hb hH => exec_nes (neB false false) rfl rfl rfl hb) ?_
    refine h_q hflS rfl ?_
    refine h_val rfl (.bool true) (fun b w hb hH => exec_cmp rfl rfl rfl (cmp_neq_t (by decide)) hb) ?_
    refine h_q hflS rfl ?_
    refine h_val rfl (.bool false) (fun b w hb hH => exec_cmp rfl rfl rfl (cmp_neq_f (by decide)) hb) ?_
    refine h_q hflS rfl ?_
    refine h_act (post := fun _ => [DiskT p (fuD P1 N (i0 + 1)), PartsT 28 x1.v x1.l]) rfl (a_does (os' := fun _ => [DiskT p (fuD P1 N (i0 + 1)), PartsT 28 x1.v x1.l]) [0] 0 (ent_of Try.func16 (by kernel_rfl) rfl) (disk_down (fu_down hin)) rfl rfl rfl (fun _ => rfl) rfl rfl rfl) ?_; rintro ⟨⟩
    refine h_q hflS rfl ?_
    refine h_done (d_else rfl (d_skip (f_to (d_reg ?_))))
    refine h_q hflS rfl ?_
    refine h_val rfl (.bool false) (fun b w hb hH => exec_cmp rfl rfl rfl (cmp_eql_f (by decide)) hb) ?_
    refine h_done (d_else rfl (d_skip (f_block (f_to (d_reg1 ?_)))))
    refine h_q hflS rfl ?_
    refine h_val rfl (.int .i64 ((i0 + 1 : Nat) : Int)) (fun b w hb hH => exec_ar rfl rfl rfl rfl (by rw [IntWalk.i64_in _ (by omega)]; omega) hb) ?_
    refine h_q hflS rfl ?_
    refine h_nil ?_
    exact f_again (i0 + 1, dn) 0 ⟨hi, by omega⟩ (show x1.l.length - (i0 + 1) < x1.l.length - i0 by omega) ⟨rfl, rfl, rfl, rfl, rfl, rfl, trivial⟩ rfl
  · skip
    have hiP : i0 ≤ P1.length := by omega
    obtain ⟨m0, hm0, hm1⟩ := take_flat P1 (min i0 N)
    have hm2 := congrArg List.length hm1
    rw [List.length_take] at hm2
    have hcg : (catO none (P1.take (min i0 N))).getD [] = (P1.take (min i0 N)).flatten := by rw [catO_getD]; rfl
    refine d_reg ?_
    refine h_q hflS rfl ?_
    refine h_val rfl (.int .i64 (x1.l.length : Int)) (fun b w hb hH => e_plen 1 Try.underlying38 rfl rfl rfl hH hb) ?_
    refine h_val rfl (.bool false) (fun b w hb hH => exec_cmp rfl rfl rfl (cmp_lss_f (by omega)) hb) ?_
    refine h_q hflS rfl ?_
    refine h_done (d_else rfl (d_exit (f_then_exit (f_then_exit (f_block_exit (f_to (d_seq (d_reg ?_))))))))
    refine h_q hflS rfl ?_
    refine h_act (post := fun _ => [DiskT p (fuD P1 N i0), PartsT 28 x1.v x1.l]) rfl (a_does (os' := fun _ => [DiskT p (fuD P1 N i0), PartsT 28 x1.v x1.l]) [0] 0 (ent_of Try.func18 (by kernel_rfl) rfl) (disk_pending (fu_wait hiP)) rfl rfl rfl (fun _ => rfl) rfl rfl rfl) ?_; rintro ⟨⟩
    refine h_q hflS rfl ?_
    refine h_val rfl (.bool false) (fun b w hb hH => exec_cmp rfl rfl rfl (cmp_neq_f (by omega)) hb) ?_
    refine h_done (d_else rfl (d_skip (f_to (d_reg ?_))))
    refine h_q hflS rfl ?_
    refine h_act (post := fun _ => [DiskT p (oneD [97] 1048576 (catO none (P1.take (min i0 N))) ([]) none), PartsT 28 x1.v x1.l]) rfl (a_does (os' := fun _ => [DiskT p (oneD [97] 1048576 (catO none (P1.take (min i0 N))) ([]) none), PartsT 28 x1.v x1.l]) [0] 0 (ent_of Try.func13 (by kernel_rfl) rfl) (disk_crash (k := min i0 N) (fu_fit hf1 (by omega)) (by omega) (by decide) (by rw [hI2]; exact fu_keep hiP) (by rw [hI2]; exact fu_crash hiP)) rfl rfl rfl (fun _ => rfl) rfl rfl rfl) ?_; rintro ⟨⟩
    refine h_done (d_reg ?_)
    refine h_q hflS rfl ?_
    refine h_done (d_seq (d_reg ?_))
    refine h_q hflS rfl ?_
    refine h_done (d_block ?_)
    refine d_loop (α := Nat × List UInt8) (fun ⟨j, ws⟩ => [(4, .bool false), (1, x1.v), (5, .pointer (some ⟨p, 0, none⟩)), (7, .int .i64 ((dn : Nat) : Int)), (10, .string (bs ws)), (11, .int .i64 ((j : Nat) : Int))]) (fun ⟨j, ws⟩ => [DiskT p (oneD [97] 1048576 (catO none (P1.take (min i0 N))) ([]) none), PartsT 28 x1.v x1.l]) (fun ⟨j, ws⟩ => j ≤ min i0 N ∧ ws = (P1.take j).flatten) (fun ⟨j, ws⟩ => min i0 N - j) (0, []) ⟨Nat.zero_le _, rfl⟩ ⟨rfl, rfl, rfl, rfl, rfl, rfl, trivial⟩ rfl ?_
    rintro ⟨j, ws⟩ hJ
    refine WC2.at_ (env' := [(4, .bool false), (1, x1.v), (5, .pointer (some ⟨p, 0, none⟩)), (7, .int .i64 ((dn : Nat) : Int)), (10, .string (bs ws)), (11, .int .i64 ((j : Nat) : Int))]) (rs' := [DiskT p (oneD [97] 1048576 (catO none (P1.take (min i0 N))) ([]) none), PartsT 28 x1.v x1.l]) ⟨rfl, rfl, rfl, rfl, rfl, rfl, trivial⟩ rfl ?_
    have hJ1 : j ≤ min i0 N := hJ.1
    have hJ2 : ws = (P1.take j).flatten := hJ.2
    refine d_seq ?_
    have hc : j < min i0 N ∨ min i0 N ≤ j := by omega
    rcases hc with hj | hj
    · skip
      have hjl : j < x1.l.length := by omega
      obtain ⟨z0, hz0⟩ : ∃ y, x1.l[j]? = some y := ⟨_, List.getElem?_eq_getElem hjl⟩
      have hzP : P1[j]? = some z0.2 := by rw [← hP1, List.getElem?_map, hz0]; rfl
      have hzl := hs1.2 _ (List.mem_of_getElem? hzP)
      have hwl : ws.length ≤ 40000 := by obtain ⟨m3, h3, h4⟩ := take_flat P1 j; rw [hJ2, h4, List.length_take]; omega
      refine d_reg ?_
      refine h_q hflS rfl ?_
      refine h_val rfl (.bool true) (fun b w hb hH => exec_cmp rfl rfl rfl (cmp_lss_t (by omega)) hb) ?_
      refine h_done (d_then rfl (d_skip (f_to (d_seq (d_block (d_reg1 ?_))))))
      refine h_q hflS rfl ?_
      refine h_val rfl (elp x1.v (j * 1)) (fun b w hb hH => e_pidx 1 sl_s_uint8 rfl j hjl rfl rfl rfl hH hb) ?_
      refine h_val rfl (z0.1) (fun b w hb hH => e_pload 1 ty_s_uint8 rfl j hz0 rfl rfl hH hb) ?_
      refine h_val rfl (.string (bs z0.2)) (fun b w hb hH => exec_str8 Try.underlying28 Try.underlying5 (by kernel_rfl) Try.underlying9 (hH.rd8 1 rfl (prt_rd8m hz0)) rfl rfl hb) ?_
      refine h_val rfl (.string (bs (ws ++ z0.2))) (fun b w hb hH => exec_catR (r := ws ++ z0.2) rfl (by omega) rfl rfl rfl hb) ?_
      refine h_q hflS rfl ?_
      refine h_nil (f_block (f_to (d_reg1 ?_)))
      refine h_q hflS rfl ?_
      refine h_val rfl (.int .i64 ((j + 1 : Nat) : Int)) (fun b w hb hH => exec_ar rfl rfl rfl rfl (by rw [IntWalk.i64_in _ (by omega)]; omega) hb) ?_
      refine h_q hflS rfl ?_
      refine h_nil ?_
      exact f_again (j + 1, ws ++ z0.2) 0 ⟨hj, by rw [hJ2, ← take_push hzP]; simp⟩ (show min i0 N - (j + 1) < min i0 N - j by omega) ⟨rfl, rfl, rfl, rfl, rfl, rfl, trivial⟩ rfl
    · skip
      have hjm : j = min i0 N := by omega
      have hws : (P1.take (min i0 N)).flatten = ws := by rw [hJ2, hjm]
      refine d_reg ?_
      refine h_q hflS rfl ?_
      refine h_val rfl (.bool false) (fun b w hb hH => exec_cmp rfl rfl rfl (cmp_lss_f (by omega)) hb) ?_
      refine h_done (d_else rfl (d_exit (f_then_exit (f_then_exit (f_block_exit (f_to (d_reg ?_)))))))
      refine h_q hflS rfl ?_
      refine h_act (post := fun b1 => [Vec 5 1 encB b1 ws, DiskT p (oneD [97] 1048576 (catO none (P1.take (min i0 N))) ([]) none), PartsT 28 x1.v x1.l]) rfl (a_does (os' := fun b1 => [Vec 5 1 encB b1 ws, DiskT p (oneD [97] 1048576 (catO none (P1.take (min i0 N))) ([]) none), PartsT 28 x1.v x1.l]) [0] 0 (ent_of Try.func14 (by kernel_rfl) rfl) (disk_read (oneD_fit' (by rw [hcg]; simp only [List.flatten_nil, List.length_nil]; omega) (by decide)) (ok := (catO none (P1.take (min i0 N))).isSome) (by rw [oneD_read]; rfl) (by rw [oneD_read]; exact hcg.trans hws)) rfl rfl rfl (fun _ => rfl) rfl rfl rfl) ?_; rintro b1
      refine h_q hflS rfl ?_
      refine h_done (d_reg ?_)
      refine h_q hflS rfl ?_
      refine h_val rfl (.string (bs ws)) (fun b w hb hH => exec_str8 Try.underlying28 Try.underlying5 (by kernel_rfl) Try.underlying9 (hH.sl8 0 rfl) rfl rfl hb) ?_
      refine h_q hflS rfl ?_
      refine h_val rfl (.bool true) (fun b w hb hH => exec_same rfl rfl rfl (by simp) hb) ?_
      refine h_q hflS rfl ?_
      refine h_act (post := fun _ => [Vec 5 1 encB b1 ws, DiskT p (oneD [97] 1048576 (catO none (P1.take (min i0 N))) ([]) none), PartsT 28 x1.v x1.l]) rfl (a_does (os' := fun _ => [Vec 5 1 encB b1 ws, DiskT p (oneD [97] 1048576 (catO none (P1.take (min i0 N))) ([]) none), PartsT 28 x1.v x1.l]) [1] 0 (ent_of Try.func16 (by kernel_rfl) rfl) (disk_down rfl) rfl rfl rfl (fun _ => rfl) rfl rfl rfl) ?_; rintro ⟨⟩
      refine h_q hflS rfl ?_
      refine h_act (post := fun _ => [Vec 5 1 encB b1 ws, DiskT p (oneD [97] 1048576 (catO (catO none (P1.take (min i0 N))) []) ([]) none), PartsT 28 x1.v x1.l]) rfl (a_does (os' := fun _ => [Vec 5 1 encB b1 ws, DiskT p (oneD [97] 1048576 (catO (catO none (P1.take (min i0 N))) []) ([]) none), PartsT 28 x1.v x1.l]) [1] 0 (ent_of Try.func11 (by kernel_rfl) rfl) (disk_sync (oneD_fit' (by rw [hcg]; simp only [List.flatten_nil, List.length_nil]; omega) (by decide)) oneD_sync) rfl rfl rfl (fun _ => rfl) rfl rfl rfl) ?_; rintro ⟨⟩
      refine h_val rfl (.bool true) (fun b w hb hH => exec_cmp rfl rfl rfl (cmp_eql_t (by decide)) hb) ?_
      refine h_q hflS rfl ?_
      refine h_done (d_ret ?_)
      exact f_fin1 (.tmp rfl) (fun w h => ⟨rfl, below0 h.up⟩) rfl
end Go.Proofs.Ytfiojppagmnpcaa.Sep
