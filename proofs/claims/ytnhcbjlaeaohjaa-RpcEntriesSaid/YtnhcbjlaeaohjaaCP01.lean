/-
  RpcH1
-/
import Derived.Test.YtnhcbjlaeaohjaaCL01
set_option linter.unusedSimpArgs false
set_option linter.unusedVariables false

namespace Go.Proofs.Ytnhcbjlaeaohjaa.Sep
open Go.RowKit
open Go.Proofs.Ytnhcbjlaeaohjaa.Mem (Dist Blk Chg below0)

/-- the entry that the hand makes of one -/
def handE (ix tm : Int) (e : EntD) : EntD := ⟨e.c % 3, max 1 (tm + e.k % 8 / 6), ix + 1, if e.c % 3 = 1 then 1 :: e.d.take 30 else [], if e.c % 3 = 2 then 2 * (1 + e.t % 200 % 31) else 0⟩
theorem handE_right {ix tm : Int} {e : EntD} (h1 : 0 ≤ ix ∧ ix < 1000) (h2 : 0 ≤ tm ∧ tm < 1000) : rightE (handE ix tm e) = true := by
  have hc := Int.emod_nonneg e.c (show (3 : Int) ≠ 0 by decide)
  have hc2 := Int.emod_lt_of_pos e.c (show (0 : Int) < 3 by decide)
  have hk := Int.emod_nonneg e.k (show (8 : Int) ≠ 0 by decide)
  have hk2 := Int.emod_lt_of_pos e.k (show (0 : Int) < 8 by decide)
  have ht : (1 : Int) ≤ max 1 (tm + e.k % 8 / 6) ∧ max 1 (tm + e.k % 8 / 6) ≤ 72057594037927935 := by omega
  have ht2 := Int.emod_nonneg (e.t % 200) (show (31 : Int) ≠ 0 by decide)
  have ht3 := Int.emod_lt_of_pos (e.t % 200) (show (0 : Int) < 31 by decide)
  obtain ⟨c, hcc⟩ : ∃ c, e.c % 3 = c := ⟨_, rfl⟩
  rw [hcc] at hc hc2
  have hn : numB (handE ix tm e).t = true := by
    show numB (max 1 (tm + e.k % 8 / 6)) = true
    unfold numB
    simp only [Bool.and_eq_true, decide_eq_true_eq]
    omega
  have hi : numB (handE ix tm e).i = true := by
    show numB (ix + 1) = true
    unfold numB
    simp only [Bool.and_eq_true, decide_eq_true_eq]
    omega
  have hK : kindE (handE ix tm e) = true := by
    rcases (show c = 0 ∨ c = 1 ∨ c = 2 by omega) with rfl | rfl | rfl
    · have hh : handE ix tm e = ⟨0, max 1 (tm + e.k % 8 / 6), ix + 1, [], 0⟩ := by simp [handE, hcc]
      rw [hh]; rfl
    · have hh : handE ix tm e = ⟨1, max 1 (tm + e.k % 8 / 6), ix + 1, 1 :: e.d.take 30, 0⟩ := by simp [handE, hcc]
      have h9 : (e.d.take 30).length ≤ 30 := by rw [List.length_take]; omega
      rw [hh]
      show (decide (1 ≤ (1 :: e.d.take 30).length) && decide ((1 :: e.d.take 30).length ≤ 128) && ((0 : Int) == 0)) = true
      rw [List.length_cons, Bool.and_eq_true, Bool.and_eq_true, decide_eq_true_eq, decide_eq_true_eq]
      exact ⟨⟨by omega, by omega⟩, rfl⟩
    · have hh : handE ix tm e = ⟨2, max 1 (tm + e.k % 8 / 6), ix + 1, [], 2 * (1 + e.t % 200 % 31)⟩ := by simp [handE, hcc]
      have hs : setB (2 * (1 + e.t % 200 % 31)) = true := by
        unfold setB
        simp only [Bool.and_eq_true, decide_eq_true_eq]
        omega
      rw [hh]
      show (true && setB (2 * (1 + e.t % 200 % 31)) && (2 * (1 + e.t % 200 % 31) != 0)) = true
      rw [hs, Bool.true_and, Bool.true_and, bne_iff_ne]
      omega
  unfold rightE
  rw [hn, hi, hK]; rfl
theorem take_min {l : List UInt8} (n : Nat) : ((l.take n).length : Int) = min (l.length : Int) (n : Int) := by
  rw [List.length_take]; omega
theorem Sl8.takesA {w : World} {A : Option Addr} {c : Nat} {l : List UInt8} (k : Nat) (h : Sl8 w (.slice A l.length c) l) : Sl8 w (.slice A (l.take k).length c) (l.take k) := by
  rcases Nat.lt_or_ge l.length k with hk | hk
  · rw [List.take_of_length_le (by omega)]; exact h
  · exact h.takes hk

set_option maxRecDepth 100000 in
theorem hand_does (u : World) (x : EntV) (hx : Sl8 u x.v x.e.d) (ho : x.e.ok) (ix tm : Int) (h1 : 0 ≤ ix ∧ ix < 1000) (h2 : 0 ≤ tm ∧ tm < 1000) (v : Value) : DoesU u Try.prog 54 #[.int .u64 ix, .int .u64 tm, v, .int .i64 1] [Vec 36 5 encV v ([x])] (fun (y : EsV) => y.v) (fun (y : EsV) => [Vec 36 5 encV v ([x]), Ents 36 y.v y.l, fact (y.l.map (·.e) = [handE ix tm x.e])]) := by
  have hk0 := Int.emod_nonneg x.e.k (show (8 : Int) ≠ 0 by decide)
  have hk8 := Int.emod_lt_of_pos x.e.k (show (0 : Int) < 8 by decide)
  have ht0 := ho.t
  have ht31 := Int.emod_nonneg (x.e.t % 200) (show (31 : Int) ≠ 0 by decide)
  have ht32 := Int.emod_lt_of_pos (x.e.t % 200) (show (0 : Int) < 31 by decide)
  have ht20 := Int.emod_nonneg x.e.t (show (200 : Int) ≠ 0 by decide)
  have ht21 := Int.emod_lt_of_pos x.e.t (show (0 : Int) < 200 by decide)
  have hc0 := Int.emod_nonneg x.e.c (show (3 : Int) ≠ 0 by decide)
  have hc3 := Int.emod_lt_of_pos x.e.c (show (0 : Int) < 3 by decide)
  obtain ⟨kd, hkd⟩ : ∃ kd, x.e.c % 3 = kd := ⟨_, rfl⟩
  rw [hkd] at hc0 hc3
  refine d_insU (args := [.int .u64 ix, .int .u64 tm, v, .int .i64 1]) 83 Try.func54 rfl rfl rfl ?_; intro w rs hU hS
  refine d_reg ?_
  refine h_q hflS rfl ?_
  refine h_done (d_reg ?_)
  refine h_q hflS rfl ?_
  refine h_done (d_seq (d_reg ?_))
  refine h_q hflS rfl ?_
  refine h_done (d_block ?_)
  refine d_rounds 2 (r_step ?_)
  refine d_seq (d_reg ?_)
  refine h_q hflS rfl ?_
  refine h_val rfl (.int .i64 1) (fun b w hb hH => e_slen (hH.vec 0 rfl okV) Try.underlying23 rfl rfl hb) ?_
  refine h_val rfl (.bool true) (fun b w hb hH => exec_cmp rfl rfl rfl (cmp_lss_t (by decide)) hb) ?_
  refine h_q hflS rfl ?_
  refine h_val rfl (.bool true) (fun b w hb hH => exec_cmp rfl rfl rfl (cmp_lss_t (by decide)) hb) ?_
  refine h_q hflS rfl ?_
  refine h_done (d_then rfl (d_skip (f_to (d_seq (d_block (d_reg ?_))))))
  refine h_q hflS rfl ?_
  refine h_val rfl (.int .u64 (ix + 1)) (fun b w hb hH => exec_ar rfl rfl rfl rfl (IntWalk.u64_in _ (by omega)) hb) ?_
  refine h_q hflS rfl ?_
  refine h_done (d_reg ?_)
  refine h_q hflS rfl ?_
  refine h_val rfl (elp v (0 * 5)) (fun b w hb hH => e_sidx okV (hH.vec 0 rfl okV) sl_api_Entry (j := 0) rfl rfl rfl rfl hb) ?_
  refine h_val rfl (elp v (0 * 5 + 0)) (fun b w hb hH => e_sfield okV (by decide) (hH.vec 0 rfl okV) (j := 0) rfl fd_api_Entry_0 rfl rfl hb) ?_
  refine h_val rfl (.int .i64 x.e.k) (fun b w hb hH => e_sload okV (by decide) (hH.vec 0 rfl okV) (j := 0) rfl ty_int (off := 0) rfl rfl rfl hb) ?_
  refine h_act (post := fun _ => [Vec 36 5 encV v ([x])]) rfl (a_call (ent_of Try.func27 (by kernel_rfl) rfl) (fun w hH => pick w x.e.k 8 ho.k (by decide) rfl) rfl rfl rfl) ?_; rintro ⟨⟩
  refine h_val rfl (.int .i64 (x.e.k % 8 / 6)) (fun b w hb hH => exec_quoI (by decide) (by rw [Int.tdiv_eq_ediv_of_nonneg hk0, IntWalk.i64_in _ (by omega)]) rfl rfl rfl hb) ?_
  refine h_val rfl (.int .u64 (x.e.k % 8 / 6)) (fun b w hb hH => exec_conv Try.underlying3 Try.underlying22 (IntWalk.u64_in _ (by omega)) rfl rfl hb) ?_
  refine h_val rfl (.int .u64 (tm + x.e.k % 8 / 6)) (fun b w hb hH => exec_ar rfl rfl rfl rfl (IntWalk.u64_in _ (by omega)) hb) ?_
  refine h_q hflS rfl ?_
  refine h_done (d_reg ?_)
  refine h_q hflS rfl ?_
  refine h_val rfl (elp v (0 * 5)) (fun b w hb hH => e_sidx okV (hH.vec 0 rfl okV) sl_api_Entry (j := 0) rfl rfl rfl rfl hb) ?_
  refine h_val rfl (elp v (0 * 5 + 4)) (fun b w hb hH => e_sfield okV (by decide) (hH.vec 0 rfl okV) (j := 0) rfl fd_api_Entry_4 rfl rfl hb) ?_
  refine h_val rfl (.int .i64 x.e.c) (fun b w hb hH => e_sload okV (by decide) (hH.vec 0 rfl okV) (j := 0) rfl ty_int (off := 4) rfl rfl rfl hb) ?_
  refine h_act (post := fun _ => [Vec 36 5 encV v ([x])]) rfl (a_call (ent_of Try.func27 (by kernel_rfl) rfl) (fun w hH => pick w x.e.c 3 ho.c (by decide) hkd) rfl rfl rfl) ?_; rintro ⟨⟩
  refine h_q hflS rfl ?_
  refine h_val rfl (.int .u64 (max 1 (tm + x.e.k % 8 / 6))) (fun b w hb hH => exec_builtin2 rfl rfl (fun cs => (fun w cs => run_max2 (by first | rfl | decide | (split <;> omega)) _ _ w cs) w cs) hb) ?_
  refine h_q hflS rfl ?_
  refine h_val rfl (.agg #[.int .i64 kd, .int .u64 (max 1 (tm + x.e.k % 8 / 6)), .int .u64 (ix + 1), .slice none 0 0, .int .i64 0]) (fun b w hb hH => exec_build rfl rfl (by kernel_rfl) hb) ?_
  refine h_act (post := fun g11 => [cell g11 36 #[.int .i64 0, .int .u64 0, .int .u64 0, .slice none 0 0, .int .i64 0], Vec 36 5 encV v ([x])]) rfl (a_alloc ze_api_Entry rfl) ?_; rintro g11
  refine h_acts (post := fun _ => [cell g11 36 #[.int .i64 kd, .int .u64 (max 1 (tm + x.e.k % 8 / 6)), .int .u64 (ix + 1), .slice none 0 0, .int .i64 0], Vec 36 5 encV v ([x])]) rfl rfl (a_store 0 (v := .agg #[.int .i64 kd, .int .u64 (max 1 (tm + x.e.k % 8 / 6)), .int .u64 (ix + 1), .slice none 0 0, .int .i64 0]) #[.int .i64 kd, .int .u64 (max 1 (tm + x.e.k % 8 / 6)), .int .u64 (ix + 1), .slice none 0 0, .int .i64 0] ty_api_Entry.2 rfl rfl rfl rfl rfl rfl rfl rfl rfl) ?_; rintro ⟨⟩
  refine h_done (d_seq ?_)
  have hk : kd = 0 ∨ kd = 1 ∨ kd = 2 := by omega
  rcases hk with rfl | rfl | rfl
  · skip
    refine d_reg ?_
    refine h_q hflS rfl ?_
    refine h_val rfl (.int .i64 0) (fun b w hb hH => exec_load rfl rfl (reads_one ty_int rfl) (hH.row 0 rfl) hb) ?_
    refine h_done (d_block (d_reg ?_))
    refine h_q hflS rfl ?_
    refine h_val rfl (.bool false) (fun b w hb hH => exec_cmp rfl rfl rfl (cmp_eql_f (by decide)) hb) ?_
    refine h_q hflS rfl ?_
    refine h_done (d_else rfl (d_reg ?_))
    refine h_q hflS rfl ?_
    refine h_val rfl (.bool false) (fun b w hb hH => exec_cmp rfl rfl rfl (cmp_eql_f (by decide)) hb) ?_
    refine h_q hflS rfl ?_
    refine h_done (d_else rfl (d_skip (f_block (f_to ?_))))
    refine d_nilvec 5 1 encB ?_
    refine d_new (t := Each (fun x : EntV => Vec 5 1 encB x.v x.e.d) ([])) (each_nil) ?_
    refine d_nilvec 36 5 encV ?_
    refine d_reg1 ?_
    refine h_q hflS rfl ?_
    refine h_val rfl (.agg #[.int .i64 0, .int .u64 (max 1 (tm + x.e.k % 8 / 6)), .int .u64 (ix + 1), .slice none 0 0, .int .i64 0]) (fun b w hb hH => exec_load rfl rfl (reads_agg (cs := [.int .i64 0, .int .u64 (max 1 (tm + x.e.k % 8 / 6)), .int .u64 (ix + 1), .slice none 0 0, .int .i64 0]) ty_api_Entry rfl) (hH.row 3 rfl) hb) ?_
    refine h_act (X := Value) (val := fun v : Value => v) (post := fun u1 => [Vec 36 5 encV u1 ([(⟨⟨0, max 1 (tm + x.e.k % 8 / 6), ix + 1, [], 0⟩, none, 0⟩ : EntV)]), Vec 36 5 encV (.slice none 0 0) ([]), Each (fun x : EntV => Vec 5 1 encB x.v x.e.d) ([]), Vec 5 1 encB (.slice none 0 0) ([]), cell g11 36 #[.int .i64 0, .int .u64 (max 1 (tm + x.e.k % 8 / 6)), .int .u64 (ix + 1), .slice none 0 0, .int .i64 0], Vec 36 5 encV v ([x])]) rfl (by refine a_buildK (e := 36) (t := 23) (k := 5) (enc := encV) (x := .tmp 79) (c := .agg #[.int .i64 0, .int .u64 (max 1 (tm + x.e.k % 8 / 6)), .int .u64 (ix + 1), .slice none 0 0, .int .i64 0]) ?_ ?_ ?_ (⟨⟨0, max 1 (tm + x.e.k % 8 / 6), ix + 1, [], 0⟩, none, 0⟩ : EntV) ?_ ?_ ?_; exact sl_api_Entry; exact (by decide); exact okV; exact rfl; exact rfl; exact rfl) ?_; rintro u1
    refine h_act (post := fun ev2 => [Vec 36 5 encV u1 ([(⟨⟨0, max 1 (tm + x.e.k % 8 / 6), ix + 1, [], 0⟩, none, 0⟩ : EntV)]), Vec 36 5 encV ev2 ([(⟨⟨0, max 1 (tm + x.e.k % 8 / 6), ix + 1, [], 0⟩, none, 0⟩ : EntV)]), Each (fun x : EntV => Vec 5 1 encB x.v x.e.d) ([]), Vec 5 1 encB (.slice none 0 0) ([]), cell g11 36 #[.int .i64 0, .int .u64 (max 1 (tm + x.e.k % 8 / 6)), .int .u64 (ix + 1), .slice none 0 0, .int .i64 0], Vec 36 5 encV v ([x])]) rfl (a_appendK (nb := 56) 1 sl_api_Entry okV (by kernel_rfl) (by decide) rfl ([(⟨⟨0, max 1 (tm + x.e.k % 8 / 6), ix + 1, [], 0⟩, none, 0⟩ : EntV)]) (fun w hH => hH.vec 0 rfl okV) (by simp only [List.length_cons, List.length_nil]; omega) rfl rfl rfl rfl) ?_; rintro ev2
    refine h_q hflS rfl ?_
    refine h_nil (f_block (f_to ?_))
    refine WC2.leave [0, 4] rfl rfl ?_
    refine d_close [0, 1, 2] rfl (ents_push (l := []) (x := (⟨⟨0, max 1 (tm + x.e.k % 8 / 6), ix + 1, [], 0⟩, none, 0⟩ : EntV))) rfl ?_
    refine d_reg1 ?_
    refine h_q hflS rfl ?_
    refine h_val rfl (.int .i64 1) (fun b w hb hH => exec_ar rfl rfl rfl rfl (by decide) hb) ?_
    refine h_q hflS rfl ?_
    refine h_nil ?_
    refine f_next (r_step ?_)
    refine d_seq (d_reg ?_)
    refine h_q hflS rfl ?_
    refine h_val rfl (.int .i64 1) (fun b w hb hH => e_slen (hH.vec 1 rfl okV) Try.underlying23 rfl rfl hb) ?_
    refine h_val rfl (.bool false) (fun b w hb hH => exec_cmp rfl rfl rfl (cmp_lss_f (by decide)) hb) ?_
    refine h_q hflS rfl ?_
    refine h_done (d_else rfl (d_exit (f_then_exit (f_then_exit (f_block_exit (f_to ?_))))))
    refine WC2.keep (env' := [(8, .slice none 0 0), (9, ev2)]) ⟨rfl, rfl, trivial⟩ ?_
    refine d_reg ?_
    refine h_q hflS rfl ?_
    refine h_done (d_ret ?_)
    exact f_fin1 (.tmp rfl) (fun w h => tells (⟨ev2, [(⟨⟨0, max 1 (tm + x.e.k % 8 / 6), ix + 1, [], 0⟩, none, 0⟩ : EntV)]⟩ : EsV) rfl [1, 0] rfl h (fun z hz => ⟨z, .refl _, fact_add (xs := [_, _]) (show _ = _ from by simp [handE, hkd]) hz⟩)) rfl
  · skip
    refine d_reg ?_
    refine h_q hflS rfl ?_
    refine h_val rfl (.int .i64 1) (fun b w hb hH => exec_load rfl rfl (reads_one ty_int rfl) (hH.row 0 rfl) hb) ?_
    refine h_done (d_block (d_reg ?_))
    refine h_q hflS rfl ?_
    refine h_val rfl (.bool true) (fun b w hb hH => exec_cmp rfl rfl rfl (cmp_eql_t (by decide)) hb) ?_
    refine h_q hflS rfl ?_
    refine h_done (d_then rfl ?_)
    refine d_emps 1 rfl ?_
    refine d_parS 16 2 [⟨.act 0, [some false, some false], fun _ => undef, []⟩, ⟨.quiet, [none, none], fun _ => v, []⟩, ⟨.quiet, [none, none], fun _ => .int .i64 0, []⟩, ⟨.quiet, [none, none], fun _ => elp v (0 * 5), [1, 2]⟩, ⟨.quiet, [none, none], fun _ => elp v (0 * 5 + 3), [3]⟩, ⟨.quiet, [none, none], fun _ => x.v, [4]⟩, ⟨.quiet, [none, none], fun _ => v, []⟩, ⟨.quiet, [none, none], fun _ => .int .i64 0, []⟩, ⟨.quiet, [none, none], fun _ => elp v (0 * 5), [6, 7]⟩, ⟨.quiet, [none, none], fun _ => elp v (0 * 5 + 3), [8]⟩, ⟨.quiet, [none, none], fun _ => x.v, [9]⟩, ⟨.quiet, [none, none], fun _ => .int .i64 (x.e.d.length : Int), [10]⟩, ⟨.quiet, [none, none], fun _ => .int .i64 ((x.e.d.take 30).length : Int), [11]⟩, ⟨.quiet, [none, none], fun _ => .slice x.A (x.e.d.take 30).length x.c, [5, 12]⟩, ⟨.act 1, [some true, some false], fun _ => undef, [0, 13]⟩, ⟨.quiet, [some true, some true], fun _ => .pointer (some ⟨g11, 3, none⟩), []⟩] [(2, v), (3, .int .i64 1), (8, .slice none 0 0), (9, .slice none 0 0), (10, .int .i64 0), (12, .int .i64 0), (13, v), (14, .int .i64 1), (15, .bool true), (16, .bool true), (17, .int .i64 0), (18, .int .i64 1), (19, .bool true), (20, .bool true), (23, .int .u64 ix), (24, .int .u64 (ix + 1)), (0, .int .u64 (ix + 1)), (25, .int .u64 tm), (26, v), (27, .int .i64 0), (28, elp v (0 * 5)), (29, elp v (0 * 5 + 0)), (30, .int .i64 x.e.k), (31, .int .i64 (x.e.k % 8)), (32, .int .i64 (x.e.k % 8 / 6)), (33, .int .u64 (x.e.k % 8 / 6)), (34, .int .u64 (tm + x.e.k % 8 / 6)), (1, .int .u64 (tm + x.e.k % 8 / 6)), (35, v), (36, .int .i64 0), (37, elp v (0 * 5)), (38, elp v (0 * 5 + 4)), (39, .int .i64 x.e.c), (40, .int .i64 1), (41, .int .u64 (tm + x.e.k % 8 / 6)), (42, .int .u64 (max 1 (tm + x.e.k % 8 / 6))), (43, .int .u64 (ix + 1)), (44, .agg #[.int .i64 1, .int .u64 (max 1 (tm + x.e.k % 8 / 6)), .int .u64 (ix + 1), .slice none 0 0, .int .i64 0]), (11, .pointer (some ⟨g11, 0, none⟩)), (45, .pointer (some ⟨g11, 0, none⟩)), (46, .int .i64 1), (48, .bool true), (47, .bool true)] (fun ρ => match ρ with | [r0, r1] => [selS r1 (fun d1 => Vec 5 1 encB d1 (1 :: x.e.d.take 30)) (selS r0 (fun d0 => Vec 5 1 encB d0 ([(1 : UInt8)])) (emp)), cell g11 36 #[.int .i64 1, .int .u64 (max 1 (tm + x.e.k % 8 / 6)), .int .u64 (ix + 1), .slice none 0 0, .int .i64 0], Vec 36 5 encV v ([x])] | _ => []) (by kernel_rfl) (by kernel_rfl) ⟨rfl, rfl, rfl, rfl, rfl, rfl, rfl, rfl, rfl, rfl, rfl, rfl, rfl, rfl, rfl, rfl, rfl, rfl, rfl, rfl, rfl, rfl, rfl, rfl, rfl, rfl, rfl, rfl, rfl, rfl, rfl, rfl, rfl, rfl, rfl, rfl, rfl, rfl, rfl, rfl, rfl, rfl, rfl, trivial⟩ rfl ?_ ?_
    · skip
      refine s_cons (by exact ⟨rfl, Acts.s (Acts.place (val := fun d0 : Value => d0) (t := fun d0 => Vec 5 1 encB d0 ([(1 : UInt8)])) (os' := fun d0 => [Vec 5 1 encB d0 ([(1 : UInt8)]), cell g11 36 #[.int .i64 1, .int .u64 (max 1 (tm + x.e.k % 8 / 6)), .int .u64 (ix + 1), .slice none 0 0, .int .i64 0], Vec 36 5 encV v ([x])]) 0 rfl (by refine a_build1 (e := 5) (t := 26) (enc := encB) (x := .const (Value.int IntKind.u8 1)) (c := .int .u8 (((1 : UInt8)).toNat : Int)) ?_ ?_ (1 : UInt8) ?_ ?_ ?_; exact sl_uint8; exact okB; exact rfl; exact rfl; exact rfl) (fun _ => rfl)) (fun _ => rfl)⟩) ?_
      refine s_cons (by intro r0_ r1_; exact ⟨rfl, fun b w hH hb => exec_q1 hflS rfl hb⟩) ?_
      refine s_cons (by intro r0_ r1_; exact ⟨rfl, fun b w hH hb => exec_q1 hflS rfl hb⟩) ?_
      refine s_cons (by intro r0_ r1_; exact ⟨rfl, fun b w hH hb => e_sidx okV (hH.vec 2 rfl okV) sl_api_Entry (j := 0) rfl rfl rfl rfl hb⟩) ?_
      refine s_cons (by intro r0_ r1_; exact ⟨rfl, fun b w hH hb => e_sfield okV (by decide) (hH.vec 2 rfl okV) (j := 0) rfl fd_api_Entry_3 rfl rfl hb⟩) ?_
      refine s_cons (by intro r0_ r1_; exact ⟨rfl, fun b w hH hb => e_sload okV (by decide) (hH.vec 2 rfl okV) (j := 0) rfl ty_s_uint8 (off := 3) rfl rfl rfl hb⟩) ?_
      refine s_cons (by intro r0_ r1_; exact ⟨rfl, fun b w hH hb => exec_q1 hflS rfl hb⟩) ?_
      refine s_cons (by intro r0_ r1_; exact ⟨rfl, fun b w hH hb => exec_q1 hflS rfl hb⟩) ?_
      refine s_cons (by intro r0_ r1_; exact ⟨rfl, fun b w hH hb => e_sidx okV (hH.vec 2 rfl okV) sl_api_Entry (j := 0) rfl rfl rfl rfl hb⟩) ?_
      refine s_cons (by intro r0_ r1_; exact ⟨rfl, fun b w hH hb => e_sfield okV (by decide) (hH.vec 2 rfl okV) (j := 0) rfl fd_api_Entry_3 rfl rfl hb⟩) ?_
      refine s_cons (by intro r0_ r1_; exact ⟨rfl, fun b w hH hb => e_sload okV (by decide) (hH.vec 2 rfl okV) (j := 0) rfl ty_s_uint8 (off := 3) rfl rfl rfl hb⟩) ?_
      refine s_cons (by intro r0_ r1_; exact ⟨rfl, fun b w hH hb => e_slen ((arg8 hx hU hS hH).rd) Try.underlying26 rfl rfl hb⟩) ?_
      refine s_cons (by intro r0_ r1_; exact ⟨rfl, fun b w hH hb => exec_builtin2 rfl rfl (fun cs => (fun w cs => run_min2 (by rw [take_min]; split <;> omega) _ _ w cs) w cs) hb⟩) ?_
      refine s_cons (by intro r0_ r1_; exact ⟨rfl, fun b w hH hb => e_sub_hi (A := x.A) (sn := x.e.d.length) (c := x.c) (j := (x.e.d.take 30).length) sl_uint8 sub_take (by have := sl8_cap hx; rw [List.length_take]; omega) rfl rfl rfl hH hb⟩) ?_
      refine s_cons (by intro d0; exact ⟨rfl, Acts.s (a_append8 0 sl_uint8 (by kernel_rfl) rfl (x.e.d.take 30) (fun w hH => (Sl8.takesA 30 (arg8 hx hU hS hH)).rd) (by simp only [List.length_cons, List.length_nil, List.length_take]; omega) rfl rfl rfl rfl) (fun _ => rfl)⟩) ?_
      refine s_cons (by intro d0 d1; exact ⟨rfl, fun b w hH hb => exec_q1 hflS rfl hb⟩) ?_
      exact s_nil
    intro d0 d1
    refine WL2.keep (env' := [(2, v), (3, .int .i64 1), (8, .slice none 0 0), (9, .slice none 0 0), (10, .int .i64 0), (12, .int .i64 0), (13, v), (14, .int .i64 1), (15, .bool true), (16, .bool true), (17, .int .i64 0), (18, .int .i64 1), (19, .bool true), (20, .bool true), (23, .int .u64 ix), (24, .int .u64 (ix + 1)), (0, .int .u64 (ix + 1)), (25, .int .u64 tm), (26, v), (27, .int .i64 0), (28, elp v (0 * 5)), (29, elp v (0 * 5 + 0)), (30, .int .i64 x.e.k), (31, .int .i64 (x.e.k % 8)), (32, .int .i64 (x.e.k % 8 / 6)), (33, .int .u64 (x.e.k % 8 / 6)), (34, .int .u64 (tm + x.e.k % 8 / 6)), (1, .int .u64 (tm + x.e.k % 8 / 6)), (35, v), (36, .int .i64 0), (37, elp v (0 * 5)), (38, elp v (0 * 5 + 4)), (39, .int .i64 x.e.c), (40, .int .i64 1), (41, .int .u64 (tm + x.e.k % 8 / 6)), (42, .int .u64 (max 1 (tm + x.e.k % 8 / 6))), (43, .int .u64 (ix + 1)), (44, .agg #[.int .i64 1, .int .u64 (max 1 (tm + x.e.k % 8 / 6)), .int .u64 (ix + 1), .slice none 0 0, .int .i64 0]), (11, .pointer (some ⟨g11, 0, none⟩)), (45, .pointer (some ⟨g11, 0, none⟩)), (46, .int .i64 1), (48, .bool true), (47, .bool true), (49, d0), (50, v), (51, .int .i64 0), (52, elp v (0 * 5)), (53, elp v (0 * 5 + 3)), (54, x.v), (55, v), (56, .int .i64 0), (57, elp v (0 * 5)), (58, elp v (0 * 5 + 3)), (59, x.v), (60, .int .i64 (x.e.d.length : Int)), (61, .int .i64 ((x.e.d.take 30).length : Int)), (62, .slice x.A (x.e.d.take 30).length x.c), (63, d1), (64, .pointer (some ⟨g11, 3, none⟩))]) ⟨rfl, rfl, rfl, rfl, rfl, rfl, rfl, rfl, rfl, rfl, rfl, rfl, rfl, rfl, rfl, rfl, rfl, rfl, rfl, rfl, rfl, rfl, rfl, rfl, rfl, rfl, rfl, rfl, rfl, rfl, rfl, rfl, rfl, rfl, rfl, rfl, rfl, rfl, rfl, rfl, rfl, rfl, rfl, rfl, rfl, rfl, rfl, rfl, rfl, rfl, rfl, rfl, rfl, rfl, rfl, rfl, rfl, rfl, rfl, trivial⟩ ?_
    refine h_q hflS rfl ?_
    refine h_acts (post := fun _ => [Vec 5 1 encB d1 (1 :: x.e.d.take 30), cell g11 36 #[.int .i64 1, .int .u64 (max 1 (tm + x.e.k % 8 / 6)), .int .u64 (ix + 1), d1, .int .i64 0], Vec 36 5 encV v ([x])]) rfl rfl (a_storev 1 0 (v := d1) #[.int .i64 1, .int .u64 (max 1 (tm + x.e.k % 8 / 6)), .int .u64 (ix + 1), d1, .int .i64 0] ty_s_uint8.2 rfl (fun _ h => Vec.c1 h) rfl rfl rfl rfl rfl rfl rfl) ?_; rintro ⟨⟩
    refine h_nil (f_block (f_to ?_))
    refine WC2.fact 0 rfl (fun _ h => Vec.is h) ?_; rintro ⟨A3, c3, rfl⟩
    refine WC2.keep (env' := [(2, v), (3, .int .i64 1), (8, .slice none 0 0), (9, .slice none 0 0), (10, .int .i64 0), (12, .int .i64 0), (13, v), (14, .int .i64 1), (15, .bool true), (16, .bool true), (17, .int .i64 0), (18, .int .i64 1), (19, .bool true), (20, .bool true), (23, .int .u64 ix), (24, .int .u64 (ix + 1)), (0, .int .u64 (ix + 1)), (25, .int .u64 tm), (26, v), (27, .int .i64 0), (28, elp v (0 * 5)), (29, elp v (0 * 5 + 0)), (30, .int .i64 x.e.k), (31, .int .i64 (x.e.k % 8)), (32, .int .i64 (x.e.k % 8 / 6)), (33, .int .u64 (x.e.k % 8 / 6)), (34, .int .u64 (tm + x.e.k % 8 / 6)), (1, .int .u64 (tm + x.e.k % 8 / 6)), (35, v), (36, .int .i64 0), (37, elp v (0 * 5)), (38, elp v (0 * 5 + 4)), (39, .int .i64 x.e.c), (40, .int .i64 1), (41, .int .u64 (tm + x.e.k % 8 / 6)), (42, .int .u64 (max 1 (tm + x.e.k % 8 / 6))), (43, .int .u64 (ix + 1)), (44, .agg #[.int .i64 1, .int .u64 (max 1 (tm + x.e.k % 8 / 6)), .int .u64 (ix + 1), .slice none 0 0, .int .i64 0]), (11, .pointer (some ⟨g11, 0, none⟩)), (45, .pointer (some ⟨g11, 0, none⟩)), (46, .int .i64 1), (48, .bool true), (47, .bool true), (49, d0), (50, v), (51, .int .i64 0), (52, elp v (0 * 5)), (53, elp v (0 * 5 + 3)), (54, x.v), (55, v), (56, .int .i64 0), (57, elp v (0 * 5)), (58, elp v (0 * 5 + 3)), (59, x.v), (60, .int .i64 (x.e.d.length : Int)), (61, .int .i64 ((x.e.d.take 30).length : Int)), (62, .slice x.A (x.e.d.take 30).length x.c), (63, .slice A3 (1 :: x.e.d.take 30).length c3), (64, .pointer (some ⟨g11, 3, none⟩))]) ⟨rfl, rfl, rfl, rfl, rfl, rfl, rfl, rfl, rfl, rfl, rfl, rfl, rfl, rfl, rfl, rfl, rfl, rfl, rfl, rfl, rfl, rfl, rfl, rfl, rfl, rfl, rfl, rfl, rfl, rfl, rfl, rfl, rfl, rfl, rfl, rfl, rfl, rfl, rfl, rfl, rfl, rfl, rfl, rfl, rfl, rfl, rfl, rfl, rfl, rfl, rfl, rfl, rfl, rfl, rfl, rfl, rfl, rfl, rfl, trivial⟩ ?_
    refine WC2.mid [Vec 5 1 encB (.slice A3 (1 :: x.e.d.take 30).length c3) (1 :: x.e.d.take 30), cell g11 36 #[.int .i64 1, .int .u64 (max 1 (tm + x.e.k % 8 / 6)), .int .u64 (ix + 1), .slice A3 (1 :: x.e.d.take 30).length c3, .int .i64 0], Vec 36 5 encV v ([x])] (.refl _) ?_
    refine d_new (t := Each (fun x : EntV => Vec 5 1 encB x.v x.e.d) ([])) (each_nil) ?_
    refine d_nilvec 36 5 encV ?_
    refine d_reg1 ?_
    refine h_q hflS rfl ?_
    refine h_val rfl (.agg #[.int .i64 1, .int .u64 (max 1 (tm + x.e.k % 8 / 6)), .int .u64 (ix + 1), .slice A3 (1 :: x.e.d.take 30).length c3, .int .i64 0]) (fun b w hb hH => exec_load rfl rfl (reads_agg (cs := [.int .i64 1, .int .u64 (max 1 (tm + x.e.k % 8 / 6)), .int .u64 (ix + 1), .slice A3 (1 :: x.e.d.take 30).length c3, .int .i64 0]) ty_api_Entry rfl) (hH.row 3 rfl) hb) ?_
    refine h_act (X := Value) (val := fun v : Value => v) (post := fun u2 => [Vec 36 5 encV u2 ([(⟨⟨1, max 1 (tm + x.e.k % 8 / 6), ix + 1, 1 :: x.e.d.take 30, 0⟩, A3, c3⟩ : EntV)]), Vec 36 5 encV (.slice none 0 0) ([]), Each (fun x : EntV => Vec 5 1 encB x.v x.e.d) ([]), Vec 5 1 encB (.slice A3 (1 :: x.e.d.take 30).length c3) (1 :: x.e.d.take 30), cell g11 36 #[.int .i64 1, .int .u64 (max 1 (tm + x.e.k % 8 / 6)), .int .u64 (ix + 1), .slice A3 (1 :: x.e.d.take 30).length c3, .int .i64 0], Vec 36 5 encV v ([x])]) rfl (by refine a_buildK (e := 36) (t := 23) (k := 5) (enc := encV) (x := .tmp 79) (c := .agg #[.int .i64 1, .int .u64 (max 1 (tm + x.e.k % 8 / 6)), .int .u64 (ix + 1), .slice A3 (1 :: x.e.d.take 30).length c3, .int .i64 0]) ?_ ?_ ?_ (⟨⟨1, max 1 (tm + x.e.k % 8 / 6), ix + 1, 1 :: x.e.d.take 30, 0⟩, A3, c3⟩ : EntV) ?_ ?_ ?_; exact sl_api_Entry; exact (by decide); exact okV; exact rfl; exact rfl; exact rfl) ?_; rintro u2
    refine h_act (post := fun ev2 => [Vec 36 5 encV u2 ([(⟨⟨1, max 1 (tm + x.e.k % 8 / 6), ix + 1, 1 :: x.e.d.take 30, 0⟩, A3, c3⟩ : EntV)]), Vec 36 5 encV ev2 ([(⟨⟨1, max 1 (tm + x.e.k % 8 / 6), ix + 1, 1 :: x.e.d.take 30, 0⟩, A3, c3⟩ : EntV)]), Each (fun x : EntV => Vec 5 1 encB x.v x.e.d) ([]), Vec 5 1 encB (.slice A3 (1 :: x.e.d.take 30).length c3) (1 :: x.e.d.take 30), cell g11 36 #[.int .i64 1, .int .u64 (max 1 (tm + x.e.k % 8 / 6)), .int .u64 (ix + 1), .slice A3 (1 :: x.e.d.take 30).length c3, .int .i64 0], Vec 36 5 encV v ([x])]) rfl (a_appendK (nb := 56) 1 sl_api_Entry okV (by kernel_rfl) (by decide) rfl ([(⟨⟨1, max 1 (tm + x.e.k % 8 / 6), ix + 1, 1 :: x.e.d.take 30, 0⟩, A3, c3⟩ : EntV)]) (fun w hH => hH.vec 0 rfl okV) (by simp only [List.length_cons, List.length_nil]; omega) rfl rfl rfl rfl) ?_; rintro ev2
    refine h_q hflS rfl ?_
    refine h_nil (f_block (f_to ?_))
    refine WC2.leave [0, 4] rfl rfl ?_
    refine d_close [0, 1, 2] rfl (ents_push (l := []) (x := (⟨⟨1, max 1 (tm + x.e.k % 8 / 6), ix + 1, 1 :: x.e.d.take 30, 0⟩, A3, c3⟩ : EntV))) rfl ?_
    refine d_reg1 ?_
    refine h_q hflS rfl ?_
    refine h_val rfl (.int .i64 1) (fun b w hb hH => exec_ar rfl rfl rfl rfl (by decide) hb) ?_
    refine h_q hflS rfl ?_
    refine h_nil ?_
    refine f_next (r_step ?_)
    refine d_seq (d_reg ?_)
    refine h_q hflS rfl ?_
    refine h_val rfl (.int .i64 1) (fun b w hb hH => e_slen (hH.vec 1 rfl okV) Try.underlying23 rfl rfl hb) ?_
    refine h_val rfl (.bool false) (fun b w hb hH => exec_cmp rfl rfl rfl (cmp_lss_f (by decide)) hb) ?_
    refine h_q hflS rfl ?_
    refine h_done (d_else rfl (d_exit (f_then_exit (f_then_exit (f_block_exit (f_to ?_))))))
    refine WC2.keep (env' := [(8, .slice none 0 0), (9, ev2)]) ⟨rfl, rfl, trivial⟩ ?_
    refine d_reg ?_
    refine h_q hflS rfl ?_
    refine h_done (d_ret ?_)
    exact f_fin1 (.tmp rfl) (fun w h => tells (⟨ev2, [(⟨⟨1, max 1 (tm + x.e.k % 8 / 6), ix + 1, 1 :: x.e.d.take 30, 0⟩, A3, c3⟩ : EntV)]⟩ : EsV) rfl [1, 0] rfl h (fun z hz => ⟨z, .refl _, fact_add (xs := [_, _]) (show _ = _ from by simp [handE, hkd]) hz⟩)) rfl
  · skip
    refine d_reg ?_
    refine h_q hflS rfl ?_
    refine h_val rfl (.int .i64 2) (fun b w hb hH => exec_load rfl rfl (reads_one ty_int rfl) (hH.row 0 rfl) hb) ?_
    refine h_done (d_block (d_reg ?_))
    refine h_q hflS rfl ?_
    refine h_val rfl (.bool false) (fun b w hb hH => exec_cmp rfl rfl rfl (cmp_eql_f (by decide)) hb) ?_
    refine h_q hflS rfl ?_
    refine h_done (d_else rfl (d_reg ?_))
    refine h_q hflS rfl ?_
    refine h_val rfl (.bool true) (fun b w hb hH => exec_cmp rfl rfl rfl (cmp_eql_t (by decide)) hb) ?_
    refine h_q hflS rfl ?_
    refine h_done (d_then rfl (d_reg1 ?_))
    refine h_q hflS rfl ?_
    refine h_val rfl (elp v (0 * 5)) (fun b w hb hH => e_sidx okV (hH.vec 1 rfl okV) sl_api_Entry (j := 0) rfl rfl rfl rfl hb) ?_
    refine h_val rfl (elp v (0 * 5 + 1)) (fun b w hb hH => e_sfield okV (by decide) (hH.vec 1 rfl okV) (j := 0) rfl fd_api_Entry_1 rfl rfl hb) ?_
    refine h_val rfl (.int .u64 x.e.t) (fun b w hb hH => e_sload okV (by decide) (hH.vec 1 rfl okV) (j := 0) rfl ty_uint64 (off := 1) rfl rfl rfl hb) ?_
    refine h_val rfl (.int .u64 (x.e.t % 200)) (fun b w hb hH => exec_remI rfl rfl rfl (by decide) (Int.tmod_eq_emod_of_nonneg ho.t.1) hb) ?_
    refine h_val rfl (.int .i64 (x.e.t % 200)) (fun b w hb hH => exec_conv Try.underlying22 Try.underlying3 (IntWalk.i64_in _ (by omega)) rfl rfl hb) ?_
    refine h_act (post := fun _ => [cell g11 36 #[.int .i64 2, .int .u64 (max 1 (tm + x.e.k % 8 / 6)), .int .u64 (ix + 1), .slice none 0 0, .int .i64 0], Vec 36 5 encV v ([x])]) rfl (a_call (ent_of Try.func27 (by kernel_rfl) rfl) (fun w hH => pick w (x.e.t % 200) 31 ⟨by omega, by omega⟩ (by decide) rfl) rfl rfl rfl) ?_; rintro ⟨⟩
    refine h_val rfl (.int .i64 (1 + x.e.t % 200 % 31)) (fun b w hb hH => exec_ar rfl rfl rfl rfl (IntWalk.i64_in _ (by omega)) hb) ?_
    refine h_val rfl (.int .i64 (2 * (1 + x.e.t % 200 % 31))) (fun b w hb hH => exec_ar rfl rfl rfl rfl (IntWalk.i64_in _ (by omega)) hb) ?_
    refine h_q hflS rfl ?_
    refine h_acts (post := fun _ => [cell g11 36 #[.int .i64 2, .int .u64 (max 1 (tm + x.e.k % 8 / 6)), .int .u64 (ix + 1), .slice none 0 0, .int .i64 (2 * (1 + x.e.t % 200 % 31))], Vec 36 5 encV v ([x])]) rfl rfl (a_store 0 (v := .int .i64 (2 * (1 + x.e.t % 200 % 31))) #[.int .i64 2, .int .u64 (max 1 (tm + x.e.k % 8 / 6)), .int .u64 (ix + 1), .slice none 0 0, .int .i64 (2 * (1 + x.e.t % 200 % 31))] ty_int.2 rfl rfl rfl rfl rfl rfl rfl rfl rfl) ?_; rintro ⟨⟩
    refine h_nil (f_block (f_to ?_))
    refine d_nilvec 5 1 encB ?_
    refine d_new (t := Each (fun x : EntV => Vec 5 1 encB x.v x.e.d) ([])) (each_nil) ?_
    refine d_nilvec 36 5 encV ?_
    refine d_reg1 ?_
    refine h_q hflS rfl ?_
    refine h_val rfl (.agg #[.int .i64 2, .int .u64 (max 1 (tm + x.e.k % 8 / 6)), .int .u64 (ix + 1), .slice none 0 0, .int .i64 (2 * (1 + x.e.t % 200 % 31))]) (fun b w hb hH => exec_load rfl rfl (reads_agg (cs := [.int .i64 2, .int .u64 (max 1 (tm + x.e.k % 8 / 6)), .int .u64 (ix + 1), .slice none 0 0, .int .i64 (2 * (1 + x.e.t % 200 % 31))]) ty_api_Entry rfl) (hH.row 3 rfl) hb) ?_
    refine h_act (X := Value) (val := fun v : Value => v) (post := fun u3 => [Vec 36 5 encV u3 ([(⟨⟨2, max 1 (tm + x.e.k % 8 / 6), ix + 1, [], 2 * (1 + x.e.t % 200 % 31)⟩, none, 0⟩ : EntV)]), Vec 36 5 encV (.slice none 0 0) ([]), Each (fun x : EntV => Vec 5 1 encB x.v x.e.d) ([]), Vec 5 1 encB (.slice none 0 0) ([]), cell g11 36 #[.int .i64 2, .int .u64 (max 1 (tm + x.e.k % 8 / 6)), .int .u64 (ix + 1), .slice none 0 0, .int .i64 (2 * (1 + x.e.t % 200 % 31))], Vec 36 5 encV v ([x])]) rfl (by refine a_buildK (e := 36) (t := 23) (k := 5) (enc := encV) (x := .tmp 79) (c := .agg #[.int .i64 2, .int .u64 (max 1 (tm + x.e.k % 8 / 6)), .int .u64 (ix + 1), .slice none 0 0, .int .i64 (2 * (1 + x.e.t % 200 % 31))]) ?_ ?_ ?_ (⟨⟨2, max 1 (tm + x.e.k % 8 / 6), ix + 1, [], 2 * (1 + x.e.t % 200 % 31)⟩, none, 0⟩ : EntV) ?_ ?_ ?_; exact sl_api_Entry; exact (by decide); exact okV; exact rfl; exact rfl; exact rfl) ?_; rintro u3
    refine h_act (post := fun ev2 => [Vec 36 5 encV u3 ([(⟨⟨2, max 1 (tm + x.e.k % 8 / 6), ix + 1, [], 2 * (1 + x.e.t % 200 % 31)⟩, none, 0⟩ : EntV)]), Vec 36 5 encV ev2 ([(⟨⟨2, max 1 (tm + x.e.k % 8 / 6), ix + 1, [], 2 * (1 + x.e.t % 200 % 31)⟩, none, 0⟩ : EntV)]), Each (fun x : EntV => Vec 5 1 encB x.v x.e.d) ([]), Vec 5 1 encB (.slice none 0 0) ([]), cell g11 36 #[.int .i64 2, .int .u64 (max 1 (tm + x.e.k % 8 / 6)), .int .u64 (ix + 1), .slice none 0 0, .int .i64 (2 * (1 + x.e.t % 200 % 31))], Vec 36 5 encV v ([x])]) rfl (a_appendK (nb := 56) 1 sl_api_Entry okV (by kernel_rfl) (by decide) rfl ([(⟨⟨2, max 1 (tm + x.e.k % 8 / 6), ix + 1, [], 2 * (1 + x.e.t % 200 % 31)⟩, none, 0⟩ : EntV)]) (fun w hH => hH.vec 0 rfl okV) (by simp only [List.length_cons, List.length_nil]; omega) rfl rfl rfl rfl) ?_; rintro ev2
    refine h_q hflS rfl ?_
    refine h_nil (f_block (f_to ?_))
    refine WC2.leave [0, 4] rfl rfl ?_
    refine d_close [0, 1, 2] rfl (ents_push (l := []) (x := (⟨⟨2, max 1 (tm + x.e.k % 8 / 6), ix + 1, [], 2 * (1 + x.e.t % 200 % 31)⟩, none, 0⟩ : EntV))) rfl ?_
    refine d_reg1 ?_
    refine h_q hflS rfl ?_
    refine h_val rfl (.int .i64 1) (fun b w hb hH => exec_ar rfl rfl rfl rfl (by decide) hb) ?_
    refine h_q hflS rfl ?_
    refine h_nil ?_
    refine f_next (r_step ?_)
    refine d_seq (d_reg ?_)
    refine h_q hflS rfl ?_
    refine h_val rfl (.int .i64 1) (fun b w hb hH => e_slen (hH.vec 1 rfl okV) Try.underlying23 rfl rfl hb) ?_
    refine h_val rfl (.bool false) (fun b w hb hH => exec_cmp rfl rfl rfl (cmp_lss_f (by decide)) hb) ?_
    refine h_q hflS rfl ?_
    refine h_done (d_else rfl (d_exit (f_then_exit (f_then_exit (f_block_exit (f_to ?_))))))
    refine WC2.keep (env' := [(8, .slice none 0 0), (9, ev2)]) ⟨rfl, rfl, trivial⟩ ?_
    refine d_reg ?_
    refine h_q hflS rfl ?_
    refine h_done (d_ret ?_)
    exact f_fin1 (.tmp rfl) (fun w h => tells (⟨ev2, [(⟨⟨2, max 1 (tm + x.e.k % 8 / 6), ix + 1, [], 2 * (1 + x.e.t % 200 % 31)⟩, none, 0⟩ : EntV)]⟩ : EsV) rfl [1, 0] rfl h (fun z hz => ⟨z, .refl _, fact_add (xs := [_, _]) (show _ = _ from by simp [handE, hkd]) hz⟩)) rfl
end Go.Proofs.Ytnhcbjlaeaohjaa.Sep
