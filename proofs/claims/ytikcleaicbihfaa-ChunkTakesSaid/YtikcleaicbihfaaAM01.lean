/-
  ChkH
-/
import Derived.Test.YtikcleaicbihfaaAI01
import Derived.Test.YtikcleaicbihfaaAK01
set_option linter.unusedSimpArgs false
set_option linter.unusedVariables false

namespace Go.Proofs.Ytikcleaicbihfaa.Sep
open Go.RowKit
open Go.Proofs.Ytikcleaicbihfaa.Mem (Dist Blk Chg below0)

theorem TkT.mk {T : TypeId} {p : Nat} {bi bt bc : Int} {D : List UInt8} {v : Value} : ∀ rs, Parts [cell p T #[.int .u64 bi, .int .u64 bt, .int .i64 bc, v], Vec 5 1 encB v D] rs → TkT T p bi bt bc D rs := fun _ h => ⟨_, h⟩
theorem TkT.mkN {T : TypeId} {p : Nat} {bi bt bc : Int} : ∀ rs, Parts [cell p T #[.int .u64 bi, .int .u64 bt, .int .i64 bc, .slice none 0 0]] rs → TkT T p bi bt bc [] rs := fun _ h => (TkT.new h).one'

set_option maxRecDepth 100000 in
set_option maxHeartbeats 4000000 in
theorem takes_law (X : Ass) (v1 : Value) (l : List StepC) (hXs : Rd X 6 encSk v1 l) (hXe : ∀ y ∈ l, Rd8 X y.v y.d) (ho1 : ∀ y ∈ l, y.ok) (hl1 : l.length ≤ 9223372036854775807) (many : Bool) : Does Try.prog 5 #[v1, .bool many] [X] (fun (_ : Unit) => .bool true) (fun (_ : Unit) => [X]) := by
  refine d_ins (args := [v1, .bool many]) 143 Try.func5 rfl rfl rfl ?_; intro w rs
  refine d_reg ?_
  refine h_q hflS rfl ?_
  refine h_done (d_reg ?_)
  refine h_q hflS rfl ?_
  refine h_act (post := fun g => [TkT 50 g 0 0 0 ([]), X]) rfl (a_does (os' := fun g => [TkT 50 g 0 0 0 ([]), X]) [] 0 (ent_of Try.func9 (by kernel_rfl) rfl) (ck_new) rfl rfl rfl (fun _ => rfl) rfl rfl rfl) ?_; rintro g
  refine h_q hflS rfl ?_
  refine h_done (d_reg ?_)
  refine h_q hflS rfl ?_
  refine h_val rfl (.agg #[.int .u64 0, .int .u64 0, .int .i64 0, .slice none 0 0]) (fun b w hb hH => exec_build rfl rfl (by kernel_rfl) hb) ?_
  refine h_act (post := fun q => [cell q 42 #[.int .u64 0, .int .u64 0, .int .i64 0, .slice none 0 0], TkT 50 g 0 0 0 ([]), X]) rfl (a_box (cs := #[.int .u64 0, .int .u64 0, .int .i64 0, .slice none 0 0]) rfl rfl rfl) ?_; rintro q
  refine h_q hflS rfl ?_
  refine h_done (d_seq (d_reg ?_))
  refine h_q hflS rfl ?_
  refine h_act (post := fun _ => [cell q 42 #[.int .u64 0, .int .u64 0, .int .i64 0, .slice none 0 0], TkT 50 g 0 0 0 ([]), X]) rfl (a_call (ent_of Try.func13 (by kernel_rfl) rfl) (fun w hH => Run.known_calls w) rfl rfl rfl) ?_; rintro ⟨⟩
  refine h_q hflS rfl ?_
  refine h_val rfl (.bool false) (fun b w hb hH => exec_pnil_eql (by kernel_rfl) rfl rfl rfl hb) ?_
  refine h_q hflS rfl ?_
  refine h_done (d_else rfl (d_skip (f_to (d_seq (d_reg ?_)))))
  refine h_q hflS rfl ?_
  refine h_done (d_block ?_)
  refine d_close [0] rfl TkT.mkN rfl ?_
  refine d_loop (α := Nat × Int × Int × Int × List UInt8) (fun ⟨i, bi, bt, bc, D⟩ => [(0, v1), (1, .bool many), (4, .bool false), (5, .pointer (some ⟨g, 0, none⟩)), (6, .pointer (some ⟨q, 0, none⟩)), (7, .int .i64 ((i : Nat) : Int))]) (fun ⟨i, bi, bt, bc, D⟩ => [TkT 42 q bi bt bc D, TkT 50 g bi bt bc D, X]) (fun ⟨i, bi, bt, bc, D⟩ => i ≤ l.length ∧ i ≤ 200 ∧ D.length ≤ 32768) (fun ⟨i, bi, bt, bc, D⟩ => l.length - i) (0, 0, 0, 0, []) ⟨Nat.zero_le _, Nat.zero_le _, Nat.zero_le _⟩ ⟨rfl, rfl, rfl, rfl, rfl, rfl, trivial⟩ rfl ?_
  rintro ⟨i, bi, bt, bc, D⟩ hI
  refine WC2.at_ (env' := [(0, v1), (1, .bool many), (4, .bool false), (5, .pointer (some ⟨g, 0, none⟩)), (6, .pointer (some ⟨q, 0, none⟩)), (7, .int .i64 ((i : Nat) : Int))]) (rs' := [TkT 42 q bi bt bc D, TkT 50 g bi bt bc D, X]) ⟨rfl, rfl, rfl, rfl, rfl, rfl, trivial⟩ rfl ?_
  have hI1 : i ≤ l.length := hI.1
  have hI2 : i ≤ 200 := hI.2.1
  have hD : D.length ≤ 32768 := hI.2.2
  refine d_seq ?_
  rcases (show (i < l.length ∧ i < 200) ∨ (i < l.length ∧ 200 ≤ i) ∨ l.length ≤ i by omega) with ⟨hi, hi2⟩ | ⟨hi, hi2⟩ | hi
  · skip
    obtain ⟨y, hy⟩ : ∃ y, l[i]? = some y := ⟨_, List.getElem?_eq_getElem hi⟩
    have hmy := List.mem_of_getElem? hy
    have hoy := ho1 y hmy
    have hXy := hXe y hmy
    obtain ⟨b1, of, A1, c1, d1, la, nr, wh⟩ := y
    have hXy : Rd8 X (.slice A1 d1.length c1) d1 := hXy
    have hb1 : 0 ≤ b1 ∧ b1 ≤ 18446744073709551615 := hoy.b
    have hof : -9223372036854775808 ≤ of ∧ of ≤ 9223372036854775807 := hoy.off
    have hwh : -9223372036854775808 ≤ wh ∧ wh ≤ 9223372036854775807 := hoy.what
    have hdl : d1.length ≤ 140737488351232 := hoy.hd
    refine d_reg ?_
    refine h_q hflS rfl ?_
    refine h_val rfl (.int .i64 (l.length : Int)) (fun b w hb hH => e_slen ((hH.rd 2 rfl hXs)) Try.underlying39 rfl rfl hb) ?_
    refine h_val rfl (.bool true) (fun b w hb hH => exec_cmp rfl rfl rfl (cmp_lss_t (by omega)) hb) ?_
    refine h_q hflS rfl ?_
    refine h_val rfl (.bool true) (fun b w hb hH => exec_cmp rfl rfl rfl (cmp_lss_t (by omega)) hb) ?_
    refine h_q hflS rfl ?_
    refine h_done (d_then rfl (d_skip (f_to (d_seq (d_block (d_reg ?_))))))
    refine h_q hflS rfl ?_
    refine h_val rfl (elp v1 (i * 6)) (fun b w hb hH => e_sidx okSk ((hH.rd 2 rfl hXs)) sl_bursarlaw16_Step (j := i) hy rfl rfl rfl hb) ?_
    refine h_val rfl (.agg (encSk (⟨b1, of, A1, c1, d1, la, nr, wh⟩ : StepC)).toArray) (fun b w hb hH => e_sagg okSk (by decide) ((hH.rd 2 rfl hXs)) (j := i) hy ty_bursarlaw16_Step rfl rfl hb) ?_
    refine h_act (post := fun g8 => [cell g8 44 #[.int .u64 0, .int .i64 0, .slice none 0 0, .bool false, .bool false, .int .i64 0], TkT 42 q bi bt bc D, TkT 50 g bi bt bc D, X]) rfl (a_alloc ze_bursarlaw16_Step rfl) ?_; rintro g8
    refine h_acts (post := fun _ => [cell g8 44 #[.int .u64 b1, .int .i64 of, .slice A1 d1.length c1, .bool la, .bool nr, .int .i64 wh], TkT 42 q bi bt bc D, TkT 50 g bi bt bc D, X]) rfl rfl (a_store 0 (v := .agg (encSk (⟨b1, of, A1, c1, d1, la, nr, wh⟩ : StepC)).toArray) #[.int .u64 b1, .int .i64 of, .slice A1 d1.length c1, .bool la, .bool nr, .int .i64 wh] ty_bursarlaw16_Step.2 rfl rfl rfl rfl rfl rfl rfl rfl rfl) ?_; rintro ⟨⟩
    refine h_done (d_seq ?_)
    obtain ⟨q20, hq20⟩ : ∃ q, wh.tmod 20 = q := ⟨_, rfl⟩
    rcases Classical.em (q20 = 19) with h19 | h19
    · skip
      refine d_reg ?_
      refine h_q hflS rfl ?_
      refine h_val rfl (.int .i64 wh) (fun b w hb hH => exec_load rfl rfl (reads_one ty_int rfl) (hH.row 0 rfl) hb) ?_
      refine h_val rfl (.int .i64 q20) (fun b w hb hH => exec_remI rfl rfl rfl (by decide) hq20 hb) ?_
      refine h_val rfl (.bool true) (fun b w hb hH => exec_cmp rfl rfl rfl (cmp_eql_t (by omega)) hb) ?_
      refine h_done (d_then rfl (d_reg ?_))
      refine h_q hflS rfl ?_
      refine h_act (post := fun _ => [cell g8 44 #[.int .u64 b1, .int .i64 of, .slice A1 d1.length c1, .bool la, .bool nr, .int .i64 wh], TkT 42 q bi bt bc D, TkT 50 g 0 0 0 ([]), X]) rfl (a_does (os' := fun _ => [cell g8 44 #[.int .u64 b1, .int .i64 of, .slice A1 d1.length c1, .bool la, .bool nr, .int .i64 wh], TkT 42 q bi bt bc D, TkT 50 g 0 0 0 ([]), X]) [2] 0 (ent_of Try.func12 (by kernel_rfl) rfl) (ck_clear g bi bt bc D) rfl rfl rfl (fun _ => rfl) rfl rfl rfl) ?_; rintro ⟨⟩
      refine h_done ?_
      refine d_open 1 rfl TkT.open_ (fun _ => rfl) ?_; rintro bv
      refine d_reg ?_
      refine h_q hflS rfl ?_
      refine h_val rfl (.agg #[.int .u64 0, .int .u64 0, .int .i64 0, .slice none 0 0]) (fun b w hb hH => exec_build rfl rfl (by kernel_rfl) hb) ?_
      refine h_val rfl (.pointer (some ⟨q, 0, none⟩)) (fun b w hb hH => by exact exec_nilCheck rfl rfl hb) ?_
      refine h_acts (post := fun _ => [cell q 42 #[.int .u64 0, .int .u64 0, .int .i64 0, .slice none 0 0], Vec 5 1 encB bv D, cell g8 44 #[.int .u64 b1, .int .i64 of, .slice A1 d1.length c1, .bool la, .bool nr, .int .i64 wh], TkT 50 g 0 0 0 ([]), X]) rfl rfl (a_store 0 (v := .agg #[.int .u64 0, .int .u64 0, .int .i64 0, .slice none 0 0]) #[.int .u64 0, .int .u64 0, .int .i64 0, .slice none 0 0] ty_bursarref15_Taker.2 rfl rfl rfl rfl rfl rfl rfl rfl rfl) ?_; rintro ⟨⟩
      refine h_done (d_exit (f_then_exit (f_block_exit (f_to ?_))))
      refine d_close [0] rfl TkT.mkN rfl ?_
      refine WC2.leave [1, 2] rfl rfl ?_
      refine d_reg1 ?_
      refine h_q hflS rfl ?_
      refine h_val rfl (.int .i64 ((i + 1 : Nat) : Int)) (fun b w hb hH => exec_ar rfl rfl rfl rfl (by rw [IntWalk.i64_in _ (by omega)]; omega) hb) ?_
      refine h_q hflS rfl ?_
      refine h_nil ?_
      exact f_again (i + 1, 0, 0, 0, []) 0 ⟨hi, hi2, Nat.zero_le _⟩ (show l.length - (i + 1) < l.length - i by omega) ⟨rfl, rfl, rfl, rfl, rfl, rfl, trivial⟩ rfl
    · skip
      obtain ⟨r, hr⟩ : ∃ r, 1 + b1 % 3 = r := ⟨_, rfl⟩
      refine d_reg ?_
      refine h_q hflS rfl ?_
      refine h_val rfl (.int .i64 wh) (fun b w hb hH => exec_load rfl rfl (reads_one ty_int rfl) (hH.row 0 rfl) hb) ?_
      refine h_val rfl (.int .i64 q20) (fun b w hb hH => exec_remI rfl rfl rfl (by decide) hq20 hb) ?_
      refine h_val rfl (.bool false) (fun b w hb hH => exec_cmp rfl rfl rfl (cmp_eql_f (by omega)) hb) ?_
      refine h_done (d_else rfl (d_skip (f_to (d_reg ?_))))
      refine h_q hflS rfl ?_
      refine h_val rfl (.int .u64 b1) (fun b w hb hH => exec_load rfl rfl (reads_one ty_uint64 rfl) (hH.row 0 rfl) hb) ?_
      refine h_act (post := fun _ => [cell g8 44 #[.int .u64 b1, .int .i64 of, .slice A1 d1.length c1, .bool la, .bool nr, .int .i64 wh], TkT 42 q bi bt bc D, TkT 50 g bi bt bc D, X]) rfl (a_call (ent_of Try.func11 (by kernel_rfl) rfl) (fun w hH => ck_b w b1 r hb1 hr) rfl rfl rfl) ?_; rintro ⟨⟩
      refine h_act (post := fun g9 => [cell g9 31 #[.int .u64 0, .int .u64 0, .int .i64 0], cell g8 44 #[.int .u64 b1, .int .i64 of, .slice A1 d1.length c1, .bool la, .bool nr, .int .i64 wh], TkT 42 q bi bt bc D, TkT 50 g bi bt bc D, X]) rfl (a_alloc ze_api_Base rfl) ?_; rintro g9
      refine h_acts (post := fun _ => [cell g9 31 #[.int .u64 r, .int .u64 2, .int .i64 14], cell g8 44 #[.int .u64 b1, .int .i64 of, .slice A1 d1.length c1, .bool la, .bool nr, .int .i64 wh], TkT 42 q bi bt bc D, TkT 50 g bi bt bc D, X]) rfl rfl (a_store 0 (v := .agg #[.int .u64 r, .int .u64 2, .int .i64 14]) #[.int .u64 r, .int .u64 2, .int .i64 14] ty_api_Base.2 rfl rfl rfl rfl rfl rfl rfl rfl rfl) ?_; rintro ⟨⟩
      refine h_done (d_seq ?_)
      cases nr
      · skip
        refine d_reg ?_
        refine h_q hflS rfl ?_
        refine h_val rfl (.bool false) (fun b w hb hH => exec_load rfl rfl (reads_one ty_bool rfl) (hH.row 1 rfl) hb) ?_
        refine h_done (d_else rfl (d_skip (f_to (d_reg ?_))))
        refine h_q hflS rfl ?_
        refine h_val rfl (.slice A1 d1.length c1) (fun b w hb hH => exec_load rfl rfl (reads_one ty_s_uint8 rfl) (hH.row 1 rfl) hb) ?_
        refine h_q hflS rfl ?_
        refine h_done (d_seq ?_)
        cases many
        · skip
          refine d_reg ?_
          refine h_q hflS rfl ?_
          refine h_done (d_else rfl (d_skip (f_to ?_)))
          obtain ⟨D0, hD0⟩ : ∃ z, keepL bi bt bc r 2 14 D = z := ⟨_, rfl⟩
          obtain ⟨⟨tb, R⟩, hR⟩ : ∃ z, takeL D0 of d1 la = z := ⟨_, rfl⟩
          have hD0l : D0.length ≤ 32768 := by rw [← hD0]; exact keepL_len hD
          have hRl : R.length ≤ 32768 := takeL_len hD0l hR
          refine d_reg ?_
          refine h_q hflS rfl ?_
          refine h_act (X := Value) (val := fun v : Value => v) (post := fun ov0 => [Vec 5 1 encB ov0 ([]), cell g9 31 #[.int .u64 r, .int .u64 2, .int .i64 14], cell g8 44 #[.int .u64 b1, .int .i64 of, .slice A1 d1.length c1, .bool la, .bool false, .int .i64 wh], TkT 42 q bi bt bc D, TkT 50 g bi bt bc D, X]) rfl (by refine a_build0 (e := 5) (t := 22) (k := 1) (enc := encB) ?_ ?_; exact sl_uint8; exact rfl) ?_; rintro ov0
          refine h_q hflS rfl ?_
          refine h_act (post := fun ov => [Vec 5 1 encB ov d1, cell g9 31 #[.int .u64 r, .int .u64 2, .int .i64 14], cell g8 44 #[.int .u64 b1, .int .i64 of, .slice A1 d1.length c1, .bool la, .bool false, .int .i64 wh], TkT 42 q bi bt bc D, TkT 50 g bi bt bc D, X]) rfl (a_append8 0 sl_uint8 (by kernel_rfl) rfl (d1) (fun w hH => (hH.rd8 5 rfl hXy).rd) (by simp only [List.length_nil]; omega) rfl rfl rfl (List.nil_append _)) ?_; rintro ov
          refine h_q hflS rfl ?_
          refine h_done (d_reg ?_)
          refine h_q hflS rfl ?_
          refine h_val rfl (.agg #[.int .u64 r, .int .u64 2, .int .i64 14]) (fun b w hb hH => exec_load rfl rfl (reads_agg (cs := [.int .u64 r, .int .u64 2, .int .i64 14]) ty_api_Base rfl) (hH.row 1 rfl) hb) ?_
          refine h_q hflS rfl ?_
          refine h_val rfl (.int .i64 of) (fun b w hb hH => exec_load rfl rfl (reads_one ty_int rfl) (hH.row 2 rfl) hb) ?_
          refine h_q hflS rfl ?_
          refine h_val rfl (.bool la) (fun b w hb hH => exec_load rfl rfl (reads_one ty_bool rfl) (hH.row 2 rfl) hb) ?_
          refine h_act (post := fun _ => [Vec 5 1 encB ov d1, cell g9 31 #[.int .u64 r, .int .u64 2, .int .i64 14], cell g8 44 #[.int .u64 b1, .int .i64 of, .slice A1 d1.length c1, .bool la, .bool false, .int .i64 wh], TkT 42 q bi bt bc D, TkT 50 g r 2 14 R, X]) rfl (a_does (os' := fun _ => [Vec 5 1 encB ov d1, cell g9 31 #[.int .u64 r, .int .u64 2, .int .i64 14], cell g8 44 #[.int .u64 b1, .int .i64 of, .slice A1 d1.length c1, .bool la, .bool false, .int .i64 wh], TkT 42 q bi bt bc D, TkT 50 g r 2 14 R, X]) [4, 0] 0 (ent_of Try.func10 (by kernel_rfl) rfl) (ck_takeN (Vec 5 1 encB ov d1) ov d1 rd8_vec (by omega) g bi bt bc r 2 14 D hD of (by omega) la D0 hD0 tb R hR (R.length : Int) rfl) rfl rfl rfl (fun _ => rfl) rfl rfl rfl) ?_; rintro ⟨⟩
          refine h_q hflS rfl ?_
          refine h_done (d_reg ?_)
          refine h_q hflS rfl ?_
          refine h_val rfl (.agg #[.int .u64 r, .int .u64 2, .int .i64 14]) (fun b w hb hH => exec_load rfl rfl (reads_agg (cs := [.int .u64 r, .int .u64 2, .int .i64 14]) ty_api_Base rfl) (hH.row 1 rfl) hb) ?_
          refine h_q hflS rfl ?_
          refine h_val rfl (.int .i64 of) (fun b w hb hH => exec_load rfl rfl (reads_one ty_int rfl) (hH.row 2 rfl) hb) ?_
          refine h_q hflS rfl ?_
          refine h_val rfl (.bool la) (fun b w hb hH => exec_load rfl rfl (reads_one ty_bool rfl) (hH.row 2 rfl) hb) ?_
          refine h_act (post := fun _ => [Vec 5 1 encB ov d1, cell g9 31 #[.int .u64 r, .int .u64 2, .int .i64 14], cell g8 44 #[.int .u64 b1, .int .i64 of, .slice A1 d1.length c1, .bool la, .bool false, .int .i64 wh], TkT 42 q r 2 14 R, TkT 50 g r 2 14 R, X]) rfl (a_does (os' := fun _ => [Vec 5 1 encB ov d1, cell g9 31 #[.int .u64 r, .int .u64 2, .int .i64 14], cell g8 44 #[.int .u64 b1, .int .i64 of, .slice A1 d1.length c1, .bool la, .bool false, .int .i64 wh], TkT 42 q r 2 14 R, TkT 50 g r 2 14 R, X]) [3, 5] 0 (ent_of Try.func19 (by kernel_rfl) rfl) (rk_takeN X (.slice A1 d1.length c1) d1 hXy (by omega) q bi bt bc r 2 14 D hD of (by omega) la D0 hD0 tb R hR (R.length : Int) rfl) rfl rfl rfl (fun _ => rfl) rfl rfl rfl) ?_; rintro ⟨⟩
          refine h_q hflS rfl ?_
          refine h_done (d_seq (d_reg ?_))
          refine h_q hflS rfl ?_
          refine h_done (d_block ?_)
          refine d_loop (α := Nat × List UInt8) (fun ⟨k, L⟩ => [(0, v1), (1, .bool false), (4, .bool false), (5, .pointer (some ⟨g, 0, none⟩)), (6, .pointer (some ⟨q, 0, none⟩)), (7, .int .i64 ((i : Nat) : Int)), (26, .int .i64 ((i : Nat) : Int)), (27, v1), (28, .int .i64 (l.length : Int)), (29, .bool true), (30, .bool true), (31, .int .i64 ((i : Nat) : Int)), (32, .bool true), (33, .bool true), (36, v1), (37, .int .i64 ((i : Nat) : Int)), (38, elp v1 (i * 6)), (39, .agg (encSk (⟨b1, of, A1, c1, d1, la, false, wh⟩ : StepC)).toArray), (8, .pointer (some ⟨g8, 0, none⟩)), (40, .pointer (some ⟨g8, 5, none⟩)), (41, .int .i64 wh), (42, .int .i64 q20), (43, .bool false), (49, .pointer (some ⟨g8, 0, none⟩)), (50, .int .u64 b1), (51, .agg #[.int .u64 r, .int .u64 2, .int .i64 14]), (9, .pointer (some ⟨g9, 0, none⟩)), (52, .pointer (some ⟨g8, 4, none⟩)), (53, .bool false), (61, .pointer (some ⟨g8, 2, none⟩)), (62, .slice A1 d1.length c1), (10, .slice A1 d1.length c1), (63, .bool false), (72, ov0), (73, .slice A1 d1.length c1), (74, ov), (11, ov), (76, .pointer (some ⟨g, 0, none⟩)), (77, .agg #[.int .u64 r, .int .u64 2, .int .i64 14]), (78, .pointer (some ⟨g8, 1, none⟩)), (79, .int .i64 of), (80, ov), (81, .pointer (some ⟨g8, 3, none⟩)), (82, .bool la), (83, .tuple #[.bool tb, .int .i64 (R.length : Int)]), (75, .tuple #[.bool tb, .int .i64 (R.length : Int)]), (84, .bool tb), (85, .int .i64 (R.length : Int)), (12, .bool tb), (13, .int .i64 (R.length : Int)), (87, .pointer (some ⟨q, 0, none⟩)), (88, .agg #[.int .u64 r, .int .u64 2, .int .i64 14]), (89, .pointer (some ⟨g8, 1, none⟩)), (90, .int .i64 of), (91, .slice A1 d1.length c1), (92, .pointer (some ⟨g8, 3, none⟩)), (93, .bool la), (94, .tuple #[.bool tb, .int .i64 (R.length : Int)]), (86, .tuple #[.bool tb, .int .i64 (R.length : Int)]), (95, .bool tb), (96, .int .i64 (R.length : Int)), (14, .bool tb), (15, .int .i64 (R.length : Int)), (16, .int .i64 ((k : Nat) : Int))]) (fun ⟨k, L⟩ => [Vec 5 1 encB ov L, cell g9 31 #[.int .u64 r, .int .u64 2, .int .i64 14], cell g8 44 #[.int .u64 b1, .int .i64 of, .slice A1 d1.length c1, .bool la, .bool false, .int .i64 wh], TkT 42 q r 2 14 R, TkT 50 g r 2 14 R, X]) (fun ⟨k, L⟩ => k ≤ d1.length ∧ L.length = d1.length) (fun ⟨k, L⟩ => d1.length - k) (0, d1) ⟨Nat.zero_le _, rfl⟩ ⟨rfl, rfl, rfl, rfl, rfl, rfl, rfl, rfl, rfl, rfl, rfl, rfl, rfl, rfl, rfl, rfl, rfl, rfl, rfl, rfl, rfl, rfl, rfl, rfl, rfl, rfl, rfl, rfl, rfl, rfl, rfl, rfl, rfl, rfl, rfl, rfl, rfl, rfl, rfl, rfl, rfl, rfl, rfl, rfl, rfl, rfl, rfl, rfl, rfl, rfl, rfl, rfl, rfl, rfl, rfl, rfl, rfl, rfl, rfl, rfl, rfl, rfl, rfl, rfl, trivial⟩ rfl ?_
          rintro ⟨k, L⟩ hK
          refine WC2.at_ (env' := [(0, v1), (1, .bool false), (4, .bool false), (5, .pointer (some ⟨g, 0, none⟩)), (6, .pointer (some ⟨q, 0, none⟩)), (7, .int .i64 ((i : Nat) : Int)), (26, .int .i64 ((i : Nat) : Int)), (27, v1), (28, .int .i64 (l.length : Int)), (29, .bool true), (30, .bool true), (31, .int .i64 ((i : Nat) : Int)), (32, .bool true), (33, .bool true), (36, v1), (37, .int .i64 ((i : Nat) : Int)), (38, elp v1 (i * 6)), (39, .agg (encSk (⟨b1, of, A1, c1, d1, la, false, wh⟩ : StepC)).toArray), (8, .pointer (some ⟨g8, 0, none⟩)), (40, .pointer (some ⟨g8, 5, none⟩)), (41, .int .i64 wh), (42, .int .i64 q20), (43, .bool false), (49, .pointer (some ⟨g8, 0, none⟩)), (50, .int .u64 b1), (51, .agg #[.int .u64 r, .int .u64 2, .int .i64 14]), (9, .pointer (some ⟨g9, 0, none⟩)), (52, .pointer (some ⟨g8, 4, none⟩)), (53, .bool false), (61, .pointer (some ⟨g8, 2, none⟩)), (62, .slice A1 d1.length c1), (10, .slice A1 d1.length c1), (63, .bool false), (72, ov0), (73, .slice A1 d1.length c1), (74, ov), (11, ov), (76, .pointer (some ⟨g, 0, none⟩)), (77, .agg #[.int .u64 r, .int .u64 2, .int .i64 14]), (78, .pointer (some ⟨g8, 1, none⟩)), (79, .int .i64 of), (80, ov), (81, .pointer (some ⟨g8, 3, none⟩)), (82, .bool la), (83, .tuple #[.bool tb, .int .i64 (R.length : Int)]), (75, .tuple #[.bool tb, .int .i64 (R.length : Int)]), (84, .bool tb), (85, .int .i64 (R.length : Int)), (12, .bool tb), (13, .int .i64 (R.length : Int)), (87, .pointer (some ⟨q, 0, none⟩)), (88, .agg #[.int .u64 r, .int .u64 2, .int .i64 14]), (89, .pointer (some ⟨g8, 1, none⟩)), (90, .int .i64 of), (91, .slice A1 d1.length c1), (92, .pointer (some ⟨g8, 3, none⟩)), (93, .bool la), (94, .tuple #[.bool tb, .int .i64 (R.length : Int)]), (86, .tuple #[.bool tb, .int .i64 (R.length : Int)]), (95, .bool tb), (96, .int .i64 (R.length : Int)), (14, .bool tb), (15, .int .i64 (R.length : Int)), (16, .int .i64 ((k : Nat) : Int))]) (rs' := [Vec 5 1 encB ov L, cell g9 31 #[.int .u64 r, .int .u64 2, .int .i64 14], cell g8 44 #[.int .u64 b1, .int .i64 of, .slice A1 d1.length c1, .bool la, .bool false, .int .i64 wh], TkT 42 q r 2 14 R, TkT 50 g r 2 14 R, X]) ⟨rfl, rfl, rfl, rfl, rfl, rfl, rfl, rfl, rfl, rfl, rfl, rfl, rfl, rfl, rfl, rfl, rfl, rfl, rfl, rfl, rfl, rfl, rfl, rfl, rfl, rfl, rfl, rfl, rfl, rfl, rfl, rfl, rfl, rfl, rfl, rfl, rfl, rfl, rfl, rfl, rfl, rfl, rfl, rfl, rfl, rfl, rfl, rfl, rfl, rfl, rfl, rfl, rfl, rfl, rfl, rfl, rfl, rfl, rfl, rfl, rfl, rfl, rfl, rfl, trivial⟩ rfl ?_
          have hK1 : k ≤ d1.length := hK.1
          have hKL : L.length = d1.length := hK.2
          refine d_seq ?_
          rcases Nat.lt_or_ge k d1.length with hk | hk
          · skip
            refine d_reg ?_
            refine h_q hflS rfl ?_
            refine h_val rfl (.int .i64 (L.length : Int)) (fun b w hb hH => e_vlen 0 Try.underlying22 rfl rfl rfl hH hb) ?_
            refine h_val rfl (.bool true) (fun b w hb hH => exec_cmp rfl rfl rfl (cmp_lss_t (by omega)) hb) ?_
            refine h_done (d_then rfl (d_skip (f_to (d_seq (d_block (d_reg1 ?_))))))
            refine h_q hflS rfl ?_
            refine h_val rfl (elp ov (k * 1)) (fun b w hb hH => e_vidx 0 sl_uint8 okB rfl k (by omega) rfl rfl rfl hH hb) ?_
            refine h_acts (post := fun _ => [Vec 5 1 encB ov (L.set k 238), cell g9 31 #[.int .u64 r, .int .u64 2, .int .i64 14], cell g8 44 #[.int .u64 b1, .int .i64 of, .slice A1 d1.length c1, .bool la, .bool false, .int .i64 wh], TkT 42 q r 2 14 R, TkT 50 g r 2 14 R, X]) rfl rfl (a_vstore1 0 ty_uint8 okB rfl k (by omega) 238 rfl rfl rfl rfl rfl) ?_; rintro ⟨⟩
            refine h_nil (f_block (f_to (d_reg1 ?_)))
            refine h_q hflS rfl ?_
            refine h_val rfl (.int .i64 ((k + 1 : Nat) : Int)) (fun b w hb hH => exec_ar rfl rfl rfl rfl (by rw [IntWalk.i64_in _ (by omega)]; omega) hb) ?_
            refine h_q hflS rfl ?_
            refine h_nil ?_
            exact f_again (k + 1, L.set k 238) 0 ⟨hk, (List.length_set ..).trans hKL⟩ (show d1.length - (k + 1) < d1.length - k by omega) ⟨rfl, rfl, rfl, rfl, rfl, rfl, rfl, rfl, rfl, rfl, rfl, rfl, rfl, rfl, rfl, rfl, rfl, rfl, rfl, rfl, rfl, rfl, rfl, rfl, rfl, rfl, rfl, rfl, rfl, rfl, rfl, rfl, rfl, rfl, rfl, rfl, rfl, rfl, rfl, rfl, rfl, rfl, rfl, rfl, rfl, rfl, rfl, rfl, rfl, rfl, rfl, rfl, rfl, rfl, rfl, rfl, rfl, rfl, rfl, rfl, rfl, rfl, rfl, rfl, trivial⟩ rfl
          · skip
            refine d_reg ?_
            refine h_q hflS rfl ?_
            refine h_val rfl (.int .i64 (L.length : Int)) (fun b w hb hH => e_vlen 0 Try.underlying22 rfl rfl rfl hH hb) ?_
            refine h_val rfl (.bool false) (fun b w hb hH => exec_cmp rfl rfl rfl (cmp_lss_f (by omega)) hb) ?_
            refine h_done (d_else rfl (d_exit (f_then_exit (f_then_exit (f_block_exit (f_to ?_))))))
            refine d_open 3 rfl TkT.open_ (fun _ => rfl) ?_; rintro bw
            refine d_seq ?_
            refine d_emps 1 rfl ?_
            refine d_parS 28 2 [⟨.quiet, [none, none], fun _ => .bool tb, []⟩, ⟨.quiet, [none, none], fun _ => .bool tb, []⟩, ⟨.quiet, [none, none], fun _ => .bool false, [0, 1]⟩, ⟨.quiet, [none, none], fun _ => .bool false, [2]⟩, ⟨.quiet, [none, none], fun _ => .int .i64 (R.length : Int), [3]⟩, ⟨.quiet, [none, none], fun _ => .int .i64 (R.length : Int), [3]⟩, ⟨.quiet, [none, none], fun _ => .bool false, [4, 5, 3]⟩, ⟨.quiet, [none, none], fun _ => .bool false, [3, 6]⟩, ⟨.quiet, [none, none], fun _ => .bool false, [7]⟩, ⟨.quiet, [none, none], fun _ => .pointer (some ⟨g, 0, none⟩), [8]⟩, ⟨.actv 0, [some false, some false], fun _ => .agg #[.int .u64 r, .int .u64 2, .int .i64 14], [9, 8]⟩, ⟨.quiet, [none, none], fun _ => .pointer (some ⟨q, 0, none⟩), [8]⟩, ⟨.quiet, [none, none], fun _ => .pointer (some ⟨q, 0, none⟩), [11, 8]⟩, ⟨.quiet, [none, none], fun _ => .pointer (some ⟨q, 0, none⟩), [12, 8]⟩, ⟨.quiet, [none, none], fun _ => .agg #[.int .u64 r, .int .u64 2, .int .i64 14], [13, 8]⟩, ⟨.quiet, [some true, none], fun _ => .bool false, [10, 14, 8]⟩, ⟨.quiet, [some true, none], fun _ => .bool false, [8, 15]⟩, ⟨.quiet, [some true, none], fun _ => .bool false, [16]⟩, ⟨.quiet, [some true, none], fun _ => .pointer (some ⟨g, 0, none⟩), [17]⟩, ⟨.act 1, [some true, some false], fun _ => undef, [18, 17]⟩, ⟨.quiet, [some true, some true], fun _ => .int .i64 (R.length : Int), [19, 17]⟩, ⟨.quiet, [some true, none], fun _ => .pointer (some ⟨q, 0, none⟩), [17]⟩, ⟨.quiet, [some true, none], fun _ => .pointer (some ⟨q, 0, none⟩), [21, 17]⟩, ⟨.quiet, [some true, none], fun _ => .pointer (some ⟨q, 3, none⟩), [22, 17]⟩, ⟨.quiet, [some true, none], fun _ => bw, [23, 17]⟩, ⟨.quiet, [some true, none], fun _ => .int .i64 (R.length : Int), [24, 17]⟩, ⟨.quiet, [some true, some true], fun _ => .bool false, [20, 25, 17]⟩, ⟨.quiet, [some true, some true], fun _ => .bool false, [17, 26]⟩] [(0, v1), (1, .bool false), (4, .bool false), (5, .pointer (some ⟨g, 0, none⟩)), (6, .pointer (some ⟨q, 0, none⟩)), (7, .int .i64 ((i : Nat) : Int)), (26, .int .i64 ((i : Nat) : Int)), (27, v1), (28, .int .i64 (l.length : Int)), (29, .bool true), (30, .bool true), (31, .int .i64 ((i : Nat) : Int)), (32, .bool true), (33, .bool true), (36, v1), (37, .int .i64 ((i : Nat) : Int)), (38, elp v1 (i * 6)), (39, .agg (encSk (⟨b1, of, A1, c1, d1, la, false, wh⟩ : StepC)).toArray), (8, .pointer (some ⟨g8, 0, none⟩)), (40, .pointer (some ⟨g8, 5, none⟩)), (41, .int .i64 wh), (42, .int .i64 q20), (43, .bool false), (49, .pointer (some ⟨g8, 0, none⟩)), (50, .int .u64 b1), (51, .agg #[.int .u64 r, .int .u64 2, .int .i64 14]), (9, .pointer (some ⟨g9, 0, none⟩)), (52, .pointer (some ⟨g8, 4, none⟩)), (53, .bool false), (61, .pointer (some ⟨g8, 2, none⟩)), (62, .slice A1 d1.length c1), (10, .slice A1 d1.length c1), (63, .bool false), (72, ov0), (73, .slice A1 d1.length c1), (74, ov), (11, ov), (76, .pointer (some ⟨g, 0, none⟩)), (77, .agg #[.int .u64 r, .int .u64 2, .int .i64 14]), (78, .pointer (some ⟨g8, 1, none⟩)), (79, .int .i64 of), (80, ov), (81, .pointer (some ⟨g8, 3, none⟩)), (82, .bool la), (83, .tuple #[.bool tb, .int .i64 (R.length : Int)]), (75, .tuple #[.bool tb, .int .i64 (R.length : Int)]), (84, .bool tb), (85, .int .i64 (R.length : Int)), (12, .bool tb), (13, .int .i64 (R.length : Int)), (87, .pointer (some ⟨q, 0, none⟩)), (88, .agg #[.int .u64 r, .int .u64 2, .int .i64 14]), (89, .pointer (some ⟨g8, 1, none⟩)), (90, .int .i64 of), (91, .slice A1 d1.length c1), (92, .pointer (some ⟨g8, 3, none⟩)), (93, .bool la), (94, .tuple #[.bool tb, .int .i64 (R.length : Int)]), (86, .tuple #[.bool tb, .int .i64 (R.length : Int)]), (95, .bool tb), (96, .int .i64 (R.length : Int)), (14, .bool tb), (15, .int .i64 (R.length : Int)), (16, .int .i64 ((k : Nat) : Int)), (97, .int .i64 ((k : Nat) : Int)), (98, ov), (99, .int .i64 (L.length : Int)), (100, .bool false)] (fun ρ => match ρ with | [rq0, rq1] => [selS rq1 (fun dv => Vec 5 1 encB dv R) (emp), cell q 42 #[.int .u64 r, .int .u64 2, .int .i64 14, bw], Vec 5 1 encB bw R, Vec 5 1 encB ov L, cell g9 31 #[.int .u64 r, .int .u64 2, .int .i64 14], cell g8 44 #[.int .u64 b1, .int .i64 of, .slice A1 d1.length c1, .bool la, .bool false, .int .i64 wh], TkT 50 g r 2 14 R, X] | _ => []) (by kernel_rfl) (by kernel_rfl) ⟨rfl, rfl, rfl, rfl, rfl, rfl, rfl, rfl, rfl, rfl, rfl, rfl, rfl, rfl, rfl, rfl, rfl, rfl, rfl, rfl, rfl, rfl, rfl, rfl, rfl, rfl, rfl, rfl, rfl, rfl, rfl, rfl, rfl, rfl, rfl, rfl, rfl, rfl, rfl, rfl, rfl, rfl, rfl, rfl, rfl, rfl, rfl, rfl, rfl, rfl, rfl, rfl, rfl, rfl, rfl, rfl, rfl, rfl, rfl, rfl, rfl, rfl, rfl, rfl, rfl, rfl, rfl, rfl, trivial⟩ rfl ?_ ?_
            · skip
              refine s_cons (by intro r0_ r1_; exact ⟨rfl, fun b w hH hb => exec_q1 hflS rfl hb⟩) ?_
              refine s_cons (by intro r0_ r1_; exact ⟨rfl, fun b w hH hb => exec_q1 hflS rfl hb⟩) ?_
              refine s_cons (by intro r0_ r1_; exact ⟨rfl, fun b w hH hb => exec_nes (neB_same _) rfl rfl rfl hb⟩) ?_
              refine s_cons (by intro r0_ r1_; exact ⟨rfl, fun b w hH hb => exec_q1 hflS rfl hb⟩) ?_
              refine s_cons (by intro r0_ r1_; exact ⟨rfl, fun b w hH hb => exec_q1 hflS rfl hb⟩) ?_
              refine s_cons (by intro r0_ r1_; exact ⟨rfl, fun b w hH hb => exec_q1 hflS rfl hb⟩) ?_
              refine s_cons (by intro r0_ r1_; exact ⟨rfl, fun b w hH hb => exec_cmp rfl rfl rfl (cmp_neq_f (by simp)) hb⟩) ?_
              refine s_cons (by intro r0_ r1_; exact ⟨rfl, fun b w hH hb => exec_q1 hflS rfl hb⟩) ?_
              refine s_cons (by intro r0_ r1_; exact ⟨rfl, fun b w hH hb => exec_q1 hflS rfl hb⟩) ?_
              refine s_cons (by intro r0_ r1_; exact ⟨rfl, fun b w hH hb => exec_q1 hflS rfl hb⟩) ?_
              refine s_cons (by exact ⟨rfl, Acts.su (a_does (os' := fun _ => [emp, cell q 42 #[.int .u64 r, .int .u64 2, .int .i64 14, bw], Vec 5 1 encB bw R, Vec 5 1 encB ov L, cell g9 31 #[.int .u64 r, .int .u64 2, .int .i64 14], cell g8 44 #[.int .u64 b1, .int .i64 of, .slice A1 d1.length c1, .bool la, .bool false, .int .i64 wh], TkT 50 g r 2 14 R, X]) [6] 0 (ent_of Try.func14 (by kernel_rfl) rfl) (ck_base g r 2 14 R) rfl rfl rfl (fun _ => rfl) rfl rfl rfl) rfl⟩) ?_
              refine s_cons (by intro r0_ r1_; exact ⟨rfl, fun b w hH hb => exec_q1 hflS rfl hb⟩) ?_
              refine s_cons (by intro r0_ r1_; exact ⟨rfl, fun b w hH hb => by exact exec_nilCheck rfl rfl hb⟩) ?_
              refine s_cons (by intro r0_ r1_; exact ⟨rfl, fun b w hH hb => exec_q1 hflS rfl hb⟩) ?_
              refine s_cons (by intro r0_ r1_; exact ⟨rfl, fun b w hH hb => exec_load rfl rfl (reads_agg (cs := [.int .u64 r, .int .u64 2, .int .i64 14, bw]) ty_api_Base rfl) (hH.row 1 rfl) hb⟩) ?_
              refine s_cons (by intro v0_ r1_; exact ⟨rfl, fun b w hH hb => exec_nes (neBaseF r 2 14) rfl rfl rfl hb⟩) ?_
              refine s_cons (by intro v0_ r1_; exact ⟨rfl, fun b w hH hb => exec_q1 hflS rfl hb⟩) ?_
              refine s_cons (by intro v0_ r1_; exact ⟨rfl, fun b w hH hb => exec_q1 hflS rfl hb⟩) ?_
              refine s_cons (by intro v0_ r1_; exact ⟨rfl, fun b w hH hb => exec_q1 hflS rfl hb⟩) ?_
              refine s_cons (by intro v0_; exact ⟨rfl, Acts.s (a_does (os' := fun dv => [Vec 5 1 encB dv R, cell q 42 #[.int .u64 r, .int .u64 2, .int .i64 14, bw], Vec 5 1 encB bw R, Vec 5 1 encB ov L, cell g9 31 #[.int .u64 r, .int .u64 2, .int .i64 14], cell g8 44 #[.int .u64 b1, .int .i64 of, .slice A1 d1.length c1, .bool la, .bool false, .int .i64 wh], TkT 50 g r 2 14 R, X]) [6, 0] 1 (ent_of Try.func15 (by kernel_rfl) rfl) (ck_data g r 2 14 R hRl) rfl rfl rfl (fun _ => rfl) rfl rfl rfl) (fun _ => rfl)⟩) ?_
              refine s_cons (by intro v0_ dv; exact ⟨rfl, fun b w hH hb => e_vlen 0 Try.underlying22 rfl rfl rfl hH hb⟩) ?_
              refine s_cons (by intro v0_ r1_; exact ⟨rfl, fun b w hH hb => exec_q1 hflS rfl hb⟩) ?_
              refine s_cons (by intro v0_ r1_; exact ⟨rfl, fun b w hH hb => by exact exec_nilCheck rfl rfl hb⟩) ?_
              refine s_cons (by intro v0_ r1_; exact ⟨rfl, fun b w hH hb => exec_q1 hflS rfl hb⟩) ?_
              refine s_cons (by intro v0_ r1_; exact ⟨rfl, fun b w hH hb => exec_load rfl rfl (reads_one ty_s_uint8 rfl) (hH.row 1 rfl) hb⟩) ?_
              refine s_cons (by intro v0_ r1_; exact ⟨rfl, fun b w hH hb => e_vlen 2 Try.underlying22 rfl rfl rfl hH hb⟩) ?_
              refine s_cons (by intro v0_ dv; exact ⟨rfl, fun b w hH hb => exec_cmp rfl rfl rfl (cmp_neq_f (by simp)) hb⟩) ?_
              refine s_cons (by intro v0_ dv; exact ⟨rfl, fun b w hH hb => exec_q1 hflS rfl hb⟩) ?_
              exact s_nil
            intro v0_ dv
            refine WL2.keep (env' := [(0, v1), (1, .bool false), (4, .bool false), (5, .pointer (some ⟨g, 0, none⟩)), (6, .pointer (some ⟨q, 0, none⟩)), (7, .int .i64 ((i : Nat) : Int)), (26, .int .i64 ((i : Nat) : Int)), (27, v1), (28, .int .i64 (l.length : Int)), (29, .bool true), (30, .bool true), (31, .int .i64 ((i : Nat) : Int)), (32, .bool true), (33, .bool true), (36, v1), (37, .int .i64 ((i : Nat) : Int)), (38, elp v1 (i * 6)), (39, .agg (encSk (⟨b1, of, A1, c1, d1, la, false, wh⟩ : StepC)).toArray), (8, .pointer (some ⟨g8, 0, none⟩)), (40, .pointer (some ⟨g8, 5, none⟩)), (41, .int .i64 wh), (42, .int .i64 q20), (43, .bool false), (49, .pointer (some ⟨g8, 0, none⟩)), (50, .int .u64 b1), (51, .agg #[.int .u64 r, .int .u64 2, .int .i64 14]), (9, .pointer (some ⟨g9, 0, none⟩)), (52, .pointer (some ⟨g8, 4, none⟩)), (53, .bool false), (61, .pointer (some ⟨g8, 2, none⟩)), (62, .slice A1 d1.length c1), (10, .slice A1 d1.length c1), (63, .bool false), (72, ov0), (73, .slice A1 d1.length c1), (74, ov), (11, ov), (76, .pointer (some ⟨g, 0, none⟩)), (77, .agg #[.int .u64 r, .int .u64 2, .int .i64 14]), (78, .pointer (some ⟨g8, 1, none⟩)), (79, .int .i64 of), (80, ov), (81, .pointer (some ⟨g8, 3, none⟩)), (82, .bool la), (83, .tuple #[.bool tb, .int .i64 (R.length : Int)]), (75, .tuple #[.bool tb, .int .i64 (R.length : Int)]), (84, .bool tb), (85, .int .i64 (R.length : Int)), (12, .bool tb), (13, .int .i64 (R.length : Int)), (87, .pointer (some ⟨q, 0, none⟩)), (88, .agg #[.int .u64 r, .int .u64 2, .int .i64 14]), (89, .pointer (some ⟨g8, 1, none⟩)), (90, .int .i64 of), (91, .slice A1 d1.length c1), (92, .pointer (some ⟨g8, 3, none⟩)), (93, .bool la), (94, .tuple #[.bool tb, .int .i64 (R.length : Int)]), (86, .tuple #[.bool tb, .int .i64 (R.length : Int)]), (95, .bool tb), (96, .int .i64 (R.length : Int)), (14, .bool tb), (15, .int .i64 (R.length : Int)), (16, .int .i64 ((k : Nat) : Int)), (97, .int .i64 ((k : Nat) : Int)), (98, ov), (99, .int .i64 (L.length : Int)), (100, .bool false), (106, .bool tb), (107, .bool tb), (108, .bool false), (109, .bool false), (110, .int .i64 (R.length : Int)), (111, .int .i64 (R.length : Int)), (112, .bool false), (113, .bool false), (114, .bool false), (115, .pointer (some ⟨g, 0, none⟩)), (116, .agg #[.int .u64 r, .int .u64 2, .int .i64 14]), (117, .pointer (some ⟨q, 0, none⟩)), (118, .pointer (some ⟨q, 0, none⟩)), (119, .pointer (some ⟨q, 0, none⟩)), (120, .agg #[.int .u64 r, .int .u64 2, .int .i64 14]), (121, .bool false), (122, .bool false), (123, .bool false), (124, .pointer (some ⟨g, 0, none⟩)), (125, dv), (126, .int .i64 (R.length : Int)), (127, .pointer (some ⟨q, 0, none⟩)), (128, .pointer (some ⟨q, 0, none⟩)), (129, .pointer (some ⟨q, 3, none⟩)), (130, bw), (131, .int .i64 (R.length : Int)), (132, .bool false), (133, .bool false)]) ⟨rfl, rfl, rfl, rfl, rfl, rfl, rfl, rfl, rfl, rfl, rfl, rfl, rfl, rfl, rfl, rfl, rfl, rfl, rfl, rfl, rfl, rfl, rfl, rfl, rfl, rfl, rfl, rfl, rfl, rfl, rfl, rfl, rfl, rfl, rfl, rfl, rfl, rfl, rfl, rfl, rfl, rfl, rfl, rfl, rfl, rfl, rfl, rfl, rfl, rfl, rfl, rfl, rfl, rfl, rfl, rfl, rfl, rfl, rfl, rfl, rfl, rfl, rfl, rfl, rfl, rfl, rfl, rfl, rfl, rfl, rfl, rfl, rfl, rfl, rfl, rfl, rfl, rfl, rfl, rfl, rfl, rfl, rfl, rfl, rfl, rfl, rfl, rfl, rfl, rfl, rfl, rfl, rfl, rfl, rfl, rfl, trivial⟩ ?_
            refine h_nil (f_to (d_else rfl (d_skip (f_block (f_to ?_)))))
            refine d_close [1, 2] rfl TkT.mk rfl ?_
            refine WC2.leave [1, 2, 3, 4] rfl rfl ?_
            refine d_reg1 ?_
            refine h_q hflS rfl ?_
            refine h_val rfl (.int .i64 ((i + 1 : Nat) : Int)) (fun b w hb hH => exec_ar rfl rfl rfl rfl (by rw [IntWalk.i64_in _ (by omega)]; omega) hb) ?_
            refine h_q hflS rfl ?_
            refine h_nil ?_
            exact f_again (i + 1, r, 2, 14, R) 0 ⟨hi, hi2, hRl⟩ (show l.length - (i + 1) < l.length - i by omega) ⟨rfl, rfl, rfl, rfl, rfl, rfl, trivial⟩ rfl
        · skip
          obtain ⟨q3, hq3⟩ : ∃ q, wh.tmod 3 = q := ⟨_, rfl⟩
          have hq31 : -3 < q3 ∧ q3 < 3 := by rw [← hq3]; exact ⟨by have := Int.tmod_lt_of_pos (-wh) (show (0 : Int) < 3 by decide); rw [Int.neg_tmod] at this; omega, Int.tmod_lt_of_pos wh (by decide)⟩
          obtain ⟨m, hm⟩ : ∃ m : Nat, (256 * (1 + q3)) % 1500 = (m : Int) := ⟨((256 * (1 + q3)) % 1500).toNat, by omega⟩
          have hm1 : m < 1500 := by omega
          refine d_reg ?_
          refine h_q hflS rfl ?_
          refine h_done (d_then rfl (d_reg1 ?_))
          refine h_q hflS rfl ?_
          refine h_val rfl (.int .i64 wh) (fun b w hb hH => exec_load rfl rfl (reads_one ty_int rfl) (hH.row 1 rfl) hb) ?_
          refine h_val rfl (.int .i64 q3) (fun b w hb hH => exec_remI rfl rfl rfl (by decide) hq3 hb) ?_
          refine h_val rfl (.int .i64 (1 + q3)) (fun b w hb hH => exec_ar rfl rfl rfl rfl (IntWalk.i64_in _ (by omega)) hb) ?_
          refine h_val rfl (.int .i64 (256 * (1 + q3))) (fun b w hb hH => exec_ar rfl rfl rfl rfl (IntWalk.i64_in _ (by omega)) hb) ?_
          refine h_q hflS rfl ?_
          refine h_val rfl (.slice A1 d1.length c1) (fun b w hb hH => exec_load rfl rfl (reads_one ty_s_uint8 rfl) (hH.row 1 rfl) hb) ?_
          refine h_act (post := fun (x : DatV m) => [Vec 5 1 encB x.v x.l, cell g9 31 #[.int .u64 r, .int .u64 2, .int .i64 14], cell g8 44 #[.int .u64 b1, .int .i64 of, .slice A1 d1.length c1, .bool la, .bool false, .int .i64 wh], TkT 42 q bi bt bc D, TkT 50 g bi bt bc D, X]) rfl (a_does (os' := fun (x : DatV m) => [Vec 5 1 encB x.v x.l, cell g9 31 #[.int .u64 r, .int .u64 2, .int .i64 14], cell g8 44 #[.int .u64 b1, .int .i64 of, .slice A1 d1.length c1, .bool la, .bool false, .int .i64 wh], TkT 42 q bi bt bc D, TkT 50 g bi bt bc D, X]) [4] 0 (ent_of Try.func16 (by kernel_rfl) rfl) (data_does X (.slice A1 d1.length c1) d1 hXy (256 * (1 + q3)) (by omega) m hm) rfl rfl rfl (fun _ => rfl) rfl rfl rfl) ?_; rintro x
          refine h_q hflS rfl ?_
          refine h_nil (f_to ?_)
          have hxl := x.h
          obtain ⟨D0, hD0⟩ : ∃ z, keepL bi bt bc r 2 14 D = z := ⟨_, rfl⟩
          obtain ⟨⟨tb, R⟩, hR⟩ : ∃ z, takeL D0 of x.l la = z := ⟨_, rfl⟩
          have hD0l : D0.length ≤ 32768 := by rw [← hD0]; exact keepL_len hD
          have hRl : R.length ≤ 32768 := takeL_len hD0l hR
          refine d_reg ?_
          refine h_q hflS rfl ?_
          refine h_act (X := Value) (val := fun v : Value => v) (post := fun ov0 => [Vec 5 1 encB ov0 ([]), Vec 5 1 encB x.v x.l, cell g9 31 #[.int .u64 r, .int .u64 2, .int .i64 14], cell g8 44 #[.int .u64 b1, .int .i64 of, .slice A1 d1.length c1, .bool la, .bool false, .int .i64 wh], TkT 42 q bi bt bc D, TkT 50 g bi bt bc D, X]) rfl (by refine a_build0 (e := 5) (t := 22) (k := 1) (enc := encB) ?_ ?_; exact sl_uint8; exact rfl) ?_; rintro ov0
          refine h_q hflS rfl ?_
          refine h_act (post := fun ov => [Vec 5 1 encB ov x.l, Vec 5 1 encB x.v x.l, cell g9 31 #[.int .u64 r, .int .u64 2, .int .i64 14], cell g8 44 #[.int .u64 b1, .int .i64 of, .slice A1 d1.length c1, .bool la, .bool false, .int .i64 wh], TkT 42 q bi bt bc D, TkT 50 g bi bt bc D, X]) rfl (a_append8 0 sl_uint8 (by kernel_rfl) rfl (x.l) (fun w hH => hH.vec 1 rfl okB) (by simp only [List.length_nil]; omega) rfl rfl rfl (List.nil_append _)) ?_; rintro ov
          refine h_q hflS rfl ?_
          refine h_done (d_reg ?_)
          refine h_q hflS rfl ?_
          refine h_val rfl (.agg #[.int .u64 r, .int .u64 2, .int .i64 14]) (fun b w hb hH => exec_load rfl rfl (reads_agg (cs := [.int .u64 r, .int .u64 2, .int .i64 14]) ty_api_Base rfl) (hH.row 2 rfl) hb) ?_
          refine h_q hflS rfl ?_
          refine h_val rfl (.int .i64 of) (fun b w hb hH => exec_load rfl rfl (reads_one ty_int rfl) (hH.row 3 rfl) hb) ?_
          refine h_q hflS rfl ?_
          refine h_val rfl (.bool la) (fun b w hb hH => exec_load rfl rfl (reads_one ty_bool rfl) (hH.row 3 rfl) hb) ?_
          refine h_act (post := fun _ => [Vec 5 1 encB ov x.l, Vec 5 1 encB x.v x.l, cell g9 31 #[.int .u64 r, .int .u64 2, .int .i64 14], cell g8 44 #[.int .u64 b1, .int .i64 of, .slice A1 d1.length c1, .bool la, .bool false, .int .i64 wh], TkT 42 q bi bt bc D, TkT 50 g r 2 14 R, X]) rfl (a_does (os' := fun _ => [Vec 5 1 encB ov x.l, Vec 5 1 encB x.v x.l, cell g9 31 #[.int .u64 r, .int .u64 2, .int .i64 14], cell g8 44 #[.int .u64 b1, .int .i64 of, .slice A1 d1.length c1, .bool la, .bool false, .int .i64 wh], TkT 42 q bi bt bc D, TkT 50 g r 2 14 R, X]) [5, 0] 0 (ent_of Try.func10 (by kernel_rfl) rfl) (ck_takeN (Vec 5 1 encB ov x.l) ov x.l rd8_vec (by omega) g bi bt bc r 2 14 D hD of (by omega) la D0 hD0 tb R hR (R.length : Int) rfl) rfl rfl rfl (fun _ => rfl) rfl rfl rfl) ?_; rintro ⟨⟩
          refine h_q hflS rfl ?_
          refine h_done (d_reg ?_)
          refine h_q hflS rfl ?_
          refine h_val rfl (.agg #[.int .u64 r, .int .u64 2, .int .i64 14]) (fun b w hb hH => exec_load rfl rfl (reads_agg (cs := [.int .u64 r, .int .u64 2, .int .i64 14]) ty_api_Base rfl) (hH.row 2 rfl) hb) ?_
          refine h_q hflS rfl ?_
          refine h_val rfl (.int .i64 of) (fun b w hb hH => exec_load rfl rfl (reads_one ty_int rfl) (hH.row 3 rfl) hb) ?_
          refine h_q hflS rfl ?_
          refine h_val rfl (.bool la) (fun b w hb hH => exec_load rfl rfl (reads_one ty_bool rfl) (hH.row 3 rfl) hb) ?_
          refine h_act (post := fun _ => [Vec 5 1 encB ov x.l, Vec 5 1 encB x.v x.l, cell g9 31 #[.int .u64 r, .int .u64 2, .int .i64 14], cell g8 44 #[.int .u64 b1, .int .i64 of, .slice A1 d1.length c1, .bool la, .bool false, .int .i64 wh], TkT 42 q r 2 14 R, TkT 50 g r 2 14 R, X]) rfl (a_does (os' := fun _ => [Vec 5 1 encB ov x.l, Vec 5 1 encB x.v x.l, cell g9 31 #[.int .u64 r, .int .u64 2, .int .i64 14], cell g8 44 #[.int .u64 b1, .int .i64 of, .slice A1 d1.length c1, .bool la, .bool false, .int .i64 wh], TkT 42 q r 2 14 R, TkT 50 g r 2 14 R, X]) [4, 1] 0 (ent_of Try.func19 (by kernel_rfl) rfl) (rk_takeN (Vec 5 1 encB x.v x.l) x.v x.l rd8_vec (by omega) q bi bt bc r 2 14 D hD of (by omega) la D0 hD0 tb R hR (R.length : Int) rfl) rfl rfl rfl (fun _ => rfl) rfl rfl rfl) ?_; rintro ⟨⟩
          refine h_q hflS rfl ?_
          refine h_done (d_seq (d_reg ?_))
          refine h_q hflS rfl ?_
          refine h_done (d_block ?_)
          refine d_loop (α := Nat × List UInt8) (fun ⟨k, L⟩ => [(0, v1), (1, .bool true), (4, .bool false), (5, .pointer (some ⟨g, 0, none⟩)), (6, .pointer (some ⟨q, 0, none⟩)), (7, .int .i64 ((i : Nat) : Int)), (26, .int .i64 ((i : Nat) : Int)), (27, v1), (28, .int .i64 (l.length : Int)), (29, .bool true), (30, .bool true), (31, .int .i64 ((i : Nat) : Int)), (32, .bool true), (33, .bool true), (36, v1), (37, .int .i64 ((i : Nat) : Int)), (38, elp v1 (i * 6)), (39, .agg (encSk (⟨b1, of, A1, c1, d1, la, false, wh⟩ : StepC)).toArray), (8, .pointer (some ⟨g8, 0, none⟩)), (40, .pointer (some ⟨g8, 5, none⟩)), (41, .int .i64 wh), (42, .int .i64 q20), (43, .bool false), (49, .pointer (some ⟨g8, 0, none⟩)), (50, .int .u64 b1), (51, .agg #[.int .u64 r, .int .u64 2, .int .i64 14]), (9, .pointer (some ⟨g9, 0, none⟩)), (52, .pointer (some ⟨g8, 4, none⟩)), (53, .bool false), (61, .pointer (some ⟨g8, 2, none⟩)), (62, .slice A1 d1.length c1), (63, .bool true), (64, .pointer (some ⟨g8, 5, none⟩)), (65, .int .i64 wh), (66, .int .i64 q3), (67, .int .i64 (1 + q3)), (68, .int .i64 (256 * (1 + q3))), (69, .pointer (some ⟨g8, 2, none⟩)), (70, .slice A1 d1.length c1), (71, x.v), (10, x.v), (72, ov0), (73, x.v), (74, ov), (11, ov), (76, .pointer (some ⟨g, 0, none⟩)), (77, .agg #[.int .u64 r, .int .u64 2, .int .i64 14]), (78, .pointer (some ⟨g8, 1, none⟩)), (79, .int .i64 of), (80, ov), (81, .pointer (some ⟨g8, 3, none⟩)), (82, .bool la), (83, .tuple #[.bool tb, .int .i64 (R.length : Int)]), (75, .tuple #[.bool tb, .int .i64 (R.length : Int)]), (84, .bool tb), (85, .int .i64 (R.length : Int)), (12, .bool tb), (13, .int .i64 (R.length : Int)), (87, .pointer (some ⟨q, 0, none⟩)), (88, .agg #[.int .u64 r, .int .u64 2, .int .i64 14]), (89, .pointer (some ⟨g8, 1, none⟩)), (90, .int .i64 of), (91, x.v), (92, .pointer (some ⟨g8, 3, none⟩)), (93, .bool la), (94, .tuple #[.bool tb, .int .i64 (R.length : Int)]), (86, .tuple #[.bool tb, .int .i64 (R.length : Int)]), (95, .bool tb), (96, .int .i64 (R.length : Int)), (14, .bool tb), (15, .int .i64 (R.length : Int)), (16, .int .i64 ((k : Nat) : Int))]) (fun ⟨k, L⟩ => [Vec 5 1 encB ov L, Vec 5 1 encB x.v x.l, cell g9 31 #[.int .u64 r, .int .u64 2, .int .i64 14], cell g8 44 #[.int .u64 b1, .int .i64 of, .slice A1 d1.length c1, .bool la, .bool false, .int .i64 wh], TkT 42 q r 2 14 R, TkT 50 g r 2 14 R, X]) (fun ⟨k, L⟩ => k ≤ x.l.length ∧ L.length = x.l.length) (fun ⟨k, L⟩ => x.l.length - k) (0, x.l) ⟨Nat.zero_le _, rfl⟩ ⟨rfl, rfl, rfl, rfl, rfl, rfl, rfl, rfl, rfl, rfl, rfl, rfl, rfl, rfl, rfl, rfl, rfl, rfl, rfl, rfl, rfl, rfl, rfl, rfl, rfl, rfl, rfl, rfl, rfl, rfl, rfl, rfl, rfl, rfl, rfl, rfl, rfl, rfl, rfl, rfl, rfl, rfl, rfl, rfl, rfl, rfl, rfl, rfl, rfl, rfl, rfl, rfl, rfl, rfl, rfl, rfl, rfl, rfl, rfl, rfl, rfl, rfl, rfl, rfl, rfl, rfl, rfl, rfl, rfl, rfl, rfl, rfl, trivial⟩ rfl ?_
          rintro ⟨k, L⟩ hK
          refine WC2.at_ (env' := [(0, v1), (1, .bool true), (4, .bool false), (5, .pointer (some ⟨g, 0, none⟩)), (6, .pointer (some ⟨q, 0, none⟩)), (7, .int .i64 ((i : Nat) : Int)), (26, .int .i64 ((i : Nat) : Int)), (27, v1), (28, .int .i64 (l.length : Int)), (29, .bool true), (30, .bool true), (31, .int .i64 ((i : Nat) : Int)), (32, .bool true), (33, .bool true), (36, v1), (37, .int .i64 ((i : Nat) : Int)), (38, elp v1 (i * 6)), (39, .agg (encSk (⟨b1, of, A1, c1, d1, la, false, wh⟩ : StepC)).toArray), (8, .pointer (some ⟨g8, 0, none⟩)), (40, .pointer (some ⟨g8, 5, none⟩)), (41, .int .i64 wh), (42, .int .i64 q20), (43, .bool false), (49, .pointer (some ⟨g8, 0, none⟩)), (50, .int .u64 b1), (51, .agg #[.int .u64 r, .int .u64 2, .int .i64 14]), (9, .pointer (some ⟨g9, 0, none⟩)), (52, .pointer (some ⟨g8, 4, none⟩)), (53, .bool false), (61, .pointer (some ⟨g8, 2, none⟩)), (62, .slice A1 d1.length c1), (63, .bool true), (64, .pointer (some ⟨g8, 5, none⟩)), (65, .int .i64 wh), (66, .int .i64 q3), (67, .int .i64 (1 + q3)), (68, .int .i64 (256 * (1 + q3))), (69, .pointer (some ⟨g8, 2, none⟩)), (70, .slice A1 d1.length c1), (71, x.v), (10, x.v), (72, ov0), (73, x.v), (74, ov), (11, ov), (76, .pointer (some ⟨g, 0, none⟩)), (77, .agg #[.int .u64 r, .int .u64 2, .int .i64 14]), (78, .pointer (some ⟨g8, 1, none⟩)), (79, .int .i64 of), (80, ov), (81, .pointer (some ⟨g8, 3, none⟩)), (82, .bool la), (83, .tuple #[.bool tb, .int .i64 (R.length : Int)]), (75, .tuple #[.bool tb, .int .i64 (R.length : Int)]), (84, .bool tb), (85, .int .i64 (R.length : Int)), (12, .bool tb), (13, .int .i64 (R.length : Int)), (87, .pointer (some ⟨q, 0, none⟩)), (88, .agg #[.int .u64 r, .int .u64 2, .int .i64 14]), (89, .pointer (some ⟨g8, 1, none⟩)), (90, .int .i64 of), (91, x.v), (92, .pointer (some ⟨g8, 3, none⟩)), (93, .bool la), (94, .tuple #[.bool tb, .int .i64 (R.length : Int)]), (86, .tuple #[.bool tb, .int .i64 (R.length : Int)]), (95, .bool tb), (96, .int .i64 (R.length : Int)), (14, .bool tb), (15, .int .i64 (R.length : Int)), (16, .int .i64 ((k : Nat) : Int))]) (rs' := [Vec 5 1 encB ov L, Vec 5 1 encB x.v x.l, cell g9 31 #[.int .u64 r, .int .u64 2, .int .i64 14], cell g8 44 #[.int .u64 b1, .int .i64 of, .slice A1 d1.length c1, .bool la, .bool false, .int .i64 wh], TkT 42 q r 2 14 R, TkT 50 g r 2 14 R, X]) ⟨rfl, rfl, rfl, rfl, rfl, rfl, rfl, rfl, rfl, rfl, rfl, rfl, rfl, rfl, rfl, rfl, rfl, rfl, rfl, rfl, rfl, rfl, rfl, rfl, rfl, rfl, rfl, rfl, rfl, rfl, rfl, rfl, rfl, rfl, rfl, rfl, rfl, rfl, rfl, rfl, rfl, rfl, rfl, rfl, rfl, rfl, rfl, rfl, rfl, rfl, rfl, rfl, rfl, rfl, rfl, rfl, rfl, rfl, rfl, rfl, rfl, rfl, rfl, rfl, rfl, rfl, rfl, rfl, rfl, rfl, rfl, rfl, trivial⟩ rfl ?_
          have hK1 : k ≤ x.l.length := hK.1
          have hKL : L.length = x.l.length := hK.2
          refine d_seq ?_
          rcases Nat.lt_or_ge k x.l.length with hk | hk
          · skip
            refine d_reg ?_
            refine h_q hflS rfl ?_
            refine h_val rfl (.int .i64 (L.length : Int)) (fun b w hb hH => e_vlen 0 Try.underlying22 rfl rfl rfl hH hb) ?_
            refine h_val rfl (.bool true) (fun b w hb hH => exec_cmp rfl rfl rfl (cmp_lss_t (by omega)) hb) ?_
            refine h_done (d_then rfl (d_skip (f_to (d_seq (d_block (d_reg1 ?_))))))
            refine h_q hflS rfl ?_
            refine h_val rfl (elp ov (k * 1)) (fun b w hb hH => e_vidx 0 sl_uint8 okB rfl k (by omega) rfl rfl rfl hH hb) ?_
            refine h_acts (post := fun _ => [Vec 5 1 encB ov (L.set k 238), Vec 5 1 encB x.v x.l, cell g9 31 #[.int .u64 r, .int .u64 2, .int .i64 14], cell g8 44 #[.int .u64 b1, .int .i64 of, .slice A1 d1.length c1, .bool la, .bool false, .int .i64 wh], TkT 42 q r 2 14 R, TkT 50 g r 2 14 R, X]) rfl rfl (a_vstore1 0 ty_uint8 okB rfl k (by omega) 238 rfl rfl rfl rfl rfl) ?_; rintro ⟨⟩
            refine h_nil (f_block (f_to (d_reg1 ?_)))
            refine h_q hflS rfl ?_
            refine h_val rfl (.int .i64 ((k + 1 : Nat) : Int)) (fun b w hb hH => exec_ar rfl rfl rfl rfl (by rw [IntWalk.i64_in _ (by omega)]; omega) hb) ?_
            refine h_q hflS rfl ?_
            refine h_nil ?_
            exact f_again (k + 1, L.set k 238) 0 ⟨hk, (List.length_set ..).trans hKL⟩ (show x.l.length - (k + 1) < x.l.length - k by omega) ⟨rfl, rfl, rfl, rfl, rfl, rfl, rfl, rfl, rfl, rfl, rfl, rfl, rfl, rfl, rfl, rfl, rfl, rfl, rfl, rfl, rfl, rfl, rfl, rfl, rfl, rfl, rfl, rfl, rfl, rfl, rfl, rfl, rfl, rfl, rfl, rfl, rfl, rfl, rfl, rfl, rfl, rfl, rfl, rfl, rfl, rfl, rfl, rfl, rfl, rfl, rfl, rfl, rfl, rfl, rfl, rfl, rfl, rfl, rfl, rfl, rfl, rfl, rfl, rfl, rfl, rfl, rfl, rfl, rfl, rfl, rfl, rfl, trivial⟩ rfl
          · skip
            refine d_reg ?_
            refine h_q hflS rfl ?_
            refine h_val rfl (.int .i64 (L.length : Int)) (fun b w hb hH => e_vlen 0 Try.underlying22 rfl rfl rfl hH hb) ?_
            refine h_val rfl (.bool false) (fun b w hb hH => exec_cmp rfl rfl rfl (cmp_lss_f (by omega)) hb) ?_
            refine h_done (d_else rfl (d_exit (f_then_exit (f_then_exit (f_block_exit (f_to ?_))))))
            refine d_open 4 rfl TkT.open_ (fun _ => rfl) ?_; rintro bw
            refine d_seq ?_
            refine d_emps 1 rfl ?_
            refine d_parS 28 2 [⟨.quiet, [none, none], fun _ => .bool tb, []⟩, ⟨.quiet, [none, none], fun _ => .bool tb, []⟩, ⟨.quiet, [none, none], fun _ => .bool false, [0, 1]⟩, ⟨.quiet, [none, none], fun _ => .bool false, [2]⟩, ⟨.quiet, [none, none], fun _ => .int .i64 (R.length : Int), [3]⟩, ⟨.quiet, [none, none], fun _ => .int .i64 (R.length : Int), [3]⟩, ⟨.quiet, [none, none], fun _ => .bool false, [4, 5, 3]⟩, ⟨.quiet, [none, none], fun _ => .bool false, [3, 6]⟩, ⟨.quiet, [none, none], fun _ => .bool false, [7]⟩, ⟨.quiet, [none, none], fun _ => .pointer (some ⟨g, 0, none⟩), [8]⟩, ⟨.actv 0, [some false, some false], fun _ => .agg #[.int .u64 r, .int .u64 2, .int .i64 14], [9, 8]⟩, ⟨.quiet, [none, none], fun _ => .pointer (some ⟨q, 0, none⟩), [8]⟩, ⟨.quiet, [none, none], fun _ => .pointer (some ⟨q, 0, none⟩), [11, 8]⟩, ⟨.quiet, [none, none], fun _ => .pointer (some ⟨q, 0, none⟩), [12, 8]⟩, ⟨.quiet, [none, none], fun _ => .agg #[.int .u64 r, .int .u64 2, .int .i64 14], [13, 8]⟩, ⟨.quiet, [some true, none], fun _ => .bool false, [10, 14, 8]⟩, ⟨.quiet, [some true, none], fun _ => .bool false, [8, 15]⟩, ⟨.quiet, [some true, none], fun _ => .bool false, [16]⟩, ⟨.quiet, [some true, none], fun _ => .pointer (some ⟨g, 0, none⟩), [17]⟩, ⟨.act 1, [some true, some false], fun _ => undef, [18, 17]⟩, ⟨.quiet, [some true, some true], fun _ => .int .i64 (R.length : Int), [19, 17]⟩, ⟨.quiet, [some true, none], fun _ => .pointer (some ⟨q, 0, none⟩), [17]⟩, ⟨.quiet, [some true, none], fun _ => .pointer (some ⟨q, 0, none⟩), [21, 17]⟩, ⟨.quiet, [some true, none], fun _ => .pointer (some ⟨q, 3, none⟩), [22, 17]⟩, ⟨.quiet, [some true, none], fun _ => bw, [23, 17]⟩, ⟨.quiet, [some true, none], fun _ => .int .i64 (R.length : Int), [24, 17]⟩, ⟨.quiet, [some true, some true], fun _ => .bool false, [20, 25, 17]⟩, ⟨.quiet, [some true, some true], fun _ => .bool false, [17, 26]⟩] [(0, v1), (1, .bool true), (4, .bool false), (5, .pointer (some ⟨g, 0, none⟩)), (6, .pointer (some ⟨q, 0, none⟩)), (7, .int .i64 ((i : Nat) : Int)), (26, .int .i64 ((i : Nat) : Int)), (27, v1), (28, .int .i64 (l.length : Int)), (29, .bool true), (30, .bool true), (31, .int .i64 ((i : Nat) : Int)), (32, .bool true), (33, .bool true), (36, v1), (37, .int .i64 ((i : Nat) : Int)), (38, elp v1 (i * 6)), (39, .agg (encSk (⟨b1, of, A1, c1, d1, la, false, wh⟩ : StepC)).toArray), (8, .pointer (some ⟨g8, 0, none⟩)), (40, .pointer (some ⟨g8, 5, none⟩)), (41, .int .i64 wh), (42, .int .i64 q20), (43, .bool false), (49, .pointer (some ⟨g8, 0, none⟩)), (50, .int .u64 b1), (51, .agg #[.int .u64 r, .int .u64 2, .int .i64 14]), (9, .pointer (some ⟨g9, 0, none⟩)), (52, .pointer (some ⟨g8, 4, none⟩)), (53, .bool false), (61, .pointer (some ⟨g8, 2, none⟩)), (62, .slice A1 d1.length c1), (63, .bool true), (64, .pointer (some ⟨g8, 5, none⟩)), (65, .int .i64 wh), (66, .int .i64 q3), (67, .int .i64 (1 + q3)), (68, .int .i64 (256 * (1 + q3))), (69, .pointer (some ⟨g8, 2, none⟩)), (70, .slice A1 d1.length c1), (71, x.v), (10, x.v), (72, ov0), (73, x.v), (74, ov), (11, ov), (76, .pointer (some ⟨g, 0, none⟩)), (77, .agg #[.int .u64 r, .int .u64 2, .int .i64 14]), (78, .pointer (some ⟨g8, 1, none⟩)), (79, .int .i64 of), (80, ov), (81, .pointer (some ⟨g8, 3, none⟩)), (82, .bool la), (83, .tuple #[.bool tb, .int .i64 (R.length : Int)]), (75, .tuple #[.bool tb, .int .i64 (R.length : Int)]), (84, .bool tb), (85, .int .i64 (R.length : Int)), (12, .bool tb), (13, .int .i64 (R.length : Int)), (87, .pointer (some ⟨q, 0, none⟩)), (88, .agg #[.int .u64 r, .int .u64 2, .int .i64 14]), (89, .pointer (some ⟨g8, 1, none⟩)), (90, .int .i64 of), (91, x.v), (92, .pointer (some ⟨g8, 3, none⟩)), (93, .bool la), (94, .tuple #[.bool tb, .int .i64 (R.length : Int)]), (86, .tuple #[.bool tb, .int .i64 (R.length : Int)]), (95, .bool tb), (96, .int .i64 (R.length : Int)), (14, .bool tb), (15, .int .i64 (R.length : Int)), (16, .int .i64 ((k : Nat) : Int)), (97, .int .i64 ((k : Nat) : Int)), (98, ov), (99, .int .i64 (L.length : Int)), (100, .bool false)] (fun ρ => match ρ with | [rq0, rq1] => [selS rq1 (fun dv => Vec 5 1 encB dv R) (emp), cell q 42 #[.int .u64 r, .int .u64 2, .int .i64 14, bw], Vec 5 1 encB bw R, Vec 5 1 encB ov L, Vec 5 1 encB x.v x.l, cell g9 31 #[.int .u64 r, .int .u64 2, .int .i64 14], cell g8 44 #[.int .u64 b1, .int .i64 of, .slice A1 d1.length c1, .bool la, .bool false, .int .i64 wh], TkT 50 g r 2 14 R, X] | _ => []) (by kernel_rfl) (by kernel_rfl) ⟨rfl, rfl, rfl, rfl, rfl, rfl, rfl, rfl, rfl, rfl, rfl, rfl, rfl, rfl, rfl, rfl, rfl, rfl, rfl, rfl, rfl, rfl, rfl, rfl, rfl, rfl, rfl, rfl, rfl, rfl, rfl, rfl, rfl, rfl, rfl, rfl, rfl, rfl, rfl, rfl, rfl, rfl, rfl, rfl, rfl, rfl, rfl, rfl, rfl, rfl, rfl, rfl, rfl, rfl, rfl, rfl, rfl, rfl, rfl, rfl, rfl, rfl, rfl, rfl, rfl, rfl, rfl, rfl, rfl, rfl, rfl, rfl, rfl, rfl, rfl, rfl, trivial⟩ rfl ?_ ?_
            · skip
              refine s_cons (by intro r0_ r1_; exact ⟨rfl, fun b w hH hb => exec_q1 hflS rfl hb⟩) ?_
              refine s_cons (by intro r0_ r1_; exact ⟨rfl, fun b w hH hb => exec_q1 hflS rfl hb⟩) ?_
              refine s_cons (by intro r0_ r1_; exact ⟨rfl, fun b w hH hb => exec_nes (neB_same _) rfl rfl rfl hb⟩) ?_
              refine s_cons (by intro r0_ r1_; exact ⟨rfl, fun b w hH hb => exec_q1 hflS rfl hb⟩) ?_
              refine s_cons (by intro r0_ r1_; exact ⟨rfl, fun b w hH hb => exec_q1 hflS rfl hb⟩) ?_
              refine s_cons (by intro r0_ r1_; exact ⟨rfl, fun b w hH hb => exec_q1 hflS rfl hb⟩) ?_
              refine s_cons (by intro r0_ r1_; exact ⟨rfl, fun b w hH hb => exec_cmp rfl rfl rfl (cmp_neq_f (by simp)) hb⟩) ?_
              refine s_cons (by intro r0_ r1_; exact ⟨rfl, fun b w hH hb => exec_q1 hflS rfl hb⟩) ?_
              refine s_cons (by intro r0_ r1_; exact ⟨rfl, fun b w hH hb => exec_q1 hflS rfl hb⟩) ?_
              refine s_cons (by intro r0_ r1_; exact ⟨rfl, fun b w hH hb => exec_q1 hflS rfl hb⟩) ?_
              refine s_cons (by exact ⟨rfl, Acts.su (a_does (os' := fun _ => [emp, cell q 42 #[.int .u64 r, .int .u64 2, .int .i64 14, bw], Vec 5 1 encB bw R, Vec 5 1 encB ov L, Vec 5 1 encB x.v x.l, cell g9 31 #[.int .u64 r, .int .u64 2, .int .i64 14], cell g8 44 #[.int .u64 b1, .int .i64 of, .slice A1 d1.length c1, .bool la, .bool false, .int .i64 wh], TkT 50 g r 2 14 R, X]) [7] 0 (ent_of Try.func14 (by kernel_rfl) rfl) (ck_base g r 2 14 R) rfl rfl rfl (fun _ => rfl) rfl rfl rfl) rfl⟩) ?_
              refine s_cons (by intro r0_ r1_; exact ⟨rfl, fun b w hH hb => exec_q1 hflS rfl hb⟩) ?_
              refine s_cons (by intro r0_ r1_; exact ⟨rfl, fun b w hH hb => by exact exec_nilCheck rfl rfl hb⟩) ?_
              refine s_cons (by intro r0_ r1_; exact ⟨rfl, fun b w hH hb => exec_q1 hflS rfl hb⟩) ?_
              refine s_cons (by intro r0_ r1_; exact ⟨rfl, fun b w hH hb => exec_load rfl rfl (reads_agg (cs := [.int .u64 r, .int .u64 2, .int .i64 14, bw]) ty_api_Base rfl) (hH.row 1 rfl) hb⟩) ?_
              refine s_cons (by intro v0_ r1_; exact ⟨rfl, fun b w hH hb => exec_nes (neBaseF r 2 14) rfl rfl rfl hb⟩) ?_
              refine s_cons (by intro v0_ r1_; exact ⟨rfl, fun b w hH hb => exec_q1 hflS rfl hb⟩) ?_
              refine s_cons (by intro v0_ r1_; exact ⟨rfl, fun b w hH hb => exec_q1 hflS rfl hb⟩) ?_
              refine s_cons (by intro v0_ r1_; exact ⟨rfl, fun b w hH hb => exec_q1 hflS rfl hb⟩) ?_
              refine s_cons (by intro v0_; exact ⟨rfl, Acts.s (a_does (os' := fun dv => [Vec 5 1 encB dv R, cell q 42 #[.int .u64 r, .int .u64 2, .int .i64 14, bw], Vec 5 1 encB bw R, Vec 5 1 encB ov L, Vec 5 1 encB x.v x.l, cell g9 31 #[.int .u64 r, .int .u64 2, .int .i64 14], cell g8 44 #[.int .u64 b1, .int .i64 of, .slice A1 d1.length c1, .bool la, .bool false, .int .i64 wh], TkT 50 g r 2 14 R, X]) [7, 0] 1 (ent_of Try.func15 (by kernel_rfl) rfl) (ck_data g r 2 14 R hRl) rfl rfl rfl (fun _ => rfl) rfl rfl rfl) (fun _ => rfl)⟩) ?_
              refine s_cons (by intro v0_ dv; exact ⟨rfl, fun b w hH hb => e_vlen 0 Try.underlying22 rfl rfl rfl hH hb⟩) ?_
              refine s_cons (by intro v0_ r1_; exact ⟨rfl, fun b w hH hb => exec_q1 hflS rfl hb⟩) ?_
              refine s_cons (by intro v0_ r1_; exact ⟨rfl, fun b w hH hb => by exact exec_nilCheck rfl rfl hb⟩) ?_
              refine s_cons (by intro v0_ r1_; exact ⟨rfl, fun b w hH hb => exec_q1 hflS rfl hb⟩) ?_
              refine s_cons (by intro v0_ r1_; exact ⟨rfl, fun b w hH hb => exec_load rfl rfl (reads_one ty_s_uint8 rfl) (hH.row 1 rfl) hb⟩) ?_
              refine s_cons (by intro v0_ r1_; exact ⟨rfl, fun b w hH hb => e_vlen 2 Try.underlying22 rfl rfl rfl hH hb⟩) ?_
              refine s_cons (by intro v0_ dv; exact ⟨rfl, fun b w hH hb => exec_cmp rfl rfl rfl (cmp_neq_f (by simp)) hb⟩) ?_
              refine s_cons (by intro v0_ dv; exact ⟨rfl, fun b w hH hb => exec_q1 hflS rfl hb⟩) ?_
              exact s_nil
            intro v0_ dv
            refine WL2.keep (env' := [(0, v1), (1, .bool true), (4, .bool false), (5, .pointer (some ⟨g, 0, none⟩)), (6, .pointer (some ⟨q, 0, none⟩)), (7, .int .i64 ((i : Nat) : Int)), (26, .int .i64 ((i : Nat) : Int)), (27, v1), (28, .int .i64 (l.length : Int)), (29, .bool true), (30, .bool true), (31, .int .i64 ((i : Nat) : Int)), (32, .bool true), (33, .bool true), (36, v1), (37, .int .i64 ((i : Nat) : Int)), (38, elp v1 (i * 6)), (39, .agg (encSk (⟨b1, of, A1, c1, d1, la, false, wh⟩ : StepC)).toArray), (8, .pointer (some ⟨g8, 0, none⟩)), (40, .pointer (some ⟨g8, 5, none⟩)), (41, .int .i64 wh), (42, .int .i64 q20), (43, .bool false), (49, .pointer (some ⟨g8, 0, none⟩)), (50, .int .u64 b1), (51, .agg #[.int .u64 r, .int .u64 2, .int .i64 14]), (9, .pointer (some ⟨g9, 0, none⟩)), (52, .pointer (some ⟨g8, 4, none⟩)), (53, .bool false), (61, .pointer (some ⟨g8, 2, none⟩)), (62, .slice A1 d1.length c1), (63, .bool true), (64, .pointer (some ⟨g8, 5, none⟩)), (65, .int .i64 wh), (66, .int .i64 q3), (67, .int .i64 (1 + q3)), (68, .int .i64 (256 * (1 + q3))), (69, .pointer (some ⟨g8, 2, none⟩)), (70, .slice A1 d1.length c1), (71, x.v), (10, x.v), (72, ov0), (73, x.v), (74, ov), (11, ov), (76, .pointer (some ⟨g, 0, none⟩)), (77, .agg #[.int .u64 r, .int .u64 2, .int .i64 14]), (78, .pointer (some ⟨g8, 1, none⟩)), (79, .int .i64 of), (80, ov), (81, .pointer (some ⟨g8, 3, none⟩)), (82, .bool la), (83, .tuple #[.bool tb, .int .i64 (R.length : Int)]), (75, .tuple #[.bool tb, .int .i64 (R.length : Int)]), (84, .bool tb), (85, .int .i64 (R.length : Int)), (12, .bool tb), (13, .int .i64 (R.length : Int)), (87, .pointer (some ⟨q, 0, none⟩)), (88, .agg #[.int .u64 r, .int .u64 2, .int .i64 14]), (89, .pointer (some ⟨g8, 1, none⟩)), (90, .int .i64 of), (91, x.v), (92, .pointer (some ⟨g8, 3, none⟩)), (93, .bool la), (94, .tuple #[.bool tb, .int .i64 (R.length : Int)]), (86, .tuple #[.bool tb, .int .i64 (R.length : Int)]), (95, .bool tb), (96, .int .i64 (R.length : Int)), (14, .bool tb), (15, .int .i64 (R.length : Int)), (16, .int .i64 ((k : Nat) : Int)), (97, .int .i64 ((k : Nat) : Int)), (98, ov), (99, .int .i64 (L.length : Int)), (100, .bool false), (106, .bool tb), (107, .bool tb), (108, .bool false), (109, .bool false), (110, .int .i64 (R.length : Int)), (111, .int .i64 (R.length : Int)), (112, .bool false), (113, .bool false), (114, .bool false), (115, .pointer (some ⟨g, 0, none⟩)), (116, .agg #[.int .u64 r, .int .u64 2, .int .i64 14]), (117, .pointer (some ⟨q, 0, none⟩)), (118, .pointer (some ⟨q, 0, none⟩)), (119, .pointer (some ⟨q, 0, none⟩)), (120, .agg #[.int .u64 r, .int .u64 2, .int .i64 14]), (121, .bool false), (122, .bool false), (123, .bool false), (124, .pointer (some ⟨g, 0, none⟩)), (125, dv), (126, .int .i64 (R.length : Int)), (127, .pointer (some ⟨q, 0, none⟩)), (128, .pointer (some ⟨q, 0, none⟩)), (129, .pointer (some ⟨q, 3, none⟩)), (130, bw), (131, .int .i64 (R.length : Int)), (132, .bool false), (133, .bool false)]) ⟨rfl, rfl, rfl, rfl, rfl, rfl, rfl, rfl, rfl, rfl, rfl, rfl, rfl, rfl, rfl, rfl, rfl, rfl, rfl, rfl, rfl, rfl, rfl, rfl, rfl, rfl, rfl, rfl, rfl, rfl, rfl, rfl, rfl, rfl, rfl, rfl, rfl, rfl, rfl, rfl, rfl, rfl, rfl, rfl, rfl, rfl, rfl, rfl, rfl, rfl, rfl, rfl, rfl, rfl, rfl, rfl, rfl, rfl, rfl, rfl, rfl, rfl, rfl, rfl, rfl, rfl, rfl, rfl, rfl, rfl, rfl, rfl, rfl, rfl, rfl, rfl, rfl, rfl, rfl, rfl, rfl, rfl, rfl, rfl, rfl, rfl, rfl, rfl, rfl, rfl, rfl, rfl, rfl, rfl, rfl, rfl, rfl, rfl, rfl, rfl, rfl, rfl, rfl, rfl, trivial⟩ ?_
            refine h_nil (f_to (d_else rfl (d_skip (f_block (f_to ?_)))))
            refine d_close [1, 2] rfl TkT.mk rfl ?_
            refine WC2.leave [1, 2, 4, 5, 3] rfl rfl ?_
            refine d_reg1 ?_
            refine h_q hflS rfl ?_
            refine h_val rfl (.int .i64 ((i + 1 : Nat) : Int)) (fun b w hb hH => exec_ar rfl rfl rfl rfl (by rw [IntWalk.i64_in _ (by omega)]; omega) hb) ?_
            refine h_q hflS rfl ?_
            refine h_nil ?_
            exact f_again (i + 1, r, 2, 14, R) 0 ⟨hi, hi2, hRl⟩ (show l.length - (i + 1) < l.length - i by omega) ⟨rfl, rfl, rfl, rfl, rfl, rfl, trivial⟩ rfl
      · skip
        refine d_reg ?_
        refine h_q hflS rfl ?_
        refine h_val rfl (.bool true) (fun b w hb hH => exec_load rfl rfl (reads_one ty_bool rfl) (hH.row 1 rfl) hb) ?_
        refine h_done (d_then rfl (d_reg ?_))
        refine h_q hflS rfl ?_
        refine h_act (post := fun _ => [cell g9 31 #[.int .u64 r, .int .u64 2, .int .i64 14], cell g8 44 #[.int .u64 b1, .int .i64 of, .slice A1 d1.length c1, .bool la, .bool true, .int .i64 wh], TkT 42 q bi bt bc D, TkT 50 g bi bt bc D, X]) rfl (a_call (ent_of Try.func11 (by kernel_rfl) rfl) (fun w hH => ck_b w 0 1 (by decide) (by decide)) rfl rfl rfl) ?_; rintro ⟨⟩
        refine h_acts (post := fun _ => [cell g9 31 #[.int .u64 1, .int .u64 2, .int .i64 14], cell g8 44 #[.int .u64 b1, .int .i64 of, .slice A1 d1.length c1, .bool la, .bool true, .int .i64 wh], TkT 42 q bi bt bc D, TkT 50 g bi bt bc D, X]) rfl rfl (a_store 0 (v := .agg #[.int .u64 1, .int .u64 2, .int .i64 14]) #[.int .u64 1, .int .u64 2, .int .i64 14] ty_api_Base.2 rfl rfl rfl rfl rfl rfl rfl rfl rfl) ?_; rintro ⟨⟩
        refine h_done ?_
        refine d_open 2 rfl TkT.open_ (fun _ => rfl) ?_; rintro bv
        refine d_reg1 ?_
        refine h_q hflS rfl ?_
        refine h_val rfl (.pointer (some ⟨q, 0, none⟩)) (fun b w hb hH => by exact exec_nilCheck rfl rfl hb) ?_
        refine h_q hflS rfl ?_
        refine h_val rfl (bv) (fun b w hb hH => exec_load rfl rfl (reads_one ty_s_uint8 rfl) (hH.row 0 rfl) hb) ?_
        refine h_val rfl (.int .i64 (D.length : Int)) (fun b w hb hH => e_vlen 1 Try.underlying22 rfl rfl rfl hH hb) ?_
        refine h_q hflS rfl ?_
        refine h_acts (post := fun _ => [cell q 42 #[.int .u64 bi, .int .u64 bt, .int .i64 bc, bv], Vec 5 1 encB bv D, cell g9 31 #[.int .u64 1, .int .u64 2, .int .i64 14], cell g8 44 #[.int .u64 b1, .int .i64 (D.length : Int), .slice A1 d1.length c1, .bool la, .bool true, .int .i64 wh], TkT 50 g bi bt bc D, X]) rfl rfl (a_store 3 (v := .int .i64 (D.length : Int)) #[.int .u64 b1, .int .i64 (D.length : Int), .slice A1 d1.length c1, .bool la, .bool true, .int .i64 wh] ty_int.2 rfl rfl rfl rfl rfl rfl rfl rfl rfl) ?_; rintro ⟨⟩
        refine h_nil (f_to ?_)
        refine d_close [0, 1] rfl TkT.mk rfl ?_
        refine d_reg ?_
        refine h_q hflS rfl ?_
        refine h_val rfl (.slice A1 d1.length c1) (fun b w hb hH => exec_load rfl rfl (reads_one ty_s_uint8 rfl) (hH.row 2 rfl) hb) ?_
        refine h_q hflS rfl ?_
        refine h_done (d_seq ?_)
        cases many
        · skip
          refine d_reg ?_
          refine h_q hflS rfl ?_
          refine h_done (d_else rfl (d_skip (f_to ?_)))
          obtain ⟨D0, hD0⟩ : ∃ z, keepL bi bt bc 1 2 14 D = z := ⟨_, rfl⟩
          obtain ⟨⟨tb, R⟩, hR⟩ : ∃ z, takeL D0 (D.length : Int) d1 la = z := ⟨_, rfl⟩
          have hD0l : D0.length ≤ 32768 := by rw [← hD0]; exact keepL_len hD
          have hRl : R.length ≤ 32768 := takeL_len hD0l hR
          refine d_reg ?_
          refine h_q hflS rfl ?_
          refine h_act (X := Value) (val := fun v : Value => v) (post := fun ov0 => [Vec 5 1 encB ov0 ([]), TkT 42 q bi bt bc D, cell g9 31 #[.int .u64 1, .int .u64 2, .int .i64 14], cell g8 44 #[.int .u64 b1, .int .i64 (D.length : Int), .slice A1 d1.length c1, .bool la, .bool true, .int .i64 wh], TkT 50 g bi bt bc D, X]) rfl (by refine a_build0 (e := 5) (t := 22) (k := 1) (enc := encB) ?_ ?_; exact sl_uint8; exact rfl) ?_; rintro ov0
          refine h_q hflS rfl ?_
          refine h_act (post := fun ov => [Vec 5 1 encB ov d1, TkT 42 q bi bt bc D, cell g9 31 #[.int .u64 1, .int .u64 2, .int .i64 14], cell g8 44 #[.int .u64 b1, .int .i64 (D.length : Int), .slice A1 d1.length c1, .bool la, .bool true, .int .i64 wh], TkT 50 g bi bt bc D, X]) rfl (a_append8 0 sl_uint8 (by kernel_rfl) rfl (d1) (fun w hH => (hH.rd8 5 rfl hXy).rd) (by simp only [List.length_nil]; omega) rfl rfl rfl (List.nil_append _)) ?_; rintro ov
          refine h_q hflS rfl ?_
          refine h_done (d_reg ?_)
          refine h_q hflS rfl ?_
          refine h_val rfl (.agg #[.int .u64 1, .int .u64 2, .int .i64 14]) (fun b w hb hH => exec_load rfl rfl (reads_agg (cs := [.int .u64 1, .int .u64 2, .int .i64 14]) ty_api_Base rfl) (hH.row 2 rfl) hb) ?_
          refine h_q hflS rfl ?_
          refine h_val rfl (.int .i64 (D.length : Int)) (fun b w hb hH => exec_load rfl rfl (reads_one ty_int rfl) (hH.row 3 rfl) hb) ?_
          refine h_q hflS rfl ?_
          refine h_val rfl (.bool la) (fun b w hb hH => exec_load rfl rfl (reads_one ty_bool rfl) (hH.row 3 rfl) hb) ?_
          refine h_act (post := fun _ => [Vec 5 1 encB ov d1, TkT 42 q bi bt bc D, cell g9 31 #[.int .u64 1, .int .u64 2, .int .i64 14], cell g8 44 #[.int .u64 b1, .int .i64 (D.length : Int), .slice A1 d1.length c1, .bool la, .bool true, .int .i64 wh], TkT 50 g 1 2 14 R, X]) rfl (a_does (os' := fun _ => [Vec 5 1 encB ov d1, TkT 42 q bi bt bc D, cell g9 31 #[.int .u64 1, .int .u64 2, .int .i64 14], cell g8 44 #[.int .u64 b1, .int .i64 (D.length : Int), .slice A1 d1.length c1, .bool la, .bool true, .int .i64 wh], TkT 50 g 1 2 14 R, X]) [4, 0] 0 (ent_of Try.func10 (by kernel_rfl) rfl) (ck_takeN (Vec 5 1 encB ov d1) ov d1 rd8_vec (by omega) g bi bt bc 1 2 14 D hD (D.length : Int) (by omega) la D0 hD0 tb R hR (R.length : Int) rfl) rfl rfl rfl (fun _ => rfl) rfl rfl rfl) ?_; rintro ⟨⟩
          refine h_q hflS rfl ?_
          refine h_done (d_reg ?_)
          refine h_q hflS rfl ?_
          refine h_val rfl (.agg #[.int .u64 1, .int .u64 2, .int .i64 14]) (fun b w hb hH => exec_load rfl rfl (reads_agg (cs := [.int .u64 1, .int .u64 2, .int .i64 14]) ty_api_Base rfl) (hH.row 2 rfl) hb) ?_
          refine h_q hflS rfl ?_
          refine h_val rfl (.int .i64 (D.length : Int)) (fun b w hb hH => exec_load rfl rfl (reads_one ty_int rfl) (hH.row 3 rfl) hb) ?_
          refine h_q hflS rfl ?_
          refine h_val rfl (.bool la) (fun b w hb hH => exec_load rfl rfl (reads_one ty_bool rfl) (hH.row 3 rfl) hb) ?_
          refine h_act (post := fun _ => [Vec 5 1 encB ov d1, TkT 42 q 1 2 14 R, cell g9 31 #[.int .u64 1, .int .u64 2, .int .i64 14], cell g8 44 #[.int .u64 b1, .int .i64 (D.length : Int), .slice A1 d1.length c1, .bool la, .bool true, .int .i64 wh], TkT 50 g 1 2 14 R, X]) rfl (a_does (os' := fun _ => [Vec 5 1 encB ov d1, TkT 42 q 1 2 14 R, cell g9 31 #[.int .u64 1, .int .u64 2, .int .i64 14], cell g8 44 #[.int .u64 b1, .int .i64 (D.length : Int), .slice A1 d1.length c1, .bool la, .bool true, .int .i64 wh], TkT 50 g 1 2 14 R, X]) [1, 5] 0 (ent_of Try.func19 (by kernel_rfl) rfl) (rk_takeN X (.slice A1 d1.length c1) d1 hXy (by omega) q bi bt bc 1 2 14 D hD (D.length : Int) (by omega) la D0 hD0 tb R hR (R.length : Int) rfl) rfl rfl rfl (fun _ => rfl) rfl rfl rfl) ?_; rintro ⟨⟩
          refine h_q hflS rfl ?_
          refine h_done (d_seq (d_reg ?_))
          refine h_q hflS rfl ?_
          refine h_done (d_block ?_)
          refine d_loop (α := Nat × List UInt8) (fun ⟨k, L⟩ => [(0, v1), (1, .bool false), (4, .bool false), (5, .pointer (some ⟨g, 0, none⟩)), (6, .pointer (some ⟨q, 0, none⟩)), (7, .int .i64 ((i : Nat) : Int)), (26, .int .i64 ((i : Nat) : Int)), (27, v1), (28, .int .i64 (l.length : Int)), (29, .bool true), (30, .bool true), (31, .int .i64 ((i : Nat) : Int)), (32, .bool true), (33, .bool true), (36, v1), (37, .int .i64 ((i : Nat) : Int)), (38, elp v1 (i * 6)), (39, .agg (encSk (⟨b1, of, A1, c1, d1, la, true, wh⟩ : StepC)).toArray), (8, .pointer (some ⟨g8, 0, none⟩)), (40, .pointer (some ⟨g8, 5, none⟩)), (41, .int .i64 wh), (42, .int .i64 q20), (43, .bool false), (49, .pointer (some ⟨g8, 0, none⟩)), (50, .int .u64 b1), (51, .agg #[.int .u64 r, .int .u64 2, .int .i64 14]), (9, .pointer (some ⟨g9, 0, none⟩)), (52, .pointer (some ⟨g8, 4, none⟩)), (53, .bool true), (54, .agg #[.int .u64 1, .int .u64 2, .int .i64 14]), (55, .pointer (some ⟨q, 0, none⟩)), (56, .pointer (some ⟨q, 0, none⟩)), (57, .pointer (some ⟨q, 3, none⟩)), (58, bv), (59, .int .i64 (D.length : Int)), (60, .pointer (some ⟨g8, 1, none⟩)), (61, .pointer (some ⟨g8, 2, none⟩)), (62, .slice A1 d1.length c1), (10, .slice A1 d1.length c1), (63, .bool false), (72, ov0), (73, .slice A1 d1.length c1), (74, ov), (11, ov), (76, .pointer (some ⟨g, 0, none⟩)), (77, .agg #[.int .u64 1, .int .u64 2, .int .i64 14]), (78, .pointer (some ⟨g8, 1, none⟩)), (79, .int .i64 (D.length : Int)), (80, ov), (81, .pointer (some ⟨g8, 3, none⟩)), (82, .bool la), (83, .tuple #[.bool tb, .int .i64 (R.length : Int)]), (75, .tuple #[.bool tb, .int .i64 (R.length : Int)]), (84, .bool tb), (85, .int .i64 (R.length : Int)), (12, .bool tb), (13, .int .i64 (R.length : Int)), (87, .pointer (some ⟨q, 0, none⟩)), (88, .agg #[.int .u64 1, .int .u64 2, .int .i64 14]), (89, .pointer (some ⟨g8, 1, none⟩)), (90, .int .i64 (D.length : Int)), (91, .slice A1 d1.length c1), (92, .pointer (some ⟨g8, 3, none⟩)), (93, .bool la), (94, .tuple #[.bool tb, .int .i64 (R.length : Int)]), (86, .tuple #[.bool tb, .int .i64 (R.length : Int)]), (95, .bool tb), (96, .int .i64 (R.length : Int)), (14, .bool tb), (15, .int .i64 (R.length : Int)), (16, .int .i64 ((k : Nat) : Int))]) (fun ⟨k, L⟩ => [Vec 5 1 encB ov L, TkT 42 q 1 2 14 R, cell g9 31 #[.int .u64 1, .int .u64 2, .int .i64 14], cell g8 44 #[.int .u64 b1, .int .i64 (D.length : Int), .slice A1 d1.length c1, .bool la, .bool true, .int .i64 wh], TkT 50 g 1 2 14 R, X]) (fun ⟨k, L⟩ => k ≤ d1.length ∧ L.length = d1.length) (fun ⟨k, L⟩ => d1.length - k) (0, d1) ⟨Nat.zero_le _, rfl⟩ ⟨rfl, rfl, rfl, rfl, rfl, rfl, rfl, rfl, rfl, rfl, rfl, rfl, rfl, rfl, rfl, rfl, rfl, rfl, rfl, rfl, rfl, rfl, rfl, rfl, rfl, rfl, rfl, rfl, rfl, rfl, rfl, rfl, rfl, rfl, rfl, rfl, rfl, rfl, rfl, rfl, rfl, rfl, rfl, rfl, rfl, rfl, rfl, rfl, rfl, rfl, rfl, rfl, rfl, rfl, rfl, rfl, rfl, rfl, rfl, rfl, rfl, rfl, rfl, rfl, rfl, rfl, rfl, rfl, rfl, rfl, rfl, trivial⟩ rfl ?_
          rintro ⟨k, L⟩ hK
          refine WC2.at_ (env' := [(0, v1), (1, .bool false), (4, .bool false), (5, .pointer (some ⟨g, 0, none⟩)), (6, .pointer (some ⟨q, 0, none⟩)), (7, .int .i64 ((i : Nat) : Int)), (26, .int .i64 ((i : Nat) : Int)), (27, v1), (28, .int .i64 (l.length : Int)), (29, .bool true), (30, .bool true), (31, .int .i64 ((i : Nat) : Int)), (32, .bool true), (33, .bool true), (36, v1), (37, .int .i64 ((i : Nat) : Int)), (38, elp v1 (i * 6)), (39, .agg (encSk (⟨b1, of, A1, c1, d1, la, true, wh⟩ : StepC)).toArray), (8, .pointer (some ⟨g8, 0, none⟩)), (40, .pointer (some ⟨g8, 5, none⟩)), (41, .int .i64 wh), (42, .int .i64 q20), (43, .bool false), (49, .pointer (some ⟨g8, 0, none⟩)), (50, .int .u64 b1), (51, .agg #[.int .u64 r, .int .u64 2, .int .i64 14]), (9, .pointer (some ⟨g9, 0, none⟩)), (52, .pointer (some ⟨g8, 4, none⟩)), (53, .bool true), (54, .agg #[.int .u64 1, .int .u64 2, .int .i64 14]), (55, .pointer (some ⟨q, 0, none⟩)), (56, .pointer (some ⟨q, 0, none⟩)), (57, .pointer (some ⟨q, 3, none⟩)), (58, bv), (59, .int .i64 (D.length : Int)), (60, .pointer (some ⟨g8, 1, none⟩)), (61, .pointer (some ⟨g8, 2, none⟩)), (62, .slice A1 d1.length c1), (10, .slice A1 d1.length c1), (63, .bool false), (72, ov0), (73, .slice A1 d1.length c1), (74, ov), (11, ov), (76, .pointer (some ⟨g, 0, none⟩)), (77, .agg #[.int .u64 1, .int .u64 2, .int .i64 14]), (78, .pointer (some ⟨g8, 1, none⟩)), (79, .int .i64 (D.length : Int)), (80, ov), (81, .pointer (some ⟨g8, 3, none⟩)), (82, .bool la), (83, .tuple #[.bool tb, .int .i64 (R.length : Int)]), (75, .tuple #[.bool tb, .int .i64 (R.length : Int)]), (84, .bool tb), (85, .int .i64 (R.length : Int)), (12, .bool tb), (13, .int .i64 (R.length : Int)), (87, .pointer (some ⟨q, 0, none⟩)), (88, .agg #[.int .u64 1, .int .u64 2, .int .i64 14]), (89, .pointer (some ⟨g8, 1, none⟩)), (90, .int .i64 (D.length : Int)), (91, .slice A1 d1.length c1), (92, .pointer (some ⟨g8, 3, none⟩)), (93, .bool la), (94, .tuple #[.bool tb, .int .i64 (R.length : Int)]), (86, .tuple #[.bool tb, .int .i64 (R.length : Int)]), (95, .bool tb), (96, .int .i64 (R.length : Int)), (14, .bool tb), (15, .int .i64 (R.length : Int)), (16, .int .i64 ((k : Nat) : Int))]) (rs' := [Vec 5 1 encB ov L, TkT 42 q 1 2 14 R, cell g9 31 #[.int .u64 1, .int .u64 2, .int .i64 14], cell g8 44 #[.int .u64 b1, .int .i64 (D.length : Int), .slice A1 d1.length c1, .bool la, .bool true, .int .i64 wh], TkT 50 g 1 2 14 R, X]) ⟨rfl, rfl, rfl, rfl, rfl, rfl, rfl, rfl, rfl, rfl, rfl, rfl, rfl, rfl, rfl, rfl, rfl, rfl, rfl, rfl, rfl, rfl, rfl, rfl, rfl, rfl, rfl, rfl, rfl, rfl, rfl, rfl, rfl, rfl, rfl, rfl, rfl, rfl, rfl, rfl, rfl, rfl, rfl, rfl, rfl, rfl, rfl, rfl, rfl, rfl, rfl, rfl, rfl, rfl, rfl, rfl, rfl, rfl, rfl, rfl, rfl, rfl, rfl, rfl, rfl, rfl, rfl, rfl, rfl, rfl, rfl, trivial⟩ rfl ?_
          have hK1 : k ≤ d1.length := hK.1
          have hKL : L.length = d1.length := hK.2
          refine d_seq ?_
          rcases Nat.lt_or_ge k d1.length with hk | hk
          · skip
            refine d_reg ?_
            refine h_q hflS rfl ?_
            refine h_val rfl (.int .i64 (L.length : Int)) (fun b w hb hH => e_vlen 0 Try.underlying22 rfl rfl rfl hH hb) ?_
            refine h_val rfl (.bool true) (fun b w hb hH => exec_cmp rfl rfl rfl (cmp_lss_t (by omega)) hb) ?_
            refine h_done (d_then rfl (d_skip (f_to (d_seq (d_block (d_reg1 ?_))))))
            refine h_q hflS rfl ?_
            refine h_val rfl (elp ov (k * 1)) (fun b w hb hH => e_vidx 0 sl_uint8 okB rfl k (by omega) rfl rfl rfl hH hb) ?_
            refine h_acts (post := fun _ => [Vec 5 1 encB ov (L.set k 238), TkT 42 q 1 2 14 R, cell g9 31 #[.int .u64 1, .int .u64 2, .int .i64 14], cell g8 44 #[.int .u64 b1, .int .i64 (D.length : Int), .slice A1 d1.length c1, .bool la, .bool true, .int .i64 wh], TkT 50 g 1 2 14 R, X]) rfl rfl (a_vstore1 0 ty_uint8 okB rfl k (by omega) 238 rfl rfl rfl rfl rfl) ?_; rintro ⟨⟩
            refine h_nil (f_block (f_to (d_reg1 ?_)))
            refine h_q hflS rfl ?_
            refine h_val rfl (.int .i64 ((k + 1 : Nat) : Int)) (fun b w hb hH => exec_ar rfl rfl rfl rfl (by rw [IntWalk.i64_in _ (by omega)]; omega) hb) ?_
            refine h_q hflS rfl ?_
            refine h_nil ?_
            exact f_again (k + 1, L.set k 238) 0 ⟨hk, (List.length_set ..).trans hKL⟩ (show d1.length - (k + 1) < d1.length - k by omega) ⟨rfl, rfl, rfl, rfl, rfl, rfl, rfl, rfl, rfl, rfl, rfl, rfl, rfl, rfl, rfl, rfl, rfl, rfl, rfl, rfl, rfl, rfl, rfl, rfl, rfl, rfl, rfl, rfl, rfl, rfl, rfl, rfl, rfl, rfl, rfl, rfl, rfl, rfl, rfl, rfl, rfl, rfl, rfl, rfl, rfl, rfl, rfl, rfl, rfl, rfl, rfl, rfl, rfl, rfl, rfl, rfl, rfl, rfl, rfl, rfl, rfl, rfl, rfl, rfl, rfl, rfl, rfl, rfl, rfl, rfl, rfl, trivial⟩ rfl
          · skip
            refine d_reg ?_
            refine h_q hflS rfl ?_
            refine h_val rfl (.int .i64 (L.length : Int)) (fun b w hb hH => e_vlen 0 Try.underlying22 rfl rfl rfl hH hb) ?_
            refine h_val rfl (.bool false) (fun b w hb hH => exec_cmp rfl rfl rfl (cmp_lss_f (by omega)) hb) ?_
            refine h_done (d_else rfl (d_exit (f_then_exit (f_then_exit (f_block_exit (f_to ?_))))))
            refine d_open 1 rfl TkT.open_ (fun _ => rfl) ?_; rintro bw
            refine d_seq ?_
            refine d_emps 1 rfl ?_
            refine d_parS 28 2 [⟨.quiet, [none, none], fun _ => .bool tb, []⟩, ⟨.quiet, [none, none], fun _ => .bool tb, []⟩, ⟨.quiet, [none, none], fun _ => .bool false, [0, 1]⟩, ⟨.quiet, [none, none], fun _ => .bool false, [2]⟩, ⟨.quiet, [none, none], fun _ => .int .i64 (R.length : Int), [3]⟩, ⟨.quiet, [none, none], fun _ => .int .i64 (R.length : Int), [3]⟩, ⟨.quiet, [none, none], fun _ => .bool false, [4, 5, 3]⟩, ⟨.quiet, [none, none], fun _ => .bool false, [3, 6]⟩, ⟨.quiet, [none, none], fun _ => .bool false, [7]⟩, ⟨.quiet, [none, none], fun _ => .pointer (some ⟨g, 0, none⟩), [8]⟩, ⟨.actv 0, [some false, some false], fun _ => .agg #[.int .u64 1, .int .u64 2, .int .i64 14], [9, 8]⟩, ⟨.quiet, [none, none], fun _ => .pointer (some ⟨q, 0, none⟩), [8]⟩, ⟨.quiet, [none, none], fun _ => .pointer (some ⟨q, 0, none⟩), [11, 8]⟩, ⟨.quiet, [none, none], fun _ => .pointer (some ⟨q, 0, none⟩), [12, 8]⟩, ⟨.quiet, [none, none], fun _ => .agg #[.int .u64 1, .int .u64 2, .int .i64 14], [13, 8]⟩, ⟨.quiet, [some true, none], fun _ => .bool false, [10, 14, 8]⟩, ⟨.quiet, [some true, none], fun _ => .bool false, [8, 15]⟩, ⟨.quiet, [some true, none], fun _ => .bool false, [16]⟩, ⟨.quiet, [some true, none], fun _ => .pointer (some ⟨g, 0, none⟩), [17]⟩, ⟨.act 1, [some true, some false], fun _ => undef, [18, 17]⟩, ⟨.quiet, [some true, some true], fun _ => .int .i64 (R.length : Int), [19, 17]⟩, ⟨.quiet, [some true, none], fun _ => .pointer (some ⟨q, 0, none⟩), [17]⟩, ⟨.quiet, [some true, none], fun _ => .pointer (some ⟨q, 0, none⟩), [21, 17]⟩, ⟨.quiet, [some true, none], fun _ => .pointer (some ⟨q, 3, none⟩), [22, 17]⟩, ⟨.quiet, [some true, none], fun _ => bw, [23, 17]⟩, ⟨.quiet, [some true, none], fun _ => .int .i64 (R.length : Int), [24, 17]⟩, ⟨.quiet, [some true, some true], fun _ => .bool false, [20, 25, 17]⟩, ⟨.quiet, [some true, some true], fun _ => .bool false, [17, 26]⟩] [(0, v1), (1, .bool false), (4, .bool false), (5, .pointer (some ⟨g, 0, none⟩)), (6, .pointer (some ⟨q, 0, none⟩)), (7, .int .i64 ((i : Nat) : Int)), (26, .int .i64 ((i : Nat) : Int)), (27, v1), (28, .int .i64 (l.length : Int)), (29, .bool true), (30, .bool true), (31, .int .i64 ((i : Nat) : Int)), (32, .bool true), (33, .bool true), (36, v1), (37, .int .i64 ((i : Nat) : Int)), (38, elp v1 (i * 6)), (39, .agg (encSk (⟨b1, of, A1, c1, d1, la, true, wh⟩ : StepC)).toArray), (8, .pointer (some ⟨g8, 0, none⟩)), (40, .pointer (some ⟨g8, 5, none⟩)), (41, .int .i64 wh), (42, .int .i64 q20), (43, .bool false), (49, .pointer (some ⟨g8, 0, none⟩)), (50, .int .u64 b1), (51, .agg #[.int .u64 r, .int .u64 2, .int .i64 14]), (9, .pointer (some ⟨g9, 0, none⟩)), (52, .pointer (some ⟨g8, 4, none⟩)), (53, .bool true), (54, .agg #[.int .u64 1, .int .u64 2, .int .i64 14]), (55, .pointer (some ⟨q, 0, none⟩)), (56, .pointer (some ⟨q, 0, none⟩)), (57, .pointer (some ⟨q, 3, none⟩)), (58, bv), (59, .int .i64 (D.length : Int)), (60, .pointer (some ⟨g8, 1, none⟩)), (61, .pointer (some ⟨g8, 2, none⟩)), (62, .slice A1 d1.length c1), (10, .slice A1 d1.length c1), (63, .bool false), (72, ov0), (73, .slice A1 d1.length c1), (74, ov), (11, ov), (76, .pointer (some ⟨g, 0, none⟩)), (77, .agg #[.int .u64 1, .int .u64 2, .int .i64 14]), (78, .pointer (some ⟨g8, 1, none⟩)), (79, .int .i64 (D.length : Int)), (80, ov), (81, .pointer (some ⟨g8, 3, none⟩)), (82, .bool la), (83, .tuple #[.bool tb, .int .i64 (R.length : Int)]), (75, .tuple #[.bool tb, .int .i64 (R.length : Int)]), (84, .bool tb), (85, .int .i64 (R.length : Int)), (12, .bool tb), (13, .int .i64 (R.length : Int)), (87, .pointer (some ⟨q, 0, none⟩)), (88, .agg #[.int .u64 1, .int .u64 2, .int .i64 14]), (89, .pointer (some ⟨g8, 1, none⟩)), (90, .int .i64 (D.length : Int)), (91, .slice A1 d1.length c1), (92, .pointer (some ⟨g8, 3, none⟩)), (93, .bool la), (94, .tuple #[.bool tb, .int .i64 (R.length : Int)]), (86, .tuple #[.bool tb, .int .i64 (R.length : Int)]), (95, .bool tb), (96, .int .i64 (R.length : Int)), (14, .bool tb), (15, .int .i64 (R.length : Int)), (16, .int .i64 ((k : Nat) : Int)), (97, .int .i64 ((k : Nat) : Int)), (98, ov), (99, .int .i64 (L.length : Int)), (100, .bool false)] (fun ρ => match ρ with | [rq0, rq1] => [selS rq1 (fun dv => Vec 5 1 encB dv R) (emp), cell q 42 #[.int .u64 1, .int .u64 2, .int .i64 14, bw], Vec 5 1 encB bw R, Vec 5 1 encB ov L, cell g9 31 #[.int .u64 1, .int .u64 2, .int .i64 14], cell g8 44 #[.int .u64 b1, .int .i64 (D.length : Int), .slice A1 d1.length c1, .bool la, .bool true, .int .i64 wh], TkT 50 g 1 2 14 R, X] | _ => []) (by kernel_rfl) (by kernel_rfl) ⟨rfl, rfl, rfl, rfl, rfl, rfl, rfl, rfl, rfl, rfl, rfl, rfl, rfl, rfl, rfl, rfl, rfl, rfl, rfl, rfl, rfl, rfl, rfl, rfl, rfl, rfl, rfl, rfl, rfl, rfl, rfl, rfl, rfl, rfl, rfl, rfl, rfl, rfl, rfl, rfl, rfl, rfl, rfl, rfl, rfl, rfl, rfl, rfl, rfl, rfl, rfl, rfl, rfl, rfl, rfl, rfl, rfl, rfl, rfl, rfl, rfl, rfl, rfl, rfl, rfl, rfl, rfl, rfl, rfl, rfl, rfl, rfl, rfl, rfl, rfl, trivial⟩ rfl ?_ ?_
            · skip
              refine s_cons (by intro r0_ r1_; exact ⟨rfl, fun b w hH hb => exec_q1 hflS rfl hb⟩) ?_
              refine s_cons (by intro r0_ r1_; exact ⟨rfl, fun b w hH hb => exec_q1 hflS rfl hb⟩) ?_
              refine s_cons (by intro r0_ r1_; exact ⟨rfl, fun b w hH hb => exec_nes (neB_same _) rfl rfl rfl hb⟩) ?_
              refine s_cons (by intro r0_ r1_; exact ⟨rfl, fun b w hH hb => exec_q1 hflS rfl hb⟩) ?_
              refine s_cons (by intro r0_ r1_; exact ⟨rfl, fun b w hH hb => exec_q1 hflS rfl hb⟩) ?_
              refine s_cons (by intro r0_ r1_; exact ⟨rfl, fun b w hH hb => exec_q1 hflS rfl hb⟩) ?_
              refine s_cons (by intro r0_ r1_; exact ⟨rfl, fun b w hH hb => exec_cmp rfl rfl rfl (cmp_neq_f (by simp)) hb⟩) ?_
              refine s_cons (by intro r0_ r1_; exact ⟨rfl, fun b w hH hb => exec_q1 hflS rfl hb⟩) ?_
              refine s_cons (by intro r0_ r1_; exact ⟨rfl, fun b w hH hb => exec_q1 hflS rfl hb⟩) ?_
              refine s_cons (by intro r0_ r1_; exact ⟨rfl, fun b w hH hb => exec_q1 hflS rfl hb⟩) ?_
              refine s_cons (by exact ⟨rfl, Acts.su (a_does (os' := fun _ => [emp, cell q 42 #[.int .u64 1, .int .u64 2, .int .i64 14, bw], Vec 5 1 encB bw R, Vec 5 1 encB ov L, cell g9 31 #[.int .u64 1, .int .u64 2, .int .i64 14], cell g8 44 #[.int .u64 b1, .int .i64 (D.length : Int), .slice A1 d1.length c1, .bool la, .bool true, .int .i64 wh], TkT 50 g 1 2 14 R, X]) [6] 0 (ent_of Try.func14 (by kernel_rfl) rfl) (ck_base g 1 2 14 R) rfl rfl rfl (fun _ => rfl) rfl rfl rfl) rfl⟩) ?_
              refine s_cons (by intro r0_ r1_; exact ⟨rfl, fun b w hH hb => exec_q1 hflS rfl hb⟩) ?_
              refine s_cons (by intro r0_ r1_; exact ⟨rfl, fun b w hH hb => by exact exec_nilCheck rfl rfl hb⟩) ?_
              refine s_cons (by intro r0_ r1_; exact ⟨rfl, fun b w hH hb => exec_q1 hflS rfl hb⟩) ?_
              refine s_cons (by intro r0_ r1_; exact ⟨rfl, fun b w hH hb => exec_load rfl rfl (reads_agg (cs := [.int .u64 1, .int .u64 2, .int .i64 14, bw]) ty_api_Base rfl) (hH.row 1 rfl) hb⟩) ?_
              refine s_cons (by intro v0_ r1_; exact ⟨rfl, fun b w hH hb => exec_nes (neBaseF 1 2 14) rfl rfl rfl hb⟩) ?_
              refine s_cons (by intro v0_ r1_; exact ⟨rfl, fun b w hH hb => exec_q1 hflS rfl hb⟩) ?_
              refine s_cons (by intro v0_ r1_; exact ⟨rfl, fun b w hH hb => exec_q1 hflS rfl hb⟩) ?_
              refine s_cons (by intro v0_ r1_; exact ⟨rfl, fun b w hH hb => exec_q1 hflS rfl hb⟩) ?_
              refine s_cons (by intro v0_; exact ⟨rfl, Acts.s (a_does (os' := fun dv => [Vec 5 1 encB dv R, cell q 42 #[.int .u64 1, .int .u64 2, .int .i64 14, bw], Vec 5 1 encB bw R, Vec 5 1 encB ov L, cell g9 31 #[.int .u64 1, .int .u64 2, .int .i64 14], cell g8 44 #[.int .u64 b1, .int .i64 (D.length : Int), .slice A1 d1.length c1, .bool la, .bool true, .int .i64 wh], TkT 50 g 1 2 14 R, X]) [6, 0] 1 (ent_of Try.func15 (by kernel_rfl) rfl) (ck_data g 1 2 14 R hRl) rfl rfl rfl (fun _ => rfl) rfl rfl rfl) (fun _ => rfl)⟩) ?_
              refine s_cons (by intro v0_ dv; exact ⟨rfl, fun b w hH hb => e_vlen 0 Try.underlying22 rfl rfl rfl hH hb⟩) ?_
              refine s_cons (by intro v0_ r1_; exact ⟨rfl, fun b w hH hb => exec_q1 hflS rfl hb⟩) ?_
              refine s_cons (by intro v0_ r1_; exact ⟨rfl, fun b w hH hb => by exact exec_nilCheck rfl rfl hb⟩) ?_
              refine s_cons (by intro v0_ r1_; exact ⟨rfl, fun b w hH hb => exec_q1 hflS rfl hb⟩) ?_
              refine s_cons (by intro v0_ r1_; exact ⟨rfl, fun b w hH hb => exec_load rfl rfl (reads_one ty_s_uint8 rfl) (hH.row 1 rfl) hb⟩) ?_
              refine s_cons (by intro v0_ r1_; exact ⟨rfl, fun b w hH hb => e_vlen 2 Try.underlying22 rfl rfl rfl hH hb⟩) ?_
              refine s_cons (by intro v0_ dv; exact ⟨rfl, fun b w hH hb => exec_cmp rfl rfl rfl (cmp_neq_f (by simp)) hb⟩) ?_
              refine s_cons (by intro v0_ dv; exact ⟨rfl, fun b w hH hb => exec_q1 hflS rfl hb⟩) ?_
              exact s_nil
            intro v0_ dv
            refine WL2.keep (env' := [(0, v1), (1, .bool false), (4, .bool false), (5, .pointer (some ⟨g, 0, none⟩)), (6, .pointer (some ⟨q, 0, none⟩)), (7, .int .i64 ((i : Nat) : Int)), (26, .int .i64 ((i : Nat) : Int)), (27, v1), (28, .int .i64 (l.length : Int)), (29, .bool true), (30, .bool true), (31, .int .i64 ((i : Nat) : Int)), (32, .bool true), (33, .bool true), (36, v1), (37, .int .i64 ((i : Nat) : Int)), (38, elp v1 (i * 6)), (39, .agg (encSk (⟨b1, of, A1, c1, d1, la, true, wh⟩ : StepC)).toArray), (8, .pointer (some ⟨g8, 0, none⟩)), (40, .pointer (some ⟨g8, 5, none⟩)), (41, .int .i64 wh), (42, .int .i64 q20), (43, .bool false), (49, .pointer (some ⟨g8, 0, none⟩)), (50, .int .u64 b1), (51, .agg #[.int .u64 r, .int .u64 2, .int .i64 14]), (9, .pointer (some ⟨g9, 0, none⟩)), (52, .pointer (some ⟨g8, 4, none⟩)), (53, .bool true), (54, .agg #[.int .u64 1, .int .u64 2, .int .i64 14]), (55, .pointer (some ⟨q, 0, none⟩)), (56, .pointer (some ⟨q, 0, none⟩)), (57, .pointer (some ⟨q, 3, none⟩)), (58, bv), (59, .int .i64 (D.length : Int)), (60, .pointer (some ⟨g8, 1, none⟩)), (61, .pointer (some ⟨g8, 2, none⟩)), (62, .slice A1 d1.length c1), (10, .slice A1 d1.length c1), (63, .bool false), (72, ov0), (73, .slice A1 d1.length c1), (74, ov), (11, ov), (76, .pointer (some ⟨g, 0, none⟩)), (77, .agg #[.int .u64 1, .int .u64 2, .int .i64 14]), (78, .pointer (some ⟨g8, 1, none⟩)), (79, .int .i64 (D.length : Int)), (80, ov), (81, .pointer (some ⟨g8, 3, none⟩)), (82, .bool la), (83, .tuple #[.bool tb, .int .i64 (R.length : Int)]), (75, .tuple #[.bool tb, .int .i64 (R.length : Int)]), (84, .bool tb), (85, .int .i64 (R.length : Int)), (12, .bool tb), (13, .int .i64 (R.length : Int)), (87, .pointer (some ⟨q, 0, none⟩)), (88, .agg #[.int .u64 1, .int .u64 2, .int .i64 14]), (89, .pointer (some ⟨g8, 1, none⟩)), (90, .int .i64 (D.length : Int)), (91, .slice A1 d1.length c1), (92, .pointer (some ⟨g8, 3, none⟩)), (93, .bool la), (94, .tuple #[.bool tb, .int .i64 (R.length : Int)]), (86, .tuple #[.bool tb, .int .i64 (R.length : Int)]), (95, .bool tb), (96, .int .i64 (R.length : Int)), (14, .bool tb), (15, .int .i64 (R.length : Int)), (16, .int .i64 ((k : Nat) : Int)), (97, .int .i64 ((k : Nat) : Int)), (98, ov), (99, .int .i64 (L.length : Int)), (100, .bool false), (106, .bool tb), (107, .bool tb), (108, .bool false), (109, .bool false), (110, .int .i64 (R.length : Int)), (111, .int .i64 (R.length : Int)), (112, .bool false), (113, .bool false), (114, .bool false), (115, .pointer (some ⟨g, 0, none⟩)), (116, .agg #[.int .u64 1, .int .u64 2, .int .i64 14]), (117, .pointer (some ⟨q, 0, none⟩)), (118, .pointer (some ⟨q, 0, none⟩)), (119, .pointer (some ⟨q, 0, none⟩)), (120, .agg #[.int .u64 1, .int .u64 2, .int .i64 14]), (121, .bool false), (122, .bool false), (123, .bool false), (124, .pointer (some ⟨g, 0, none⟩)), (125, dv), (126, .int .i64 (R.length : Int)), (127, .pointer (some ⟨q, 0, none⟩)), (128, .pointer (some ⟨q, 0, none⟩)), (129, .pointer (some ⟨q, 3, none⟩)), (130, bw), (131, .int .i64 (R.length : Int)), (132, .bool false), (133, .bool false)]) ⟨rfl, rfl, rfl, rfl, rfl, rfl, rfl, rfl, rfl, rfl, rfl, rfl, rfl, rfl, rfl, rfl, rfl, rfl, rfl, rfl, rfl, rfl, rfl, rfl, rfl, rfl, rfl, rfl, rfl, rfl, rfl, rfl, rfl, rfl, rfl, rfl, rfl, rfl, rfl, rfl, rfl, rfl, rfl, rfl, rfl, rfl, rfl, rfl, rfl, rfl, rfl, rfl, rfl, rfl, rfl, rfl, rfl, rfl, rfl, rfl, rfl, rfl, rfl, rfl, rfl, rfl, rfl, rfl, rfl, rfl, rfl, rfl, rfl, rfl, rfl, rfl, rfl, rfl, rfl, rfl, rfl, rfl, rfl, rfl, rfl, rfl, rfl, rfl, rfl, rfl, rfl, rfl, rfl, rfl, rfl, rfl, rfl, rfl, rfl, rfl, rfl, rfl, rfl, trivial⟩ ?_
            refine h_nil (f_to (d_else rfl (d_skip (f_block (f_to ?_)))))
            refine d_close [1, 2] rfl TkT.mk rfl ?_
            refine WC2.leave [1, 2, 3, 4] rfl rfl ?_
            refine d_reg1 ?_
            refine h_q hflS rfl ?_
            refine h_val rfl (.int .i64 ((i + 1 : Nat) : Int)) (fun b w hb hH => exec_ar rfl rfl rfl rfl (by rw [IntWalk.i64_in _ (by omega)]; omega) hb) ?_
            refine h_q hflS rfl ?_
            refine h_nil ?_
            exact f_again (i + 1, 1, 2, 14, R) 0 ⟨hi, hi2, hRl⟩ (show l.length - (i + 1) < l.length - i by omega) ⟨rfl, rfl, rfl, rfl, rfl, rfl, trivial⟩ rfl
        · skip
          obtain ⟨q3, hq3⟩ : ∃ q, wh.tmod 3 = q := ⟨_, rfl⟩
          have hq31 : -3 < q3 ∧ q3 < 3 := by rw [← hq3]; exact ⟨by have := Int.tmod_lt_of_pos (-wh) (show (0 : Int) < 3 by decide); rw [Int.neg_tmod] at this; omega, Int.tmod_lt_of_pos wh (by decide)⟩
          obtain ⟨m, hm⟩ : ∃ m : Nat, (256 * (1 + q3)) % 1500 = (m : Int) := ⟨((256 * (1 + q3)) % 1500).toNat, by omega⟩
          have hm1 : m < 1500 := by omega
          refine d_reg ?_
          refine h_q hflS rfl ?_
          refine h_done (d_then rfl (d_reg1 ?_))
          refine h_q hflS rfl ?_
          refine h_val rfl (.int .i64 wh) (fun b w hb hH => exec_load rfl rfl (reads_one ty_int rfl) (hH.row 2 rfl) hb) ?_
          refine h_val rfl (.int .i64 q3) (fun b w hb hH => exec_remI rfl rfl rfl (by decide) hq3 hb) ?_
          refine h_val rfl (.int .i64 (1 + q3)) (fun b w hb hH => exec_ar rfl rfl rfl rfl (IntWalk.i64_in _ (by omega)) hb) ?_
          refine h_val rfl (.int .i64 (256 * (1 + q3))) (fun b w hb hH => exec_ar rfl rfl rfl rfl (IntWalk.i64_in _ (by omega)) hb) ?_
          refine h_q hflS rfl ?_
          refine h_val rfl (.slice A1 d1.length c1) (fun b w hb hH => exec_load rfl rfl (reads_one ty_s_uint8 rfl) (hH.row 2 rfl) hb) ?_
          refine h_act (post := fun (x : DatV m) => [Vec 5 1 encB x.v x.l, TkT 42 q bi bt bc D, cell g9 31 #[.int .u64 1, .int .u64 2, .int .i64 14], cell g8 44 #[.int .u64 b1, .int .i64 (D.length : Int), .slice A1 d1.length c1, .bool la, .bool true, .int .i64 wh], TkT 50 g bi bt bc D, X]) rfl (a_does (os' := fun (x : DatV m) => [Vec 5 1 encB x.v x.l, TkT 42 q bi bt bc D, cell g9 31 #[.int .u64 1, .int .u64 2, .int .i64 14], cell g8 44 #[.int .u64 b1, .int .i64 (D.length : Int), .slice A1 d1.length c1, .bool la, .bool true, .int .i64 wh], TkT 50 g bi bt bc D, X]) [4] 0 (ent_of Try.func16 (by kernel_rfl) rfl) (data_does X (.slice A1 d1.length c1) d1 hXy (256 * (1 + q3)) (by omega) m hm) rfl rfl rfl (fun _ => rfl) rfl rfl rfl) ?_; rintro x
          refine h_q hflS rfl ?_
          refine h_nil (f_to ?_)
          have hxl := x.h
          obtain ⟨D0, hD0⟩ : ∃ z, keepL bi bt bc 1 2 14 D = z := ⟨_, rfl⟩
          obtain ⟨⟨tb, R⟩, hR⟩ : ∃ z, takeL D0 (D.length : Int) x.l la = z := ⟨_, rfl⟩
          have hD0l : D0.length ≤ 32768 := by rw [← hD0]; exact keepL_len hD
          have hRl : R.length ≤ 32768 := takeL_len hD0l hR
          refine d_reg ?_
          refine h_q hflS rfl ?_
          refine h_act (X := Value) (val := fun v : Value => v) (post := fun ov0 => [Vec 5 1 encB ov0 ([]), Vec 5 1 encB x.v x.l, TkT 42 q bi bt bc D, cell g9 31 #[.int .u64 1, .int .u64 2, .int .i64 14], cell g8 44 #[.int .u64 b1, .int .i64 (D.length : Int), .slice A1 d1.length c1, .bool la, .bool true, .int .i64 wh], TkT 50 g bi bt bc D, X]) rfl (by refine a_build0 (e := 5) (t := 22) (k := 1) (enc := encB) ?_ ?_; exact sl_uint8; exact rfl) ?_; rintro ov0
          refine h_q hflS rfl ?_
          refine h_act (post := fun ov => [Vec 5 1 encB ov x.l, Vec 5 1 encB x.v x.l, TkT 42 q bi bt bc D, cell g9 31 #[.int .u64 1, .int .u64 2, .int .i64 14], cell g8 44 #[.int .u64 b1, .int .i64 (D.length : Int), .slice A1 d1.length c1, .bool la, .bool true, .int .i64 wh], TkT 50 g bi bt bc D, X]) rfl (a_append8 0 sl_uint8 (by kernel_rfl) rfl (x.l) (fun w hH => hH.vec 1 rfl okB) (by simp only [List.length_nil]; omega) rfl rfl rfl (List.nil_append _)) ?_; rintro ov
          refine h_q hflS rfl ?_
          refine h_done (d_reg ?_)
          refine h_q hflS rfl ?_
          refine h_val rfl (.agg #[.int .u64 1, .int .u64 2, .int .i64 14]) (fun b w hb hH => exec_load rfl rfl (reads_agg (cs := [.int .u64 1, .int .u64 2, .int .i64 14]) ty_api_Base rfl) (hH.row 3 rfl) hb) ?_
          refine h_q hflS rfl ?_
          refine h_val rfl (.int .i64 (D.length : Int)) (fun b w hb hH => exec_load rfl rfl (reads_one ty_int rfl) (hH.row 4 rfl) hb) ?_
          refine h_q hflS rfl ?_
          refine h_val rfl (.bool la) (fun b w hb hH => exec_load rfl rfl (reads_one ty_bool rfl) (hH.row 4 rfl) hb) ?_
          refine h_act (post := fun _ => [Vec 5 1 encB ov x.l, Vec 5 1 encB x.v x.l, TkT 42 q bi bt bc D, cell g9 31 #[.int .u64 1, .int .u64 2, .int .i64 14], cell g8 44 #[.int .u64 b1, .int .i64 (D.length : Int), .slice A1 d1.length c1, .bool la, .bool true, .int .i64 wh], TkT 50 g 1 2 14 R, X]) rfl (a_does (os' := fun _ => [Vec 5 1 encB ov x.l, Vec 5 1 encB x.v x.l, TkT 42 q bi bt bc D, cell g9 31 #[.int .u64 1, .int .u64 2, .int .i64 14], cell g8 44 #[.int .u64 b1, .int .i64 (D.length : Int), .slice A1 d1.length c1, .bool la, .bool true, .int .i64 wh], TkT 50 g 1 2 14 R, X]) [5, 0] 0 (ent_of Try.func10 (by kernel_rfl) rfl) (ck_takeN (Vec 5 1 encB ov x.l) ov x.l rd8_vec (by omega) g bi bt bc 1 2 14 D hD (D.length : Int) (by omega) la D0 hD0 tb R hR (R.length : Int) rfl) rfl rfl rfl (fun _ => rfl) rfl rfl rfl) ?_; rintro ⟨⟩
          refine h_q hflS rfl ?_
          refine h_done (d_reg ?_)
          refine h_q hflS rfl ?_
          refine h_val rfl (.agg #[.int .u64 1, .int .u64 2, .int .i64 14]) (fun b w hb hH => exec_load rfl rfl (reads_agg (cs := [.int .u64 1, .int .u64 2, .int .i64 14]) ty_api_Base rfl) (hH.row 3 rfl) hb) ?_
          refine h_q hflS rfl ?_
          refine h_val rfl (.int .i64 (D.length : Int)) (fun b w hb hH => exec_load rfl rfl (reads_one ty_int rfl) (hH.row 4 rfl) hb) ?_
          refine h_q hflS rfl ?_
          refine h_val rfl (.bool la) (fun b w hb hH => exec_load rfl rfl (reads_one ty_bool rfl) (hH.row 4 rfl) hb) ?_
          refine h_act (post := fun _ => [Vec 5 1 encB ov x.l, Vec 5 1 encB x.v x.l, TkT 42 q 1 2 14 R, cell g9 31 #[.int .u64 1, .int .u64 2, .int .i64 14], cell g8 44 #[.int .u64 b1, .int .i64 (D.length : Int), .slice A1 d1.length c1, .bool la, .bool true, .int .i64 wh], TkT 50 g 1 2 14 R, X]) rfl (a_does (os' := fun _ => [Vec 5 1 encB ov x.l, Vec 5 1 encB x.v x.l, TkT 42 q 1 2 14 R, cell g9 31 #[.int .u64 1, .int .u64 2, .int .i64 14], cell g8 44 #[.int .u64 b1, .int .i64 (D.length : Int), .slice A1 d1.length c1, .bool la, .bool true, .int .i64 wh], TkT 50 g 1 2 14 R, X]) [2, 1] 0 (ent_of Try.func19 (by kernel_rfl) rfl) (rk_takeN (Vec 5 1 encB x.v x.l) x.v x.l rd8_vec (by omega) q bi bt bc 1 2 14 D hD (D.length : Int) (by omega) la D0 hD0 tb R hR (R.length : Int) rfl) rfl rfl rfl (fun _ => rfl) rfl rfl rfl) ?_; rintro ⟨⟩
          refine h_q hflS rfl ?_
          refine h_done (d_seq (d_reg ?_))
          refine h_q hflS rfl ?_
          refine h_done (d_block ?_)
          refine d_loop (α := Nat × List UInt8) (fun ⟨k, L⟩ => [(0, v1), (1, .bool true), (4, .bool false), (5, .pointer (some ⟨g, 0, none⟩)), (6, .pointer (some ⟨q, 0, none⟩)), (7, .int .i64 ((i : Nat) : Int)), (26, .int .i64 ((i : Nat) : Int)), (27, v1), (28, .int .i64 (l.length : Int)), (29, .bool true), (30, .bool true), (31, .int .i64 ((i : Nat) : Int)), (32, .bool true), (33, .bool true), (36, v1), (37, .int .i64 ((i : Nat) : Int)), (38, elp v1 (i * 6)), (39, .agg (encSk (⟨b1, of, A1, c1, d1, la, true, wh⟩ : StepC)).toArray), (8, .pointer (some ⟨g8, 0, none⟩)), (40, .pointer (some ⟨g8, 5, none⟩)), (41, .int .i64 wh), (42, .int .i64 q20), (43, .bool false), (49, .pointer (some ⟨g8, 0, none⟩)), (50, .int .u64 b1), (51, .agg #[.int .u64 r, .int .u64 2, .int .i64 14]), (9, .pointer (some ⟨g9, 0, none⟩)), (52, .pointer (some ⟨g8, 4, none⟩)), (53, .bool true), (54, .agg #[.int .u64 1, .int .u64 2, .int .i64 14]), (55, .pointer (some ⟨q, 0, none⟩)), (56, .pointer (some ⟨q, 0, none⟩)), (57, .pointer (some ⟨q, 3, none⟩)), (58, bv), (59, .int .i64 (D.length : Int)), (60, .pointer (some ⟨g8, 1, none⟩)), (61, .pointer (some ⟨g8, 2, none⟩)), (62, .slice A1 d1.length c1), (63, .bool true), (64, .pointer (some ⟨g8, 5, none⟩)), (65, .int .i64 wh), (66, .int .i64 q3), (67, .int .i64 (1 + q3)), (68, .int .i64 (256 * (1 + q3))), (69, .pointer (some ⟨g8, 2, none⟩)), (70, .slice A1 d1.length c1), (71, x.v), (10, x.v), (72, ov0), (73, x.v), (74, ov), (11, ov), (76, .pointer (some ⟨g, 0, none⟩)), (77, .agg #[.int .u64 1, .int .u64 2, .int .i64 14]), (78, .pointer (some ⟨g8, 1, none⟩)), (79, .int .i64 (D.length : Int)), (80, ov), (81, .pointer (some ⟨g8, 3, none⟩)), (82, .bool la), (83, .tuple #[.bool tb, .int .i64 (R.length : Int)]), (75, .tuple #[.bool tb, .int .i64 (R.length : Int)]), (84, .bool tb), (85, .int .i64 (R.length : Int)), (12, .bool tb), (13, .int .i64 (R.length : Int)), (87, .pointer (some ⟨q, 0, none⟩)), (88, .agg #[.int .u64 1, .int .u64 2, .int .i64 14]), (89, .pointer (some ⟨g8, 1, none⟩)), (90, .int .i64 (D.length : Int)), (91, x.v), (92, .pointer (some ⟨g8, 3, none⟩)), (93, .bool la), (94, .tuple #[.bool tb, .int .i64 (R.length : Int)]), (86, .tuple #[.bool tb, .int .i64 (R.length : Int)]), (95, .bool tb), (96, .int .i64 (R.length : Int)), (14, .bool tb), (15, .int .i64 (R.length : Int)), (16, .int .i64 ((k : Nat) : Int))]) (fun ⟨k, L⟩ => [Vec 5 1 encB ov L, Vec 5 1 encB x.v x.l, TkT 42 q 1 2 14 R, cell g9 31 #[.int .u64 1, .int .u64 2, .int .i64 14], cell g8 44 #[.int .u64 b1, .int .i64 (D.length : Int), .slice A1 d1.length c1, .bool la, .bool true, .int .i64 wh], TkT 50 g 1 2 14 R, X]) (fun ⟨k, L⟩ => k ≤ x.l.length ∧ L.length = x.l.length) (fun ⟨k, L⟩ => x.l.length - k) (0, x.l) ⟨Nat.zero_le _, rfl⟩ ⟨rfl, rfl, rfl, rfl, rfl, rfl, rfl, rfl, rfl, rfl, rfl, rfl, rfl, rfl, rfl, rfl, rfl, rfl, rfl, rfl, rfl, rfl, rfl, rfl, rfl, rfl, rfl, rfl, rfl, rfl, rfl, rfl, rfl, rfl, rfl, rfl, rfl, rfl, rfl, rfl, rfl, rfl, rfl, rfl, rfl, rfl, rfl, rfl, rfl, rfl, rfl, rfl, rfl, rfl, rfl, rfl, rfl, rfl, rfl, rfl, rfl, rfl, rfl, rfl, rfl, rfl, rfl, rfl, rfl, rfl, rfl, rfl, rfl, rfl, rfl, rfl, rfl, rfl, rfl, trivial⟩ rfl ?_
          rintro ⟨k, L⟩ hK
          refine WC2.at_ (env' := [(0, v1), (1, .bool true), (4, .bool false), (5, .pointer (some ⟨g, 0, none⟩)), (6, .pointer (some ⟨q, 0, none⟩)), (7, .int .i64 ((i : Nat) : Int)), (26, .int .i64 ((i : Nat) : Int)), (27, v1), (28, .int .i64 (l.length : Int)), (29, .bool true), (30, .bool true), (31, .int .i64 ((i : Nat) : Int)), (32, .bool true), (33, .bool true), (36, v1), (37, .int .i64 ((i : Nat) : Int)), (38, elp v1 (i * 6)), (39, .agg (encSk (⟨b1, of, A1, c1, d1, la, true, wh⟩ : StepC)).toArray), (8, .pointer (some ⟨g8, 0, none⟩)), (40, .pointer (some ⟨g8, 5, none⟩)), (41, .int .i64 wh), (42, .int .i64 q20), (43, .bool false), (49, .pointer (some ⟨g8, 0, none⟩)), (50, .int .u64 b1), (51, .agg #[.int .u64 r, .int .u64 2, .int .i64 14]), (9, .pointer (some ⟨g9, 0, none⟩)), (52, .pointer (some ⟨g8, 4, none⟩)), (53, .bool true), (54, .agg #[.int .u64 1, .int .u64 2, .int .i64 14]), (55, .pointer (some ⟨q, 0, none⟩)), (56, .pointer (some ⟨q, 0, none⟩)), (57, .pointer (some ⟨q, 3, none⟩)), (58, bv), (59, .int .i64 (D.length : Int)), (60, .pointer (some ⟨g8, 1, none⟩)), (61, .pointer (some ⟨g8, 2, none⟩)), (62, .slice A1 d1.length c1), (63, .bool true), (64, .pointer (some ⟨g8, 5, none⟩)), (65, .int .i64 wh), (66, .int .i64 q3), (67, .int .i64 (1 + q3)), (68, .int .i64 (256 * (1 + q3))), (69, .pointer (some ⟨g8, 2, none⟩)), (70, .slice A1 d1.length c1), (71, x.v), (10, x.v), (72, ov0), (73, x.v), (74, ov), (11, ov), (76, .pointer (some ⟨g, 0, none⟩)), (77, .agg #[.int .u64 1, .int .u64 2, .int .i64 14]), (78, .pointer (some ⟨g8, 1, none⟩)), (79, .int .i64 (D.length : Int)), (80, ov), (81, .pointer (some ⟨g8, 3, none⟩)), (82, .bool la), (83, .tuple #[.bool tb, .int .i64 (R.length : Int)]), (75, .tuple #[.bool tb, .int .i64 (R.length : Int)]), (84, .bool tb), (85, .int .i64 (R.length : Int)), (12, .bool tb), (13, .int .i64 (R.length : Int)), (87, .pointer (some ⟨q, 0, none⟩)), (88, .agg #[.int .u64 1, .int .u64 2, .int .i64 14]), (89, .pointer (some ⟨g8, 1, none⟩)), (90, .int .i64 (D.length : Int)), (91, x.v), (92, .pointer (some ⟨g8, 3, none⟩)), (93, .bool la), (94, .tuple #[.bool tb, .int .i64 (R.length : Int)]), (86, .tuple #[.bool tb, .int .i64 (R.length : Int)]), (95, .bool tb), (96, .int .i64 (R.length : Int)), (14, .bool tb), (15, .int .i64 (R.length : Int)), (16, .int .i64 ((k : Nat) : Int))]) (rs' := [Vec 5 1 encB ov L, Vec 5 1 encB x.v x.l, TkT 42 q 1 2 14 R, cell g9 31 #[.int .u64 1, .int .u64 2, .int .i64 14], cell g8 44 #[.int .u64 b1, .int .i64 (D.length : Int), .slice A1 d1.length c1, .bool la, .bool true, .int .i64 wh], TkT 50 g 1 2 14 R, X]) ⟨rfl, rfl, rfl, rfl, rfl, rfl, rfl, rfl, rfl, rfl, rfl, rfl, rfl, rfl, rfl, rfl, rfl, rfl, rfl, rfl, rfl, rfl, rfl, rfl, rfl, rfl, rfl, rfl, rfl, rfl, rfl, rfl, rfl, rfl, rfl, rfl, rfl, rfl, rfl, rfl, rfl, rfl, rfl, rfl, rfl, rfl, rfl, rfl, rfl, rfl, rfl, rfl, rfl, rfl, rfl, rfl, rfl, rfl, rfl, rfl, rfl, rfl, rfl, rfl, rfl, rfl, rfl, rfl, rfl, rfl, rfl, rfl, rfl, rfl, rfl, rfl, rfl, rfl, rfl, trivial⟩ rfl ?_
          have hK1 : k ≤ x.l.length := hK.1
          have hKL : L.length = x.l.length := hK.2
          refine d_seq ?_
          rcases Nat.lt_or_ge k x.l.length with hk | hk
          · skip
            refine d_reg ?_
            refine h_q hflS rfl ?_
            refine h_val rfl (.int .i64 (L.length : Int)) (fun b w hb hH => e_vlen 0 Try.underlying22 rfl rfl rfl hH hb) ?_
            refine h_val rfl (.bool true) (fun b w hb hH => exec_cmp rfl rfl rfl (cmp_lss_t (by omega)) hb) ?_
            refine h_done (d_then rfl (d_skip (f_to (d_seq (d_block (d_reg1 ?_))))))
            refine h_q hflS rfl ?_
            refine h_val rfl (elp ov (k * 1)) (fun b w hb hH => e_vidx 0 sl_uint8 okB rfl k (by omega) rfl rfl rfl hH hb) ?_
            refine h_acts (post := fun _ => [Vec 5 1 encB ov (L.set k 238), Vec 5 1 encB x.v x.l, TkT 42 q 1 2 14 R, cell g9 31 #[.int .u64 1, .int .u64 2, .int .i64 14], cell g8 44 #[.int .u64 b1, .int .i64 (D.length : Int), .slice A1 d1.length c1, .bool la, .bool true, .int .i64 wh], TkT 50 g 1 2 14 R, X]) rfl rfl (a_vstore1 0 ty_uint8 okB rfl k (by omega) 238 rfl rfl rfl rfl rfl) ?_; rintro ⟨⟩
            refine h_nil (f_block (f_to (d_reg1 ?_)))
            refine h_q hflS rfl ?_
            refine h_val rfl (.int .i64 ((k + 1 : Nat) : Int)) (fun b w hb hH => exec_ar rfl rfl rfl rfl (by rw [IntWalk.i64_in _ (by omega)]; omega) hb) ?_
            refine h_q hflS rfl ?_
            refine h_nil ?_
            exact f_again (k + 1, L.set k 238) 0 ⟨hk, (List.length_set ..).trans hKL⟩ (show x.l.length - (k + 1) < x.l.length - k by omega) ⟨rfl, rfl, rfl, rfl, rfl, rfl, rfl, rfl, rfl, rfl, rfl, rfl, rfl, rfl, rfl, rfl, rfl, rfl, rfl, rfl, rfl, rfl, rfl, rfl, rfl, rfl, rfl, rfl, rfl, rfl, rfl, rfl, rfl, rfl, rfl, rfl, rfl, rfl, rfl, rfl, rfl, rfl, rfl, rfl, rfl, rfl, rfl, rfl, rfl, rfl, rfl, rfl, rfl, rfl, rfl, rfl, rfl, rfl, rfl, rfl, rfl, rfl, rfl, rfl, rfl, rfl, rfl, rfl, rfl, rfl, rfl, rfl, rfl, rfl, rfl, rfl, rfl, rfl, rfl, trivial⟩ rfl
          · skip
            refine d_reg ?_
            refine h_q hflS rfl ?_
            refine h_val rfl (.int .i64 (L.length : Int)) (fun b w hb hH => e_vlen 0 Try.underlying22 rfl rfl rfl hH hb) ?_
            refine h_val rfl (.bool false) (fun b w hb hH => exec_cmp rfl rfl rfl (cmp_lss_f (by omega)) hb) ?_
            refine h_done (d_else rfl (d_exit (f_then_exit (f_then_exit (f_block_exit (f_to ?_))))))
            refine d_open 2 rfl TkT.open_ (fun _ => rfl) ?_; rintro bw
            refine d_seq ?_
            refine d_emps 1 rfl ?_
            refine d_parS 28 2 [⟨.quiet, [none, none], fun _ => .bool tb, []⟩, ⟨.quiet, [none, none], fun _ => .bool tb, []⟩, ⟨.quiet, [none, none], fun _ => .bool false, [0, 1]⟩, ⟨.quiet, [none, none], fun _ => .bool false, [2]⟩, ⟨.quiet, [none, none], fun _ => .int .i64 (R.length : Int), [3]⟩, ⟨.quiet, [none, none], fun _ => .int .i64 (R.length : Int), [3]⟩, ⟨.quiet, [none, none], fun _ => .bool false, [4, 5, 3]⟩, ⟨.quiet, [none, none], fun _ => .bool false, [3, 6]⟩, ⟨.quiet, [none, none], fun _ => .bool false, [7]⟩, ⟨.quiet, [none, none], fun _ => .pointer (some ⟨g, 0, none⟩), [8]⟩, ⟨.actv 0, [some false, some false], fun _ => .agg #[.int .u64 1, .int .u64 2, .int .i64 14], [9, 8]⟩, ⟨.quiet, [none, none], fun _ => .pointer (some ⟨q, 0, none⟩), [8]⟩, ⟨.quiet, [none, none], fun _ => .pointer (some ⟨q, 0, none⟩), [11, 8]⟩, ⟨.quiet, [none, none], fun _ => .pointer (some ⟨q, 0, none⟩), [12, 8]⟩, ⟨.quiet, [none, none], fun _ => .agg #[.int .u64 1, .int .u64 2, .int .i64 14], [13, 8]⟩, ⟨.quiet, [some true, none], fun _ => .bool false, [10, 14, 8]⟩, ⟨.quiet, [some true, none], fun _ => .bool false, [8, 15]⟩, ⟨.quiet, [some true, none], fun _ => .bool false, [16]⟩, ⟨.quiet, [some true, none], fun _ => .pointer (some ⟨g, 0, none⟩), [17]⟩, ⟨.act 1, [some true, some false], fun _ => undef, [18, 17]⟩, ⟨.quiet, [some true, some true], fun _ => .int .i64 (R.length : Int), [19, 17]⟩, ⟨.quiet, [some true, none], fun _ => .pointer (some ⟨q, 0, none⟩), [17]⟩, ⟨.quiet, [some true, none], fun _ => .pointer (some ⟨q, 0, none⟩), [21, 17]⟩, ⟨.quiet, [some true, none], fun _ => .pointer (some ⟨q, 3, none⟩), [22, 17]⟩, ⟨.quiet, [some true, none], fun _ => bw, [23, 17]⟩, ⟨.quiet, [some true, none], fun _ => .int .i64 (R.length : Int), [24, 17]⟩, ⟨.quiet, [some true, some true], fun _ => .bool false, [20, 25, 17]⟩, ⟨.quiet, [some true, some true], fun _ => .bool false, [17, 26]⟩] [(0, v1), (1, .bool true), (4, .bool false), (5, .pointer (some ⟨g, 0, none⟩)), (6, .pointer (some ⟨q, 0, none⟩)), (7, .int .i64 ((i : Nat) : Int)), (26, .int .i64 ((i : Nat) : Int)), (27, v1), (28, .int .i64 (l.length : Int)), (29, .bool true), (30, .bool true), (31, .int .i64 ((i : Nat) : Int)), (32, .bool true), (33, .bool true), (36, v1), (37, .int .i64 ((i : Nat) : Int)), (38, elp v1 (i * 6)), (39, .agg (encSk (⟨b1, of, A1, c1, d1, la, true, wh⟩ : StepC)).toArray), (8, .pointer (some ⟨g8, 0, none⟩)), (40, .pointer (some ⟨g8, 5, none⟩)), (41, .int .i64 wh), (42, .int .i64 q20), (43, .bool false), (49, .pointer (some ⟨g8, 0, none⟩)), (50, .int .u64 b1), (51, .agg #[.int .u64 r, .int .u64 2, .int .i64 14]), (9, .pointer (some ⟨g9, 0, none⟩)), (52, .pointer (some ⟨g8, 4, none⟩)), (53, .bool true), (54, .agg #[.int .u64 1, .int .u64 2, .int .i64 14]), (55, .pointer (some ⟨q, 0, none⟩)), (56, .pointer (some ⟨q, 0, none⟩)), (57, .pointer (some ⟨q, 3, none⟩)), (58, bv), (59, .int .i64 (D.length : Int)), (60, .pointer (some ⟨g8, 1, none⟩)), (61, .pointer (some ⟨g8, 2, none⟩)), (62, .slice A1 d1.length c1), (63, .bool true), (64, .pointer (some ⟨g8, 5, none⟩)), (65, .int .i64 wh), (66, .int .i64 q3), (67, .int .i64 (1 + q3)), (68, .int .i64 (256 * (1 + q3))), (69, .pointer (some ⟨g8, 2, none⟩)), (70, .slice A1 d1.length c1), (71, x.v), (10, x.v), (72, ov0), (73, x.v), (74, ov), (11, ov), (76, .pointer (some ⟨g, 0, none⟩)), (77, .agg #[.int .u64 1, .int .u64 2, .int .i64 14]), (78, .pointer (some ⟨g8, 1, none⟩)), (79, .int .i64 (D.length : Int)), (80, ov), (81, .pointer (some ⟨g8, 3, none⟩)), (82, .bool la), (83, .tuple #[.bool tb, .int .i64 (R.length : Int)]), (75, .tuple #[.bool tb, .int .i64 (R.length : Int)]), (84, .bool tb), (85, .int .i64 (R.length : Int)), (12, .bool tb), (13, .int .i64 (R.length : Int)), (87, .pointer (some ⟨q, 0, none⟩)), (88, .agg #[.int .u64 1, .int .u64 2, .int .i64 14]), (89, .pointer (some ⟨g8, 1, none⟩)), (90, .int .i64 (D.length : Int)), (91, x.v), (92, .pointer (some ⟨g8, 3, none⟩)), (93, .bool la), (94, .tuple #[.bool tb, .int .i64 (R.length : Int)]), (86, .tuple #[.bool tb, .int .i64 (R.length : Int)]), (95, .bool tb), (96, .int .i64 (R.length : Int)), (14, .bool tb), (15, .int .i64 (R.length : Int)), (16, .int .i64 ((k : Nat) : Int)), (97, .int .i64 ((k : Nat) : Int)), (98, ov), (99, .int .i64 (L.length : Int)), (100, .bool false)] (fun ρ => match ρ with | [rq0, rq1] => [selS rq1 (fun dv => Vec 5 1 encB dv R) (emp), cell q 42 #[.int .u64 1, .int .u64 2, .int .i64 14, bw], Vec 5 1 encB bw R, Vec 5 1 encB ov L, Vec 5 1 encB x.v x.l, cell g9 31 #[.int .u64 1, .int .u64 2, .int .i64 14], cell g8 44 #[.int .u64 b1, .int .i64 (D.length : Int), .slice A1 d1.length c1, .bool la, .bool true, .int .i64 wh], TkT 50 g 1 2 14 R, X] | _ => []) (by kernel_rfl) (by kernel_rfl) ⟨rfl, rfl, rfl, rfl, rfl, rfl, rfl, rfl, rfl, rfl, rfl, rfl, rfl, rfl, rfl, rfl, rfl, rfl, rfl, rfl, rfl, rfl, rfl, rfl, rfl, rfl, rfl, rfl, rfl, rfl, rfl, rfl, rfl, rfl, rfl, rfl, rfl, rfl, rfl, rfl, rfl, rfl, rfl, rfl, rfl, rfl, rfl, rfl, rfl, rfl, rfl, rfl, rfl, rfl, rfl, rfl, rfl, rfl, rfl, rfl, rfl, rfl, rfl, rfl, rfl, rfl, rfl, rfl, rfl, rfl, rfl, rfl, rfl, rfl, rfl, rfl, rfl, rfl, rfl, rfl, rfl, rfl, rfl, trivial⟩ rfl ?_ ?_
            · skip
              refine s_cons (by intro r0_ r1_; exact ⟨rfl, fun b w hH hb => exec_q1 hflS rfl hb⟩) ?_
              refine s_cons (by intro r0_ r1_; exact ⟨rfl, fun b w hH hb => exec_q1 hflS rfl hb⟩) ?_
              refine s_cons (by intro r0_ r1_; exact ⟨rfl, fun b w hH hb => exec_nes (neB_same _) rfl rfl rfl hb⟩) ?_
              refine s_cons (by intro r0_ r1_; exact ⟨rfl, fun b w hH hb => exec_q1 hflS rfl hb⟩) ?_
              refine s_cons (by intro r0_ r1_; exact ⟨rfl, fun b w hH hb => exec_q1 hflS rfl hb⟩) ?_
              refine s_cons (by intro r0_ r1_; exact ⟨rfl, fun b w hH hb => exec_q1 hflS rfl hb⟩) ?_
              refine s_cons (by intro r0_ r1_; exact ⟨rfl, fun b w hH hb => exec_cmp rfl rfl rfl (cmp_neq_f (by simp)) hb⟩) ?_
              refine s_cons (by intro r0_ r1_; exact ⟨rfl, fun b w hH hb => exec_q1 hflS rfl hb⟩) ?_
              refine s_cons (by intro r0_ r1_; exact ⟨rfl, fun b w hH hb => exec_q1 hflS rfl hb⟩) ?_
              refine s_cons (by intro r0_ r1_; exact ⟨rfl, fun b w hH hb => exec_q1 hflS rfl hb⟩) ?_
              refine s_cons (by exact ⟨rfl, Acts.su (a_does (os' := fun _ => [emp, cell q 42 #[.int .u64 1, .int .u64 2, .int .i64 14, bw], Vec 5 1 encB bw R, Vec 5 1 encB ov L, Vec 5 1 encB x.v x.l, cell g9 31 #[.int .u64 1, .int .u64 2, .int .i64 14], cell g8 44 #[.int .u64 b1, .int .i64 (D.length : Int), .slice A1 d1.length c1, .bool la, .bool true, .int .i64 wh], TkT 50 g 1 2 14 R, X]) [7] 0 (ent_of Try.func14 (by kernel_rfl) rfl) (ck_base g 1 2 14 R) rfl rfl rfl (fun _ => rfl) rfl rfl rfl) rfl⟩) ?_
              refine s_cons (by intro r0_ r1_; exact ⟨rfl, fun b w hH hb => exec_q1 hflS rfl hb⟩) ?_
              refine s_cons (by intro r0_ r1_; exact ⟨rfl, fun b w hH hb => by exact exec_nilCheck rfl rfl hb⟩) ?_
              refine s_cons (by intro r0_ r1_; exact ⟨rfl, fun b w hH hb => exec_q1 hflS rfl hb⟩) ?_
              refine s_cons (by intro r0_ r1_; exact ⟨rfl, fun b w hH hb => exec_load rfl rfl (reads_agg (cs := [.int .u64 1, .int .u64 2, .int .i64 14, bw]) ty_api_Base rfl) (hH.row 1 rfl) hb⟩) ?_
              refine s_cons (by intro v0_ r1_; exact ⟨rfl, fun b w hH hb => exec_nes (neBaseF 1 2 14) rfl rfl rfl hb⟩) ?_
              refine s_cons (by intro v0_ r1_; exact ⟨rfl, fun b w hH hb => exec_q1 hflS rfl hb⟩) ?_
              refine s_cons (by intro v0_ r1_; exact ⟨rfl, fun b w hH hb => exec_q1 hflS rfl hb⟩) ?_
              refine s_cons (by intro v0_ r1_; exact ⟨rfl, fun b w hH hb => exec_q1 hflS rfl hb⟩) ?_
              refine s_cons (by intro v0_; exact ⟨rfl, Acts.s (a_does (os' := fun dv => [Vec 5 1 encB dv R, cell q 42 #[.int .u64 1, .int .u64 2, .int .i64 14, bw], Vec 5 1 encB bw R, Vec 5 1 encB ov L, Vec 5 1 encB x.v x.l, cell g9 31 #[.int .u64 1, .int .u64 2, .int .i64 14], cell g8 44 #[.int .u64 b1, .int .i64 (D.length : Int), .slice A1 d1.length c1, .bool la, .bool true, .int .i64 wh], TkT 50 g 1 2 14 R, X]) [7, 0] 1 (ent_of Try.func15 (by kernel_rfl) rfl) (ck_data g 1 2 14 R hRl) rfl rfl rfl (fun _ => rfl) rfl rfl rfl) (fun _ => rfl)⟩) ?_
              refine s_cons (by intro v0_ dv; exact ⟨rfl, fun b w hH hb => e_vlen 0 Try.underlying22 rfl rfl rfl hH hb⟩) ?_
              refine s_cons (by intro v0_ r1_; exact ⟨rfl, fun b w hH hb => exec_q1 hflS rfl hb⟩) ?_
              refine s_cons (by intro v0_ r1_; exact ⟨rfl, fun b w hH hb => by exact exec_nilCheck rfl rfl hb⟩) ?_
              refine s_cons (by intro v0_ r1_; exact ⟨rfl, fun b w hH hb => exec_q1 hflS rfl hb⟩) ?_
              refine s_cons (by intro v0_ r1_; exact ⟨rfl, fun b w hH hb => exec_load rfl rfl (reads_one ty_s_uint8 rfl) (hH.row 1 rfl) hb⟩) ?_
              refine s_cons (by intro v0_ r1_; exact ⟨rfl, fun b w hH hb => e_vlen 2 Try.underlying22 rfl rfl rfl hH hb⟩) ?_
              refine s_cons (by intro v0_ dv; exact ⟨rfl, fun b w hH hb => exec_cmp rfl rfl rfl (cmp_neq_f (by simp)) hb⟩) ?_
              refine s_cons (by intro v0_ dv; exact ⟨rfl, fun b w hH hb => exec_q1 hflS rfl hb⟩) ?_
              exact s_nil
            intro v0_ dv
            refine WL2.keep (env' := [(0, v1), (1, .bool true), (4, .bool false), (5, .pointer (some ⟨g, 0, none⟩)), (6, .pointer (some ⟨q, 0, none⟩)), (7, .int .i64 ((i : Nat) : Int)), (26, .int .i64 ((i : Nat) : Int)), (27, v1), (28, .int .i64 (l.length : Int)), (29, .bool true), (30, .bool true), (31, .int .i64 ((i : Nat) : Int)), (32, .bool true), (33, .bool true), (36, v1), (37, .int .i64 ((i : Nat) : Int)), (38, elp v1 (i * 6)), (39, .agg (encSk (⟨b1, of, A1, c1, d1, la, true, wh⟩ : StepC)).toArray), (8, .pointer (some ⟨g8, 0, none⟩)), (40, .pointer (some ⟨g8, 5, none⟩)), (41, .int .i64 wh), (42, .int .i64 q20), (43, .bool false), (49, .pointer (some ⟨g8, 0, none⟩)), (50, .int .u64 b1), (51, .agg #[.int .u64 r, .int .u64 2, .int .i64 14]), (9, .pointer (some ⟨g9, 0, none⟩)), (52, .pointer (some ⟨g8, 4, none⟩)), (53, .bool true), (54, .agg #[.int .u64 1, .int .u64 2, .int .i64 14]), (55, .pointer (some ⟨q, 0, none⟩)), (56, .pointer (some ⟨q, 0, none⟩)), (57, .pointer (some ⟨q, 3, none⟩)), (58, bv), (59, .int .i64 (D.length : Int)), (60, .pointer (some ⟨g8, 1, none⟩)), (61, .pointer (some ⟨g8, 2, none⟩)), (62, .slice A1 d1.length c1), (63, .bool true), (64, .pointer (some ⟨g8, 5, none⟩)), (65, .int .i64 wh), (66, .int .i64 q3), (67, .int .i64 (1 + q3)), (68, .int .i64 (256 * (1 + q3))), (69, .pointer (some ⟨g8, 2, none⟩)), (70, .slice A1 d1.length c1), (71, x.v), (10, x.v), (72, ov0), (73, x.v), (74, ov), (11, ov), (76, .pointer (some ⟨g, 0, none⟩)), (77, .agg #[.int .u64 1, .int .u64 2, .int .i64 14]), (78, .pointer (some ⟨g8, 1, none⟩)), (79, .int .i64 (D.length : Int)), (80, ov), (81, .pointer (some ⟨g8, 3, none⟩)), (82, .bool la), (83, .tuple #[.bool tb, .int .i64 (R.length : Int)]), (75, .tuple #[.bool tb, .int .i64 (R.length : Int)]), (84, .bool tb), (85, .int .i64 (R.length : Int)), (12, .bool tb), (13, .int .i64 (R.length : Int)), (87, .pointer (some ⟨q, 0, none⟩)), (88, .agg #[.int .u64 1, .int .u64 2, .int .i64 14]), (89, .pointer (some ⟨g8, 1, none⟩)), (90, .int .i64 (D.length : Int)), (91, x.v), (92, .pointer (some ⟨g8, 3, none⟩)), (93, .bool la), (94, .tuple #[.bool tb, .int .i64 (R.length : Int)]), (86, .tuple #[.bool tb, .int .i64 (R.length : Int)]), (95, .bool tb), (96, .int .i64 (R.length : Int)), (14, .bool tb), (15, .int .i64 (R.length : Int)), (16, .int .i64 ((k : Nat) : Int)), (97, .int .i64 ((k : Nat) : Int)), (98, ov), (99, .int .i64 (L.length : Int)), (100, .bool false), (106, .bool tb), (107, .bool tb), (108, .bool false), (109, .bool false), (110, .int .i64 (R.length : Int)), (111, .int .i64 (R.length : Int)), (112, .bool false), (113, .bool false), (114, .bool false), (115, .pointer (some ⟨g, 0, none⟩)), (116, .agg #[.int .u64 1, .int .u64 2, .int .i64 14]), (117, .pointer (some ⟨q, 0, none⟩)), (118, .pointer (some ⟨q, 0, none⟩)), (119, .pointer (some ⟨q, 0, none⟩)), (120, .agg #[.int .u64 1, .int .u64 2, .int .i64 14]), (121, .bool false), (122, .bool false), (123, .bool false), (124, .pointer (some ⟨g, 0, none⟩)), (125, dv), (126, .int .i64 (R.length : Int)), (127, .pointer (some ⟨q, 0, none⟩)), (128, .pointer (some ⟨q, 0, none⟩)), (129, .pointer (some ⟨q, 3, none⟩)), (130, bw), (131, .int .i64 (R.length : Int)), (132, .bool false), (133, .bool false)]) ⟨rfl, rfl, rfl, rfl, rfl, rfl, rfl, rfl, rfl, rfl, rfl, rfl, rfl, rfl, rfl, rfl, rfl, rfl, rfl, rfl, rfl, rfl, rfl, rfl, rfl, rfl, rfl, rfl, rfl, rfl, rfl, rfl, rfl, rfl, rfl, rfl, rfl, rfl, rfl, rfl, rfl, rfl, rfl, rfl, rfl, rfl, rfl, rfl, rfl, rfl, rfl, rfl, rfl, rfl, rfl, rfl, rfl, rfl, rfl, rfl, rfl, rfl, rfl, rfl, rfl, rfl, rfl, rfl, rfl, rfl, rfl, rfl, rfl, rfl, rfl, rfl, rfl, rfl, rfl, rfl, rfl, rfl, rfl, rfl, rfl, rfl, rfl, rfl, rfl, rfl, rfl, rfl, rfl, rfl, rfl, rfl, rfl, rfl, rfl, rfl, rfl, rfl, rfl, rfl, rfl, rfl, rfl, rfl, rfl, rfl, rfl, trivial⟩ ?_
            refine h_nil (f_to (d_else rfl (d_skip (f_block (f_to ?_)))))
            refine d_close [1, 2] rfl TkT.mk rfl ?_
            refine WC2.leave [1, 2, 4, 5, 3] rfl rfl ?_
            refine d_reg1 ?_
            refine h_q hflS rfl ?_
            refine h_val rfl (.int .i64 ((i + 1 : Nat) : Int)) (fun b w hb hH => exec_ar rfl rfl rfl rfl (by rw [IntWalk.i64_in _ (by omega)]; omega) hb) ?_
            refine h_q hflS rfl ?_
            refine h_nil ?_
            exact f_again (i + 1, 1, 2, 14, R) 0 ⟨hi, hi2, hRl⟩ (show l.length - (i + 1) < l.length - i by omega) ⟨rfl, rfl, rfl, rfl, rfl, rfl, trivial⟩ rfl
  · skip
    refine d_reg ?_
    refine h_q hflS rfl ?_
    refine h_val rfl (.int .i64 (l.length : Int)) (fun b w hb hH => e_slen ((hH.rd 2 rfl hXs)) Try.underlying39 rfl rfl hb) ?_
    refine h_val rfl (.bool true) (fun b w hb hH => exec_cmp rfl rfl rfl (cmp_lss_t (by omega)) hb) ?_
    refine h_q hflS rfl ?_
    refine h_val rfl (.bool false) (fun b w hb hH => exec_cmp rfl rfl rfl (cmp_lss_f (by omega)) hb) ?_
    refine h_q hflS rfl ?_
    refine h_done (d_else rfl (d_exit (f_then_exit (f_then_exit (f_block_exit (f_to ?_))))))
    refine d_open 0 rfl TkT.open_ (fun _ => rfl) ?_; rintro bv
    refine d_seq ?_
    refine d_emps 1 rfl ?_
    refine d_parS 9 1 [⟨.quiet, [none], fun _ => .pointer (some ⟨g, 0, none⟩), []⟩, ⟨.act 0, [some false], fun _ => undef, [0]⟩, ⟨.quiet, [some true], fun _ => .string (bs D), [1]⟩, ⟨.quiet, [none], fun _ => .pointer (some ⟨q, 0, none⟩), []⟩, ⟨.quiet, [none], fun _ => .pointer (some ⟨q, 0, none⟩), [3]⟩, ⟨.quiet, [none], fun _ => .pointer (some ⟨q, 3, none⟩), [4]⟩, ⟨.quiet, [none], fun _ => bv, [5]⟩, ⟨.quiet, [none], fun _ => .string (bs D), [6]⟩, ⟨.quiet, [some true], fun _ => .bool true, [2, 7]⟩] [(4, .bool false), (5, .pointer (some ⟨g, 0, none⟩)), (6, .pointer (some ⟨q, 0, none⟩))] (fun ρ => match ρ with | [rq0] => [selS rq0 (fun dv => Vec 5 1 encB dv D) (emp), cell q 42 #[.int .u64 bi, .int .u64 bt, .int .i64 bc, bv], Vec 5 1 encB bv D, TkT 50 g bi bt bc D, X] | _ => []) (by kernel_rfl) (by kernel_rfl) ⟨rfl, rfl, rfl, trivial⟩ rfl ?_ ?_
    · skip
      refine s_cons (by intro r0_; exact ⟨rfl, fun b w hH hb => exec_q1 hflS rfl hb⟩) ?_
      refine s_cons (by exact ⟨rfl, Acts.s (a_does (os' := fun dv => [Vec 5 1 encB dv D, cell q 42 #[.int .u64 bi, .int .u64 bt, .int .i64 bc, bv], Vec 5 1 encB bv D, TkT 50 g bi bt bc D, X]) [3, 0] 1 (ent_of Try.func15 (by kernel_rfl) rfl) (ck_data g bi bt bc D hD) rfl rfl rfl (fun _ => rfl) rfl rfl rfl) (fun _ => rfl)⟩) ?_
      refine s_cons (by intro dv; exact ⟨rfl, fun b w hH hb => exec_str8 Try.underlying22 Try.underlying5 (by kernel_rfl) Try.underlying9 (hH.sl8 0 rfl) rfl rfl hb⟩) ?_
      refine s_cons (by intro r0_; exact ⟨rfl, fun b w hH hb => exec_q1 hflS rfl hb⟩) ?_
      refine s_cons (by intro r0_; exact ⟨rfl, fun b w hH hb => by exact exec_nilCheck rfl rfl hb⟩) ?_
      refine s_cons (by intro r0_; exact ⟨rfl, fun b w hH hb => exec_q1 hflS rfl hb⟩) ?_
      refine s_cons (by intro r0_; exact ⟨rfl, fun b w hH hb => exec_load rfl rfl (reads_one ty_s_uint8 rfl) (hH.row 1 rfl) hb⟩) ?_
      refine s_cons (by intro r0_; exact ⟨rfl, fun b w hH hb => exec_str8 Try.underlying22 Try.underlying5 (by kernel_rfl) Try.underlying9 (hH.sl8 2 rfl) rfl rfl hb⟩) ?_
      refine s_cons (by intro dv; exact ⟨rfl, fun b w hH hb => exec_same rfl rfl rfl (by simp) hb⟩) ?_
      exact s_nil
    intro dv
    refine WL2.keep (env' := [(4, .bool false), (142, .bool true)]) ⟨rfl, rfl, trivial⟩ ?_
    refine h_q hflS rfl ?_
    refine h_nil (f_to (d_ret ?_))
    exact f_fin1 (.tmp rfl) (fun w h => tells () rfl [4] rfl h same_parts) rfl
  · skip
    refine d_reg ?_
    refine h_q hflS rfl ?_
    refine h_val rfl (.int .i64 (l.length : Int)) (fun b w hb hH => e_slen ((hH.rd 2 rfl hXs)) Try.underlying39 rfl rfl hb) ?_
    refine h_val rfl (.bool false) (fun b w hb hH => exec_cmp rfl rfl rfl (cmp_lss_f (by omega)) hb) ?_
    refine h_q hflS rfl ?_
    refine h_done (d_else rfl (d_exit (f_then_exit (f_then_exit (f_block_exit (f_to ?_))))))
    refine d_open 0 rfl TkT.open_ (fun _ => rfl) ?_; rintro bv
    refine d_seq ?_
    refine d_emps 1 rfl ?_
    refine d_parS 9 1 [⟨.quiet, [none], fun _ => .pointer (some ⟨g, 0, none⟩), []⟩, ⟨.act 0, [some false], fun _ => undef, [0]⟩, ⟨.quiet, [some true], fun _ => .string (bs D), [1]⟩, ⟨.quiet, [none], fun _ => .pointer (some ⟨q, 0, none⟩), []⟩, ⟨.quiet, [none], fun _ => .pointer (some ⟨q, 0, none⟩), [3]⟩, ⟨.quiet, [none], fun _ => .pointer (some ⟨q, 3, none⟩), [4]⟩, ⟨.quiet, [none], fun _ => bv, [5]⟩, ⟨.quiet, [none], fun _ => .string (bs D), [6]⟩, ⟨.quiet, [some true], fun _ => .bool true, [2, 7]⟩] [(4, .bool false), (5, .pointer (some ⟨g, 0, none⟩)), (6, .pointer (some ⟨q, 0, none⟩))] (fun ρ => match ρ with | [rq0] => [selS rq0 (fun dv => Vec 5 1 encB dv D) (emp), cell q 42 #[.int .u64 bi, .int .u64 bt, .int .i64 bc, bv], Vec 5 1 encB bv D, TkT 50 g bi bt bc D, X] | _ => []) (by kernel_rfl) (by kernel_rfl) ⟨rfl, rfl, rfl, trivial⟩ rfl ?_ ?_
    · skip
      refine s_cons (by intro r0_; exact ⟨rfl, fun b w hH hb => exec_q1 hflS rfl hb⟩) ?_
      refine s_cons (by exact ⟨rfl, Acts.s (a_does (os' := fun dv => [Vec 5 1 encB dv D, cell q 42 #[.int .u64 bi, .int .u64 bt, .int .i64 bc, bv], Vec 5 1 encB bv D, TkT 50 g bi bt bc D, X]) [3, 0] 1 (ent_of Try.func15 (by kernel_rfl) rfl) (ck_data g bi bt bc D hD) rfl rfl rfl (fun _ => rfl) rfl rfl rfl) (fun _ => rfl)⟩) ?_
      refine s_cons (by intro dv; exact ⟨rfl, fun b w hH hb => exec_str8 Try.underlying22 Try.underlying5 (by kernel_rfl) Try.underlying9 (hH.sl8 0 rfl) rfl rfl hb⟩) ?_
      refine s_cons (by intro r0_; exact ⟨rfl, fun b w hH hb => exec_q1 hflS rfl hb⟩) ?_
      refine s_cons (by intro r0_; exact ⟨rfl, fun b w hH hb => by exact exec_nilCheck rfl rfl hb⟩) ?_
      refine s_cons (by intro r0_; exact ⟨rfl, fun b w hH hb => exec_q1 hflS rfl hb⟩) ?_
      refine s_cons (by intro r0_; exact ⟨rfl, fun b w hH hb => exec_load rfl rfl (reads_one ty_s_uint8 rfl) (hH.row 1 rfl) hb⟩) ?_
      refine s_cons (by intro r0_; exact ⟨rfl, fun b w hH hb => exec_str8 Try.underlying22 Try.underlying5 (by kernel_rfl) Try.underlying9 (hH.sl8 2 rfl) rfl rfl hb⟩) ?_
      refine s_cons (by intro dv; exact ⟨rfl, fun b w hH hb => exec_same rfl rfl rfl (by simp) hb⟩) ?_
      exact s_nil
    intro dv
    refine WL2.keep (env' := [(4, .bool false), (142, .bool true)]) ⟨rfl, rfl, trivial⟩ ?_
    refine h_q hflS rfl ?_
    refine h_nil (f_to (d_ret ?_))
    exact f_fin1 (.tmp rfl) (fun w h => tells () rfl [4] rfl h same_parts) rfl
end Go.Proofs.Ytikcleaicbihfaa.Sep
