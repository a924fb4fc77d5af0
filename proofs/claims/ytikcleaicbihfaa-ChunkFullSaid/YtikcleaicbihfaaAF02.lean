/-
  ChkB
-/
import Derived.Test.YtikcleaicbihfaaAF01
set_option linter.unusedSimpArgs false
set_option linter.unusedVariables false

namespace Go.Proofs.Ytikcleaicbihfaa.Sep
open Go.RowKit
open Go.Proofs.Ytikcleaicbihfaa.Mem (Dist Blk Chg below0)

set_option maxRecDepth 100000 in
theorem ck_new  : Does Try.prog 9 #[] [] (fun (g : Nat) => .pointer (some ⟨g, 0, none⟩)) (fun (g : Nat) => [TkT 50 g 0 0 0 ([])]) := by
  refine d_ins (args := []) 3 Try.func9 rfl rfl rfl ?_; intro w rs
  refine d_reg ?_
  refine h_q hflS rfl ?_
  refine h_done (d_reg ?_)
  refine h_q hflS rfl ?_
  refine h_val rfl (.agg #[.int .u64 0, .int .u64 0, .int .i64 0, .slice none 0 0]) (fun b w hb hH => exec_build rfl rfl (by kernel_rfl) hb) ?_
  refine h_act (post := fun g2 => [cell g2 50 #[.int .u64 0, .int .u64 0, .int .i64 0, .slice none 0 0]]) rfl (a_box (cs := #[.int .u64 0, .int .u64 0, .int .i64 0, .slice none 0 0]) rfl rfl rfl) ?_; rintro g2
  refine h_q hflS rfl ?_
  refine h_done (d_ret ?_)
  exact f_fin1 (.tmp rfl) (fun w h => tells g2 rfl [0] rfl h (fun z hz => ⟨z, .refl _, TkT.new hz⟩)) rfl

set_option maxRecDepth 100000 in
theorem ck_clear (p : Nat) (bi bt bc : Int) (D : List UInt8)  : Does Try.prog 12 #[.pointer (some ⟨p, 0, none⟩)] [TkT 50 p bi bt bc D] (fun (_ : Unit) => .tuple #[]) (fun (_ : Unit) => [TkT 50 p 0 0 0 ([])]) := by
  refine d_ins (args := [.pointer (some ⟨p, 0, none⟩)]) 5 Try.func12 rfl rfl rfl ?_; intro w rs
  refine d_open 0 rfl TkT.open_ (fun _ => rfl) ?_; rintro bv
  refine WC2.keep (env' := [(0, .pointer (some ⟨p, 0, none⟩))]) ⟨rfl, trivial⟩ ?_
  refine WC2.mid [cell p 50 #[.int .u64 bi, .int .u64 bt, .int .i64 bc, bv], Vec 5 1 encB bv D] (.refl _) ?_
  refine d_reg1 ?_
  refine h_q hflS rfl ?_
  refine h_val rfl (.agg #[.int .u64 0, .int .u64 0, .int .i64 0, .slice none 0 0]) (fun b w hb hH => exec_build rfl rfl (by kernel_rfl) hb) ?_
  refine h_val rfl (.pointer (some ⟨p, 0, none⟩)) (fun b w hb hH => by exact exec_nilCheck rfl rfl hb) ?_
  refine h_acts (post := fun _ => [cell p 50 #[.int .u64 0, .int .u64 0, .int .i64 0, .slice none 0 0], Vec 5 1 encB bv D]) rfl rfl (a_store 0 (v := .agg #[.int .u64 0, .int .u64 0, .int .i64 0, .slice none 0 0]) #[.int .u64 0, .int .u64 0, .int .i64 0, .slice none 0 0] ty_chunk_Taker.2 rfl rfl rfl rfl rfl rfl rfl rfl rfl) ?_; rintro ⟨⟩
  refine h_nil ?_
  exact f_fin0n  (fun w h => tells () rfl [0] rfl h (fun z hz => ⟨z, .refl _, TkT.new hz⟩)) rfl

set_option maxRecDepth 100000 in
theorem ck_base (p : Nat) (bi bt bc : Int) (D : List UInt8)  : Does Try.prog 14 #[.pointer (some ⟨p, 0, none⟩)] [TkT 50 p bi bt bc D] (fun (_ : Unit) => .agg #[.int .u64 bi, .int .u64 bt, .int .i64 bc]) (fun (_ : Unit) => [TkT 50 p bi bt bc D]) := by
  refine d_ins (args := [.pointer (some ⟨p, 0, none⟩)]) 7 Try.func14 rfl rfl rfl ?_; intro w rs
  refine d_open 0 rfl TkT.open_ (fun _ => rfl) ?_; rintro bv
  refine WC2.keep (env' := [(0, .pointer (some ⟨p, 0, none⟩))]) ⟨rfl, trivial⟩ ?_
  refine WC2.mid [cell p 50 #[.int .u64 bi, .int .u64 bt, .int .i64 bc, bv], Vec 5 1 encB bv D] (.refl _) ?_
  refine d_reg ?_
  refine h_q hflS rfl ?_
  refine h_act (post := fun g2 => [cell g2 31 #[.int .u64 0, .int .u64 0, .int .i64 0], cell p 50 #[.int .u64 bi, .int .u64 bt, .int .i64 bc, bv], Vec 5 1 encB bv D]) rfl (a_alloc ze_api_Base rfl) ?_; rintro g2
  refine h_done (d_reg ?_)
  refine h_q hflS rfl ?_
  refine h_val rfl (.pointer (some ⟨p, 0, none⟩)) (fun b w hb hH => by exact exec_nilCheck rfl rfl hb) ?_
  refine h_q hflS rfl ?_
  refine h_val rfl (.agg #[.int .u64 bi, .int .u64 bt, .int .i64 bc]) (fun b w hb hH => exec_load rfl rfl (reads_agg (cs := [.int .u64 bi, .int .u64 bt, .int .i64 bc, bv]) ty_api_Base rfl) (hH.row 1 rfl) hb) ?_
  refine h_acts (post := fun _ => [cell g2 31 #[.int .u64 bi, .int .u64 bt, .int .i64 bc], cell p 50 #[.int .u64 bi, .int .u64 bt, .int .i64 bc, bv], Vec 5 1 encB bv D]) rfl rfl (a_store 0 (v := .agg #[.int .u64 bi, .int .u64 bt, .int .i64 bc]) #[.int .u64 bi, .int .u64 bt, .int .i64 bc] ty_api_Base.2 rfl rfl rfl rfl rfl rfl rfl rfl rfl) ?_; rintro ⟨⟩
  refine h_done (d_ret ?_)
  exact f_fin1 (.cell 0 (v := .agg #[.int .u64 bi, .int .u64 bt, .int .i64 bc]) (reads_agg (cs := [.int .u64 bi, .int .u64 bt, .int .i64 bc]) ty_api_Base rfl) rfl rfl) (fun w h => tells () rfl [1, 2] rfl h (fun z hz => ⟨z, .refl _, TkT.mk1 hz⟩)) rfl

set_option maxRecDepth 100000 in
theorem ck_data (p : Nat) (bi bt bc : Int) (D : List UInt8) (hD : D.length ≤ 32768) : Does Try.prog 15 #[.pointer (some ⟨p, 0, none⟩)] [TkT 50 p bi bt bc D] (fun (u : Value) => u) (fun (u : Value) => [TkT 50 p bi bt bc D, Vec 5 1 encB u D]) := by
  refine d_ins (args := [.pointer (some ⟨p, 0, none⟩)]) 8 Try.func15 rfl rfl rfl ?_; intro w rs
  refine d_open 0 rfl TkT.open_ (fun _ => rfl) ?_; rintro bv
  refine WC2.keep (env' := [(0, .pointer (some ⟨p, 0, none⟩))]) ⟨rfl, trivial⟩ ?_
  refine WC2.mid [cell p 50 #[.int .u64 bi, .int .u64 bt, .int .i64 bc, bv], Vec 5 1 encB bv D] (.refl _) ?_
  refine d_reg ?_
  refine h_q hflS rfl ?_
  refine h_done (d_reg ?_)
  refine h_q hflS rfl ?_
  refine h_val rfl (.pointer (some ⟨p, 0, none⟩)) (fun b w hb hH => by exact exec_nilCheck rfl rfl hb) ?_
  refine h_q hflS rfl ?_
  refine h_val rfl (bv) (fun b w hb hH => exec_load rfl rfl (reads_one ty_s_uint8 rfl) (hH.row 0 rfl) hb) ?_
  refine h_act (post := fun u => [Vec 5 1 encB u D, cell p 50 #[.int .u64 bi, .int .u64 bt, .int .i64 bc, bv], Vec 5 1 encB bv D]) rfl (a_does (os' := fun u => [Vec 5 1 encB u D, cell p 50 #[.int .u64 bi, .int .u64 bt, .int .i64 bc, bv], Vec 5 1 encB bv D]) [1] 0 (ent_of Try.func20 (by kernel_rfl) rfl) ((clone8 (l := D) (v := bv) rd8_vec (by omega))) rfl rfl rfl (fun _ => rfl) rfl rfl rfl) ?_; rintro u
  refine h_q hflS rfl ?_
  refine h_done (d_ret ?_)
  exact f_fin1 (.tmp rfl) (fun w h => tells u rfl [1, 2, 0] rfl h (fun z hz => ⟨z, .refl _, TkT.mk2 hz⟩)) rfl

set_option maxRecDepth 100000 in
theorem ck_b (w : World) (n r : Int) (hn : 0 ≤ n ∧ n ≤ 18446744073709551615) (hr : 1 + n % 3 = r) : Calls Try.prog 11 #[.int .u64 n] w fun e w' => e = .returned (.agg #[.int .u64 r, .int .u64 2, .int .i64 14]) ∧ Below w.heap.size w w' := by
  obtain ⟨q, hq⟩ : ∃ q, n % 3 = q := ⟨_, rfl⟩
  refine d_in (args := [.int .u64 n]) 7 Try.func11 rfl rfl rfl ?_
  refine d_reg ?_
  refine h_q hflS rfl ?_
  refine h_act (post := fun g2 => [cell g2 31 #[.int .u64 0, .int .u64 0, .int .i64 0]]) rfl (a_alloc ze_api_Base rfl) ?_; rintro g2
  refine h_done (d_reg ?_)
  refine h_q hflS rfl ?_
  refine h_val rfl (.int .u64 q) (fun b w hb hH => exec_remI rfl rfl rfl (by decide) ((Int.tmod_eq_emod_of_nonneg hn.1).trans hq) hb) ?_
  refine h_val rfl (.int .u64 r) (fun b w hb hH => exec_ar rfl rfl rfl rfl (by rw [IntWalk.u64_in _ (by omega)]; omega) hb) ?_
  refine h_val rfl (.agg #[.int .u64 r, .int .u64 2, .int .i64 14]) (fun b w hb hH => exec_build rfl rfl (by kernel_rfl) hb) ?_
  refine h_acts (post := fun _ => [cell g2 31 #[.int .u64 r, .int .u64 2, .int .i64 14]]) rfl rfl (a_store 0 (v := .agg #[.int .u64 r, .int .u64 2, .int .i64 14]) #[.int .u64 r, .int .u64 2, .int .i64 14] ty_api_Base.2 rfl rfl rfl rfl rfl rfl rfl rfl rfl) ?_; rintro ⟨⟩
  refine h_done (d_ret ?_)
  exact f_fin1 (.cell 0 (v := .agg #[.int .u64 r, .int .u64 2, .int .i64 14]) (reads_agg (cs := [.int .u64 r, .int .u64 2, .int .i64 14]) ty_api_Base rfl) rfl rfl) (fun w h => ⟨rfl, below0 h.up⟩) rfl

theorem takeL_t {D p R : List UInt8} {o : Int} {last b : Bool} (ho : o = (D.length : Int)) (hp : p.length + D.length ≤ 32768) (h : takeL D o p last = (b, R)) : last = b ∧ R = D ++ p := by
  unfold takeL at h; rw [if_pos ⟨ho, hp⟩] at h; cases h; exact ⟨rfl, rfl⟩
theorem takeL_f {D p R : List UInt8} {o : Int} {last b : Bool} (hp : ¬ (o = (D.length : Int) ∧ p.length + D.length ≤ 32768)) (h : takeL D o p last = (b, R)) : b = false ∧ D = R := by
  unfold takeL at h; rw [if_neg hp] at h; cases h; exact ⟨rfl, rfl⟩

set_option maxRecDepth 100000 in
theorem ck_take (X : Ass) (v : Value) (y : List UInt8) (hX : Rd8 X v y) (hyl : y.length ≤ 140737488355327) (p : Nat) (bi bt bc ci ct cc : Int) (D : List UInt8) (hD : D.length ≤ 32768) (o : Int) (ho1 : -9223372036854775808 ≤ o ∧ o ≤ 9223372036854775807) (last : Bool) (D0 : List UInt8) (hD0 : keepL bi bt bc ci ct cc D = D0) (b : Bool) (R : List UInt8) (hR : takeL D0 o y last = (b, R)) : Does Try.prog 10 #[.pointer (some ⟨p, 0, none⟩), .agg #[.int .u64 ci, .int .u64 ct, .int .i64 cc], .int .i64 o, v, .bool last] [TkT 50 p bi bt bc D, X] (fun (_ : Unit) => .tuple #[.bool b, .int .i64 (R.length : Int)]) (fun (_ : Unit) => [TkT 50 p ci ct cc R, X]) := by
  refine d_ins (args := [.pointer (some ⟨p, 0, none⟩), .agg #[.int .u64 ci, .int .u64 ct, .int .i64 cc], .int .i64 o, v, .bool last]) 63 Try.func10 rfl rfl rfl ?_; intro w rs
  refine d_open 0 rfl TkT.open_ (fun _ => rfl) ?_; rintro bv
  refine WC2.keep (env' := [(0, .pointer (some ⟨p, 0, none⟩)), (1, .agg #[.int .u64 ci, .int .u64 ct, .int .i64 cc]), (2, .int .i64 o), (3, v), (4, .bool last)]) ⟨rfl, rfl, rfl, rfl, rfl, trivial⟩ ?_
  refine WC2.mid [cell p 50 #[.int .u64 bi, .int .u64 bt, .int .i64 bc, bv], Vec 5 1 encB bv D, X] (.refl _) ?_
  refine d_reg ?_
  refine h_q hflS rfl ?_
  refine h_act (post := fun g6 => [cell g6 31 #[.int .u64 ci, .int .u64 ct, .int .i64 cc], cell p 50 #[.int .u64 bi, .int .u64 bt, .int .i64 bc, bv], Vec 5 1 encB bv D, X]) rfl (a_box (cs := #[.int .u64 ci, .int .u64 ct, .int .i64 cc]) rfl rfl rfl) ?_; rintro g6
  refine h_q hflS rfl ?_
  refine h_done (d_seq ?_)
  rcases Classical.em (bi = ci ∧ bt = ct ∧ bc = cc) with hbe | hbe
  · skip
    obtain ⟨rfl, rfl, rfl⟩ := hbe
    obtain rfl : D = D0 := by rw [← hD0]; unfold keepL; rw [if_pos ⟨rfl, rfl, rfl⟩]
    refine d_seq ?_
    refine d_parS 6 0 [⟨.quiet, [], fun _ => .agg #[.int .u64 bi, .int .u64 bt, .int .i64 bc], []⟩, ⟨.quiet, [], fun _ => .pointer (some ⟨p, 0, none⟩), []⟩, ⟨.quiet, [], fun _ => .pointer (some ⟨p, 0, none⟩), [1]⟩, ⟨.quiet, [], fun _ => .pointer (some ⟨p, 0, none⟩), [2]⟩, ⟨.quiet, [], fun _ => .agg #[.int .u64 bi, .int .u64 bt, .int .i64 bc], [3]⟩, ⟨.quiet, [], fun _ => .bool false, [0, 4]⟩] [(0, .pointer (some ⟨p, 0, none⟩)), (2, .int .i64 o), (3, v), (4, .bool last), (6, .pointer (some ⟨g6, 0, none⟩)), (10, .bool false), (11, .int .i64 0)] (fun _ => [cell g6 31 #[.int .u64 bi, .int .u64 bt, .int .i64 bc], cell p 50 #[.int .u64 bi, .int .u64 bt, .int .i64 bc, bv], Vec 5 1 encB bv D, X]) (by kernel_rfl) (by kernel_rfl) ⟨rfl, rfl, rfl, rfl, rfl, rfl, rfl, trivial⟩ rfl ?_ ?_
    · skip
      refine s_cons (by exact ⟨rfl, fun b w hH hb => exec_load rfl rfl (reads_agg (cs := [.int .u64 bi, .int .u64 bt, .int .i64 bc]) ty_api_Base rfl) (hH.row 0 rfl) hb⟩) ?_
      refine s_cons (by exact ⟨rfl, fun b w hH hb => exec_q1 hflS rfl hb⟩) ?_
      refine s_cons (by exact ⟨rfl, fun b w hH hb => by exact exec_nilCheck rfl rfl hb⟩) ?_
      refine s_cons (by exact ⟨rfl, fun b w hH hb => exec_q1 hflS rfl hb⟩) ?_
      refine s_cons (by exact ⟨rfl, fun b w hH hb => exec_load rfl rfl (reads_agg (cs := [.int .u64 bi, .int .u64 bt, .int .i64 bc, bv]) ty_api_Base rfl) (hH.row 1 rfl) hb⟩) ?_
      refine s_cons (by exact ⟨rfl, fun b w hH hb => exec_nes (neBaseF bi bt bc) rfl rfl rfl hb⟩) ?_
      exact s_nil
    refine WL2.keep (env' := [(0, .pointer (some ⟨p, 0, none⟩)), (2, .int .i64 o), (3, v), (4, .bool last), (6, .pointer (some ⟨g6, 0, none⟩)), (10, .bool false), (11, .int .i64 0), (17, .bool false)]) ⟨rfl, rfl, rfl, rfl, rfl, rfl, rfl, rfl, trivial⟩ ?_
    refine h_nil (f_to (d_else rfl (d_skip (f_to (d_seq ?_)))))
    rcases Classical.em (o = (D.length : Int)) with ho | ho
    rcases Nat.lt_or_ge 32768 (y.length + D.length) with hy | hy
    · skip
      obtain ⟨rfl, rfl⟩ := takeL_f (fun h => by omega) hR
      refine d_reg ?_
      refine h_q hflS rfl ?_
      refine h_val rfl (.pointer (some ⟨p, 0, none⟩)) (fun b w hb hH => by exact exec_nilCheck rfl rfl hb) ?_
      refine h_q hflS rfl ?_
      refine h_val rfl (bv) (fun b w hb hH => exec_load rfl rfl (reads_one ty_s_uint8 rfl) (hH.row 1 rfl) hb) ?_
      refine h_val rfl (.int .i64 (D.length : Int)) (fun b w hb hH => e_vlen 2 Try.underlying22 rfl rfl rfl hH hb) ?_
      refine h_val rfl (.bool false) (fun b w hb hH => exec_cmp rfl rfl rfl (cmp_neq_f (by omega)) hb) ?_
      refine h_q hflS rfl ?_
      refine h_val rfl (.int .i64 (y.length : Int)) (fun b w hb hH => e_slen ((hH.rd8 3 rfl hX).rd) Try.underlying22 rfl rfl hb) ?_
      refine h_q hflS rfl ?_
      refine h_val rfl (.pointer (some ⟨p, 0, none⟩)) (fun b w hb hH => by exact exec_nilCheck rfl rfl hb) ?_
      refine h_q hflS rfl ?_
      refine h_val rfl (bv) (fun b w hb hH => exec_load rfl rfl (reads_one ty_s_uint8 rfl) (hH.row 1 rfl) hb) ?_
      refine h_val rfl (.int .i64 (D.length : Int)) (fun b w hb hH => e_vlen 2 Try.underlying22 rfl rfl rfl hH hb) ?_
      refine h_val rfl (.int .i64 (32768 - (D.length : Int))) (fun b w hb hH => exec_ar rfl rfl rfl rfl (IntWalk.i64_in _ (by omega)) hb) ?_
      refine h_val rfl (.bool true) (fun b w hb hH => exec_cmp rfl rfl rfl (cmp_gtr_t (by omega)) hb) ?_
      refine h_q hflS rfl ?_
      refine h_done (d_then rfl (d_seq ?_))
      refine d_parS 6 0 [⟨.quiet, [], fun _ => .pointer (some ⟨p, 0, none⟩), []⟩, ⟨.quiet, [], fun _ => .pointer (some ⟨p, 0, none⟩), [0]⟩, ⟨.quiet, [], fun _ => .pointer (some ⟨p, 3, none⟩), [1]⟩, ⟨.quiet, [], fun _ => bv, [2]⟩, ⟨.quiet, [], fun _ => .int .i64 (D.length : Int), [3]⟩, ⟨.quiet, [], fun _ => .bool false, []⟩] [(0, .pointer (some ⟨p, 0, none⟩)), (3, v), (4, .bool last), (11, .int .i64 0)] (fun _ => [cell g6 31 #[.int .u64 bi, .int .u64 bt, .int .i64 bc], cell p 50 #[.int .u64 bi, .int .u64 bt, .int .i64 bc, bv], Vec 5 1 encB bv D, X]) (by kernel_rfl) (by kernel_rfl) ⟨rfl, rfl, rfl, rfl, trivial⟩ rfl ?_ ?_
      · skip
        refine s_cons (by exact ⟨rfl, fun b w hH hb => exec_q1 hflS rfl hb⟩) ?_
        refine s_cons (by exact ⟨rfl, fun b w hH hb => by exact exec_nilCheck rfl rfl hb⟩) ?_
        refine s_cons (by exact ⟨rfl, fun b w hH hb => exec_q1 hflS rfl hb⟩) ?_
        refine s_cons (by exact ⟨rfl, fun b w hH hb => exec_load rfl rfl (reads_one ty_s_uint8 rfl) (hH.row 1 rfl) hb⟩) ?_
        refine s_cons (by exact ⟨rfl, fun b w hH hb => e_vlen 2 Try.underlying22 rfl rfl rfl hH hb⟩) ?_
        refine s_cons (by exact ⟨rfl, fun b w hH hb => exec_q1 hflS rfl hb⟩) ?_
        exact s_nil
      refine WL2.keep (env' := [(0, .pointer (some ⟨p, 0, none⟩)), (3, v), (4, .bool last), (11, .int .i64 0), (47, .int .i64 (D.length : Int)), (10, .bool false)]) ⟨rfl, rfl, rfl, rfl, rfl, rfl, trivial⟩ ?_
      refine h_q hflS rfl ?_
      refine h_nil (f_to (d_ret (f_then_ret ?_)))
      exact f_fin2 (.tmp rfl) (.tmp rfl) (fun w h => tells () rfl [1, 2, 3] rfl h (fun z hz => ⟨z, .refl _, TkT.mk2 hz⟩)) rfl
    · skip
      obtain ⟨rfl, hRe⟩ := takeL_t ho hy hR
      refine d_reg ?_
      refine h_q hflS rfl ?_
      refine h_val rfl (.pointer (some ⟨p, 0, none⟩)) (fun b w hb hH => by exact exec_nilCheck rfl rfl hb) ?_
      refine h_q hflS rfl ?_
      refine h_val rfl (bv) (fun b w hb hH => exec_load rfl rfl (reads_one ty_s_uint8 rfl) (hH.row 1 rfl) hb) ?_
      refine h_val rfl (.int .i64 (D.length : Int)) (fun b w hb hH => e_vlen 2 Try.underlying22 rfl rfl rfl hH hb) ?_
      refine h_val rfl (.bool false) (fun b w hb hH => exec_cmp rfl rfl rfl (cmp_neq_f (by omega)) hb) ?_
      refine h_q hflS rfl ?_
      refine h_val rfl (.int .i64 (y.length : Int)) (fun b w hb hH => e_slen ((hH.rd8 3 rfl hX).rd) Try.underlying22 rfl rfl hb) ?_
      refine h_q hflS rfl ?_
      refine h_val rfl (.pointer (some ⟨p, 0, none⟩)) (fun b w hb hH => by exact exec_nilCheck rfl rfl hb) ?_
      refine h_q hflS rfl ?_
      refine h_val rfl (bv) (fun b w hb hH => exec_load rfl rfl (reads_one ty_s_uint8 rfl) (hH.row 1 rfl) hb) ?_
      refine h_val rfl (.int .i64 (D.length : Int)) (fun b w hb hH => e_vlen 2 Try.underlying22 rfl rfl rfl hH hb) ?_
      refine h_val rfl (.int .i64 (32768 - (D.length : Int))) (fun b w hb hH => exec_ar rfl rfl rfl rfl (IntWalk.i64_in _ (by omega)) hb) ?_
      refine h_val rfl (.bool false) (fun b w hb hH => exec_cmp rfl rfl rfl (cmp_gtr_f (by omega)) hb) ?_
      refine h_q hflS rfl ?_
      refine h_done (d_else rfl (d_skip (f_to (d_reg ?_))))
      refine h_q hflS rfl ?_
      refine h_val rfl (.pointer (some ⟨p, 0, none⟩)) (fun b w hb hH => by exact exec_nilCheck rfl rfl hb) ?_
      refine h_q hflS rfl ?_
      refine h_val rfl (bv) (fun b w hb hH => exec_load rfl rfl (reads_one ty_s_uint8 rfl) (hH.row 1 rfl) hb) ?_
      refine h_q hflS rfl ?_
      refine h_act (post := fun bv2 => [cell g6 31 #[.int .u64 bi, .int .u64 bt, .int .i64 bc], cell p 50 #[.int .u64 bi, .int .u64 bt, .int .i64 bc, bv], Vec 5 1 encB bv2 R, X]) rfl (a_append8 2 sl_uint8 (by kernel_rfl) rfl (y) (fun w hH => (hH.rd8 3 rfl hX).rd) (by omega) rfl rfl rfl hRe.symm) ?_; rintro bv2
      refine h_val rfl (.pointer (some ⟨p, 0, none⟩)) (fun b w hb hH => by exact exec_nilCheck rfl rfl hb) ?_
      refine h_q hflS rfl ?_
      refine h_acts (post := fun _ => [cell g6 31 #[.int .u64 bi, .int .u64 bt, .int .i64 bc], cell p 50 #[.int .u64 bi, .int .u64 bt, .int .i64 bc, bv2], Vec 5 1 encB bv2 R, X]) rfl rfl (a_storev 1 2 (v := bv2) #[.int .u64 bi, .int .u64 bt, .int .i64 bc, bv2] ty_s_uint8.2 rfl (fun _ h => Vec.c1 h) rfl rfl rfl rfl rfl rfl rfl) ?_; rintro ⟨⟩
      refine h_done (d_seq ?_)
      refine d_parS 7 0 [⟨.quiet, [], fun _ => .bool last, []⟩, ⟨.quiet, [], fun _ => .pointer (some ⟨p, 0, none⟩), []⟩, ⟨.quiet, [], fun _ => .pointer (some ⟨p, 0, none⟩), [1]⟩, ⟨.quiet, [], fun _ => .pointer (some ⟨p, 3, none⟩), [2]⟩, ⟨.quiet, [], fun _ => bv2, [3]⟩, ⟨.quiet, [], fun _ => .int .i64 (R.length : Int), [4]⟩, ⟨.quiet, [], fun _ => .bool last, [0]⟩] [(0, .pointer (some ⟨p, 0, none⟩)), (4, .bool last), (11, .int .i64 0)] (fun _ => [cell g6 31 #[.int .u64 bi, .int .u64 bt, .int .i64 bc], cell p 50 #[.int .u64 bi, .int .u64 bt, .int .i64 bc, bv2], Vec 5 1 encB bv2 R, X]) (by kernel_rfl) (by kernel_rfl) ⟨rfl, rfl, rfl, trivial⟩ rfl ?_ ?_
      · skip
        refine s_cons (by exact ⟨rfl, fun b w hH hb => exec_q1 hflS rfl hb⟩) ?_
        refine s_cons (by exact ⟨rfl, fun b w hH hb => exec_q1 hflS rfl hb⟩) ?_
        refine s_cons (by exact ⟨rfl, fun b w hH hb => by exact exec_nilCheck rfl rfl hb⟩) ?_
        refine s_cons (by exact ⟨rfl, fun b w hH hb => exec_q1 hflS rfl hb⟩) ?_
        refine s_cons (by exact ⟨rfl, fun b w hH hb => exec_load rfl rfl (reads_one ty_s_uint8 rfl) (hH.row 1 rfl) hb⟩) ?_
        refine s_cons (by exact ⟨rfl, fun b w hH hb => e_vlen 2 Try.underlying22 rfl rfl rfl hH hb⟩) ?_
        refine s_cons (by exact ⟨rfl, fun b w hH hb => exec_q1 hflS rfl hb⟩) ?_
        exact s_nil
      refine WL2.keep (env' := [(11, .int .i64 0), (62, .int .i64 (R.length : Int)), (10, .bool last)]) ⟨rfl, rfl, rfl, trivial⟩ ?_
      refine h_q hflS rfl ?_
      refine h_nil (f_to (d_ret ?_))
      exact f_fin2 (.tmp rfl) (.tmp rfl) (fun w h => tells () rfl [1, 2, 3] rfl h (fun z hz => ⟨z, .refl _, TkT.mk2 hz⟩)) rfl
    · skip
      obtain ⟨rfl, rfl⟩ := takeL_f (fun h => ho h.1) hR
      refine d_reg ?_
      refine h_q hflS rfl ?_
      refine h_val rfl (.pointer (some ⟨p, 0, none⟩)) (fun b w hb hH => by exact exec_nilCheck rfl rfl hb) ?_
      refine h_q hflS rfl ?_
      refine h_val rfl (bv) (fun b w hb hH => exec_load rfl rfl (reads_one ty_s_uint8 rfl) (hH.row 1 rfl) hb) ?_
      refine h_val rfl (.int .i64 (D.length : Int)) (fun b w hb hH => e_vlen 2 Try.underlying22 rfl rfl rfl hH hb) ?_
      refine h_val rfl (.bool true) (fun b w hb hH => exec_cmp rfl rfl rfl (cmp_neq_t (by omega)) hb) ?_
      refine h_q hflS rfl ?_
      refine h_done (d_then rfl (d_seq ?_))
      refine d_parS 6 0 [⟨.quiet, [], fun _ => .pointer (some ⟨p, 0, none⟩), []⟩, ⟨.quiet, [], fun _ => .pointer (some ⟨p, 0, none⟩), [0]⟩, ⟨.quiet, [], fun _ => .pointer (some ⟨p, 3, none⟩), [1]⟩, ⟨.quiet, [], fun _ => bv, [2]⟩, ⟨.quiet, [], fun _ => .int .i64 (D.length : Int), [3]⟩, ⟨.quiet, [], fun _ => .bool false, []⟩] [(0, .pointer (some ⟨p, 0, none⟩)), (3, v), (4, .bool last), (11, .int .i64 0)] (fun _ => [cell g6 31 #[.int .u64 bi, .int .u64 bt, .int .i64 bc], cell p 50 #[.int .u64 bi, .int .u64 bt, .int .i64 bc, bv], Vec 5 1 encB bv D, X]) (by kernel_rfl) (by kernel_rfl) ⟨rfl, rfl, rfl, rfl, trivial⟩ rfl ?_ ?_
      · skip
        refine s_cons (by exact ⟨rfl, fun b w hH hb => exec_q1 hflS rfl hb⟩) ?_
        refine s_cons (by exact ⟨rfl, fun b w hH hb => by exact exec_nilCheck rfl rfl hb⟩) ?_
        refine s_cons (by exact ⟨rfl, fun b w hH hb => exec_q1 hflS rfl hb⟩) ?_
        refine s_cons (by exact ⟨rfl, fun b w hH hb => exec_load rfl rfl (reads_one ty_s_uint8 rfl) (hH.row 1 rfl) hb⟩) ?_
        refine s_cons (by exact ⟨rfl, fun b w hH hb => e_vlen 2 Try.underlying22 rfl rfl rfl hH hb⟩) ?_
        refine s_cons (by exact ⟨rfl, fun b w hH hb => exec_q1 hflS rfl hb⟩) ?_
        exact s_nil
      refine WL2.keep (env' := [(0, .pointer (some ⟨p, 0, none⟩)), (3, v), (4, .bool last), (11, .int .i64 0), (47, .int .i64 (D.length : Int)), (10, .bool false)]) ⟨rfl, rfl, rfl, rfl, rfl, rfl, trivial⟩ ?_
      refine h_q hflS rfl ?_
      refine h_nil (f_to (d_ret (f_then_ret ?_)))
      exact f_fin2 (.tmp rfl) (.tmp rfl) (fun w h => tells () rfl [1, 2, 3] rfl h (fun z hz => ⟨z, .refl _, TkT.mk2 hz⟩)) rfl
  · skip
    obtain rfl : D0 = [] := by rw [← hD0]; unfold keepL; rw [if_neg hbe]
    refine d_nilvec 5 1 encB ?_
    refine d_seq ?_
    refine d_parS 6 0 [⟨.quiet, [], fun _ => .agg #[.int .u64 ci, .int .u64 ct, .int .i64 cc], []⟩, ⟨.quiet, [], fun _ => .pointer (some ⟨p, 0, none⟩), []⟩, ⟨.quiet, [], fun _ => .pointer (some ⟨p, 0, none⟩), [1]⟩, ⟨.quiet, [], fun _ => .pointer (some ⟨p, 0, none⟩), [2]⟩, ⟨.quiet, [], fun _ => .agg #[.int .u64 bi, .int .u64 bt, .int .i64 bc], [3]⟩, ⟨.quiet, [], fun _ => .bool true, [0, 4]⟩] [(0, .pointer (some ⟨p, 0, none⟩)), (2, .int .i64 o), (3, v), (4, .bool last), (6, .pointer (some ⟨g6, 0, none⟩)), (10, .bool false), (11, .int .i64 0)] (fun _ => [Vec 5 1 encB (.slice none 0 0) ([]), cell g6 31 #[.int .u64 ci, .int .u64 ct, .int .i64 cc], cell p 50 #[.int .u64 bi, .int .u64 bt, .int .i64 bc, bv], Vec 5 1 encB bv D, X]) (by kernel_rfl) (by kernel_rfl) ⟨rfl, rfl, rfl, rfl, rfl, rfl, rfl, trivial⟩ rfl ?_ ?_
    · skip
      refine s_cons (by exact ⟨rfl, fun b w hH hb => exec_load rfl rfl (reads_agg (cs := [.int .u64 ci, .int .u64 ct, .int .i64 cc]) ty_api_Base rfl) (hH.row 1 rfl) hb⟩) ?_
      refine s_cons (by exact ⟨rfl, fun b w hH hb => exec_q1 hflS rfl hb⟩) ?_
      refine s_cons (by exact ⟨rfl, fun b w hH hb => by exact exec_nilCheck rfl rfl hb⟩) ?_
      refine s_cons (by exact ⟨rfl, fun b w hH hb => exec_q1 hflS rfl hb⟩) ?_
      refine s_cons (by exact ⟨rfl, fun b w hH hb => exec_load rfl rfl (reads_agg (cs := [.int .u64 bi, .int .u64 bt, .int .i64 bc, bv]) ty_api_Base rfl) (hH.row 2 rfl) hb⟩) ?_
      refine s_cons (by exact ⟨rfl, fun b w hH hb => exec_nes (neBaseT (fun h => hbe ⟨h.1.symm, h.2.1.symm, h.2.2.symm⟩)) rfl rfl rfl hb⟩) ?_
      exact s_nil
    refine WL2.keep (env' := [(0, .pointer (some ⟨p, 0, none⟩)), (2, .int .i64 o), (3, v), (4, .bool last), (6, .pointer (some ⟨g6, 0, none⟩)), (10, .bool false), (11, .int .i64 0), (17, .bool true)]) ⟨rfl, rfl, rfl, rfl, rfl, rfl, rfl, rfl, trivial⟩ ?_
    refine h_nil (f_to (d_then rfl (d_reg1 ?_)))
    refine h_q hflS rfl ?_
    refine h_val rfl (.agg #[.int .u64 ci, .int .u64 ct, .int .i64 cc]) (fun b w hb hH => exec_load rfl rfl (reads_agg (cs := [.int .u64 ci, .int .u64 ct, .int .i64 cc]) ty_api_Base rfl) (hH.row 1 rfl) hb) ?_
    refine h_val rfl (.pointer (some ⟨p, 0, none⟩)) (fun b w hb hH => by exact exec_nilCheck rfl rfl hb) ?_
    refine h_q hflS rfl ?_
    refine h_acts (post := fun _ => [Vec 5 1 encB (.slice none 0 0) ([]), cell g6 31 #[.int .u64 ci, .int .u64 ct, .int .i64 cc], cell p 50 #[.int .u64 ci, .int .u64 ct, .int .i64 cc, bv], Vec 5 1 encB bv D, X]) rfl rfl (a_store 2 (v := .agg #[.int .u64 ci, .int .u64 ct, .int .i64 cc]) #[.int .u64 ci, .int .u64 ct, .int .i64 cc, bv] ty_api_Base.2 rfl rfl rfl rfl rfl rfl rfl rfl rfl) ?_; rintro ⟨⟩
    refine h_val rfl (.pointer (some ⟨p, 0, none⟩)) (fun b w hb hH => by exact exec_nilCheck rfl rfl hb) ?_
    refine h_q hflS rfl ?_
    refine h_acts (post := fun _ => [Vec 5 1 encB (.slice none 0 0) ([]), cell g6 31 #[.int .u64 ci, .int .u64 ct, .int .i64 cc], cell p 50 #[.int .u64 ci, .int .u64 ct, .int .i64 cc, .slice none 0 0], Vec 5 1 encB bv D, X]) rfl rfl (a_store 2 (v := .slice none 0 0) #[.int .u64 ci, .int .u64 ct, .int .i64 cc, .slice none 0 0] ty_s_uint8.2 rfl rfl rfl rfl rfl rfl rfl rfl rfl) ?_; rintro ⟨⟩
    refine h_nil (f_to (d_seq ?_))
    rcases Classical.em (o = (([]).length : Int)) with ho | ho
    rcases Nat.lt_or_ge 32768 (y.length + ([]).length) with hy | hy
    · skip
      obtain ⟨rfl, rfl⟩ := takeL_f (fun h => by omega) hR
      refine d_reg ?_
      refine h_q hflS rfl ?_
      refine h_val rfl (.pointer (some ⟨p, 0, none⟩)) (fun b w hb hH => by exact exec_nilCheck rfl rfl hb) ?_
      refine h_q hflS rfl ?_
      refine h_val rfl (.slice none 0 0) (fun b w hb hH => exec_load rfl rfl (reads_one ty_s_uint8 rfl) (hH.row 2 rfl) hb) ?_
      refine h_val rfl (.int .i64 (0 : Int)) (fun b w hb hH => e_len sl_uint8 rfl rfl hH hb) ?_
      refine h_val rfl (.bool false) (fun b w hb hH => exec_cmp rfl rfl rfl (cmp_neq_f (by omega)) hb) ?_
      refine h_q hflS rfl ?_
      refine h_val rfl (.int .i64 (y.length : Int)) (fun b w hb hH => e_slen ((hH.rd8 4 rfl hX).rd) Try.underlying22 rfl rfl hb) ?_
      refine h_q hflS rfl ?_
      refine h_val rfl (.pointer (some ⟨p, 0, none⟩)) (fun b w hb hH => by exact exec_nilCheck rfl rfl hb) ?_
      refine h_q hflS rfl ?_
      refine h_val rfl (.slice none 0 0) (fun b w hb hH => exec_load rfl rfl (reads_one ty_s_uint8 rfl) (hH.row 2 rfl) hb) ?_
      refine h_val rfl (.int .i64 (0 : Int)) (fun b w hb hH => e_len sl_uint8 rfl rfl hH hb) ?_
      refine h_val rfl (.int .i64 (32768 - (([]).length : Int))) (fun b w hb hH => exec_ar rfl rfl rfl rfl (IntWalk.i64_in _ (by omega)) hb) ?_
      refine h_val rfl (.bool true) (fun b w hb hH => exec_cmp rfl rfl rfl (cmp_gtr_t (by omega)) hb) ?_
      refine h_q hflS rfl ?_
      refine h_done (d_then rfl (d_seq ?_))
      refine d_parS 6 0 [⟨.quiet, [], fun _ => .pointer (some ⟨p, 0, none⟩), []⟩, ⟨.quiet, [], fun _ => .pointer (some ⟨p, 0, none⟩), [0]⟩, ⟨.quiet, [], fun _ => .pointer (some ⟨p, 3, none⟩), [1]⟩, ⟨.quiet, [], fun _ => .slice none 0 0, [2]⟩, ⟨.quiet, [], fun _ => .int .i64 (0 : Int), [3]⟩, ⟨.quiet, [], fun _ => .bool false, []⟩] [(0, .pointer (some ⟨p, 0, none⟩)), (3, v), (4, .bool last), (11, .int .i64 0)] (fun _ => [Vec 5 1 encB (.slice none 0 0) ([]), cell g6 31 #[.int .u64 ci, .int .u64 ct, .int .i64 cc], cell p 50 #[.int .u64 ci, .int .u64 ct, .int .i64 cc, .slice none 0 0], Vec 5 1 encB bv D, X]) (by kernel_rfl) (by kernel_rfl) ⟨rfl, rfl, rfl, rfl, trivial⟩ rfl ?_ ?_
      · skip
        refine s_cons (by exact ⟨rfl, fun b w hH hb => exec_q1 hflS rfl hb⟩) ?_
        refine s_cons (by exact ⟨rfl, fun b w hH hb => by exact exec_nilCheck rfl rfl hb⟩) ?_
        refine s_cons (by exact ⟨rfl, fun b w hH hb => exec_q1 hflS rfl hb⟩) ?_
        refine s_cons (by exact ⟨rfl, fun b w hH hb => exec_load rfl rfl (reads_one ty_s_uint8 rfl) (hH.row 2 rfl) hb⟩) ?_
        refine s_cons (by exact ⟨rfl, fun b w hH hb => e_len sl_uint8 rfl rfl hH hb⟩) ?_
        refine s_cons (by exact ⟨rfl, fun b w hH hb => exec_q1 hflS rfl hb⟩) ?_
        exact s_nil
      refine WL2.keep (env' := [(0, .pointer (some ⟨p, 0, none⟩)), (3, v), (4, .bool last), (11, .int .i64 0), (47, .int .i64 (0 : Int)), (10, .bool false)]) ⟨rfl, rfl, rfl, rfl, rfl, rfl, trivial⟩ ?_
      refine h_q hflS rfl ?_
      refine h_nil (f_to (d_ret (f_then_ret ?_)))
      exact f_fin2 (.tmp rfl) (.tmp rfl) (fun w h => tells () rfl [2, 0, 4] rfl h (fun z hz => ⟨z, .refl _, TkT.mk2 hz⟩)) rfl
    · skip
      obtain ⟨rfl, hRe⟩ := takeL_t ho hy hR
      refine d_reg ?_
      refine h_q hflS rfl ?_
      refine h_val rfl (.pointer (some ⟨p, 0, none⟩)) (fun b w hb hH => by exact exec_nilCheck rfl rfl hb) ?_
      refine h_q hflS rfl ?_
      refine h_val rfl (.slice none 0 0) (fun b w hb hH => exec_load rfl rfl (reads_one ty_s_uint8 rfl) (hH.row 2 rfl) hb) ?_
      refine h_val rfl (.int .i64 (0 : Int)) (fun b w hb hH => e_len sl_uint8 rfl rfl hH hb) ?_
      refine h_val rfl (.bool false) (fun b w hb hH => exec_cmp rfl rfl rfl (cmp_neq_f (by omega)) hb) ?_
      refine h_q hflS rfl ?_
      refine h_val rfl (.int .i64 (y.length : Int)) (fun b w hb hH => e_slen ((hH.rd8 4 rfl hX).rd) Try.underlying22 rfl rfl hb) ?_
      refine h_q hflS rfl ?_
      refine h_val rfl (.pointer (some ⟨p, 0, none⟩)) (fun b w hb hH => by exact exec_nilCheck rfl rfl hb) ?_
      refine h_q hflS rfl ?_
      refine h_val rfl (.slice none 0 0) (fun b w hb hH => exec_load rfl rfl (reads_one ty_s_uint8 rfl) (hH.row 2 rfl) hb) ?_
      refine h_val rfl (.int .i64 (0 : Int)) (fun b w hb hH => e_len sl_uint8 rfl rfl hH hb) ?_
      refine h_val rfl (.int .i64 (32768 - (([]).length : Int))) (fun b w hb hH => exec_ar rfl rfl rfl rfl (IntWalk.i64_in _ (by omega)) hb) ?_
      refine h_val rfl (.bool false) (fun b w hb hH => exec_cmp rfl rfl rfl (cmp_gtr_f (by omega)) hb) ?_
      refine h_q hflS rfl ?_
      refine h_done (d_else rfl (d_skip (f_to (d_reg ?_))))
      refine h_q hflS rfl ?_
      refine h_val rfl (.pointer (some ⟨p, 0, none⟩)) (fun b w hb hH => by exact exec_nilCheck rfl rfl hb) ?_
      refine h_q hflS rfl ?_
      refine h_val rfl (.slice none 0 0) (fun b w hb hH => exec_load rfl rfl (reads_one ty_s_uint8 rfl) (hH.row 2 rfl) hb) ?_
      refine h_q hflS rfl ?_
      refine h_act (post := fun bv2 => [Vec 5 1 encB bv2 R, cell g6 31 #[.int .u64 ci, .int .u64 ct, .int .i64 cc], cell p 50 #[.int .u64 ci, .int .u64 ct, .int .i64 cc, .slice none 0 0], Vec 5 1 encB bv D, X]) rfl (a_append8 0 sl_uint8 (by kernel_rfl) rfl (y) (fun w hH => (hH.rd8 4 rfl hX).rd) (by simp only [List.length_nil]; omega) rfl rfl rfl hRe.symm) ?_; rintro bv2
      refine h_val rfl (.pointer (some ⟨p, 0, none⟩)) (fun b w hb hH => by exact exec_nilCheck rfl rfl hb) ?_
      refine h_q hflS rfl ?_
      refine h_acts (post := fun _ => [Vec 5 1 encB bv2 R, cell g6 31 #[.int .u64 ci, .int .u64 ct, .int .i64 cc], cell p 50 #[.int .u64 ci, .int .u64 ct, .int .i64 cc, bv2], Vec 5 1 encB bv D, X]) rfl rfl (a_storev 2 0 (v := bv2) #[.int .u64 ci, .int .u64 ct, .int .i64 cc, bv2] ty_s_uint8.2 rfl (fun _ h => Vec.c1 h) rfl rfl rfl rfl rfl rfl rfl) ?_; rintro ⟨⟩
      refine h_done (d_seq ?_)
      refine d_parS 7 0 [⟨.quiet, [], fun _ => .bool last, []⟩, ⟨.quiet, [], fun _ => .pointer (some ⟨p, 0, none⟩), []⟩, ⟨.quiet, [], fun _ => .pointer (some ⟨p, 0, none⟩), [1]⟩, ⟨.quiet, [], fun _ => .pointer (some ⟨p, 3, none⟩), [2]⟩, ⟨.quiet, [], fun _ => bv2, [3]⟩, ⟨.quiet, [], fun _ => .int .i64 (R.length : Int), [4]⟩, ⟨.quiet, [], fun _ => .bool last, [0]⟩] [(0, .pointer (some ⟨p, 0, none⟩)), (4, .bool last), (11, .int .i64 0)] (fun _ => [Vec 5 1 encB bv2 R, cell g6 31 #[.int .u64 ci, .int .u64 ct, .int .i64 cc], cell p 50 #[.int .u64 ci, .int .u64 ct, .int .i64 cc, bv2], Vec 5 1 encB bv D, X]) (by kernel_rfl) (by kernel_rfl) ⟨rfl, rfl, rfl, trivial⟩ rfl ?_ ?_
      · skip
        refine s_cons (by exact ⟨rfl, fun b w hH hb => exec_q1 hflS rfl hb⟩) ?_
        refine s_cons (by exact ⟨rfl, fun b w hH hb => exec_q1 hflS rfl hb⟩) ?_
        refine s_cons (by exact ⟨rfl, fun b w hH hb => by exact exec_nilCheck rfl rfl hb⟩) ?_
        refine s_cons (by exact ⟨rfl, fun b w hH hb => exec_q1 hflS rfl hb⟩) ?_
        refine s_cons (by exact ⟨rfl, fun b w hH hb => exec_load rfl rfl (reads_one ty_s_uint8 rfl) (hH.row 2 rfl) hb⟩) ?_
        refine s_cons (by exact ⟨rfl, fun b w hH hb => e_vlen 0 Try.underlying22 rfl rfl rfl hH hb⟩) ?_
        refine s_cons (by exact ⟨rfl, fun b w hH hb => exec_q1 hflS rfl hb⟩) ?_
        exact s_nil
      refine WL2.keep (env' := [(11, .int .i64 0), (62, .int .i64 (R.length : Int)), (10, .bool last)]) ⟨rfl, rfl, rfl, trivial⟩ ?_
      refine h_q hflS rfl ?_
      refine h_nil (f_to (d_ret ?_))
      exact f_fin2 (.tmp rfl) (.tmp rfl) (fun w h => tells () rfl [2, 0, 4] rfl h (fun z hz => ⟨z, .refl _, TkT.mk2 hz⟩)) rfl
    · skip
      obtain ⟨rfl, rfl⟩ := takeL_f (fun h => ho h.1) hR
      refine d_reg ?_
      refine h_q hflS rfl ?_
      refine h_val rfl (.pointer (some ⟨p, 0, none⟩)) (fun b w hb hH => by exact exec_nilCheck rfl rfl hb) ?_
      refine h_q hflS rfl ?_
      refine h_val rfl (.slice none 0 0) (fun b w hb hH => exec_load rfl rfl (reads_one ty_s_uint8 rfl) (hH.row 2 rfl) hb) ?_
      refine h_val rfl (.int .i64 (0 : Int)) (fun b w hb hH => e_len sl_uint8 rfl rfl hH hb) ?_
      refine h_val rfl (.bool true) (fun b w hb hH => exec_cmp rfl rfl rfl (cmp_neq_t (by omega)) hb) ?_
      refine h_q hflS rfl ?_
      refine h_done (d_then rfl (d_seq ?_))
      refine d_parS 6 0 [⟨.quiet, [], fun _ => .pointer (some ⟨p, 0, none⟩), []⟩, ⟨.quiet, [], fun _ => .pointer (some ⟨p, 0, none⟩), [0]⟩, ⟨.quiet, [], fun _ => .pointer (some ⟨p, 3, none⟩), [1]⟩, ⟨.quiet, [], fun _ => .slice none 0 0, [2]⟩, ⟨.quiet, [], fun _ => .int .i64 (0 : Int), [3]⟩, ⟨.quiet, [], fun _ => .bool false, []⟩] [(0, .pointer (some ⟨p, 0, none⟩)), (3, v), (4, .bool last), (11, .int .i64 0)] (fun _ => [Vec 5 1 encB (.slice none 0 0) ([]), cell g6 31 #[.int .u64 ci, .int .u64 ct, .int .i64 cc], cell p 50 #[.int .u64 ci, .int .u64 ct, .int .i64 cc, .slice none 0 0], Vec 5 1 encB bv D, X]) (by kernel_rfl) (by kernel_rfl) ⟨rfl, rfl, rfl, rfl, trivial⟩ rfl ?_ ?_
      · skip
        refine s_cons (by exact ⟨rfl, fun b w hH hb => exec_q1 hflS rfl hb⟩) ?_
        refine s_cons (by exact ⟨rfl, fun b w hH hb => by exact exec_nilCheck rfl rfl hb⟩) ?_
        refine s_cons (by exact ⟨rfl, fun b w hH hb => exec_q1 hflS rfl hb⟩) ?_
        refine s_cons (by exact ⟨rfl, fun b w hH hb => exec_load rfl rfl (reads_one ty_s_uint8 rfl) (hH.row 2 rfl) hb⟩) ?_
        refine s_cons (by exact ⟨rfl, fun b w hH hb => e_len sl_uint8 rfl rfl hH hb⟩) ?_
        refine s_cons (by exact ⟨rfl, fun b w hH hb => exec_q1 hflS rfl hb⟩) ?_
        exact s_nil
      refine WL2.keep (env' := [(0, .pointer (some ⟨p, 0, none⟩)), (3, v), (4, .bool last), (11, .int .i64 0), (47, .int .i64 (0 : Int)), (10, .bool false)]) ⟨rfl, rfl, rfl, rfl, rfl, rfl, trivial⟩ ?_
      refine h_q hflS rfl ?_
      refine h_nil (f_to (d_ret (f_then_ret ?_)))
      exact f_fin2 (.tmp rfl) (.tmp rfl) (fun w h => tells () rfl [2, 0, 4] rfl h (fun z hz => ⟨z, .refl _, TkT.mk2 hz⟩)) rfl

set_option maxRecDepth 100000 in
theorem rk_take (X : Ass) (v : Value) (y : List UInt8) (hX : Rd8 X v y) (hyl : y.length ≤ 140737488355327) (p : Nat) (bi bt bc ci ct cc : Int) (D : List UInt8) (hD : D.length ≤ 32768) (o : Int) (ho1 : -9223372036854775808 ≤ o ∧ o ≤ 9223372036854775807) (last : Bool) (D0 : List UInt8) (hD0 : keepL bi bt bc ci ct cc D = D0) (b : Bool) (R : List UInt8) (hR : takeL D0 o y last = (b, R)) : Does Try.prog 19 #[.pointer (some ⟨p, 0, none⟩), .agg #[.int .u64 ci, .int .u64 ct, .int .i64 cc], .int .i64 o, v, .bool last] [TkT 42 p bi bt bc D, X] (fun (_ : Unit) => .tuple #[.bool b, .int .i64 (R.length : Int)]) (fun (_ : Unit) => [TkT 42 p ci ct cc R, X]) := by
  refine d_ins (args := [.pointer (some ⟨p, 0, none⟩), .agg #[.int .u64 ci, .int .u64 ct, .int .i64 cc], .int .i64 o, v, .bool last]) 65 Try.func19 rfl rfl rfl ?_; intro w rs
  refine d_open 0 rfl TkT.open_ (fun _ => rfl) ?_; rintro bv
  refine WC2.keep (env' := [(0, .pointer (some ⟨p, 0, none⟩)), (1, .agg #[.int .u64 ci, .int .u64 ct, .int .i64 cc]), (2, .int .i64 o), (3, v), (4, .bool last)]) ⟨rfl, rfl, rfl, rfl, rfl, trivial⟩ ?_
  refine WC2.mid [cell p 42 #[.int .u64 bi, .int .u64 bt, .int .i64 bc, bv], Vec 5 1 encB bv D, X] (.refl _) ?_
  refine d_reg ?_
  refine h_q hflS rfl ?_
  refine h_act (post := fun g6 => [cell g6 31 #[.int .u64 ci, .int .u64 ct, .int .i64 cc], cell p 42 #[.int .u64 bi, .int .u64 bt, .int .i64 bc, bv], Vec 5 1 encB bv D, X]) rfl (a_box (cs := #[.int .u64 ci, .int .u64 ct, .int .i64 cc]) rfl rfl rfl) ?_; rintro g6
  refine h_q hflS rfl ?_
  refine h_done (d_seq ?_)
  rcases Classical.em (bi = ci ∧ bt = ct ∧ bc = cc) with hbe | hbe
  · skip
    obtain ⟨rfl, rfl, rfl⟩ := hbe
    obtain rfl : D = D0 := by rw [← hD0]; unfold keepL; rw [if_pos ⟨rfl, rfl, rfl⟩]
    refine d_seq ?_
    refine d_parS 6 0 [⟨.quiet, [], fun _ => .pointer (some ⟨p, 0, none⟩), []⟩, ⟨.quiet, [], fun _ => .pointer (some ⟨p, 0, none⟩), [0]⟩, ⟨.quiet, [], fun _ => .pointer (some ⟨p, 0, none⟩), [1]⟩, ⟨.quiet, [], fun _ => .agg #[.int .u64 bi, .int .u64 bt, .int .i64 bc], [2]⟩, ⟨.quiet, [], fun _ => .agg #[.int .u64 bi, .int .u64 bt, .int .i64 bc], []⟩, ⟨.quiet, [], fun _ => .bool false, [3, 4]⟩] [(0, .pointer (some ⟨p, 0, none⟩)), (2, .int .i64 o), (3, v), (4, .bool last), (6, .pointer (some ⟨g6, 0, none⟩)), (10, .bool false), (11, .int .i64 0)] (fun _ => [cell g6 31 #[.int .u64 bi, .int .u64 bt, .int .i64 bc], cell p 42 #[.int .u64 bi, .int .u64 bt, .int .i64 bc, bv], Vec 5 1 encB bv D, X]) (by kernel_rfl) (by kernel_rfl) ⟨rfl, rfl, rfl, rfl, rfl, rfl, rfl, trivial⟩ rfl ?_ ?_
    · skip
      refine s_cons (by exact ⟨rfl, fun b w hH hb => exec_q1 hflS rfl hb⟩) ?_
      refine s_cons (by exact ⟨rfl, fun b w hH hb => by exact exec_nilCheck rfl rfl hb⟩) ?_
      refine s_cons (by exact ⟨rfl, fun b w hH hb => exec_q1 hflS rfl hb⟩) ?_
      refine s_cons (by exact ⟨rfl, fun b w hH hb => exec_load rfl rfl (reads_agg (cs := [.int .u64 bi, .int .u64 bt, .int .i64 bc, bv]) ty_api_Base rfl) (hH.row 1 rfl) hb⟩) ?_
      refine s_cons (by exact ⟨rfl, fun b w hH hb => exec_load rfl rfl (reads_agg (cs := [.int .u64 bi, .int .u64 bt, .int .i64 bc]) ty_api_Base rfl) (hH.row 0 rfl) hb⟩) ?_
      refine s_cons (by exact ⟨rfl, fun b w hH hb => exec_nes (neBaseF bi bt bc) rfl rfl rfl hb⟩) ?_
      exact s_nil
    refine WL2.keep (env' := [(0, .pointer (some ⟨p, 0, none⟩)), (2, .int .i64 o), (3, v), (4, .bool last), (6, .pointer (some ⟨g6, 0, none⟩)), (10, .bool false), (11, .int .i64 0), (17, .bool false)]) ⟨rfl, rfl, rfl, rfl, rfl, rfl, rfl, rfl, trivial⟩ ?_
    refine h_nil (f_to (d_else rfl (d_skip (f_to (d_seq ?_)))))
    rcases Classical.em (o = (D.length : Int)) with ho | ho
    rcases Nat.lt_or_ge 32768 (y.length + D.length) with hy | hy
    · skip
      obtain ⟨rfl, rfl⟩ := takeL_f (fun h => by omega) hR
      refine d_reg ?_
      refine h_q hflS rfl ?_
      refine h_val rfl (.pointer (some ⟨p, 0, none⟩)) (fun b w hb hH => by exact exec_nilCheck rfl rfl hb) ?_
      refine h_q hflS rfl ?_
      refine h_val rfl (bv) (fun b w hb hH => exec_load rfl rfl (reads_one ty_s_uint8 rfl) (hH.row 1 rfl) hb) ?_
      refine h_val rfl (.int .i64 (D.length : Int)) (fun b w hb hH => e_vlen 2 Try.underlying22 rfl rfl rfl hH hb) ?_
      refine h_val rfl (.bool false) (fun b w hb hH => exec_cmp rfl rfl rfl (cmp_neq_f (by omega)) hb) ?_
      refine h_q hflS rfl ?_
      refine h_val rfl (.int .i64 (y.length : Int)) (fun b w hb hH => e_slen ((hH.rd8 3 rfl hX).rd) Try.underlying22 rfl rfl hb) ?_
      refine h_q hflS rfl ?_
      refine h_val rfl (.pointer (some ⟨p, 0, none⟩)) (fun b w hb hH => by exact exec_nilCheck rfl rfl hb) ?_
      refine h_q hflS rfl ?_
      refine h_val rfl (bv) (fun b w hb hH => exec_load rfl rfl (reads_one ty_s_uint8 rfl) (hH.row 1 rfl) hb) ?_
      refine h_val rfl (.int .i64 (D.length : Int)) (fun b w hb hH => e_vlen 2 Try.underlying22 rfl rfl rfl hH hb) ?_
      refine h_val rfl (.int .i64 (32768 - (D.length : Int))) (fun b w hb hH => exec_ar rfl rfl rfl rfl (IntWalk.i64_in _ (by omega)) hb) ?_
      refine h_val rfl (.bool true) (fun b w hb hH => exec_cmp rfl rfl rfl (cmp_gtr_t (by omega)) hb) ?_
      refine h_q hflS rfl ?_
      refine h_done (d_then rfl (d_seq ?_))
      refine d_parS 6 0 [⟨.quiet, [], fun _ => .pointer (some ⟨p, 0, none⟩), []⟩, ⟨.quiet, [], fun _ => .pointer (some ⟨p, 0, none⟩), [0]⟩, ⟨.quiet, [], fun _ => .pointer (some ⟨p, 3, none⟩), [1]⟩, ⟨.quiet, [], fun _ => bv, [2]⟩, ⟨.quiet, [], fun _ => .int .i64 (D.length : Int), [3]⟩, ⟨.quiet, [], fun _ => .bool false, []⟩] [(0, .pointer (some ⟨p, 0, none⟩)), (3, v), (4, .bool last), (11, .int .i64 0)] (fun _ => [cell g6 31 #[.int .u64 bi, .int .u64 bt, .int .i64 bc], cell p 42 #[.int .u64 bi, .int .u64 bt, .int .i64 bc, bv], Vec 5 1 encB bv D, X]) (by kernel_rfl) (by kernel_rfl) ⟨rfl, rfl, rfl, rfl, trivial⟩ rfl ?_ ?_
      · skip
        refine s_cons (by exact ⟨rfl, fun b w hH hb => exec_q1 hflS rfl hb⟩) ?_
        refine s_cons (by exact ⟨rfl, fun b w hH hb => by exact exec_nilCheck rfl rfl hb⟩) ?_
        refine s_cons (by exact ⟨rfl, fun b w hH hb => exec_q1 hflS rfl hb⟩) ?_
        refine s_cons (by exact ⟨rfl, fun b w hH hb => exec_load rfl rfl (reads_one ty_s_uint8 rfl) (hH.row 1 rfl) hb⟩) ?_
        refine s_cons (by exact ⟨rfl, fun b w hH hb => e_vlen 2 Try.underlying22 rfl rfl rfl hH hb⟩) ?_
        refine s_cons (by exact ⟨rfl, fun b w hH hb => exec_q1 hflS rfl hb⟩) ?_
        exact s_nil
      refine WL2.keep (env' := [(0, .pointer (some ⟨p, 0, none⟩)), (3, v), (4, .bool last), (11, .int .i64 0), (47, .int .i64 (D.length : Int)), (10, .bool false)]) ⟨rfl, rfl, rfl, rfl, rfl, rfl, trivial⟩ ?_
      refine h_q hflS rfl ?_
      refine h_nil (f_to (d_ret (f_then_ret ?_)))
      exact f_fin2 (.tmp rfl) (.tmp rfl) (fun w h => tells () rfl [1, 2, 3] rfl h (fun z hz => ⟨z, .refl _, TkT.mk2 hz⟩)) rfl
    · skip
      obtain ⟨rfl, hRe⟩ := takeL_t ho hy hR
      refine d_reg ?_
      refine h_q hflS rfl ?_
      refine h_val rfl (.pointer (some ⟨p, 0, none⟩)) (fun b w hb hH => by exact exec_nilCheck rfl rfl hb) ?_
      refine h_q hflS rfl ?_
      refine h_val rfl (bv) (fun b w hb hH => exec_load rfl rfl (reads_one ty_s_uint8 rfl) (hH.row 1 rfl) hb) ?_
      refine h_val rfl (.int .i64 (D.length : Int)) (fun b w hb hH => e_vlen 2 Try.underlying22 rfl rfl rfl hH hb) ?_
      refine h_val rfl (.bool false) (fun b w hb hH => exec_cmp rfl rfl rfl (cmp_neq_f (by omega)) hb) ?_
      refine h_q hflS rfl ?_
      refine h_val rfl (.int .i64 (y.length : Int)) (fun b w hb hH => e_slen ((hH.rd8 3 rfl hX).rd) Try.underlying22 rfl rfl hb) ?_
      refine h_q hflS rfl ?_
      refine h_val rfl (.pointer (some ⟨p, 0, none⟩)) (fun b w hb hH => by exact exec_nilCheck rfl rfl hb) ?_
      refine h_q hflS rfl ?_
      refine h_val rfl (bv) (fun b w hb hH => exec_load rfl rfl (reads_one ty_s_uint8 rfl) (hH.row 1 rfl) hb) ?_
      refine h_val rfl (.int .i64 (D.length : Int)) (fun b w hb hH => e_vlen 2 Try.underlying22 rfl rfl rfl hH hb) ?_
      refine h_val rfl (.int .i64 (32768 - (D.length : Int))) (fun b w hb hH => exec_ar rfl rfl rfl rfl (IntWalk.i64_in _ (by omega)) hb) ?_
      refine h_val rfl (.bool false) (fun b w hb hH => exec_cmp rfl rfl rfl (cmp_gtr_f (by omega)) hb) ?_
      refine h_q hflS rfl ?_
      refine h_done (d_else rfl (d_skip (f_to (d_reg ?_))))
      refine h_q hflS rfl ?_
      refine h_act (X := Value) (val := fun v : Value => v) (post := fun u0 => [Vec 5 1 encB u0 ([]), cell g6 31 #[.int .u64 bi, .int .u64 bt, .int .i64 bc], cell p 42 #[.int .u64 bi, .int .u64 bt, .int .i64 bc, bv], Vec 5 1 encB bv D, X]) rfl (by refine a_build0 (e := 5) (t := 22) (k := 1) (enc := encB) ?_ ?_; exact sl_uint8; exact rfl) ?_; rintro u0
      refine h_q hflS rfl ?_
      refine h_val rfl (.pointer (some ⟨p, 0, none⟩)) (fun b w hb hH => by exact exec_nilCheck rfl rfl hb) ?_
      refine h_q hflS rfl ?_
      refine h_val rfl (bv) (fun b w hb hH => exec_load rfl rfl (reads_one ty_s_uint8 rfl) (hH.row 2 rfl) hb) ?_
      refine h_act (post := fun u1 => [Vec 5 1 encB u1 D, cell g6 31 #[.int .u64 bi, .int .u64 bt, .int .i64 bc], cell p 42 #[.int .u64 bi, .int .u64 bt, .int .i64 bc, bv], Vec 5 1 encB bv D, X]) rfl (a_append 0 sl_uint8 okB rfl (D) (fun w hH => hH.vec 3 rfl okB) (by simp only [List.length_nil]; omega) rfl rfl rfl (List.nil_append _)) ?_; rintro u1
      refine h_q hflS rfl ?_
      refine h_act (post := fun bv2 => [Vec 5 1 encB bv2 R, cell g6 31 #[.int .u64 bi, .int .u64 bt, .int .i64 bc], cell p 42 #[.int .u64 bi, .int .u64 bt, .int .i64 bc, bv], Vec 5 1 encB bv D, X]) rfl (a_append8 0 sl_uint8 (by kernel_rfl) rfl (y) (fun w hH => (hH.rd8 4 rfl hX).rd) (by omega) rfl rfl rfl hRe.symm) ?_; rintro bv2
      refine h_val rfl (.pointer (some ⟨p, 0, none⟩)) (fun b w hb hH => by exact exec_nilCheck rfl rfl hb) ?_
      refine h_q hflS rfl ?_
      refine h_acts (post := fun _ => [Vec 5 1 encB bv2 R, cell g6 31 #[.int .u64 bi, .int .u64 bt, .int .i64 bc], cell p 42 #[.int .u64 bi, .int .u64 bt, .int .i64 bc, bv2], Vec 5 1 encB bv D, X]) rfl rfl (a_storev 2 0 (v := bv2) #[.int .u64 bi, .int .u64 bt, .int .i64 bc, bv2] ty_s_uint8.2 rfl (fun _ h => Vec.c1 h) rfl rfl rfl rfl rfl rfl rfl) ?_; rintro ⟨⟩
      refine h_done (d_seq ?_)
      refine d_parS 7 0 [⟨.quiet, [], fun _ => .bool last, []⟩, ⟨.quiet, [], fun _ => .pointer (some ⟨p, 0, none⟩), []⟩, ⟨.quiet, [], fun _ => .pointer (some ⟨p, 0, none⟩), [1]⟩, ⟨.quiet, [], fun _ => .pointer (some ⟨p, 3, none⟩), [2]⟩, ⟨.quiet, [], fun _ => bv2, [3]⟩, ⟨.quiet, [], fun _ => .int .i64 (R.length : Int), [4]⟩, ⟨.quiet, [], fun _ => .bool last, [0]⟩] [(0, .pointer (some ⟨p, 0, none⟩)), (4, .bool last), (11, .int .i64 0)] (fun _ => [Vec 5 1 encB bv2 R, cell g6 31 #[.int .u64 bi, .int .u64 bt, .int .i64 bc], cell p 42 #[.int .u64 bi, .int .u64 bt, .int .i64 bc, bv2], Vec 5 1 encB bv D, X]) (by kernel_rfl) (by kernel_rfl) ⟨rfl, rfl, rfl, trivial⟩ rfl ?_ ?_
      · skip
        refine s_cons (by exact ⟨rfl, fun b w hH hb => exec_q1 hflS rfl hb⟩) ?_
        refine s_cons (by exact ⟨rfl, fun b w hH hb => exec_q1 hflS rfl hb⟩) ?_
        refine s_cons (by exact ⟨rfl, fun b w hH hb => by exact exec_nilCheck rfl rfl hb⟩) ?_
        refine s_cons (by exact ⟨rfl, fun b w hH hb => exec_q1 hflS rfl hb⟩) ?_
        refine s_cons (by exact ⟨rfl, fun b w hH hb => exec_load rfl rfl (reads_one ty_s_uint8 rfl) (hH.row 2 rfl) hb⟩) ?_
        refine s_cons (by exact ⟨rfl, fun b w hH hb => e_vlen 0 Try.underlying22 rfl rfl rfl hH hb⟩) ?_
        refine s_cons (by exact ⟨rfl, fun b w hH hb => exec_q1 hflS rfl hb⟩) ?_
        exact s_nil
      refine WL2.keep (env' := [(11, .int .i64 0), (64, .int .i64 (R.length : Int)), (10, .bool last)]) ⟨rfl, rfl, rfl, trivial⟩ ?_
      refine h_q hflS rfl ?_
      refine h_nil (f_to (d_ret ?_))
      exact f_fin2 (.tmp rfl) (.tmp rfl) (fun w h => tells () rfl [2, 0, 4] rfl h (fun z hz => ⟨z, .refl _, TkT.mk2 hz⟩)) rfl
    · skip
      obtain ⟨rfl, rfl⟩ := takeL_f (fun h => ho h.1) hR
      refine d_reg ?_
      refine h_q hflS rfl ?_
      refine h_val rfl (.pointer (some ⟨p, 0, none⟩)) (fun b w hb hH => by exact exec_nilCheck rfl rfl hb) ?_
      refine h_q hflS rfl ?_
      refine h_val rfl (bv) (fun b w hb hH => exec_load rfl rfl (reads_one ty_s_uint8 rfl) (hH.row 1 rfl) hb) ?_
      refine h_val rfl (.int .i64 (D.length : Int)) (fun b w hb hH => e_vlen 2 Try.underlying22 rfl rfl rfl hH hb) ?_
      refine h_val rfl (.bool true) (fun b w hb hH => exec_cmp rfl rfl rfl (cmp_neq_t (by omega)) hb) ?_
      refine h_q hflS rfl ?_
      refine h_done (d_then rfl (d_seq ?_))
      refine d_parS 6 0 [⟨.quiet, [], fun _ => .pointer (some ⟨p, 0, none⟩), []⟩, ⟨.quiet, [], fun _ => .pointer (some ⟨p, 0, none⟩), [0]⟩, ⟨.quiet, [], fun _ => .pointer (some ⟨p, 3, none⟩), [1]⟩, ⟨.quiet, [], fun _ => bv, [2]⟩, ⟨.quiet, [], fun _ => .int .i64 (D.length : Int), [3]⟩, ⟨.quiet, [], fun _ => .bool false, []⟩] [(0, .pointer (some ⟨p, 0, none⟩)), (3, v), (4, .bool last), (11, .int .i64 0)] (fun _ => [cell g6 31 #[.int .u64 bi, .int .u64 bt, .int .i64 bc], cell p 42 #[.int .u64 bi, .int .u64 bt, .int .i64 bc, bv], Vec 5 1 encB bv D, X]) (by kernel_rfl) (by kernel_rfl) ⟨rfl, rfl, rfl, rfl, trivial⟩ rfl ?_ ?_
      · skip
        refine s_cons (by exact ⟨rfl, fun b w hH hb => exec_q1 hflS rfl hb⟩) ?_
        refine s_cons (by exact ⟨rfl, fun b w hH hb => by exact exec_nilCheck rfl rfl hb⟩) ?_
        refine s_cons (by exact ⟨rfl, fun b w hH hb => exec_q1 hflS rfl hb⟩) ?_
        refine s_cons (by exact ⟨rfl, fun b w hH hb => exec_load rfl rfl (reads_one ty_s_uint8 rfl) (hH.row 1 rfl) hb⟩) ?_
        refine s_cons (by exact ⟨rfl, fun b w hH hb => e_vlen 2 Try.underlying22 rfl rfl rfl hH hb⟩) ?_
        refine s_cons (by exact ⟨rfl, fun b w hH hb => exec_q1 hflS rfl hb⟩) ?_
        exact s_nil
      refine WL2.keep (env' := [(0, .pointer (some ⟨p, 0, none⟩)), (3, v), (4, .bool last), (11, .int .i64 0), (47, .int .i64 (D.length : Int)), (10, .bool false)]) ⟨rfl, rfl, rfl, rfl, rfl, rfl, trivial⟩ ?_
      refine h_q hflS rfl ?_
      refine h_nil (f_to (d_ret (f_then_ret ?_)))
      exact f_fin2 (.tmp rfl) (.tmp rfl) (fun w h => tells () rfl [1, 2, 3] rfl h (fun z hz => ⟨z, .refl _, TkT.mk2 hz⟩)) rfl
  · skip
    obtain rfl : D0 = [] := by rw [← hD0]; unfold keepL; rw [if_neg hbe]
    refine d_nilvec 5 1 encB ?_
    refine d_seq ?_
    refine d_parS 6 0 [⟨.quiet, [], fun _ => .pointer (some ⟨p, 0, none⟩), []⟩, ⟨.quiet, [], fun _ => .pointer (some ⟨p, 0, none⟩), [0]⟩, ⟨.quiet, [], fun _ => .pointer (some ⟨p, 0, none⟩), [1]⟩, ⟨.quiet, [], fun _ => .agg #[.int .u64 bi, .int .u64 bt, .int .i64 bc], [2]⟩, ⟨.quiet, [], fun _ => .agg #[.int .u64 ci, .int .u64 ct, .int .i64 cc], []⟩, ⟨.quiet, [], fun _ => .bool true, [3, 4]⟩] [(0, .pointer (some ⟨p, 0, none⟩)), (2, .int .i64 o), (3, v), (4, .bool last), (6, .pointer (some ⟨g6, 0, none⟩)), (10, .bool false), (11, .int .i64 0)] (fun _ => [Vec 5 1 encB (.slice none 0 0) ([]), cell g6 31 #[.int .u64 ci, .int .u64 ct, .int .i64 cc], cell p 42 #[.int .u64 bi, .int .u64 bt, .int .i64 bc, bv], Vec 5 1 encB bv D, X]) (by kernel_rfl) (by kernel_rfl) ⟨rfl, rfl, rfl, rfl, rfl, rfl, rfl, trivial⟩ rfl ?_ ?_
    · skip
      refine s_cons (by exact ⟨rfl, fun b w hH hb => exec_q1 hflS rfl hb⟩) ?_
      refine s_cons (by exact ⟨rfl, fun b w hH hb => by exact exec_nilCheck rfl rfl hb⟩) ?_
      refine s_cons (by exact ⟨rfl, fun b w hH hb => exec_q1 hflS rfl hb⟩) ?_
      refine s_cons (by exact ⟨rfl, fun b w hH hb => exec_load rfl rfl (reads_agg (cs := [.int .u64 bi, .int .u64 bt, .int .i64 bc, bv]) ty_api_Base rfl) (hH.row 2 rfl) hb⟩) ?_
      refine s_cons (by exact ⟨rfl, fun b w hH hb => exec_load rfl rfl (reads_agg (cs := [.int .u64 ci, .int .u64 ct, .int .i64 cc]) ty_api_Base rfl) (hH.row 1 rfl) hb⟩) ?_
      refine s_cons (by exact ⟨rfl, fun b w hH hb => exec_nes (neBaseT hbe) rfl rfl rfl hb⟩) ?_
      exact s_nil
    refine WL2.keep (env' := [(0, .pointer (some ⟨p, 0, none⟩)), (2, .int .i64 o), (3, v), (4, .bool last), (6, .pointer (some ⟨g6, 0, none⟩)), (10, .bool false), (11, .int .i64 0), (17, .bool true)]) ⟨rfl, rfl, rfl, rfl, rfl, rfl, rfl, rfl, trivial⟩ ?_
    refine h_nil (f_to (d_then rfl (d_reg ?_)))
    refine h_q hflS rfl ?_
    refine h_val rfl (.agg #[.int .u64 ci, .int .u64 ct, .int .i64 cc]) (fun b w hb hH => exec_load rfl rfl (reads_agg (cs := [.int .u64 ci, .int .u64 ct, .int .i64 cc]) ty_api_Base rfl) (hH.row 1 rfl) hb) ?_
    refine h_val rfl (.pointer (some ⟨p, 0, none⟩)) (fun b w hb hH => by exact exec_nilCheck rfl rfl hb) ?_
    refine h_q hflS rfl ?_
    refine h_acts (post := fun _ => [Vec 5 1 encB (.slice none 0 0) ([]), cell g6 31 #[.int .u64 ci, .int .u64 ct, .int .i64 cc], cell p 42 #[.int .u64 ci, .int .u64 ct, .int .i64 cc, bv], Vec 5 1 encB bv D, X]) rfl rfl (a_store 2 (v := .agg #[.int .u64 ci, .int .u64 ct, .int .i64 cc]) #[.int .u64 ci, .int .u64 ct, .int .i64 cc, bv] ty_api_Base.2 rfl rfl rfl rfl rfl rfl rfl rfl rfl) ?_; rintro ⟨⟩
    refine h_done (d_reg1 ?_)
    refine h_q hflS rfl ?_
    refine h_val rfl (.pointer (some ⟨p, 0, none⟩)) (fun b w hb hH => by exact exec_nilCheck rfl rfl hb) ?_
    refine h_q hflS rfl ?_
    refine h_acts (post := fun _ => [Vec 5 1 encB (.slice none 0 0) ([]), cell g6 31 #[.int .u64 ci, .int .u64 ct, .int .i64 cc], cell p 42 #[.int .u64 ci, .int .u64 ct, .int .i64 cc, .slice none 0 0], Vec 5 1 encB bv D, X]) rfl rfl (a_store 2 (v := .slice none 0 0) #[.int .u64 ci, .int .u64 ct, .int .i64 cc, .slice none 0 0] ty_s_uint8.2 rfl rfl rfl rfl rfl rfl rfl rfl rfl) ?_; rintro ⟨⟩
    refine h_nil (f_to (d_seq ?_))
    rcases Classical.em (o = (([]).length : Int)) with ho | ho
    rcases Nat.lt_or_ge 32768 (y.length + ([]).length) with hy | hy
    · skip
      obtain ⟨rfl, rfl⟩ := takeL_f (fun h => by omega) hR
      refine d_reg ?_
      refine h_q hflS rfl ?_
      refine h_val rfl (.pointer (some ⟨p, 0, none⟩)) (fun b w hb hH => by exact exec_nilCheck rfl rfl hb) ?_
      refine h_q hflS rfl ?_
      refine h_val rfl (.slice none 0 0) (fun b w hb hH => exec_load rfl rfl (reads_one ty_s_uint8 rfl) (hH.row 2 rfl) hb) ?_
      refine h_val rfl (.int .i64 (0 : Int)) (fun b w hb hH => e_len sl_uint8 rfl rfl hH hb) ?_
      refine h_val rfl (.bool false) (fun b w hb hH => exec_cmp rfl rfl rfl (cmp_neq_f (by omega)) hb) ?_
      refine h_q hflS rfl ?_
      refine h_val rfl (.int .i64 (y.length : Int)) (fun b w hb hH => e_slen ((hH.rd8 4 rfl hX).rd) Try.underlying22 rfl rfl hb) ?_
      refine h_q hflS rfl ?_
      refine h_val rfl (.pointer (some ⟨p, 0, none⟩)) (fun b w hb hH => by exact exec_nilCheck rfl rfl hb) ?_
      refine h_q hflS rfl ?_
      refine h_val rfl (.slice none 0 0) (fun b w hb hH => exec_load rfl rfl (reads_one ty_s_uint8 rfl) (hH.row 2 rfl) hb) ?_
      refine h_val rfl (.int .i64 (0 : Int)) (fun b w hb hH => e_len sl_uint8 rfl rfl hH hb) ?_
      refine h_val rfl (.int .i64 (32768 - (([]).length : Int))) (fun b w hb hH => exec_ar rfl rfl rfl rfl (IntWalk.i64_in _ (by omega)) hb) ?_
      refine h_val rfl (.bool true) (fun b w hb hH => exec_cmp rfl rfl rfl (cmp_gtr_t (by omega)) hb) ?_
      refine h_q hflS rfl ?_
      refine h_done (d_then rfl (d_seq ?_))
      refine d_parS 6 0 [⟨.quiet, [], fun _ => .pointer (some ⟨p, 0, none⟩), []⟩, ⟨.quiet, [], fun _ => .pointer (some ⟨p, 0, none⟩), [0]⟩, ⟨.quiet, [], fun _ => .pointer (some ⟨p, 3, none⟩), [1]⟩, ⟨.quiet, [], fun _ => .slice none 0 0, [2]⟩, ⟨.quiet, [], fun _ => .int .i64 (0 : Int), [3]⟩, ⟨.quiet, [], fun _ => .bool false, []⟩] [(0, .pointer (some ⟨p, 0, none⟩)), (3, v), (4, .bool last), (11, .int .i64 0)] (fun _ => [Vec 5 1 encB (.slice none 0 0) ([]), cell g6 31 #[.int .u64 ci, .int .u64 ct, .int .i64 cc], cell p 42 #[.int .u64 ci, .int .u64 ct, .int .i64 cc, .slice none 0 0], Vec 5 1 encB bv D, X]) (by kernel_rfl) (by kernel_rfl) ⟨rfl, rfl, rfl, rfl, trivial⟩ rfl ?_ ?_
      · skip
        refine s_cons (by exact ⟨rfl, fun b w hH hb => exec_q1 hflS rfl hb⟩) ?_
        refine s_cons (by exact ⟨rfl, fun b w hH hb => by exact exec_nilCheck rfl rfl hb⟩) ?_
        refine s_cons (by exact ⟨rfl, fun b w hH hb => exec_q1 hflS rfl hb⟩) ?_
        refine s_cons (by exact ⟨rfl, fun b w hH hb => exec_load rfl rfl (reads_one ty_s_uint8 rfl) (hH.row 2 rfl) hb⟩) ?_
        refine s_cons (by exact ⟨rfl, fun b w hH hb => e_len sl_uint8 rfl rfl hH hb⟩) ?_
        refine s_cons (by exact ⟨rfl, fun b w hH hb => exec_q1 hflS rfl hb⟩) ?_
        exact s_nil
      refine WL2.keep (env' := [(0, .pointer (some ⟨p, 0, none⟩)), (3, v), (4, .bool last), (11, .int .i64 0), (47, .int .i64 (0 : Int)), (10, .bool false)]) ⟨rfl, rfl, rfl, rfl, rfl, rfl, trivial⟩ ?_
      refine h_q hflS rfl ?_
      refine h_nil (f_to (d_ret (f_then_ret ?_)))
      exact f_fin2 (.tmp rfl) (.tmp rfl) (fun w h => tells () rfl [2, 0, 4] rfl h (fun z hz => ⟨z, .refl _, TkT.mk2 hz⟩)) rfl
    · skip
      obtain ⟨rfl, hRe⟩ := takeL_t ho hy hR
      refine d_reg ?_
      refine h_q hflS rfl ?_
      refine h_val rfl (.pointer (some ⟨p, 0, none⟩)) (fun b w hb hH => by exact exec_nilCheck rfl rfl hb) ?_
      refine h_q hflS rfl ?_
      refine h_val rfl (.slice none 0 0) (fun b w hb hH => exec_load rfl rfl (reads_one ty_s_uint8 rfl) (hH.row 2 rfl) hb) ?_
      refine h_val rfl (.int .i64 (0 : Int)) (fun b w hb hH => e_len sl_uint8 rfl rfl hH hb) ?_
      refine h_val rfl (.bool false) (fun b w hb hH => exec_cmp rfl rfl rfl (cmp_neq_f (by omega)) hb) ?_
      refine h_q hflS rfl ?_
      refine h_val rfl (.int .i64 (y.length : Int)) (fun b w hb hH => e_slen ((hH.rd8 4 rfl hX).rd) Try.underlying22 rfl rfl hb) ?_
      refine h_q hflS rfl ?_
      refine h_val rfl (.pointer (some ⟨p, 0, none⟩)) (fun b w hb hH => by exact exec_nilCheck rfl rfl hb) ?_
      refine h_q hflS rfl ?_
      refine h_val rfl (.slice none 0 0) (fun b w hb hH => exec_load rfl rfl (reads_one ty_s_uint8 rfl) (hH.row 2 rfl) hb) ?_
      refine h_val rfl (.int .i64 (0 : Int)) (fun b w hb hH => e_len sl_uint8 rfl rfl hH hb) ?_
      refine h_val rfl (.int .i64 (32768 - (([]).length : Int))) (fun b w hb hH => exec_ar rfl rfl rfl rfl (IntWalk.i64_in _ (by omega)) hb) ?_
      refine h_val rfl (.bool false) (fun b w hb hH => exec_cmp rfl rfl rfl (cmp_gtr_f (by omega)) hb) ?_
      refine h_q hflS rfl ?_
      refine h_done (d_else rfl (d_skip (f_to (d_reg ?_))))
      refine h_q hflS rfl ?_
      refine h_act (X := Value) (val := fun v : Value => v) (post := fun u0 => [Vec 5 1 encB u0 ([]), Vec 5 1 encB (.slice none 0 0) ([]), cell g6 31 #[.int .u64 ci, .int .u64 ct, .int .i64 cc], cell p 42 #[.int .u64 ci, .int .u64 ct, .int .i64 cc, .slice none 0 0], Vec 5 1 encB bv D, X]) rfl (by refine a_build0 (e := 5) (t := 22) (k := 1) (enc := encB) ?_ ?_; exact sl_uint8; exact rfl) ?_; rintro u0
      refine h_q hflS rfl ?_
      refine h_val rfl (.pointer (some ⟨p, 0, none⟩)) (fun b w hb hH => by exact exec_nilCheck rfl rfl hb) ?_
      refine h_q hflS rfl ?_
      refine h_val rfl (.slice none 0 0) (fun b w hb hH => exec_load rfl rfl (reads_one ty_s_uint8 rfl) (hH.row 3 rfl) hb) ?_
      refine h_act (post := fun u1 => [Vec 5 1 encB u1 ([]), Vec 5 1 encB (.slice none 0 0) ([]), cell g6 31 #[.int .u64 ci, .int .u64 ct, .int .i64 cc], cell p 42 #[.int .u64 ci, .int .u64 ct, .int .i64 cc, .slice none 0 0], Vec 5 1 encB bv D, X]) rfl (a_append 0 sl_uint8 okB rfl ([]) (fun w hH => hH.vec 1 rfl okB) (by simp only [List.length_nil]; omega) rfl rfl rfl (List.nil_append _)) ?_; rintro u1
      refine h_q hflS rfl ?_
      refine h_act (post := fun bv2 => [Vec 5 1 encB bv2 R, Vec 5 1 encB (.slice none 0 0) ([]), cell g6 31 #[.int .u64 ci, .int .u64 ct, .int .i64 cc], cell p 42 #[.int .u64 ci, .int .u64 ct, .int .i64 cc, .slice none 0 0], Vec 5 1 encB bv D, X]) rfl (a_append8 0 sl_uint8 (by kernel_rfl) rfl (y) (fun w hH => (hH.rd8 5 rfl hX).rd) (by simp only [List.length_nil]; omega) rfl rfl rfl hRe.symm) ?_; rintro bv2
      refine h_val rfl (.pointer (some ⟨p, 0, none⟩)) (fun b w hb hH => by exact exec_nilCheck rfl rfl hb) ?_
      refine h_q hflS rfl ?_
      refine h_acts (post := fun _ => [Vec 5 1 encB bv2 R, Vec 5 1 encB (.slice none 0 0) ([]), cell g6 31 #[.int .u64 ci, .int .u64 ct, .int .i64 cc], cell p 42 #[.int .u64 ci, .int .u64 ct, .int .i64 cc, bv2], Vec 5 1 encB bv D, X]) rfl rfl (a_storev 3 0 (v := bv2) #[.int .u64 ci, .int .u64 ct, .int .i64 cc, bv2] ty_s_uint8.2 rfl (fun _ h => Vec.c1 h) rfl rfl rfl rfl rfl rfl rfl) ?_; rintro ⟨⟩
      refine h_done (d_seq ?_)
      refine d_parS 7 0 [⟨.quiet, [], fun _ => .bool last, []⟩, ⟨.quiet, [], fun _ => .pointer (some ⟨p, 0, none⟩), []⟩, ⟨.quiet, [], fun _ => .pointer (some ⟨p, 0, none⟩), [1]⟩, ⟨.quiet, [], fun _ => .pointer (some ⟨p, 3, none⟩), [2]⟩, ⟨.quiet, [], fun _ => bv2, [3]⟩, ⟨.quiet, [], fun _ => .int .i64 (R.length : Int), [4]⟩, ⟨.quiet, [], fun _ => .bool last, [0]⟩] [(0, .pointer (some ⟨p, 0, none⟩)), (4, .bool last), (11, .int .i64 0)] (fun _ => [Vec 5 1 encB bv2 R, Vec 5 1 encB (.slice none 0 0) ([]), cell g6 31 #[.int .u64 ci, .int .u64 ct, .int .i64 cc], cell p 42 #[.int .u64 ci, .int .u64 ct, .int .i64 cc, bv2], Vec 5 1 encB bv D, X]) (by kernel_rfl) (by kernel_rfl) ⟨rfl, rfl, rfl, trivial⟩ rfl ?_ ?_
      · skip
        refine s_cons (by exact ⟨rfl, fun b w hH hb => exec_q1 hflS rfl hb⟩) ?_
        refine s_cons (by exact ⟨rfl, fun b w hH hb => exec_q1 hflS rfl hb⟩) ?_
        refine s_cons (by exact ⟨rfl, fun b w hH hb => by exact exec_nilCheck rfl rfl hb⟩) ?_
        refine s_cons (by exact ⟨rfl, fun b w hH hb => exec_q1 hflS rfl hb⟩) ?_
        refine s_cons (by exact ⟨rfl, fun b w hH hb => exec_load rfl rfl (reads_one ty_s_uint8 rfl) (hH.row 3 rfl) hb⟩) ?_
        refine s_cons (by exact ⟨rfl, fun b w hH hb => e_vlen 0 Try.underlying22 rfl rfl rfl hH hb⟩) ?_
        refine s_cons (by exact ⟨rfl, fun b w hH hb => exec_q1 hflS rfl hb⟩) ?_
        exact s_nil
      refine WL2.keep (env' := [(11, .int .i64 0), (64, .int .i64 (R.length : Int)), (10, .bool last)]) ⟨rfl, rfl, rfl, trivial⟩ ?_
      refine h_q hflS rfl ?_
      refine h_nil (f_to (d_ret ?_))
      exact f_fin2 (.tmp rfl) (.tmp rfl) (fun w h => tells () rfl [3, 0, 5] rfl h (fun z hz => ⟨z, .refl _, TkT.mk2 hz⟩)) rfl
    · skip
      obtain ⟨rfl, rfl⟩ := takeL_f (fun h => ho h.1) hR
      refine d_reg ?_
      refine h_q hflS rfl ?_
      refine h_val rfl (.pointer (some ⟨p, 0, none⟩)) (fun b w hb hH => by exact exec_nilCheck rfl rfl hb) ?_
      refine h_q hflS rfl ?_
      refine h_val rfl (.slice none 0 0) (fun b w hb hH => exec_load rfl rfl (reads_one ty_s_uint8 rfl) (hH.row 2 rfl) hb) ?_
      refine h_val rfl (.int .i64 (0 : Int)) (fun b w hb hH => e_len sl_uint8 rfl rfl hH hb) ?_
      refine h_val rfl (.bool true) (fun b w hb hH => exec_cmp rfl rfl rfl (cmp_neq_t (by omega)) hb) ?_
      refine h_q hflS rfl ?_
      refine h_done (d_then rfl (d_seq ?_))
      refine d_parS 6 0 [⟨.quiet, [], fun _ => .pointer (some ⟨p, 0, none⟩), []⟩, ⟨.quiet, [], fun _ => .pointer (some ⟨p, 0, none⟩), [0]⟩, ⟨.quiet, [], fun _ => .pointer (some ⟨p, 3, none⟩), [1]⟩, ⟨.quiet, [], fun _ => .slice none 0 0, [2]⟩, ⟨.quiet, [], fun _ => .int .i64 (0 : Int), [3]⟩, ⟨.quiet, [], fun _ => .bool false, []⟩] [(0, .pointer (some ⟨p, 0, none⟩)), (3, v), (4, .bool last), (11, .int .i64 0)] (fun _ => [Vec 5 1 encB (.slice none 0 0) ([]), cell g6 31 #[.int .u64 ci, .int .u64 ct, .int .i64 cc], cell p 42 #[.int .u64 ci, .int .u64 ct, .int .i64 cc, .slice none 0 0], Vec 5 1 encB bv D, X]) (by kernel_rfl) (by kernel_rfl) ⟨rfl, rfl, rfl, rfl, trivial⟩ rfl ?_ ?_
      · skip
        refine s_cons (by exact ⟨rfl, fun b w hH hb => exec_q1 hflS rfl hb⟩) ?_
        refine s_cons (by exact ⟨rfl, fun b w hH hb => by exact exec_nilCheck rfl rfl hb⟩) ?_
        refine s_cons (by exact ⟨rfl, fun b w hH hb => exec_q1 hflS rfl hb⟩) ?_
        refine s_cons (by exact ⟨rfl, fun b w hH hb => exec_load rfl rfl (reads_one ty_s_uint8 rfl) (hH.row 2 rfl) hb⟩) ?_
        refine s_cons (by exact ⟨rfl, fun b w hH hb => e_len sl_uint8 rfl rfl hH hb⟩) ?_
        refine s_cons (by exact ⟨rfl, fun b w hH hb => exec_q1 hflS rfl hb⟩) ?_
        exact s_nil
      refine WL2.keep (env' := [(0, .pointer (some ⟨p, 0, none⟩)), (3, v), (4, .bool last), (11, .int .i64 0), (47, .int .i64 (0 : Int)), (10, .bool false)]) ⟨rfl, rfl, rfl, rfl, rfl, rfl, trivial⟩ ?_
      refine h_q hflS rfl ?_
      refine h_nil (f_to (d_ret (f_then_ret ?_)))
      exact f_fin2 (.tmp rfl) (.tmp rfl) (fun w h => tells () rfl [2, 0, 4] rfl h (fun z hz => ⟨z, .refl _, TkT.mk2 hz⟩)) rfl
end Go.Proofs.Ytikcleaicbihfaa.Sep
