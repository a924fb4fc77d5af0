/-
  RpcP
-/
import Derived.Test.YtnhcbjlaeaohjaaBH02
set_option linter.unusedSimpArgs false
set_option linter.unusedVariables false

namespace Go.Proofs.Ytnhcbjlaeaohjaa.Sep
open Go.RowKit
open Go.Proofs.Ytnhcbjlaeaohjaa.Mem (Dist Blk Chg below0)

theorem decM_is {l : List UInt8} {e e' : MsgD} {n n' : Nat} (h : decM l = (e', n')) (hD : decM l = (e, n)) : e' = e ∧ n' = n := by
  have := h.symm.trans hD
  simpa using this
theorem unsealed_len {l x : List UInt8} {e : Nat} (h : unsealed l = (x, e)) : x.length ≤ l.length := by
  unfold unsealed at h
  split at h
  · simp only [Prod.mk.injEq] at h; rw [← h.1]; simp
  · split at h
    · simp only [Prod.mk.injEq] at h; rw [← h.1, List.length_take]; omega
    · simp only [Prod.mk.injEq] at h; rw [← h.1]; simp
theorem msgOk_of {w : World} {x : MsgV} {l l' : List UInt8} {m : MsgD} {f' : Nat} (hl : l.length ≤ 1024) (h : readM l = (m, l', f')) (hm : x.m = m) (he : x.m.es = x.es.map (·.e)) (hr : EntsRd w x.ev x.es) (hd : Sl8 w x.dv x.m.d) : MsgOk w x := by
  obtain ⟨h1, h2, h3, h4⟩ := readM_in hl h
  rw [← hm] at h1 h2 h3 h4
  have hln : x.es.length ≤ 4 := by have := h2; rw [he, List.length_map] at this; exact this
  refine ⟨h1, he, hr, by omega, fun y hy => ?_, hd, by omega⟩
  have hy2 := h3 y.e (by rw [he]; exact List.mem_map_of_mem hy)
  have h5 := (rightE_iff hy2).2.2
  refine ⟨rightE_ok hy2, hr.2 y hy, ?_⟩
  rcases h5 with ⟨_, h, _⟩ | ⟨_, _, h, _⟩ | ⟨_, h, _⟩
  · rw [h]; simp
  · omega
  · rw [h]; simp

set_option maxHeartbeats 1000000 in
set_option maxRecDepth 100000 in
theorem decodeM_does (u : World) (v0 : Value) (l : List UInt8) (hv : Sl8 u v0 l) (hl : l.length ≤ 140737488355328) (m : MsgD) (en : Nat) (hD : decM l = (m, en)) : DoesU u Try.prog 15 #[v0] [] (fun (x : MsgV) => .tuple #[.agg #[.int .i64 x.m.k, .int .i64 x.m.a, .int .i64 x.m.b, .int .u64 x.m.t, .int .u64 x.m.i, .int .u64 x.m.lt, x.ev, .int .u64 x.m.co, .bool x.m.rf, .int .u64 x.m.bi, .int .u64 x.m.bt, .int .i64 x.m.bc, .int .i64 x.m.o, x.dv, .bool x.m.la], .int .i64 (en : Int)]) (fun (x : MsgV) => [Ents 36 x.ev x.es, Vec 5 1 encB x.dv x.m.d, fact (x.m = m ∧ x.m.es = x.es.map (·.e))]) := by
  refine d_insU (args := [v0]) 44 Try.func15 rfl rfl rfl ?_; intro w rs hU hS
  refine d_reg ?_
  refine h_q hflS rfl ?_
  refine h_act (post := fun g2 => [cell g2 28 #[.int .i64 0, .int .i64 0, .int .i64 0, .int .u64 0, .int .u64 0, .int .u64 0, .slice none 0 0, .int .u64 0, .bool false, .int .u64 0, .int .u64 0, .int .i64 0, .int .i64 0, .slice none 0 0, .bool false]]) rfl (a_alloc ze_api_Msg rfl) ?_; rintro g2
  refine h_q hflS rfl ?_
  refine h_done (d_seq ?_)
  by_cases h16 : 1024 < l.length
  · skip
    obtain ⟨rfl, rfl⟩ := decM_is (decM_long h16) hD
    refine d_reg ?_
    refine h_q hflS rfl ?_
    refine h_val rfl (.int .i64 (l.length : Int)) (fun b w hb hH => e_slen ((arg8 hv hU hS hH).rd) Try.underlying26 rfl rfl hb) ?_
    refine h_val rfl (.bool true) (fun b w hb hH => exec_cmp rfl rfl rfl (cmp_gtr_t (by omega)) hb) ?_
    refine h_done (d_then rfl ?_)
    refine d_new (t := Ents 36 (.slice none 0 0) ([])) (entsT_nil) ?_
    refine d_nilvec 5 1 encB ?_
    refine d_reg ?_
    refine h_q hflS rfl ?_
    refine h_val rfl (.agg #[.int .i64 0, .int .i64 0, .int .i64 0, .int .u64 0, .int .u64 0, .int .u64 0, .slice none 0 0, .int .u64 0, .bool false, .int .u64 0, .int .u64 0, .int .i64 0, .int .i64 0, .slice none 0 0, .bool false]) (fun b w hb hH => exec_build rfl rfl (by kernel_rfl) hb) ?_
    refine h_acts (post := fun _ => [Vec 5 1 encB (.slice none 0 0) ([]), Ents 36 (.slice none 0 0) ([]), cell g2 28 #[.int .i64 0, .int .i64 0, .int .i64 0, .int .u64 0, .int .u64 0, .int .u64 0, .slice none 0 0, .int .u64 0, .bool false, .int .u64 0, .int .u64 0, .int .i64 0, .int .i64 0, .slice none 0 0, .bool false]]) rfl rfl (a_store 2 (v := .agg #[.int .i64 0, .int .i64 0, .int .i64 0, .int .u64 0, .int .u64 0, .int .u64 0, .slice none 0 0, .int .u64 0, .bool false, .int .u64 0, .int .u64 0, .int .i64 0, .int .i64 0, .slice none 0 0, .bool false]) #[.int .i64 0, .int .i64 0, .int .i64 0, .int .u64 0, .int .u64 0, .int .u64 0, .slice none 0 0, .int .u64 0, .bool false, .int .u64 0, .int .u64 0, .int .i64 0, .int .i64 0, .slice none 0 0, .bool false] ty_api_Msg.2 rfl rfl rfl rfl rfl rfl rfl rfl rfl) ?_; rintro ⟨⟩
    refine h_q hflS rfl ?_
    refine h_done (d_ret (f_then_ret ?_))
    exact f_fin2 (.cell 2 (v := .agg #[.int .i64 0, .int .i64 0, .int .i64 0, .int .u64 0, .int .u64 0, .int .u64 0, .slice none 0 0, .int .u64 0, .bool false, .int .u64 0, .int .u64 0, .int .i64 0, .int .i64 0, .slice none 0 0, .bool false]) (reads_agg (cs := [.int .i64 0, .int .i64 0, .int .i64 0, .int .u64 0, .int .u64 0, .int .u64 0, .slice none 0 0, .int .u64 0, .bool false, .int .u64 0, .int .u64 0, .int .i64 0, .int .i64 0, .slice none 0 0, .bool false]) ty_api_Msg rfl) rfl rfl) (.tmp rfl) (fun w h => tells (⟨.zero, [], none, 0, none, 0⟩ : MsgV) rfl [1, 0] rfl h (fun z hz => ⟨z, .refl _, fact_add (xs := [_, _]) (show _ = _ ∧ _ = _ from ⟨rfl, rfl⟩) hz⟩)) rfl
  · skip
    obtain ⟨⟨bd, e0⟩, hu⟩ : ∃ R, unsealed l = R := ⟨_, rfl⟩
    have hbd0 := unsealed_len hu
    have hbd : bd.length ≤ 1024 := by omega
    have hbd2 : bd.length ≤ 140737488355328 := by omega
    refine d_reg ?_
    refine h_q hflS rfl ?_
    refine h_val rfl (.int .i64 (l.length : Int)) (fun b w hb hH => e_slen ((arg8 hv hU hS hH).rd) Try.underlying26 rfl rfl hb) ?_
    refine h_val rfl (.bool false) (fun b w hb hH => exec_cmp rfl rfl rfl (cmp_gtr_f (by omega)) hb) ?_
    refine h_done (d_else rfl (d_skip (f_to (d_reg ?_))))
    refine h_q hflS rfl ?_
    refine h_act (post := fun v4 => [Vec 5 1 encB v4 bd, cell g2 28 #[.int .i64 0, .int .i64 0, .int .i64 0, .int .u64 0, .int .u64 0, .int .u64 0, .slice none 0 0, .int .u64 0, .bool false, .int .u64 0, .int .u64 0, .int .i64 0, .int .i64 0, .slice none 0 0, .bool false]]) rfl (a_doesU hU hS (os' := fun v4 => [Vec 5 1 encB v4 bd, cell g2 28 #[.int .i64 0, .int .i64 0, .int .i64 0, .int .u64 0, .int .u64 0, .int .u64 0, .slice none 0 0, .int .u64 0, .bool false, .int .u64 0, .int .u64 0, .int .i64 0, .int .i64 0, .slice none 0 0, .bool false]]) [] 0 (ent_of Try.func40 (by kernel_rfl) rfl) (unseal_mk hv hl bd e0 hu) rfl rfl rfl (fun _ => rfl) rfl rfl rfl) ?_; rintro v4
    refine h_q hflS rfl ?_
    refine h_done (d_seq ?_)
    by_cases he0 : e0 = 0
    · skip
      rw [he0] at hu
      obtain ⟨⟨m0, l', f'⟩, hM⟩ : ∃ R, readM bd = R := ⟨_, rfl⟩
      refine d_reg ?_
      refine h_q hflS rfl ?_
      refine h_val rfl (.bool false) (fun b w hb hH => exec_cmp rfl rfl rfl (cmp_neq_f (by omega)) hb) ?_
      refine h_done (d_else rfl (d_skip (f_to (d_reg ?_))))
      refine h_q hflS rfl ?_
      refine h_act (post := fun g => [RdT g bd 0, Vec 5 1 encB v4 bd, cell g2 28 #[.int .i64 0, .int .i64 0, .int .i64 0, .int .u64 0, .int .u64 0, .int .u64 0, .slice none 0 0, .int .u64 0, .bool false, .int .u64 0, .int .u64 0, .int .i64 0, .int .i64 0, .slice none 0 0, .bool false]]) rfl (a_makes (os' := fun g => [RdT g bd 0, Vec 5 1 encB v4 bd, cell g2 28 #[.int .i64 0, .int .i64 0, .int .i64 0, .int .u64 0, .int .u64 0, .int .u64 0, .slice none 0 0, .int .u64 0, .bool false, .int .u64 0, .int .u64 0, .int .i64 0, .int .i64 0, .slice none 0 0, .bool false]]) [] 0 (ent_of Try.func41 (by kernel_rfl) rfl) (fun w hH => rd_new w v4 bd (hH.sl8 0 rfl) hbd2) rfl rfl rfl (fun _ => rfl) rfl rfl rfl) ?_; rintro g
      refine h_q hflS rfl ?_
      refine h_done (d_reg ?_)
      refine h_q hflS rfl ?_
      refine h_act rfl (a_does  [0] 0 (ent_of Try.func42 (by kernel_rfl) rfl) (readM_does g bd hbd) rfl rfl rfl (fun _ => rfl) rfl rfl rfl) ?_; rintro ⟨v, en2, lz, fz⟩
      refine WL2.fact 2 rfl (fun _ h => h.2) ?_; rintro hRK
      refine WL2.keep (env' := [(0, v0), (2, .pointer (some ⟨g2, 0, none⟩)), (3, .int .i64 0), (8, v0), (9, .int .i64 (l.length : Int)), (10, .bool false), (13, v0), (14, .tuple #[v4, .int .i64 (e0 : Int)]), (12, .tuple #[v4, .int .i64 (e0 : Int)]), (15, v4), (16, .int .i64 (e0 : Int)), (4, v4), (5, .int .i64 (e0 : Int)), (17, .int .i64 (e0 : Int)), (18, .bool false), (21, v4), (22, .pointer (some ⟨g, 0, none⟩)), (6, .pointer (some ⟨g, 0, none⟩)), (24, .pointer (some ⟨g, 0, none⟩)), (25, .tuple #[.agg #[.int .i64 v.m.k, .int .i64 v.m.a, .int .i64 v.m.b, .int .u64 v.m.t, .int .u64 v.m.i, .int .u64 v.m.lt, v.ev, .int .u64 v.m.co, .bool v.m.rf, .int .u64 v.m.bi, .int .u64 v.m.bt, .int .i64 v.m.bc, .int .i64 v.m.o, v.dv, .bool v.m.la], .int .i64 (en2 : Int)])]) ⟨rfl, rfl, rfl, rfl, rfl, rfl, rfl, rfl, rfl, rfl, rfl, rfl, rfl, rfl, rfl, rfl, rfl, rfl, rfl, rfl, trivial⟩ ?_
      refine WL2.mid [Ents 36 v.ev v.es, Vec 5 1 encB v.dv v.m.d, fact (ROk (readM bd) ⟨v, en2, lz, fz⟩), RdT g lz fz, Vec 5 1 encB v4 bd, cell g2 28 #[.int .i64 0, .int .i64 0, .int .i64 0, .int .u64 0, .int .u64 0, .int .u64 0, .slice none 0 0, .int .u64 0, .bool false, .int .u64 0, .int .u64 0, .int .i64 0, .int .i64 0, .slice none 0 0, .bool false]] (.refl _) ?_
      refine h_q hflS rfl ?_
      refine h_act (post := fun g7 => [cell g7 28 #[.int .i64 0, .int .i64 0, .int .i64 0, .int .u64 0, .int .u64 0, .int .u64 0, .slice none 0 0, .int .u64 0, .bool false, .int .u64 0, .int .u64 0, .int .i64 0, .int .i64 0, .slice none 0 0, .bool false], Ents 36 v.ev v.es, Vec 5 1 encB v.dv v.m.d, fact (ROk (readM bd) ⟨v, en2, lz, fz⟩), RdT g lz fz, Vec 5 1 encB v4 bd, cell g2 28 #[.int .i64 0, .int .i64 0, .int .i64 0, .int .u64 0, .int .u64 0, .int .u64 0, .slice none 0 0, .int .u64 0, .bool false, .int .u64 0, .int .u64 0, .int .i64 0, .int .i64 0, .slice none 0 0, .bool false]]) rfl (a_alloc ze_api_Msg rfl) ?_; rintro g7
      refine h_acts (post := fun _ => [cell g7 28 #[.int .i64 v.m.k, .int .i64 v.m.a, .int .i64 v.m.b, .int .u64 v.m.t, .int .u64 v.m.i, .int .u64 v.m.lt, v.ev, .int .u64 v.m.co, .bool v.m.rf, .int .u64 v.m.bi, .int .u64 v.m.bt, .int .i64 v.m.bc, .int .i64 v.m.o, v.dv, .bool v.m.la], Ents 36 v.ev v.es, Vec 5 1 encB v.dv v.m.d, fact (ROk (readM bd) ⟨v, en2, lz, fz⟩), RdT g lz fz, Vec 5 1 encB v4 bd, cell g2 28 #[.int .i64 0, .int .i64 0, .int .i64 0, .int .u64 0, .int .u64 0, .int .u64 0, .slice none 0 0, .int .u64 0, .bool false, .int .u64 0, .int .u64 0, .int .i64 0, .int .i64 0, .slice none 0 0, .bool false]]) rfl rfl (a_store 0 (v := .agg #[.int .i64 v.m.k, .int .i64 v.m.a, .int .i64 v.m.b, .int .u64 v.m.t, .int .u64 v.m.i, .int .u64 v.m.lt, v.ev, .int .u64 v.m.co, .bool v.m.rf, .int .u64 v.m.bi, .int .u64 v.m.bt, .int .i64 v.m.bc, .int .i64 v.m.o, v.dv, .bool v.m.la]) #[.int .i64 v.m.k, .int .i64 v.m.a, .int .i64 v.m.b, .int .u64 v.m.t, .int .u64 v.m.i, .int .u64 v.m.lt, v.ev, .int .u64 v.m.co, .bool v.m.rf, .int .u64 v.m.bi, .int .u64 v.m.bt, .int .i64 v.m.bc, .int .i64 v.m.o, v.dv, .bool v.m.la] ty_api_Msg.2 rfl rfl rfl rfl rfl rfl rfl rfl rfl) ?_; rintro ⟨⟩
      refine h_q hflS rfl ?_
      refine h_done (d_seq ?_)
      have hes : v.m.es = v.es.map (·.e) := hRK.1
      have hRK2 : (en2 = 0 ∧ rend lz fz = rend l' f' ∧ (rend l' f' = 0 → v.m = m0)) ∨ (en2 ≠ 0 ∧ en2 = rend l' f') := by have := hRK.2; rw [hM] at this; exact this
      rcases hRK2 with ⟨q1, q2, q3⟩ | ⟨q1, q2⟩
      · skip
        refine WC2.leave [3] rfl rfl ?_
        refine d_reg ?_
        refine h_q hflS rfl ?_
        refine h_val rfl (.bool true) (fun b w hb hH => exec_cmp rfl rfl rfl (cmp_eql_t (by omega)) hb) ?_
        refine h_done (d_then rfl (d_reg1 ?_))
        refine h_q hflS rfl ?_
        refine h_act (post := fun _ => [cell g7 28 #[.int .i64 v.m.k, .int .i64 v.m.a, .int .i64 v.m.b, .int .u64 v.m.t, .int .u64 v.m.i, .int .u64 v.m.lt, v.ev, .int .u64 v.m.co, .bool v.m.rf, .int .u64 v.m.bi, .int .u64 v.m.bt, .int .i64 v.m.bc, .int .i64 v.m.o, v.dv, .bool v.m.la], Ents 36 v.ev v.es, Vec 5 1 encB v.dv v.m.d, RdT g lz fz, Vec 5 1 encB v4 bd, cell g2 28 #[.int .i64 0, .int .i64 0, .int .i64 0, .int .u64 0, .int .u64 0, .int .u64 0, .slice none 0 0, .int .u64 0, .bool false, .int .u64 0, .int .u64 0, .int .i64 0, .int .i64 0, .slice none 0 0, .bool false]]) rfl (a_does (os' := fun _ => [cell g7 28 #[.int .i64 v.m.k, .int .i64 v.m.a, .int .i64 v.m.b, .int .u64 v.m.t, .int .u64 v.m.i, .int .u64 v.m.lt, v.ev, .int .u64 v.m.co, .bool v.m.rf, .int .u64 v.m.bi, .int .u64 v.m.bt, .int .i64 v.m.bc, .int .i64 v.m.o, v.dv, .bool v.m.la], Ents 36 v.ev v.es, Vec 5 1 encB v.dv v.m.d, RdT g lz fz, Vec 5 1 encB v4 bd, cell g2 28 #[.int .i64 0, .int .i64 0, .int .i64 0, .int .u64 0, .int .u64 0, .int .u64 0, .slice none 0 0, .int .u64 0, .bool false, .int .u64 0, .int .u64 0, .int .i64 0, .int .i64 0, .slice none 0 0, .bool false]]) [3] 0 (ent_of Try.func43 (by kernel_rfl) rfl) (rd_end g lz fz (rend lz fz) rfl) rfl rfl rfl (fun _ => rfl) rfl rfl rfl) ?_; rintro ⟨⟩
        refine h_q hflS rfl ?_
        refine h_nil (f_to (d_seq ?_))
        by_cases hz : rend lz fz = 0
        · skip
          rcases Bool.eq_false_or_eq_true (rightM v.m) with hR | hR
          · skip
            have hq := q3 (q2.symm.trans hz)
            obtain ⟨rfl, rfl⟩ := decM_is (decM_right h16 hu hM (q2.symm.trans hz) (hq ▸ hR)) hD
            refine d_reg ?_
            refine h_q hflS rfl ?_
            refine h_val rfl (.bool true) (fun b w hb hH => exec_cmp rfl rfl rfl (cmp_eql_t (by omega)) hb) ?_
            refine h_q hflS rfl ?_
            refine h_val rfl (.agg #[.int .i64 v.m.k, .int .i64 v.m.a, .int .i64 v.m.b, .int .u64 v.m.t, .int .u64 v.m.i, .int .u64 v.m.lt, v.ev, .int .u64 v.m.co, .bool v.m.rf, .int .u64 v.m.bi, .int .u64 v.m.bt, .int .i64 v.m.bc, .int .i64 v.m.o, v.dv, .bool v.m.la]) (fun b w hb hH => exec_load rfl rfl (reads_agg (cs := [.int .i64 v.m.k, .int .i64 v.m.a, .int .i64 v.m.b, .int .u64 v.m.t, .int .u64 v.m.i, .int .u64 v.m.lt, v.ev, .int .u64 v.m.co, .bool v.m.rf, .int .u64 v.m.bi, .int .u64 v.m.bt, .int .i64 v.m.bc, .int .i64 v.m.o, v.dv, .bool v.m.la]) ty_api_Msg rfl) (hH.row 0 rfl) hb) ?_
            refine h_act (post := fun _ => [cell g7 28 #[.int .i64 v.m.k, .int .i64 v.m.a, .int .i64 v.m.b, .int .u64 v.m.t, .int .u64 v.m.i, .int .u64 v.m.lt, v.ev, .int .u64 v.m.co, .bool v.m.rf, .int .u64 v.m.bi, .int .u64 v.m.bt, .int .i64 v.m.bc, .int .i64 v.m.o, v.dv, .bool v.m.la], Ents 36 v.ev v.es, Vec 5 1 encB v.dv v.m.d, RdT g lz fz, Vec 5 1 encB v4 bd, cell g2 28 #[.int .i64 0, .int .i64 0, .int .i64 0, .int .u64 0, .int .u64 0, .int .u64 0, .slice none 0 0, .int .u64 0, .bool false, .int .u64 0, .int .u64 0, .int .i64 0, .int .i64 0, .slice none 0 0, .bool false]]) rfl (a_call (ent_of Try.func19 (by kernel_rfl) rfl) (fun w hH => rightM_any w v (msgOk_of hbd hM (q3 (q2.symm.trans hz)) hes (hH.ents 1 rfl) (hH.sl8 2 rfl)) true hR) rfl rfl rfl) ?_; rintro ⟨⟩
            refine h_q hflS rfl ?_
            refine h_done (d_else rfl (d_skip (f_to (d_seq (d_reg ?_)))))
            refine h_q hflS rfl ?_
            refine h_val rfl (.bool false) (fun b w hb hH => exec_cmp rfl rfl rfl (cmp_neq_f (by omega)) hb) ?_
            refine h_done (d_else rfl (d_skip (f_to (d_reg ?_))))
            refine h_q hflS rfl ?_
            refine h_val rfl (.agg #[.int .i64 v.m.k, .int .i64 v.m.a, .int .i64 v.m.b, .int .u64 v.m.t, .int .u64 v.m.i, .int .u64 v.m.lt, v.ev, .int .u64 v.m.co, .bool v.m.rf, .int .u64 v.m.bi, .int .u64 v.m.bt, .int .i64 v.m.bc, .int .i64 v.m.o, v.dv, .bool v.m.la]) (fun b w hb hH => exec_load rfl rfl (reads_agg (cs := [.int .i64 v.m.k, .int .i64 v.m.a, .int .i64 v.m.b, .int .u64 v.m.t, .int .u64 v.m.i, .int .u64 v.m.lt, v.ev, .int .u64 v.m.co, .bool v.m.rf, .int .u64 v.m.bi, .int .u64 v.m.bt, .int .i64 v.m.bc, .int .i64 v.m.o, v.dv, .bool v.m.la]) ty_api_Msg rfl) (hH.row 0 rfl) hb) ?_
            refine h_acts (post := fun _ => [cell g7 28 #[.int .i64 v.m.k, .int .i64 v.m.a, .int .i64 v.m.b, .int .u64 v.m.t, .int .u64 v.m.i, .int .u64 v.m.lt, v.ev, .int .u64 v.m.co, .bool v.m.rf, .int .u64 v.m.bi, .int .u64 v.m.bt, .int .i64 v.m.bc, .int .i64 v.m.o, v.dv, .bool v.m.la], Ents 36 v.ev v.es, Vec 5 1 encB v.dv v.m.d, RdT g lz fz, Vec 5 1 encB v4 bd, cell g2 28 #[.int .i64 v.m.k, .int .i64 v.m.a, .int .i64 v.m.b, .int .u64 v.m.t, .int .u64 v.m.i, .int .u64 v.m.lt, v.ev, .int .u64 v.m.co, .bool v.m.rf, .int .u64 v.m.bi, .int .u64 v.m.bt, .int .i64 v.m.bc, .int .i64 v.m.o, v.dv, .bool v.m.la]]) rfl rfl (a_store 5 (v := .agg #[.int .i64 v.m.k, .int .i64 v.m.a, .int .i64 v.m.b, .int .u64 v.m.t, .int .u64 v.m.i, .int .u64 v.m.lt, v.ev, .int .u64 v.m.co, .bool v.m.rf, .int .u64 v.m.bi, .int .u64 v.m.bt, .int .i64 v.m.bc, .int .i64 v.m.o, v.dv, .bool v.m.la]) #[.int .i64 v.m.k, .int .i64 v.m.a, .int .i64 v.m.b, .int .u64 v.m.t, .int .u64 v.m.i, .int .u64 v.m.lt, v.ev, .int .u64 v.m.co, .bool v.m.rf, .int .u64 v.m.bi, .int .u64 v.m.bt, .int .i64 v.m.bc, .int .i64 v.m.o, v.dv, .bool v.m.la] ty_api_Msg.2 rfl rfl rfl rfl rfl rfl rfl rfl rfl) ?_; rintro ⟨⟩
            refine h_q hflS rfl ?_
            refine h_done (d_ret ?_)
            exact f_fin2 (.cell 5 (v := .agg #[.int .i64 v.m.k, .int .i64 v.m.a, .int .i64 v.m.b, .int .u64 v.m.t, .int .u64 v.m.i, .int .u64 v.m.lt, v.ev, .int .u64 v.m.co, .bool v.m.rf, .int .u64 v.m.bi, .int .u64 v.m.bt, .int .i64 v.m.bc, .int .i64 v.m.o, v.dv, .bool v.m.la]) (reads_agg (cs := [.int .i64 v.m.k, .int .i64 v.m.a, .int .i64 v.m.b, .int .u64 v.m.t, .int .u64 v.m.i, .int .u64 v.m.lt, v.ev, .int .u64 v.m.co, .bool v.m.rf, .int .u64 v.m.bi, .int .u64 v.m.bt, .int .i64 v.m.bc, .int .i64 v.m.o, v.dv, .bool v.m.la]) ty_api_Msg rfl) rfl rfl) (.tmp rfl) (fun w h => tells v rfl [1, 2] rfl h (fun z hz => ⟨z, .refl _, fact_add (xs := [_, _]) ⟨hq, hes⟩ hz⟩)) rfl
          · skip
            have hq := q3 (q2.symm.trans hz)
            obtain ⟨rfl, rfl⟩ := decM_is (decM_wrong h16 hu hM (q2.symm.trans hz) (hq ▸ hR)) hD
            refine d_reg ?_
            refine h_q hflS rfl ?_
            refine h_val rfl (.bool true) (fun b w hb hH => exec_cmp rfl rfl rfl (cmp_eql_t (by omega)) hb) ?_
            refine h_q hflS rfl ?_
            refine h_val rfl (.agg #[.int .i64 v.m.k, .int .i64 v.m.a, .int .i64 v.m.b, .int .u64 v.m.t, .int .u64 v.m.i, .int .u64 v.m.lt, v.ev, .int .u64 v.m.co, .bool v.m.rf, .int .u64 v.m.bi, .int .u64 v.m.bt, .int .i64 v.m.bc, .int .i64 v.m.o, v.dv, .bool v.m.la]) (fun b w hb hH => exec_load rfl rfl (reads_agg (cs := [.int .i64 v.m.k, .int .i64 v.m.a, .int .i64 v.m.b, .int .u64 v.m.t, .int .u64 v.m.i, .int .u64 v.m.lt, v.ev, .int .u64 v.m.co, .bool v.m.rf, .int .u64 v.m.bi, .int .u64 v.m.bt, .int .i64 v.m.bc, .int .i64 v.m.o, v.dv, .bool v.m.la]) ty_api_Msg rfl) (hH.row 0 rfl) hb) ?_
            refine h_act (post := fun _ => [cell g7 28 #[.int .i64 v.m.k, .int .i64 v.m.a, .int .i64 v.m.b, .int .u64 v.m.t, .int .u64 v.m.i, .int .u64 v.m.lt, v.ev, .int .u64 v.m.co, .bool v.m.rf, .int .u64 v.m.bi, .int .u64 v.m.bt, .int .i64 v.m.bc, .int .i64 v.m.o, v.dv, .bool v.m.la], Ents 36 v.ev v.es, Vec 5 1 encB v.dv v.m.d, RdT g lz fz, Vec 5 1 encB v4 bd, cell g2 28 #[.int .i64 0, .int .i64 0, .int .i64 0, .int .u64 0, .int .u64 0, .int .u64 0, .slice none 0 0, .int .u64 0, .bool false, .int .u64 0, .int .u64 0, .int .i64 0, .int .i64 0, .slice none 0 0, .bool false]]) rfl (a_call (ent_of Try.func19 (by kernel_rfl) rfl) (fun w hH => rightM_any w v (msgOk_of hbd hM (q3 (q2.symm.trans hz)) hes (hH.ents 1 rfl) (hH.sl8 2 rfl)) false hR) rfl rfl rfl) ?_; rintro ⟨⟩
            refine h_q hflS rfl ?_
            refine h_done (d_then rfl (d_reg1 ?_))
            refine h_q hflS rfl ?_
            refine h_nil (f_to (d_seq (d_reg ?_)))
            refine h_q hflS rfl ?_
            refine h_val rfl (.bool true) (fun b w hb hH => exec_cmp rfl rfl rfl (cmp_neq_t (by decide)) hb) ?_
            refine h_done (d_then rfl ?_)
            refine d_new (t := Ents 36 (.slice none 0 0) ([])) (entsT_nil) ?_
            refine d_nilvec 5 1 encB ?_
            refine d_reg ?_
            refine h_q hflS rfl ?_
            refine h_val rfl (.agg #[.int .i64 0, .int .i64 0, .int .i64 0, .int .u64 0, .int .u64 0, .int .u64 0, .slice none 0 0, .int .u64 0, .bool false, .int .u64 0, .int .u64 0, .int .i64 0, .int .i64 0, .slice none 0 0, .bool false]) (fun b w hb hH => exec_build rfl rfl (by kernel_rfl) hb) ?_
            refine h_q hflS rfl ?_
            refine h_acts (post := fun _ => [Vec 5 1 encB (.slice none 0 0) ([]), Ents 36 (.slice none 0 0) ([]), cell g7 28 #[.int .i64 v.m.k, .int .i64 v.m.a, .int .i64 v.m.b, .int .u64 v.m.t, .int .u64 v.m.i, .int .u64 v.m.lt, v.ev, .int .u64 v.m.co, .bool v.m.rf, .int .u64 v.m.bi, .int .u64 v.m.bt, .int .i64 v.m.bc, .int .i64 v.m.o, v.dv, .bool v.m.la], Ents 36 v.ev v.es, Vec 5 1 encB v.dv v.m.d, RdT g lz fz, Vec 5 1 encB v4 bd, cell g2 28 #[.int .i64 0, .int .i64 0, .int .i64 0, .int .u64 0, .int .u64 0, .int .u64 0, .slice none 0 0, .int .u64 0, .bool false, .int .u64 0, .int .u64 0, .int .i64 0, .int .i64 0, .slice none 0 0, .bool false]]) rfl rfl (a_store 7 (v := .agg #[.int .i64 0, .int .i64 0, .int .i64 0, .int .u64 0, .int .u64 0, .int .u64 0, .slice none 0 0, .int .u64 0, .bool false, .int .u64 0, .int .u64 0, .int .i64 0, .int .i64 0, .slice none 0 0, .bool false]) #[.int .i64 0, .int .i64 0, .int .i64 0, .int .u64 0, .int .u64 0, .int .u64 0, .slice none 0 0, .int .u64 0, .bool false, .int .u64 0, .int .u64 0, .int .i64 0, .int .i64 0, .slice none 0 0, .bool false] ty_api_Msg.2 rfl rfl rfl rfl rfl rfl rfl rfl rfl) ?_; rintro ⟨⟩
            refine h_q hflS rfl ?_
            refine h_done (d_ret (f_then_ret ?_))
            exact f_fin2 (.cell 7 (v := .agg #[.int .i64 0, .int .i64 0, .int .i64 0, .int .u64 0, .int .u64 0, .int .u64 0, .slice none 0 0, .int .u64 0, .bool false, .int .u64 0, .int .u64 0, .int .i64 0, .int .i64 0, .slice none 0 0, .bool false]) (reads_agg (cs := [.int .i64 0, .int .i64 0, .int .i64 0, .int .u64 0, .int .u64 0, .int .u64 0, .slice none 0 0, .int .u64 0, .bool false, .int .u64 0, .int .u64 0, .int .i64 0, .int .i64 0, .slice none 0 0, .bool false]) ty_api_Msg rfl) rfl rfl) (.tmp rfl) (fun w h => tells (⟨.zero, [], none, 0, none, 0⟩ : MsgV) rfl [1, 0] rfl h (fun z hz => ⟨z, .refl _, fact_add (xs := [_, _]) (show _ = _ ∧ _ = _ from ⟨rfl, rfl⟩) hz⟩)) rfl
        · skip
          have hb := decM_bad h16 hu hM (by omega)
          rw [← q2] at hb
          obtain ⟨rfl, rfl⟩ := decM_is hb hD
          refine d_reg ?_
          refine h_q hflS rfl ?_
          refine h_val rfl (.bool false) (fun b w hb hH => exec_cmp rfl rfl rfl (cmp_eql_f (by omega)) hb) ?_
          refine h_q hflS rfl ?_
          refine h_done (d_else rfl (d_skip (f_to (d_seq (d_reg ?_)))))
          refine h_q hflS rfl ?_
          refine h_val rfl (.bool true) (fun b w hb hH => exec_cmp rfl rfl rfl (cmp_neq_t (by omega)) hb) ?_
          refine h_done (d_then rfl ?_)
          refine d_new (t := Ents 36 (.slice none 0 0) ([])) (entsT_nil) ?_
          refine d_nilvec 5 1 encB ?_
          refine d_reg ?_
          refine h_q hflS rfl ?_
          refine h_val rfl (.agg #[.int .i64 0, .int .i64 0, .int .i64 0, .int .u64 0, .int .u64 0, .int .u64 0, .slice none 0 0, .int .u64 0, .bool false, .int .u64 0, .int .u64 0, .int .i64 0, .int .i64 0, .slice none 0 0, .bool false]) (fun b w hb hH => exec_build rfl rfl (by kernel_rfl) hb) ?_
          refine h_q hflS rfl ?_
          refine h_acts (post := fun _ => [Vec 5 1 encB (.slice none 0 0) ([]), Ents 36 (.slice none 0 0) ([]), cell g7 28 #[.int .i64 v.m.k, .int .i64 v.m.a, .int .i64 v.m.b, .int .u64 v.m.t, .int .u64 v.m.i, .int .u64 v.m.lt, v.ev, .int .u64 v.m.co, .bool v.m.rf, .int .u64 v.m.bi, .int .u64 v.m.bt, .int .i64 v.m.bc, .int .i64 v.m.o, v.dv, .bool v.m.la], Ents 36 v.ev v.es, Vec 5 1 encB v.dv v.m.d, RdT g lz fz, Vec 5 1 encB v4 bd, cell g2 28 #[.int .i64 0, .int .i64 0, .int .i64 0, .int .u64 0, .int .u64 0, .int .u64 0, .slice none 0 0, .int .u64 0, .bool false, .int .u64 0, .int .u64 0, .int .i64 0, .int .i64 0, .slice none 0 0, .bool false]]) rfl rfl (a_store 7 (v := .agg #[.int .i64 0, .int .i64 0, .int .i64 0, .int .u64 0, .int .u64 0, .int .u64 0, .slice none 0 0, .int .u64 0, .bool false, .int .u64 0, .int .u64 0, .int .i64 0, .int .i64 0, .slice none 0 0, .bool false]) #[.int .i64 0, .int .i64 0, .int .i64 0, .int .u64 0, .int .u64 0, .int .u64 0, .slice none 0 0, .int .u64 0, .bool false, .int .u64 0, .int .u64 0, .int .i64 0, .int .i64 0, .slice none 0 0, .bool false] ty_api_Msg.2 rfl rfl rfl rfl rfl rfl rfl rfl rfl) ?_; rintro ⟨⟩
          refine h_q hflS rfl ?_
          refine h_done (d_ret (f_then_ret ?_))
          exact f_fin2 (.cell 7 (v := .agg #[.int .i64 0, .int .i64 0, .int .i64 0, .int .u64 0, .int .u64 0, .int .u64 0, .slice none 0 0, .int .u64 0, .bool false, .int .u64 0, .int .u64 0, .int .i64 0, .int .i64 0, .slice none 0 0, .bool false]) (reads_agg (cs := [.int .i64 0, .int .i64 0, .int .i64 0, .int .u64 0, .int .u64 0, .int .u64 0, .slice none 0 0, .int .u64 0, .bool false, .int .u64 0, .int .u64 0, .int .i64 0, .int .i64 0, .slice none 0 0, .bool false]) ty_api_Msg rfl) rfl rfl) (.tmp rfl) (fun w h => tells (⟨.zero, [], none, 0, none, 0⟩ : MsgV) rfl [1, 0] rfl h (fun z hz => ⟨z, .refl _, fact_add (xs := [_, _]) (show _ = _ ∧ _ = _ from ⟨rfl, rfl⟩) hz⟩)) rfl
      · skip
        have hb := decM_bad h16 hu hM (by omega)
        rw [← q2] at hb
        obtain ⟨rfl, rfl⟩ := decM_is hb hD
        refine WC2.leave [3] rfl rfl ?_
        refine d_reg ?_
        refine h_q hflS rfl ?_
        refine h_val rfl (.bool false) (fun b w hb hH => exec_cmp rfl rfl rfl (cmp_eql_f (by omega)) hb) ?_
        refine h_done (d_else rfl (d_skip (f_to (d_seq (d_reg ?_)))))
        refine h_q hflS rfl ?_
        refine h_val rfl (.bool false) (fun b w hb hH => exec_cmp rfl rfl rfl (cmp_eql_f (by omega)) hb) ?_
        refine h_q hflS rfl ?_
        refine h_done (d_else rfl (d_skip (f_to (d_seq (d_reg ?_)))))
        refine h_q hflS rfl ?_
        refine h_val rfl (.bool true) (fun b w hb hH => exec_cmp rfl rfl rfl (cmp_neq_t (by omega)) hb) ?_
        refine h_done (d_then rfl ?_)
        refine d_new (t := Ents 36 (.slice none 0 0) ([])) (entsT_nil) ?_
        refine d_nilvec 5 1 encB ?_
        refine d_reg ?_
        refine h_q hflS rfl ?_
        refine h_val rfl (.agg #[.int .i64 0, .int .i64 0, .int .i64 0, .int .u64 0, .int .u64 0, .int .u64 0, .slice none 0 0, .int .u64 0, .bool false, .int .u64 0, .int .u64 0, .int .i64 0, .int .i64 0, .slice none 0 0, .bool false]) (fun b w hb hH => exec_build rfl rfl (by kernel_rfl) hb) ?_
        refine h_q hflS rfl ?_
        refine h_acts (post := fun _ => [Vec 5 1 encB (.slice none 0 0) ([]), Ents 36 (.slice none 0 0) ([]), cell g7 28 #[.int .i64 v.m.k, .int .i64 v.m.a, .int .i64 v.m.b, .int .u64 v.m.t, .int .u64 v.m.i, .int .u64 v.m.lt, v.ev, .int .u64 v.m.co, .bool v.m.rf, .int .u64 v.m.bi, .int .u64 v.m.bt, .int .i64 v.m.bc, .int .i64 v.m.o, v.dv, .bool v.m.la], Ents 36 v.ev v.es, Vec 5 1 encB v.dv v.m.d, RdT g lz fz, Vec 5 1 encB v4 bd, cell g2 28 #[.int .i64 0, .int .i64 0, .int .i64 0, .int .u64 0, .int .u64 0, .int .u64 0, .slice none 0 0, .int .u64 0, .bool false, .int .u64 0, .int .u64 0, .int .i64 0, .int .i64 0, .slice none 0 0, .bool false]]) rfl rfl (a_store 7 (v := .agg #[.int .i64 0, .int .i64 0, .int .i64 0, .int .u64 0, .int .u64 0, .int .u64 0, .slice none 0 0, .int .u64 0, .bool false, .int .u64 0, .int .u64 0, .int .i64 0, .int .i64 0, .slice none 0 0, .bool false]) #[.int .i64 0, .int .i64 0, .int .i64 0, .int .u64 0, .int .u64 0, .int .u64 0, .slice none 0 0, .int .u64 0, .bool false, .int .u64 0, .int .u64 0, .int .i64 0, .int .i64 0, .slice none 0 0, .bool false] ty_api_Msg.2 rfl rfl rfl rfl rfl rfl rfl rfl rfl) ?_; rintro ⟨⟩
        refine h_q hflS rfl ?_
        refine h_done (d_ret (f_then_ret ?_))
        exact f_fin2 (.cell 7 (v := .agg #[.int .i64 0, .int .i64 0, .int .i64 0, .int .u64 0, .int .u64 0, .int .u64 0, .slice none 0 0, .int .u64 0, .bool false, .int .u64 0, .int .u64 0, .int .i64 0, .int .i64 0, .slice none 0 0, .bool false]) (reads_agg (cs := [.int .i64 0, .int .i64 0, .int .i64 0, .int .u64 0, .int .u64 0, .int .u64 0, .slice none 0 0, .int .u64 0, .bool false, .int .u64 0, .int .u64 0, .int .i64 0, .int .i64 0, .slice none 0 0, .bool false]) ty_api_Msg rfl) rfl rfl) (.tmp rfl) (fun w h => tells (⟨.zero, [], none, 0, none, 0⟩ : MsgV) rfl [1, 0] rfl h (fun z hz => ⟨z, .refl _, fact_add (xs := [_, _]) (show _ = _ ∧ _ = _ from ⟨rfl, rfl⟩) hz⟩)) rfl
    · skip
      obtain ⟨rfl, rfl⟩ := decM_is (decM_seal h16 hu he0) hD
      refine d_reg ?_
      refine h_q hflS rfl ?_
      refine h_val rfl (.bool true) (fun b w hb hH => exec_cmp rfl rfl rfl (cmp_neq_t (by omega)) hb) ?_
      refine h_done (d_then rfl ?_)
      refine d_new (t := Ents 36 (.slice none 0 0) ([])) (entsT_nil) ?_
      refine d_nilvec 5 1 encB ?_
      refine d_reg ?_
      refine h_q hflS rfl ?_
      refine h_val rfl (.agg #[.int .i64 0, .int .i64 0, .int .i64 0, .int .u64 0, .int .u64 0, .int .u64 0, .slice none 0 0, .int .u64 0, .bool false, .int .u64 0, .int .u64 0, .int .i64 0, .int .i64 0, .slice none 0 0, .bool false]) (fun b w hb hH => exec_build rfl rfl (by kernel_rfl) hb) ?_
      refine h_q hflS rfl ?_
      refine h_acts (post := fun _ => [Vec 5 1 encB (.slice none 0 0) ([]), Ents 36 (.slice none 0 0) ([]), Vec 5 1 encB v4 bd, cell g2 28 #[.int .i64 0, .int .i64 0, .int .i64 0, .int .u64 0, .int .u64 0, .int .u64 0, .slice none 0 0, .int .u64 0, .bool false, .int .u64 0, .int .u64 0, .int .i64 0, .int .i64 0, .slice none 0 0, .bool false]]) rfl rfl (a_store 3 (v := .agg #[.int .i64 0, .int .i64 0, .int .i64 0, .int .u64 0, .int .u64 0, .int .u64 0, .slice none 0 0, .int .u64 0, .bool false, .int .u64 0, .int .u64 0, .int .i64 0, .int .i64 0, .slice none 0 0, .bool false]) #[.int .i64 0, .int .i64 0, .int .i64 0, .int .u64 0, .int .u64 0, .int .u64 0, .slice none 0 0, .int .u64 0, .bool false, .int .u64 0, .int .u64 0, .int .i64 0, .int .i64 0, .slice none 0 0, .bool false] ty_api_Msg.2 rfl rfl rfl rfl rfl rfl rfl rfl rfl) ?_; rintro ⟨⟩
      refine h_q hflS rfl ?_
      refine h_done (d_ret (f_then_ret ?_))
      exact f_fin2 (.cell 3 (v := .agg #[.int .i64 0, .int .i64 0, .int .i64 0, .int .u64 0, .int .u64 0, .int .u64 0, .slice none 0 0, .int .u64 0, .bool false, .int .u64 0, .int .u64 0, .int .i64 0, .int .i64 0, .slice none 0 0, .bool false]) (reads_agg (cs := [.int .i64 0, .int .i64 0, .int .i64 0, .int .u64 0, .int .u64 0, .int .u64 0, .slice none 0 0, .int .u64 0, .bool false, .int .u64 0, .int .u64 0, .int .i64 0, .int .i64 0, .slice none 0 0, .bool false]) ty_api_Msg rfl) rfl rfl) (.tmp rfl) (fun w h => tells (⟨.zero, [], none, 0, none, 0⟩ : MsgV) rfl [1, 0] rfl h (fun z hz => ⟨z, .refl _, fact_add (xs := [_, _]) (show _ = _ ∧ _ = _ from ⟨rfl, rfl⟩) hz⟩)) rfl
end Go.Proofs.Ytnhcbjlaeaohjaa.Sep
