/-
  RpcV
-/
import Derived.Test.YtnhcbjlaeaohjaaAN01
set_option linter.unusedSimpArgs false
set_option linter.unusedVariables false

namespace Go.Proofs.Ytnhcbjlaeaohjaa.Sep
open Go.RowKit
open Go.Proofs.Ytnhcbjlaeaohjaa.Mem (Dist Blk Chg below0)

set_option maxRecDepth 100000 in
theorem rpcright_true (w : World) (x : MsgV) (hx : MsgOk w x) : Calls Try.prog 6 #[.agg #[.int .i64 x.m.k, .int .i64 x.m.a, .int .i64 x.m.b, .int .u64 x.m.t, .int .u64 x.m.i, .int .u64 x.m.lt, x.ev, .int .u64 x.m.co, .bool x.m.rf, .int .u64 x.m.bi, .int .u64 x.m.bt, .int .i64 x.m.bc, .int .i64 x.m.o, x.dv, .bool x.m.la]] w fun e w' => e = .returned (.bool true) ∧ Below w.heap.size w w' := by
  obtain ⟨r, hr⟩ : ∃ r, rightM x.m = r := ⟨_, rfl⟩
  refine d_in (args := [.agg #[.int .i64 x.m.k, .int .i64 x.m.a, .int .i64 x.m.b, .int .u64 x.m.t, .int .u64 x.m.i, .int .u64 x.m.lt, x.ev, .int .u64 x.m.co, .bool x.m.rf, .int .u64 x.m.bi, .int .u64 x.m.bt, .int .i64 x.m.bc, .int .i64 x.m.o, x.dv, .bool x.m.la]]) 19 Try.func6 rfl rfl rfl ?_
  refine d_reg ?_
  refine h_q hflS rfl ?_
  refine h_act (post := fun g1 => [cell g1 28 #[.int .i64 x.m.k, .int .i64 x.m.a, .int .i64 x.m.b, .int .u64 x.m.t, .int .u64 x.m.i, .int .u64 x.m.lt, x.ev, .int .u64 x.m.co, .bool x.m.rf, .int .u64 x.m.bi, .int .u64 x.m.bt, .int .i64 x.m.bc, .int .i64 x.m.o, x.dv, .bool x.m.la]]) rfl (a_box (cs := #[.int .i64 x.m.k, .int .i64 x.m.a, .int .i64 x.m.b, .int .u64 x.m.t, .int .u64 x.m.i, .int .u64 x.m.lt, x.ev, .int .u64 x.m.co, .bool x.m.rf, .int .u64 x.m.bi, .int .u64 x.m.bt, .int .i64 x.m.bc, .int .i64 x.m.o, x.dv, .bool x.m.la]) rfl rfl rfl) ?_; rintro g1
  refine h_q hflS rfl ?_
  refine h_done (d_reg ?_)
  refine h_q hflS rfl ?_
  refine h_val rfl (.agg #[.int .i64 x.m.k, .int .i64 x.m.a, .int .i64 x.m.b, .int .u64 x.m.t, .int .u64 x.m.i, .int .u64 x.m.lt, x.ev, .int .u64 x.m.co, .bool x.m.rf, .int .u64 x.m.bi, .int .u64 x.m.bt, .int .i64 x.m.bc, .int .i64 x.m.o, x.dv, .bool x.m.la]) (fun b w hb hH => exec_load rfl rfl (reads_agg (cs := [.int .i64 x.m.k, .int .i64 x.m.a, .int .i64 x.m.b, .int .u64 x.m.t, .int .u64 x.m.i, .int .u64 x.m.lt, x.ev, .int .u64 x.m.co, .bool x.m.rf, .int .u64 x.m.bi, .int .u64 x.m.bt, .int .i64 x.m.bc, .int .i64 x.m.o, x.dv, .bool x.m.la]) ty_api_Msg rfl) (hH.row 0 rfl) hb) ?_
  refine h_act (post := fun (y : MsgV) => [Ents 36 y.ev y.es, Vec 5 1 encB y.dv y.m.d, fact (y.m = x.m ∧ y.m.es = y.es.map (·.e)), cell g1 28 #[.int .i64 x.m.k, .int .i64 x.m.a, .int .i64 x.m.b, .int .u64 x.m.t, .int .u64 x.m.i, .int .u64 x.m.lt, x.ev, .int .u64 x.m.co, .bool x.m.rf, .int .u64 x.m.bi, .int .u64 x.m.bt, .int .i64 x.m.bc, .int .i64 x.m.o, x.dv, .bool x.m.la]]) rfl (a_doesU (Below.refl _ _) (fun _ h => h.elim) (os' := fun (y : MsgV) => [Ents 36 y.ev y.es, Vec 5 1 encB y.dv y.m.d, fact (y.m = x.m ∧ y.m.es = y.es.map (·.e)), cell g1 28 #[.int .i64 x.m.k, .int .i64 x.m.a, .int .i64 x.m.b, .int .u64 x.m.t, .int .u64 x.m.i, .int .u64 x.m.lt, x.ev, .int .u64 x.m.co, .bool x.m.rf, .int .u64 x.m.bi, .int .u64 x.m.bt, .int .i64 x.m.bc, .int .i64 x.m.o, x.dv, .bool x.m.la]]) [] 0 (ent_of Try.func29 (by kernel_rfl) rfl) (copyOf_does w x hx) rfl rfl rfl (fun _ => rfl) rfl rfl rfl) ?_; rintro y
  refine WL2.fact 2 rfl (fun _ h => h.2) ?_; rintro ⟨hym, hye⟩
  refine WL2.leave [2] rfl rfl ?_
  refine h_act (post := fun g3 => [cell g3 28 #[.int .i64 0, .int .i64 0, .int .i64 0, .int .u64 0, .int .u64 0, .int .u64 0, .slice none 0 0, .int .u64 0, .bool false, .int .u64 0, .int .u64 0, .int .i64 0, .int .i64 0, .slice none 0 0, .bool false], Ents 36 y.ev y.es, Vec 5 1 encB y.dv y.m.d, cell g1 28 #[.int .i64 x.m.k, .int .i64 x.m.a, .int .i64 x.m.b, .int .u64 x.m.t, .int .u64 x.m.i, .int .u64 x.m.lt, x.ev, .int .u64 x.m.co, .bool x.m.rf, .int .u64 x.m.bi, .int .u64 x.m.bt, .int .i64 x.m.bc, .int .i64 x.m.o, x.dv, .bool x.m.la]]) rfl (a_alloc ze_api_Msg rfl) ?_; rintro g3
  refine h_acts (post := fun _ => [cell g3 28 #[.int .i64 y.m.k, .int .i64 y.m.a, .int .i64 y.m.b, .int .u64 y.m.t, .int .u64 y.m.i, .int .u64 y.m.lt, y.ev, .int .u64 y.m.co, .bool y.m.rf, .int .u64 y.m.bi, .int .u64 y.m.bt, .int .i64 y.m.bc, .int .i64 y.m.o, y.dv, .bool y.m.la], Ents 36 y.ev y.es, Vec 5 1 encB y.dv y.m.d, cell g1 28 #[.int .i64 x.m.k, .int .i64 x.m.a, .int .i64 x.m.b, .int .u64 x.m.t, .int .u64 x.m.i, .int .u64 x.m.lt, x.ev, .int .u64 x.m.co, .bool x.m.rf, .int .u64 x.m.bi, .int .u64 x.m.bt, .int .i64 x.m.bc, .int .i64 x.m.o, x.dv, .bool x.m.la]]) rfl rfl (a_store 0 (v := .agg #[.int .i64 y.m.k, .int .i64 y.m.a, .int .i64 y.m.b, .int .u64 y.m.t, .int .u64 y.m.i, .int .u64 y.m.lt, y.ev, .int .u64 y.m.co, .bool y.m.rf, .int .u64 y.m.bi, .int .u64 y.m.bt, .int .i64 y.m.bc, .int .i64 y.m.o, y.dv, .bool y.m.la]) #[.int .i64 y.m.k, .int .i64 y.m.a, .int .i64 y.m.b, .int .u64 y.m.t, .int .u64 y.m.i, .int .u64 y.m.lt, y.ev, .int .u64 y.m.co, .bool y.m.rf, .int .u64 y.m.bi, .int .u64 y.m.bt, .int .i64 y.m.bc, .int .i64 y.m.o, y.dv, .bool y.m.la] ty_api_Msg.2 rfl rfl rfl rfl rfl rfl rfl rfl rfl) ?_; rintro ⟨⟩
  refine h_done (d_seq ?_)
  refine d_parS 13 4 [⟨.actv 0, [some false, some false, some false, some false], fun _ => .bool true, []⟩, ⟨.quiet, [some true, none, none, none], fun _ => .bool true, [0]⟩, ⟨.quiet, [some true, none, none, none], fun _ => .agg #[.int .i64 y.m.k, .int .i64 y.m.a, .int .i64 y.m.b, .int .u64 y.m.t, .int .u64 y.m.i, .int .u64 y.m.lt, y.ev, .int .u64 y.m.co, .bool y.m.rf, .int .u64 y.m.bi, .int .u64 y.m.bt, .int .i64 y.m.bc, .int .i64 y.m.o, y.dv, .bool y.m.la], [1]⟩, ⟨.actv 1, [some true, some false, some false, some false], fun _ => .bool r, [2, 1]⟩, ⟨.quiet, [some true, none, none, none], fun _ => .agg #[.int .i64 x.m.k, .int .i64 x.m.a, .int .i64 x.m.b, .int .u64 x.m.t, .int .u64 x.m.i, .int .u64 x.m.lt, x.ev, .int .u64 x.m.co, .bool x.m.rf, .int .u64 x.m.bi, .int .u64 x.m.bt, .int .i64 x.m.bc, .int .i64 x.m.o, x.dv, .bool x.m.la], [1]⟩, ⟨.actv 2, [some true, some true, some false, some false], fun _ => .bool r, [4, 1]⟩, ⟨.quiet, [some true, some true, some true, none], fun _ => .bool true, [3, 5, 1]⟩, ⟨.quiet, [some true, some true, some true, none], fun _ => .bool true, [1, 6]⟩, ⟨.quiet, [some true, some true, some true, none], fun _ => .bool true, [7]⟩, ⟨.quiet, [some true, some true, some true, none], fun _ => .agg #[.int .i64 y.m.k, .int .i64 y.m.a, .int .i64 y.m.b, .int .u64 y.m.t, .int .u64 y.m.i, .int .u64 y.m.lt, y.ev, .int .u64 y.m.co, .bool y.m.rf, .int .u64 y.m.bi, .int .u64 y.m.bt, .int .i64 y.m.bc, .int .i64 y.m.o, y.dv, .bool y.m.la], [8]⟩, ⟨.quiet, [some true, some true, some true, none], fun _ => .agg #[.int .i64 x.m.k, .int .i64 x.m.a, .int .i64 x.m.b, .int .u64 x.m.t, .int .u64 x.m.i, .int .u64 x.m.lt, x.ev, .int .u64 x.m.co, .bool x.m.rf, .int .u64 x.m.bi, .int .u64 x.m.bt, .int .i64 x.m.bc, .int .i64 x.m.o, x.dv, .bool x.m.la], [8]⟩, ⟨.actv 3, [some true, some true, some true, some false], fun _ => .bool true, [9, 10, 8]⟩, ⟨.quiet, [some true, some true, some true, some true], fun _ => .bool true, [8, 11]⟩] [(1, .pointer (some ⟨g1, 0, none⟩)), (2, .bool false), (3, .pointer (some ⟨g3, 0, none⟩))] (fun ρ => match ρ with | [r0, r1, r2, r3] => [cell g3 28 #[.int .i64 y.m.k, .int .i64 y.m.a, .int .i64 y.m.b, .int .u64 y.m.t, .int .u64 y.m.i, .int .u64 y.m.lt, y.ev, .int .u64 y.m.co, .bool y.m.rf, .int .u64 y.m.bi, .int .u64 y.m.bt, .int .i64 y.m.bc, .int .i64 y.m.o, y.dv, .bool y.m.la], Ents 36 y.ev y.es, Vec 5 1 encB y.dv y.m.d, cell g1 28 #[.int .i64 x.m.k, .int .i64 x.m.a, .int .i64 x.m.b, .int .u64 x.m.t, .int .u64 x.m.i, .int .u64 x.m.lt, x.ev, .int .u64 x.m.co, .bool x.m.rf, .int .u64 x.m.bi, .int .u64 x.m.bt, .int .i64 x.m.bc, .int .i64 x.m.o, x.dv, .bool x.m.la]] | _ => []) (by kernel_rfl) (by kernel_rfl) ⟨rfl, rfl, rfl, trivial⟩ rfl ?_ ?_
  · skip
    refine s_cons (by exact ⟨rfl, Acts.su (a_call (ent_of Try.func17 (by kernel_rfl) rfl) (fun w hH => known6_true w) rfl rfl rfl) rfl⟩) ?_
    refine s_cons (by intro v0_ r1_ r2_ r3_; exact ⟨rfl, fun b w hH hb => exec_q1 hflS rfl hb⟩) ?_
    refine s_cons (by intro v0_ r1_ r2_ r3_; exact ⟨rfl, fun b w hH hb => exec_load rfl rfl (reads_agg (cs := [.int .i64 y.m.k, .int .i64 y.m.a, .int .i64 y.m.b, .int .u64 y.m.t, .int .u64 y.m.i, .int .u64 y.m.lt, y.ev, .int .u64 y.m.co, .bool y.m.rf, .int .u64 y.m.bi, .int .u64 y.m.bt, .int .i64 y.m.bc, .int .i64 y.m.o, y.dv, .bool y.m.la]) ty_api_Msg rfl) (hH.row 0 rfl) hb⟩) ?_
    refine s_cons (by intro v0_; exact ⟨rfl, Acts.su (a_call (ent_of Try.func19 (by kernel_rfl) rfl) (fun w hH => rightM_any w y (msgOk_copy hx hym hye (hH.ents 1 rfl) (hH.sl8 2 rfl)) r (by rw [hym]; exact hr)) rfl rfl rfl) rfl⟩) ?_
    refine s_cons (by intro v0_ r1_ r2_ r3_; exact ⟨rfl, fun b w hH hb => exec_load rfl rfl (reads_agg (cs := [.int .i64 x.m.k, .int .i64 x.m.a, .int .i64 x.m.b, .int .u64 x.m.t, .int .u64 x.m.i, .int .u64 x.m.lt, x.ev, .int .u64 x.m.co, .bool x.m.rf, .int .u64 x.m.bi, .int .u64 x.m.bt, .int .i64 x.m.bc, .int .i64 x.m.o, x.dv, .bool x.m.la]) ty_api_Msg rfl) (hH.row 3 rfl) hb⟩) ?_
    refine s_cons (by intro v0_ v1_; exact ⟨rfl, Acts.su (a_call (ent_of Try.func30 (by kernel_rfl) rfl) (fun w hH => rrightM_any w x (argM0 hx hH) r hr) rfl rfl rfl) rfl⟩) ?_
    refine s_cons (by intro v0_ v1_ v2_ r3_; exact ⟨rfl, fun b w hH hb => exec_eqs (eqB_same _) rfl rfl rfl hb⟩) ?_
    refine s_cons (by intro v0_ v1_ v2_ r3_; exact ⟨rfl, fun b w hH hb => exec_q1 hflS rfl hb⟩) ?_
    refine s_cons (by intro v0_ v1_ v2_ r3_; exact ⟨rfl, fun b w hH hb => exec_q1 hflS rfl hb⟩) ?_
    refine s_cons (by intro v0_ v1_ v2_ r3_; exact ⟨rfl, fun b w hH hb => exec_load rfl rfl (reads_agg (cs := [.int .i64 y.m.k, .int .i64 y.m.a, .int .i64 y.m.b, .int .u64 y.m.t, .int .u64 y.m.i, .int .u64 y.m.lt, y.ev, .int .u64 y.m.co, .bool y.m.rf, .int .u64 y.m.bi, .int .u64 y.m.bt, .int .i64 y.m.bc, .int .i64 y.m.o, y.dv, .bool y.m.la]) ty_api_Msg rfl) (hH.row 0 rfl) hb⟩) ?_
    refine s_cons (by intro v0_ v1_ v2_ r3_; exact ⟨rfl, fun b w hH hb => exec_load rfl rfl (reads_agg (cs := [.int .i64 x.m.k, .int .i64 x.m.a, .int .i64 x.m.b, .int .u64 x.m.t, .int .u64 x.m.i, .int .u64 x.m.lt, x.ev, .int .u64 x.m.co, .bool x.m.rf, .int .u64 x.m.bi, .int .u64 x.m.bt, .int .i64 x.m.bc, .int .i64 x.m.o, x.dv, .bool x.m.la]) ty_api_Msg rfl) (hH.row 3 rfl) hb⟩) ?_
    refine s_cons (by intro v0_ v1_ v2_; exact ⟨rfl, Acts.su (a_call (ent_of Try.func18 (by kernel_rfl) rfl) (fun w hH => samem_ok w y x (msgOk_copy hx hym hye (hH.ents 1 rfl) (hH.sl8 2 rfl)) (argM0 hx hH) hym.symm) rfl rfl rfl) rfl⟩) ?_
    refine s_cons (by intro v0_ v1_ v2_ v3_; exact ⟨rfl, fun b w hH hb => exec_q1 hflS rfl hb⟩) ?_
    exact s_nil
  intro v0_ v1_ v2_ v3_
  refine WL2.keep (env' := [(2, .bool false), (18, .bool true)]) ⟨rfl, rfl, trivial⟩ ?_
  refine h_q hflS rfl ?_
  refine h_nil (f_to (d_ret ?_))
  exact f_fin1 (.tmp rfl) (fun w h => ⟨rfl, below0 h.up⟩) rfl

set_option maxRecDepth 100000 in
theorem rpcencodes_true (w : World) (x : MsgV) (hx : MsgOk w x) : Calls Try.prog 7 #[.agg #[.int .i64 x.m.k, .int .i64 x.m.a, .int .i64 x.m.b, .int .u64 x.m.t, .int .u64 x.m.i, .int .u64 x.m.lt, x.ev, .int .u64 x.m.co, .bool x.m.rf, .int .u64 x.m.bi, .int .u64 x.m.bt, .int .i64 x.m.bc, .int .i64 x.m.o, x.dv, .bool x.m.la]] w fun e w' => e = .returned (.bool true) ∧ Below w.heap.size w w' := by
  refine d_in (args := [.agg #[.int .i64 x.m.k, .int .i64 x.m.a, .int .i64 x.m.b, .int .u64 x.m.t, .int .u64 x.m.i, .int .u64 x.m.lt, x.ev, .int .u64 x.m.co, .bool x.m.rf, .int .u64 x.m.bi, .int .u64 x.m.bt, .int .i64 x.m.bc, .int .i64 x.m.o, x.dv, .bool x.m.la]]) 31 Try.func7 rfl rfl rfl ?_
  refine d_reg ?_
  refine h_q hflS rfl ?_
  refine h_act (post := fun g1 => [cell g1 28 #[.int .i64 x.m.k, .int .i64 x.m.a, .int .i64 x.m.b, .int .u64 x.m.t, .int .u64 x.m.i, .int .u64 x.m.lt, x.ev, .int .u64 x.m.co, .bool x.m.rf, .int .u64 x.m.bi, .int .u64 x.m.bt, .int .i64 x.m.bc, .int .i64 x.m.o, x.dv, .bool x.m.la]]) rfl (a_box (cs := #[.int .i64 x.m.k, .int .i64 x.m.a, .int .i64 x.m.b, .int .u64 x.m.t, .int .u64 x.m.i, .int .u64 x.m.lt, x.ev, .int .u64 x.m.co, .bool x.m.rf, .int .u64 x.m.bi, .int .u64 x.m.bt, .int .i64 x.m.bc, .int .i64 x.m.o, x.dv, .bool x.m.la]) rfl rfl rfl) ?_; rintro g1
  refine h_q hflS rfl ?_
  refine h_done ?_
  rcases Bool.eq_false_or_eq_true (rightM x.m) with hr | hr
  · skip
    refine d_reg ?_
    refine h_q hflS rfl ?_
    refine h_val rfl (.agg #[.int .i64 x.m.k, .int .i64 x.m.a, .int .i64 x.m.b, .int .u64 x.m.t, .int .u64 x.m.i, .int .u64 x.m.lt, x.ev, .int .u64 x.m.co, .bool x.m.rf, .int .u64 x.m.bi, .int .u64 x.m.bt, .int .i64 x.m.bc, .int .i64 x.m.o, x.dv, .bool x.m.la]) (fun b w hb hH => exec_load rfl rfl (reads_agg (cs := [.int .i64 x.m.k, .int .i64 x.m.a, .int .i64 x.m.b, .int .u64 x.m.t, .int .u64 x.m.i, .int .u64 x.m.lt, x.ev, .int .u64 x.m.co, .bool x.m.rf, .int .u64 x.m.bi, .int .u64 x.m.bt, .int .i64 x.m.bc, .int .i64 x.m.o, x.dv, .bool x.m.la]) ty_api_Msg rfl) (hH.row 0 rfl) hb) ?_
    refine h_act (post := fun (y : MsgV) => [Ents 36 y.ev y.es, Vec 5 1 encB y.dv y.m.d, fact (y.m = x.m ∧ y.m.es = y.es.map (·.e)), cell g1 28 #[.int .i64 x.m.k, .int .i64 x.m.a, .int .i64 x.m.b, .int .u64 x.m.t, .int .u64 x.m.i, .int .u64 x.m.lt, x.ev, .int .u64 x.m.co, .bool x.m.rf, .int .u64 x.m.bi, .int .u64 x.m.bt, .int .i64 x.m.bc, .int .i64 x.m.o, x.dv, .bool x.m.la]]) rfl (a_doesU (Below.refl _ _) (fun _ h => h.elim) (os' := fun (y : MsgV) => [Ents 36 y.ev y.es, Vec 5 1 encB y.dv y.m.d, fact (y.m = x.m ∧ y.m.es = y.es.map (·.e)), cell g1 28 #[.int .i64 x.m.k, .int .i64 x.m.a, .int .i64 x.m.b, .int .u64 x.m.t, .int .u64 x.m.i, .int .u64 x.m.lt, x.ev, .int .u64 x.m.co, .bool x.m.rf, .int .u64 x.m.bi, .int .u64 x.m.bt, .int .i64 x.m.bc, .int .i64 x.m.o, x.dv, .bool x.m.la]]) [] 0 (ent_of Try.func29 (by kernel_rfl) rfl) (copyOf_does w x hx) rfl rfl rfl (fun _ => rfl) rfl rfl rfl) ?_; rintro y
    refine WL2.fact 2 rfl (fun _ h => h.2) ?_; rintro ⟨hym, hye⟩
    refine WL2.leave [2] rfl rfl ?_
    refine h_act (post := fun v1 => [Vec 5 1 encB v1 (encM y.m), Ents 36 y.ev y.es, Vec 5 1 encB y.dv y.m.d, cell g1 28 #[.int .i64 x.m.k, .int .i64 x.m.a, .int .i64 x.m.b, .int .u64 x.m.t, .int .u64 x.m.i, .int .u64 x.m.lt, x.ev, .int .u64 x.m.co, .bool x.m.rf, .int .u64 x.m.bi, .int .u64 x.m.bt, .int .i64 x.m.bc, .int .i64 x.m.o, x.dv, .bool x.m.la]]) rfl (a_makes (os' := fun v1 => [Vec 5 1 encB v1 (encM y.m), Ents 36 y.ev y.es, Vec 5 1 encB y.dv y.m.d, cell g1 28 #[.int .i64 x.m.k, .int .i64 x.m.a, .int .i64 x.m.b, .int .u64 x.m.t, .int .u64 x.m.i, .int .u64 x.m.lt, x.ev, .int .u64 x.m.co, .bool x.m.rf, .int .u64 x.m.bi, .int .u64 x.m.bt, .int .i64 x.m.bc, .int .i64 x.m.o, x.dv, .bool x.m.la]]) [] 0 (ent_of Try.func14 (by kernel_rfl) rfl) (fun w hH => encodeM_does w y (msgOk_copy hx hym hye (hH.ents 0 rfl) (hH.sl8 1 rfl)) (by rw [hym]; exact hr)) rfl rfl rfl (fun _ => rfl) rfl rfl rfl) ?_; rintro v1
    have hlen : (encM y.m).length ≤ 1024 := by rw [hym]; exact encM_len hx.ok hr
    refine h_q hflS rfl ?_
    refine h_done (d_reg ?_)
    refine h_q hflS rfl ?_
    refine h_val rfl (.agg #[.int .i64 x.m.k, .int .i64 x.m.a, .int .i64 x.m.b, .int .u64 x.m.t, .int .u64 x.m.i, .int .u64 x.m.lt, x.ev, .int .u64 x.m.co, .bool x.m.rf, .int .u64 x.m.bi, .int .u64 x.m.bt, .int .i64 x.m.bc, .int .i64 x.m.o, x.dv, .bool x.m.la]) (fun b w hb hH => exec_load rfl rfl (reads_agg (cs := [.int .i64 x.m.k, .int .i64 x.m.a, .int .i64 x.m.b, .int .u64 x.m.t, .int .u64 x.m.i, .int .u64 x.m.lt, x.ev, .int .u64 x.m.co, .bool x.m.rf, .int .u64 x.m.bi, .int .u64 x.m.bt, .int .i64 x.m.bc, .int .i64 x.m.o, x.dv, .bool x.m.la]) ty_api_Msg rfl) (hH.row 3 rfl) hb) ?_
    refine h_act (post := fun v2 => [Vec 5 1 encB v2 (encM x.m), Vec 5 1 encB v1 (encM y.m), Ents 36 y.ev y.es, Vec 5 1 encB y.dv y.m.d, cell g1 28 #[.int .i64 x.m.k, .int .i64 x.m.a, .int .i64 x.m.b, .int .u64 x.m.t, .int .u64 x.m.i, .int .u64 x.m.lt, x.ev, .int .u64 x.m.co, .bool x.m.rf, .int .u64 x.m.bi, .int .u64 x.m.bt, .int .i64 x.m.bc, .int .i64 x.m.o, x.dv, .bool x.m.la]]) rfl (a_doesU (Below.refl _ _) (fun _ h => h.elim) (os' := fun v2 => [Vec 5 1 encB v2 (encM x.m), Vec 5 1 encB v1 (encM y.m), Ents 36 y.ev y.es, Vec 5 1 encB y.dv y.m.d, cell g1 28 #[.int .i64 x.m.k, .int .i64 x.m.a, .int .i64 x.m.b, .int .u64 x.m.t, .int .u64 x.m.i, .int .u64 x.m.lt, x.ev, .int .u64 x.m.co, .bool x.m.rf, .int .u64 x.m.bi, .int .u64 x.m.bt, .int .i64 x.m.bc, .int .i64 x.m.o, x.dv, .bool x.m.la]]) [] 0 (ent_of Try.func31 (by kernel_rfl) rfl) (rencodeM_does w x hx hr) rfl rfl rfl (fun _ => rfl) rfl rfl rfl) ?_; rintro v2
    refine h_q hflS rfl ?_
    refine h_done (d_reg ?_)
    refine h_q hflS rfl ?_
    refine h_act (post := fun _ => [Vec 5 1 encB v2 (encM x.m), Vec 5 1 encB v1 (encM y.m), Ents 36 y.ev y.es, Vec 5 1 encB y.dv y.m.d, cell g1 28 #[.int .i64 x.m.k, .int .i64 x.m.a, .int .i64 x.m.b, .int .u64 x.m.t, .int .u64 x.m.i, .int .u64 x.m.lt, x.ev, .int .u64 x.m.co, .bool x.m.rf, .int .u64 x.m.bi, .int .u64 x.m.bt, .int .i64 x.m.bc, .int .i64 x.m.o, x.dv, .bool x.m.la]]) rfl (a_call (ent_of Try.func17 (by kernel_rfl) rfl) (fun w hH => known6_true w) rfl rfl rfl) ?_; rintro ⟨⟩
    refine h_q hflS rfl ?_
    refine h_val rfl (.string (bs (encM y.m))) (fun b w hb hH => exec_str8 Try.underlying26 Try.underlying5 (by kernel_rfl) Try.underlying9 (hH.sl8 1 rfl) rfl rfl hb) ?_
    refine h_q hflS rfl ?_
    refine h_val rfl (.string (bs (encM x.m))) (fun b w hb hH => exec_str8 Try.underlying26 Try.underlying5 (by kernel_rfl) Try.underlying9 (hH.sl8 0 rfl) rfl rfl hb) ?_
    refine h_val rfl (.bool true) (fun b w hb hH => exec_same rfl rfl rfl (by rw [hym]; simp) hb) ?_
    refine h_q hflS rfl ?_
    refine h_val rfl (.bool true) (fun b w hb hH => exec_cmp rfl rfl rfl (cmp_eql_t (by decide)) hb) ?_
    refine h_q hflS rfl ?_
    refine h_done (d_ret ?_)
    exact f_fin1 (.tmp rfl) (fun w h => ⟨rfl, below0 h.up⟩) rfl
  · skip
    refine d_reg ?_
    refine h_q hflS rfl ?_
    refine h_val rfl (.agg #[.int .i64 x.m.k, .int .i64 x.m.a, .int .i64 x.m.b, .int .u64 x.m.t, .int .u64 x.m.i, .int .u64 x.m.lt, x.ev, .int .u64 x.m.co, .bool x.m.rf, .int .u64 x.m.bi, .int .u64 x.m.bt, .int .i64 x.m.bc, .int .i64 x.m.o, x.dv, .bool x.m.la]) (fun b w hb hH => exec_load rfl rfl (reads_agg (cs := [.int .i64 x.m.k, .int .i64 x.m.a, .int .i64 x.m.b, .int .u64 x.m.t, .int .u64 x.m.i, .int .u64 x.m.lt, x.ev, .int .u64 x.m.co, .bool x.m.rf, .int .u64 x.m.bi, .int .u64 x.m.bt, .int .i64 x.m.bc, .int .i64 x.m.o, x.dv, .bool x.m.la]) ty_api_Msg rfl) (hH.row 0 rfl) hb) ?_
    refine h_act (post := fun (y : MsgV) => [Ents 36 y.ev y.es, Vec 5 1 encB y.dv y.m.d, fact (y.m = x.m ∧ y.m.es = y.es.map (·.e)), cell g1 28 #[.int .i64 x.m.k, .int .i64 x.m.a, .int .i64 x.m.b, .int .u64 x.m.t, .int .u64 x.m.i, .int .u64 x.m.lt, x.ev, .int .u64 x.m.co, .bool x.m.rf, .int .u64 x.m.bi, .int .u64 x.m.bt, .int .i64 x.m.bc, .int .i64 x.m.o, x.dv, .bool x.m.la]]) rfl (a_doesU (Below.refl _ _) (fun _ h => h.elim) (os' := fun (y : MsgV) => [Ents 36 y.ev y.es, Vec 5 1 encB y.dv y.m.d, fact (y.m = x.m ∧ y.m.es = y.es.map (·.e)), cell g1 28 #[.int .i64 x.m.k, .int .i64 x.m.a, .int .i64 x.m.b, .int .u64 x.m.t, .int .u64 x.m.i, .int .u64 x.m.lt, x.ev, .int .u64 x.m.co, .bool x.m.rf, .int .u64 x.m.bi, .int .u64 x.m.bt, .int .i64 x.m.bc, .int .i64 x.m.o, x.dv, .bool x.m.la]]) [] 0 (ent_of Try.func29 (by kernel_rfl) rfl) (copyOf_does w x hx) rfl rfl rfl (fun _ => rfl) rfl rfl rfl) ?_; rintro y
    refine WL2.fact 2 rfl (fun _ h => h.2) ?_; rintro ⟨hym, hye⟩
    refine WL2.leave [2] rfl rfl ?_
    refine h_act (post := fun _ => [Ents 36 y.ev y.es, Vec 5 1 encB y.dv y.m.d, cell g1 28 #[.int .i64 x.m.k, .int .i64 x.m.a, .int .i64 x.m.b, .int .u64 x.m.t, .int .u64 x.m.i, .int .u64 x.m.lt, x.ev, .int .u64 x.m.co, .bool x.m.rf, .int .u64 x.m.bi, .int .u64 x.m.bt, .int .i64 x.m.bc, .int .i64 x.m.o, x.dv, .bool x.m.la]]) rfl (a_call (ent_of Try.func14 (by kernel_rfl) rfl) (fun w hH => encodeM_bad w y (msgOk_copy hx hym hye (hH.ents 0 rfl) (hH.sl8 1 rfl)) (by rw [hym]; exact hr)) rfl rfl rfl) ?_; rintro ⟨⟩
    refine h_q hflS rfl ?_
    refine h_done (d_reg ?_)
    refine h_q hflS rfl ?_
    refine h_val rfl (.agg #[.int .i64 x.m.k, .int .i64 x.m.a, .int .i64 x.m.b, .int .u64 x.m.t, .int .u64 x.m.i, .int .u64 x.m.lt, x.ev, .int .u64 x.m.co, .bool x.m.rf, .int .u64 x.m.bi, .int .u64 x.m.bt, .int .i64 x.m.bc, .int .i64 x.m.o, x.dv, .bool x.m.la]) (fun b w hb hH => exec_load rfl rfl (reads_agg (cs := [.int .i64 x.m.k, .int .i64 x.m.a, .int .i64 x.m.b, .int .u64 x.m.t, .int .u64 x.m.i, .int .u64 x.m.lt, x.ev, .int .u64 x.m.co, .bool x.m.rf, .int .u64 x.m.bi, .int .u64 x.m.bt, .int .i64 x.m.bc, .int .i64 x.m.o, x.dv, .bool x.m.la]) ty_api_Msg rfl) (hH.row 2 rfl) hb) ?_
    refine h_act (post := fun _ => [Ents 36 y.ev y.es, Vec 5 1 encB y.dv y.m.d, cell g1 28 #[.int .i64 x.m.k, .int .i64 x.m.a, .int .i64 x.m.b, .int .u64 x.m.t, .int .u64 x.m.i, .int .u64 x.m.lt, x.ev, .int .u64 x.m.co, .bool x.m.rf, .int .u64 x.m.bi, .int .u64 x.m.bt, .int .i64 x.m.bc, .int .i64 x.m.o, x.dv, .bool x.m.la]]) rfl (a_call (ent_of Try.func31 (by kernel_rfl) rfl) (fun w hH => rencodeM_bad w x (argM0 hx hH) hr) rfl rfl rfl) ?_; rintro ⟨⟩
    refine h_q hflS rfl ?_
    refine h_done (d_reg ?_)
    refine h_q hflS rfl ?_
    refine h_act (post := fun _ => [Ents 36 y.ev y.es, Vec 5 1 encB y.dv y.m.d, cell g1 28 #[.int .i64 x.m.k, .int .i64 x.m.a, .int .i64 x.m.b, .int .u64 x.m.t, .int .u64 x.m.i, .int .u64 x.m.lt, x.ev, .int .u64 x.m.co, .bool x.m.rf, .int .u64 x.m.bi, .int .u64 x.m.bt, .int .i64 x.m.bc, .int .i64 x.m.o, x.dv, .bool x.m.la]]) rfl (a_call (ent_of Try.func17 (by kernel_rfl) rfl) (fun w hH => known6_true w) rfl rfl rfl) ?_; rintro ⟨⟩
    refine h_q hflS rfl ?_
    refine h_val rfl (.string (bs ([]))) (fun b w hb hH => exec_str8 Try.underlying26 Try.underlying5 (by kernel_rfl) Try.underlying9 (sl8_nil w) rfl rfl hb) ?_
    refine h_q hflS rfl ?_
    refine h_val rfl (.string (bs ([]))) (fun b w hb hH => exec_str8 Try.underlying26 Try.underlying5 (by kernel_rfl) Try.underlying9 (sl8_nil w) rfl rfl hb) ?_
    refine h_val rfl (.bool true) (fun b w hb hH => exec_same rfl rfl rfl (by decide) hb) ?_
    refine h_q hflS rfl ?_
    refine h_val rfl (.bool true) (fun b w hb hH => exec_cmp rfl rfl rfl (cmp_eql_t (by decide)) hb) ?_
    refine h_q hflS rfl ?_
    refine h_done (d_ret ?_)
    exact f_fin1 (.tmp rfl) (fun w h => ⟨rfl, below0 h.up⟩) rfl

set_option maxRecDepth 100000 in
theorem rpcback_true (w : World) (x : MsgV) (hx : MsgOk w x) : Calls Try.prog 10 #[.agg #[.int .i64 x.m.k, .int .i64 x.m.a, .int .i64 x.m.b, .int .u64 x.m.t, .int .u64 x.m.i, .int .u64 x.m.lt, x.ev, .int .u64 x.m.co, .bool x.m.rf, .int .u64 x.m.bi, .int .u64 x.m.bt, .int .i64 x.m.bc, .int .i64 x.m.o, x.dv, .bool x.m.la]] w fun e w' => e = .returned (.bool true) ∧ Below w.heap.size w w' := by
  refine d_in (args := [.agg #[.int .i64 x.m.k, .int .i64 x.m.a, .int .i64 x.m.b, .int .u64 x.m.t, .int .u64 x.m.i, .int .u64 x.m.lt, x.ev, .int .u64 x.m.co, .bool x.m.rf, .int .u64 x.m.bi, .int .u64 x.m.bt, .int .i64 x.m.bc, .int .i64 x.m.o, x.dv, .bool x.m.la]]) 49 Try.func10 rfl rfl rfl ?_
  refine d_reg ?_
  refine h_q hflS rfl ?_
  refine h_act (post := fun g1 => [cell g1 28 #[.int .i64 x.m.k, .int .i64 x.m.a, .int .i64 x.m.b, .int .u64 x.m.t, .int .u64 x.m.i, .int .u64 x.m.lt, x.ev, .int .u64 x.m.co, .bool x.m.rf, .int .u64 x.m.bi, .int .u64 x.m.bt, .int .i64 x.m.bc, .int .i64 x.m.o, x.dv, .bool x.m.la]]) rfl (a_box (cs := #[.int .i64 x.m.k, .int .i64 x.m.a, .int .i64 x.m.b, .int .u64 x.m.t, .int .u64 x.m.i, .int .u64 x.m.lt, x.ev, .int .u64 x.m.co, .bool x.m.rf, .int .u64 x.m.bi, .int .u64 x.m.bt, .int .i64 x.m.bc, .int .i64 x.m.o, x.dv, .bool x.m.la]) rfl rfl rfl) ?_; rintro g1
  refine h_q hflS rfl ?_
  refine h_done ?_
  rcases Bool.eq_false_or_eq_true (rightM x.m) with hr | hr
  · skip
    refine d_reg ?_
    refine h_q hflS rfl ?_
    refine h_val rfl (.agg #[.int .i64 x.m.k, .int .i64 x.m.a, .int .i64 x.m.b, .int .u64 x.m.t, .int .u64 x.m.i, .int .u64 x.m.lt, x.ev, .int .u64 x.m.co, .bool x.m.rf, .int .u64 x.m.bi, .int .u64 x.m.bt, .int .i64 x.m.bc, .int .i64 x.m.o, x.dv, .bool x.m.la]) (fun b w hb hH => exec_load rfl rfl (reads_agg (cs := [.int .i64 x.m.k, .int .i64 x.m.a, .int .i64 x.m.b, .int .u64 x.m.t, .int .u64 x.m.i, .int .u64 x.m.lt, x.ev, .int .u64 x.m.co, .bool x.m.rf, .int .u64 x.m.bi, .int .u64 x.m.bt, .int .i64 x.m.bc, .int .i64 x.m.o, x.dv, .bool x.m.la]) ty_api_Msg rfl) (hH.row 0 rfl) hb) ?_
    refine h_act (post := fun (y : MsgV) => [Ents 36 y.ev y.es, Vec 5 1 encB y.dv y.m.d, fact (y.m = x.m ∧ y.m.es = y.es.map (·.e)), cell g1 28 #[.int .i64 x.m.k, .int .i64 x.m.a, .int .i64 x.m.b, .int .u64 x.m.t, .int .u64 x.m.i, .int .u64 x.m.lt, x.ev, .int .u64 x.m.co, .bool x.m.rf, .int .u64 x.m.bi, .int .u64 x.m.bt, .int .i64 x.m.bc, .int .i64 x.m.o, x.dv, .bool x.m.la]]) rfl (a_doesU (Below.refl _ _) (fun _ h => h.elim) (os' := fun (y : MsgV) => [Ents 36 y.ev y.es, Vec 5 1 encB y.dv y.m.d, fact (y.m = x.m ∧ y.m.es = y.es.map (·.e)), cell g1 28 #[.int .i64 x.m.k, .int .i64 x.m.a, .int .i64 x.m.b, .int .u64 x.m.t, .int .u64 x.m.i, .int .u64 x.m.lt, x.ev, .int .u64 x.m.co, .bool x.m.rf, .int .u64 x.m.bi, .int .u64 x.m.bt, .int .i64 x.m.bc, .int .i64 x.m.o, x.dv, .bool x.m.la]]) [] 0 (ent_of Try.func29 (by kernel_rfl) rfl) (copyOf_does w x hx) rfl rfl rfl (fun _ => rfl) rfl rfl rfl) ?_; rintro y
    refine WL2.fact 2 rfl (fun _ h => h.2) ?_; rintro ⟨hym, hye⟩
    refine WL2.leave [2] rfl rfl ?_
    refine h_act (post := fun v1 => [Vec 5 1 encB v1 (encM y.m), Ents 36 y.ev y.es, Vec 5 1 encB y.dv y.m.d, cell g1 28 #[.int .i64 x.m.k, .int .i64 x.m.a, .int .i64 x.m.b, .int .u64 x.m.t, .int .u64 x.m.i, .int .u64 x.m.lt, x.ev, .int .u64 x.m.co, .bool x.m.rf, .int .u64 x.m.bi, .int .u64 x.m.bt, .int .i64 x.m.bc, .int .i64 x.m.o, x.dv, .bool x.m.la]]) rfl (a_makes (os' := fun v1 => [Vec 5 1 encB v1 (encM y.m), Ents 36 y.ev y.es, Vec 5 1 encB y.dv y.m.d, cell g1 28 #[.int .i64 x.m.k, .int .i64 x.m.a, .int .i64 x.m.b, .int .u64 x.m.t, .int .u64 x.m.i, .int .u64 x.m.lt, x.ev, .int .u64 x.m.co, .bool x.m.rf, .int .u64 x.m.bi, .int .u64 x.m.bt, .int .i64 x.m.bc, .int .i64 x.m.o, x.dv, .bool x.m.la]]) [] 0 (ent_of Try.func14 (by kernel_rfl) rfl) (fun w hH => encodeM_does w y (msgOk_copy hx hym hye (hH.ents 0 rfl) (hH.sl8 1 rfl)) (by rw [hym]; exact hr)) rfl rfl rfl (fun _ => rfl) rfl rfl rfl) ?_; rintro v1
    have hlen : (encM y.m).length ≤ 1024 := by rw [hym]; exact encM_len hx.ok hr
    refine h_q hflS rfl ?_
    refine h_done (d_seq (d_reg ?_))
    refine h_q hflS rfl ?_
    refine h_act (post := fun _ => [Vec 5 1 encB v1 (encM y.m), Ents 36 y.ev y.es, Vec 5 1 encB y.dv y.m.d, cell g1 28 #[.int .i64 x.m.k, .int .i64 x.m.a, .int .i64 x.m.b, .int .u64 x.m.t, .int .u64 x.m.i, .int .u64 x.m.lt, x.ev, .int .u64 x.m.co, .bool x.m.rf, .int .u64 x.m.bi, .int .u64 x.m.bt, .int .i64 x.m.bc, .int .i64 x.m.o, x.dv, .bool x.m.la]]) rfl (a_call (ent_of Try.func17 (by kernel_rfl) rfl) (fun w hH => known6_true w) rfl rfl rfl) ?_; rintro ⟨⟩
    refine h_q hflS rfl ?_
    refine h_val rfl (.bool true) (fun b w hb hH => exec_cmp rfl rfl rfl (cmp_eql_t (by decide)) hb) ?_
    refine h_val rfl (.agg #[.int .i64 x.m.k, .int .i64 x.m.a, .int .i64 x.m.b, .int .u64 x.m.t, .int .u64 x.m.i, .int .u64 x.m.lt, x.ev, .int .u64 x.m.co, .bool x.m.rf, .int .u64 x.m.bi, .int .u64 x.m.bt, .int .i64 x.m.bc, .int .i64 x.m.o, x.dv, .bool x.m.la]) (fun b w hb hH => exec_load rfl rfl (reads_agg (cs := [.int .i64 x.m.k, .int .i64 x.m.a, .int .i64 x.m.b, .int .u64 x.m.t, .int .u64 x.m.i, .int .u64 x.m.lt, x.ev, .int .u64 x.m.co, .bool x.m.rf, .int .u64 x.m.bi, .int .u64 x.m.bt, .int .i64 x.m.bc, .int .i64 x.m.o, x.dv, .bool x.m.la]) ty_api_Msg rfl) (hH.row 3 rfl) hb) ?_
    refine h_act (post := fun (y2 : MsgV) => [Ents 36 y2.ev y2.es, Vec 5 1 encB y2.dv y2.m.d, fact (y2.m = x.m ∧ y2.m.es = y2.es.map (·.e)), Vec 5 1 encB v1 (encM y.m), Ents 36 y.ev y.es, Vec 5 1 encB y.dv y.m.d, cell g1 28 #[.int .i64 x.m.k, .int .i64 x.m.a, .int .i64 x.m.b, .int .u64 x.m.t, .int .u64 x.m.i, .int .u64 x.m.lt, x.ev, .int .u64 x.m.co, .bool x.m.rf, .int .u64 x.m.bi, .int .u64 x.m.bt, .int .i64 x.m.bc, .int .i64 x.m.o, x.dv, .bool x.m.la]]) rfl (a_doesU (Below.refl _ _) (fun _ h => h.elim) (os' := fun (y2 : MsgV) => [Ents 36 y2.ev y2.es, Vec 5 1 encB y2.dv y2.m.d, fact (y2.m = x.m ∧ y2.m.es = y2.es.map (·.e)), Vec 5 1 encB v1 (encM y.m), Ents 36 y.ev y.es, Vec 5 1 encB y.dv y.m.d, cell g1 28 #[.int .i64 x.m.k, .int .i64 x.m.a, .int .i64 x.m.b, .int .u64 x.m.t, .int .u64 x.m.i, .int .u64 x.m.lt, x.ev, .int .u64 x.m.co, .bool x.m.rf, .int .u64 x.m.bi, .int .u64 x.m.bt, .int .i64 x.m.bc, .int .i64 x.m.o, x.dv, .bool x.m.la]]) [] 0 (ent_of Try.func29 (by kernel_rfl) rfl) (copyOf_does w x hx) rfl rfl rfl (fun _ => rfl) rfl rfl rfl) ?_; rintro y2
    refine WL2.fact 2 rfl (fun _ h => h.2) ?_; rintro ⟨hym2, hye2⟩
    refine WL2.leave [2] rfl rfl ?_
    refine h_act (post := fun _ => [Ents 36 y2.ev y2.es, Vec 5 1 encB y2.dv y2.m.d, Vec 5 1 encB v1 (encM y.m), Ents 36 y.ev y.es, Vec 5 1 encB y.dv y.m.d, cell g1 28 #[.int .i64 x.m.k, .int .i64 x.m.a, .int .i64 x.m.b, .int .u64 x.m.t, .int .u64 x.m.i, .int .u64 x.m.lt, x.ev, .int .u64 x.m.co, .bool x.m.rf, .int .u64 x.m.bi, .int .u64 x.m.bt, .int .i64 x.m.bc, .int .i64 x.m.o, x.dv, .bool x.m.la]]) rfl (a_call (ent_of Try.func19 (by kernel_rfl) rfl) (fun w hH => rightM_any w y2 (msgOk_copy hx hym2 hye2 (hH.ents 0 rfl) (hH.sl8 1 rfl)) true (by rw [hym2]; exact hr)) rfl rfl rfl) ?_; rintro ⟨⟩
    refine h_val rfl (.bool false) (fun b w hb hH => exec_nes (neB true true) rfl rfl rfl hb) ?_
    refine h_q hflS rfl ?_
    refine h_done (d_else rfl (d_skip (f_to (d_seq (d_reg ?_)))))
    refine h_q hflS rfl ?_
    refine h_val rfl (.bool false) (fun b w hb hH => exec_cmp rfl rfl rfl (cmp_neq_f (by decide)) hb) ?_
    refine h_done (d_else rfl (d_skip (f_to (d_reg ?_))))
    refine h_q hflS rfl ?_
    refine h_act (post := fun (z : MsgV) => [Ents 36 z.ev z.es, Vec 5 1 encB z.dv z.m.d, fact (z.m = x.m ∧ z.m.es = z.es.map (·.e)), Ents 36 y2.ev y2.es, Vec 5 1 encB y2.dv y2.m.d, Vec 5 1 encB v1 (encM y.m), Ents 36 y.ev y.es, Vec 5 1 encB y.dv y.m.d, cell g1 28 #[.int .i64 x.m.k, .int .i64 x.m.a, .int .i64 x.m.b, .int .u64 x.m.t, .int .u64 x.m.i, .int .u64 x.m.lt, x.ev, .int .u64 x.m.co, .bool x.m.rf, .int .u64 x.m.bi, .int .u64 x.m.bt, .int .i64 x.m.bc, .int .i64 x.m.o, x.dv, .bool x.m.la]]) rfl (a_makes (os' := fun (z : MsgV) => [Ents 36 z.ev z.es, Vec 5 1 encB z.dv z.m.d, fact (z.m = x.m ∧ z.m.es = z.es.map (·.e)), Ents 36 y2.ev y2.es, Vec 5 1 encB y2.dv y2.m.d, Vec 5 1 encB v1 (encM y.m), Ents 36 y.ev y.es, Vec 5 1 encB y.dv y.m.d, cell g1 28 #[.int .i64 x.m.k, .int .i64 x.m.a, .int .i64 x.m.b, .int .u64 x.m.t, .int .u64 x.m.i, .int .u64 x.m.lt, x.ev, .int .u64 x.m.co, .bool x.m.rf, .int .u64 x.m.bi, .int .u64 x.m.bt, .int .i64 x.m.bc, .int .i64 x.m.o, x.dv, .bool x.m.la]]) [] 0 (ent_of Try.func15 (by kernel_rfl) rfl) (fun w hH => decodeM_does w v1 (encM y.m) (hH.sl8 2 rfl) (by omega) x.m 0 (by rw [hym]; exact decM_lay hx.ok hr)) rfl rfl rfl (fun _ => rfl) rfl rfl rfl) ?_; rintro z
    refine WL2.fact 2 rfl (fun _ h => h.2) ?_; rintro ⟨hzm, hze⟩
    refine WL2.leave [2] rfl rfl ?_
    refine h_q hflS rfl ?_
    refine h_act (post := fun g5 => [cell g5 28 #[.int .i64 0, .int .i64 0, .int .i64 0, .int .u64 0, .int .u64 0, .int .u64 0, .slice none 0 0, .int .u64 0, .bool false, .int .u64 0, .int .u64 0, .int .i64 0, .int .i64 0, .slice none 0 0, .bool false], Ents 36 z.ev z.es, Vec 5 1 encB z.dv z.m.d, Ents 36 y2.ev y2.es, Vec 5 1 encB y2.dv y2.m.d, Vec 5 1 encB v1 (encM y.m), Ents 36 y.ev y.es, Vec 5 1 encB y.dv y.m.d, cell g1 28 #[.int .i64 x.m.k, .int .i64 x.m.a, .int .i64 x.m.b, .int .u64 x.m.t, .int .u64 x.m.i, .int .u64 x.m.lt, x.ev, .int .u64 x.m.co, .bool x.m.rf, .int .u64 x.m.bi, .int .u64 x.m.bt, .int .i64 x.m.bc, .int .i64 x.m.o, x.dv, .bool x.m.la]]) rfl (a_alloc ze_api_Msg rfl) ?_; rintro g5
    refine h_acts (post := fun _ => [cell g5 28 #[.int .i64 z.m.k, .int .i64 z.m.a, .int .i64 z.m.b, .int .u64 z.m.t, .int .u64 z.m.i, .int .u64 z.m.lt, z.ev, .int .u64 z.m.co, .bool z.m.rf, .int .u64 z.m.bi, .int .u64 z.m.bt, .int .i64 z.m.bc, .int .i64 z.m.o, z.dv, .bool z.m.la], Ents 36 z.ev z.es, Vec 5 1 encB z.dv z.m.d, Ents 36 y2.ev y2.es, Vec 5 1 encB y2.dv y2.m.d, Vec 5 1 encB v1 (encM y.m), Ents 36 y.ev y.es, Vec 5 1 encB y.dv y.m.d, cell g1 28 #[.int .i64 x.m.k, .int .i64 x.m.a, .int .i64 x.m.b, .int .u64 x.m.t, .int .u64 x.m.i, .int .u64 x.m.lt, x.ev, .int .u64 x.m.co, .bool x.m.rf, .int .u64 x.m.bi, .int .u64 x.m.bt, .int .i64 x.m.bc, .int .i64 x.m.o, x.dv, .bool x.m.la]]) rfl rfl (a_store 0 (v := .agg #[.int .i64 z.m.k, .int .i64 z.m.a, .int .i64 z.m.b, .int .u64 z.m.t, .int .u64 z.m.i, .int .u64 z.m.lt, z.ev, .int .u64 z.m.co, .bool z.m.rf, .int .u64 z.m.bi, .int .u64 z.m.bt, .int .i64 z.m.bc, .int .i64 z.m.o, z.dv, .bool z.m.la]) #[.int .i64 z.m.k, .int .i64 z.m.a, .int .i64 z.m.b, .int .u64 z.m.t, .int .u64 z.m.i, .int .u64 z.m.lt, z.ev, .int .u64 z.m.co, .bool z.m.rf, .int .u64 z.m.bi, .int .u64 z.m.bt, .int .i64 z.m.bc, .int .i64 z.m.o, z.dv, .bool z.m.la] ty_api_Msg.2 rfl rfl rfl rfl rfl rfl rfl rfl rfl) ?_; rintro ⟨⟩
    refine h_q hflS rfl ?_
    refine h_done (d_reg ?_)
    refine h_q hflS rfl ?_
    refine h_val rfl (.bool true) (fun b w hb hH => exec_cmp rfl rfl rfl (cmp_eql_t (by decide)) hb) ?_
    refine h_q hflS rfl ?_
    refine h_val rfl (.agg #[.int .i64 z.m.k, .int .i64 z.m.a, .int .i64 z.m.b, .int .u64 z.m.t, .int .u64 z.m.i, .int .u64 z.m.lt, z.ev, .int .u64 z.m.co, .bool z.m.rf, .int .u64 z.m.bi, .int .u64 z.m.bt, .int .i64 z.m.bc, .int .i64 z.m.o, z.dv, .bool z.m.la]) (fun b w hb hH => exec_load rfl rfl (reads_agg (cs := [.int .i64 z.m.k, .int .i64 z.m.a, .int .i64 z.m.b, .int .u64 z.m.t, .int .u64 z.m.i, .int .u64 z.m.lt, z.ev, .int .u64 z.m.co, .bool z.m.rf, .int .u64 z.m.bi, .int .u64 z.m.bt, .int .i64 z.m.bc, .int .i64 z.m.o, z.dv, .bool z.m.la]) ty_api_Msg rfl) (hH.row 0 rfl) hb) ?_
    refine h_val rfl (.agg #[.int .i64 x.m.k, .int .i64 x.m.a, .int .i64 x.m.b, .int .u64 x.m.t, .int .u64 x.m.i, .int .u64 x.m.lt, x.ev, .int .u64 x.m.co, .bool x.m.rf, .int .u64 x.m.bi, .int .u64 x.m.bt, .int .i64 x.m.bc, .int .i64 x.m.o, x.dv, .bool x.m.la]) (fun b w hb hH => exec_load rfl rfl (reads_agg (cs := [.int .i64 x.m.k, .int .i64 x.m.a, .int .i64 x.m.b, .int .u64 x.m.t, .int .u64 x.m.i, .int .u64 x.m.lt, x.ev, .int .u64 x.m.co, .bool x.m.rf, .int .u64 x.m.bi, .int .u64 x.m.bt, .int .i64 x.m.bc, .int .i64 x.m.o, x.dv, .bool x.m.la]) ty_api_Msg rfl) (hH.row 8 rfl) hb) ?_
    refine h_act (post := fun _ => [cell g5 28 #[.int .i64 z.m.k, .int .i64 z.m.a, .int .i64 z.m.b, .int .u64 z.m.t, .int .u64 z.m.i, .int .u64 z.m.lt, z.ev, .int .u64 z.m.co, .bool z.m.rf, .int .u64 z.m.bi, .int .u64 z.m.bt, .int .i64 z.m.bc, .int .i64 z.m.o, z.dv, .bool z.m.la], Ents 36 z.ev z.es, Vec 5 1 encB z.dv z.m.d, Ents 36 y2.ev y2.es, Vec 5 1 encB y2.dv y2.m.d, Vec 5 1 encB v1 (encM y.m), Ents 36 y.ev y.es, Vec 5 1 encB y.dv y.m.d, cell g1 28 #[.int .i64 x.m.k, .int .i64 x.m.a, .int .i64 x.m.b, .int .u64 x.m.t, .int .u64 x.m.i, .int .u64 x.m.lt, x.ev, .int .u64 x.m.co, .bool x.m.rf, .int .u64 x.m.bi, .int .u64 x.m.bt, .int .i64 x.m.bc, .int .i64 x.m.o, x.dv, .bool x.m.la]]) rfl (a_call (ent_of Try.func18 (by kernel_rfl) rfl) (fun w hH => samem_ok w z x (msgOk_copy hx hzm hze (hH.ents 1 rfl) (hH.sl8 2 rfl)) (argM0 hx hH) hzm.symm) rfl rfl rfl) ?_; rintro ⟨⟩
    refine h_q hflS rfl ?_
    refine h_val rfl (.int .i64 ((encM y.m).length : Int)) (fun b w hb hH => e_vlen 5 Try.underlying26 rfl rfl rfl hH hb) ?_
    refine h_val rfl (.bool true) (fun b w hb hH => exec_cmp rfl rfl rfl (cmp_leq_t (by omega)) hb) ?_
    refine h_q hflS rfl ?_
    refine h_done (d_ret ?_)
    exact f_fin1 (.tmp rfl) (fun w h => ⟨rfl, below0 h.up⟩) rfl
  · skip
    refine d_reg ?_
    refine h_q hflS rfl ?_
    refine h_val rfl (.agg #[.int .i64 x.m.k, .int .i64 x.m.a, .int .i64 x.m.b, .int .u64 x.m.t, .int .u64 x.m.i, .int .u64 x.m.lt, x.ev, .int .u64 x.m.co, .bool x.m.rf, .int .u64 x.m.bi, .int .u64 x.m.bt, .int .i64 x.m.bc, .int .i64 x.m.o, x.dv, .bool x.m.la]) (fun b w hb hH => exec_load rfl rfl (reads_agg (cs := [.int .i64 x.m.k, .int .i64 x.m.a, .int .i64 x.m.b, .int .u64 x.m.t, .int .u64 x.m.i, .int .u64 x.m.lt, x.ev, .int .u64 x.m.co, .bool x.m.rf, .int .u64 x.m.bi, .int .u64 x.m.bt, .int .i64 x.m.bc, .int .i64 x.m.o, x.dv, .bool x.m.la]) ty_api_Msg rfl) (hH.row 0 rfl) hb) ?_
    refine h_act (post := fun (y : MsgV) => [Ents 36 y.ev y.es, Vec 5 1 encB y.dv y.m.d, fact (y.m = x.m ∧ y.m.es = y.es.map (·.e)), cell g1 28 #[.int .i64 x.m.k, .int .i64 x.m.a, .int .i64 x.m.b, .int .u64 x.m.t, .int .u64 x.m.i, .int .u64 x.m.lt, x.ev, .int .u64 x.m.co, .bool x.m.rf, .int .u64 x.m.bi, .int .u64 x.m.bt, .int .i64 x.m.bc, .int .i64 x.m.o, x.dv, .bool x.m.la]]) rfl (a_doesU (Below.refl _ _) (fun _ h => h.elim) (os' := fun (y : MsgV) => [Ents 36 y.ev y.es, Vec 5 1 encB y.dv y.m.d, fact (y.m = x.m ∧ y.m.es = y.es.map (·.e)), cell g1 28 #[.int .i64 x.m.k, .int .i64 x.m.a, .int .i64 x.m.b, .int .u64 x.m.t, .int .u64 x.m.i, .int .u64 x.m.lt, x.ev, .int .u64 x.m.co, .bool x.m.rf, .int .u64 x.m.bi, .int .u64 x.m.bt, .int .i64 x.m.bc, .int .i64 x.m.o, x.dv, .bool x.m.la]]) [] 0 (ent_of Try.func29 (by kernel_rfl) rfl) (copyOf_does w x hx) rfl rfl rfl (fun _ => rfl) rfl rfl rfl) ?_; rintro y
    refine WL2.fact 2 rfl (fun _ h => h.2) ?_; rintro ⟨hym, hye⟩
    refine WL2.leave [2] rfl rfl ?_
    refine h_act (post := fun _ => [Ents 36 y.ev y.es, Vec 5 1 encB y.dv y.m.d, cell g1 28 #[.int .i64 x.m.k, .int .i64 x.m.a, .int .i64 x.m.b, .int .u64 x.m.t, .int .u64 x.m.i, .int .u64 x.m.lt, x.ev, .int .u64 x.m.co, .bool x.m.rf, .int .u64 x.m.bi, .int .u64 x.m.bt, .int .i64 x.m.bc, .int .i64 x.m.o, x.dv, .bool x.m.la]]) rfl (a_call (ent_of Try.func14 (by kernel_rfl) rfl) (fun w hH => encodeM_bad w y (msgOk_copy hx hym hye (hH.ents 0 rfl) (hH.sl8 1 rfl)) (by rw [hym]; exact hr)) rfl rfl rfl) ?_; rintro ⟨⟩
    refine h_q hflS rfl ?_
    refine h_done (d_seq (d_reg ?_))
    refine h_q hflS rfl ?_
    refine h_act (post := fun _ => [Ents 36 y.ev y.es, Vec 5 1 encB y.dv y.m.d, cell g1 28 #[.int .i64 x.m.k, .int .i64 x.m.a, .int .i64 x.m.b, .int .u64 x.m.t, .int .u64 x.m.i, .int .u64 x.m.lt, x.ev, .int .u64 x.m.co, .bool x.m.rf, .int .u64 x.m.bi, .int .u64 x.m.bt, .int .i64 x.m.bc, .int .i64 x.m.o, x.dv, .bool x.m.la]]) rfl (a_call (ent_of Try.func17 (by kernel_rfl) rfl) (fun w hH => known6_true w) rfl rfl rfl) ?_; rintro ⟨⟩
    refine h_q hflS rfl ?_
    refine h_val rfl (.bool false) (fun b w hb hH => exec_cmp rfl rfl rfl (cmp_eql_f (by decide)) hb) ?_
    refine h_val rfl (.agg #[.int .i64 x.m.k, .int .i64 x.m.a, .int .i64 x.m.b, .int .u64 x.m.t, .int .u64 x.m.i, .int .u64 x.m.lt, x.ev, .int .u64 x.m.co, .bool x.m.rf, .int .u64 x.m.bi, .int .u64 x.m.bt, .int .i64 x.m.bc, .int .i64 x.m.o, x.dv, .bool x.m.la]) (fun b w hb hH => exec_load rfl rfl (reads_agg (cs := [.int .i64 x.m.k, .int .i64 x.m.a, .int .i64 x.m.b, .int .u64 x.m.t, .int .u64 x.m.i, .int .u64 x.m.lt, x.ev, .int .u64 x.m.co, .bool x.m.rf, .int .u64 x.m.bi, .int .u64 x.m.bt, .int .i64 x.m.bc, .int .i64 x.m.o, x.dv, .bool x.m.la]) ty_api_Msg rfl) (hH.row 2 rfl) hb) ?_
    refine h_act (post := fun (y2 : MsgV) => [Ents 36 y2.ev y2.es, Vec 5 1 encB y2.dv y2.m.d, fact (y2.m = x.m ∧ y2.m.es = y2.es.map (·.e)), Ents 36 y.ev y.es, Vec 5 1 encB y.dv y.m.d, cell g1 28 #[.int .i64 x.m.k, .int .i64 x.m.a, .int .i64 x.m.b, .int .u64 x.m.t, .int .u64 x.m.i, .int .u64 x.m.lt, x.ev, .int .u64 x.m.co, .bool x.m.rf, .int .u64 x.m.bi, .int .u64 x.m.bt, .int .i64 x.m.bc, .int .i64 x.m.o, x.dv, .bool x.m.la]]) rfl (a_doesU (Below.refl _ _) (fun _ h => h.elim) (os' := fun (y2 : MsgV) => [Ents 36 y2.ev y2.es, Vec 5 1 encB y2.dv y2.m.d, fact (y2.m = x.m ∧ y2.m.es = y2.es.map (·.e)), Ents 36 y.ev y.es, Vec 5 1 encB y.dv y.m.d, cell g1 28 #[.int .i64 x.m.k, .int .i64 x.m.a, .int .i64 x.m.b, .int .u64 x.m.t, .int .u64 x.m.i, .int .u64 x.m.lt, x.ev, .int .u64 x.m.co, .bool x.m.rf, .int .u64 x.m.bi, .int .u64 x.m.bt, .int .i64 x.m.bc, .int .i64 x.m.o, x.dv, .bool x.m.la]]) [] 0 (ent_of Try.func29 (by kernel_rfl) rfl) (copyOf_does w x hx) rfl rfl rfl (fun _ => rfl) rfl rfl rfl) ?_; rintro y2
    refine WL2.fact 2 rfl (fun _ h => h.2) ?_; rintro ⟨hym2, hye2⟩
    refine WL2.leave [2] rfl rfl ?_
    refine h_act (post := fun _ => [Ents 36 y2.ev y2.es, Vec 5 1 encB y2.dv y2.m.d, Ents 36 y.ev y.es, Vec 5 1 encB y.dv y.m.d, cell g1 28 #[.int .i64 x.m.k, .int .i64 x.m.a, .int .i64 x.m.b, .int .u64 x.m.t, .int .u64 x.m.i, .int .u64 x.m.lt, x.ev, .int .u64 x.m.co, .bool x.m.rf, .int .u64 x.m.bi, .int .u64 x.m.bt, .int .i64 x.m.bc, .int .i64 x.m.o, x.dv, .bool x.m.la]]) rfl (a_call (ent_of Try.func19 (by kernel_rfl) rfl) (fun w hH => rightM_any w y2 (msgOk_copy hx hym2 hye2 (hH.ents 0 rfl) (hH.sl8 1 rfl)) false (by rw [hym2]; exact hr)) rfl rfl rfl) ?_; rintro ⟨⟩
    refine h_val rfl (.bool false) (fun b w hb hH => exec_nes (neB false false) rfl rfl rfl hb) ?_
    refine h_q hflS rfl ?_
    refine h_done (d_else rfl (d_skip (f_to (d_seq (d_reg ?_)))))
    refine h_q hflS rfl ?_
    refine h_val rfl (.bool true) (fun b w hb hH => exec_cmp rfl rfl rfl (cmp_neq_t (by decide)) hb) ?_
    refine h_done (d_then rfl (d_reg ?_))
    refine h_q hflS rfl ?_
    refine h_val rfl (.bool true) (fun b w hb hH => exec_cmp rfl rfl rfl (cmp_eql_t (by decide)) hb) ?_
    refine h_q hflS rfl ?_
    refine h_val rfl (.int .i64 0) (fun b w hb hH => e_slen (sl8_nil w).rd Try.underlying26 rfl rfl hb) ?_
    refine h_val rfl (.bool true) (fun b w hb hH => exec_cmp rfl rfl rfl (cmp_eql_t (by decide)) hb) ?_
    refine h_q hflS rfl ?_
    refine h_done (d_ret (f_then_ret ?_))
    exact f_fin1 (.tmp rfl) (fun w h => ⟨rfl, below0 h.up⟩) rfl

set_option maxRecDepth 100000 in
theorem rpcturned_true (w : World) (x : MsgV) (hx : MsgOk w x) (at_ by_ : Int) (wa : I64 at_) (wb : I64 by_) : Calls Try.prog 12 #[.agg #[.int .i64 x.m.k, .int .i64 x.m.a, .int .i64 x.m.b, .int .u64 x.m.t, .int .u64 x.m.i, .int .u64 x.m.lt, x.ev, .int .u64 x.m.co, .bool x.m.rf, .int .u64 x.m.bi, .int .u64 x.m.bt, .int .i64 x.m.bc, .int .i64 x.m.o, x.dv, .bool x.m.la], .int .i64 at_, .int .i64 by_] w fun e w' => e = .returned (.bool true) ∧ Below w.heap.size w w' := by
  refine d_in (args := [.agg #[.int .i64 x.m.k, .int .i64 x.m.a, .int .i64 x.m.b, .int .u64 x.m.t, .int .u64 x.m.i, .int .u64 x.m.lt, x.ev, .int .u64 x.m.co, .bool x.m.rf, .int .u64 x.m.bi, .int .u64 x.m.bt, .int .i64 x.m.bc, .int .i64 x.m.o, x.dv, .bool x.m.la], .int .i64 at_, .int .i64 by_]) 52 Try.func12 rfl rfl rfl ?_
  refine d_reg ?_
  refine h_q hflS rfl ?_
  refine h_act (post := fun g3 => [cell g3 28 #[.int .i64 x.m.k, .int .i64 x.m.a, .int .i64 x.m.b, .int .u64 x.m.t, .int .u64 x.m.i, .int .u64 x.m.lt, x.ev, .int .u64 x.m.co, .bool x.m.rf, .int .u64 x.m.bi, .int .u64 x.m.bt, .int .i64 x.m.bc, .int .i64 x.m.o, x.dv, .bool x.m.la]]) rfl (a_box (cs := #[.int .i64 x.m.k, .int .i64 x.m.a, .int .i64 x.m.b, .int .u64 x.m.t, .int .u64 x.m.i, .int .u64 x.m.lt, x.ev, .int .u64 x.m.co, .bool x.m.rf, .int .u64 x.m.bi, .int .u64 x.m.bt, .int .i64 x.m.bc, .int .i64 x.m.o, x.dv, .bool x.m.la]) rfl rfl rfl) ?_; rintro g3
  refine h_q hflS rfl ?_
  refine h_done ?_
  rcases Bool.eq_false_or_eq_true (rightM x.m) with hr | hr
  · skip
    refine d_reg ?_
    refine h_q hflS rfl ?_
    refine h_val rfl (.agg #[.int .i64 x.m.k, .int .i64 x.m.a, .int .i64 x.m.b, .int .u64 x.m.t, .int .u64 x.m.i, .int .u64 x.m.lt, x.ev, .int .u64 x.m.co, .bool x.m.rf, .int .u64 x.m.bi, .int .u64 x.m.bt, .int .i64 x.m.bc, .int .i64 x.m.o, x.dv, .bool x.m.la]) (fun b w hb hH => exec_load rfl rfl (reads_agg (cs := [.int .i64 x.m.k, .int .i64 x.m.a, .int .i64 x.m.b, .int .u64 x.m.t, .int .u64 x.m.i, .int .u64 x.m.lt, x.ev, .int .u64 x.m.co, .bool x.m.rf, .int .u64 x.m.bi, .int .u64 x.m.bt, .int .i64 x.m.bc, .int .i64 x.m.o, x.dv, .bool x.m.la]) ty_api_Msg rfl) (hH.row 0 rfl) hb) ?_
    refine h_act (post := fun (y : MsgV) => [Ents 36 y.ev y.es, Vec 5 1 encB y.dv y.m.d, fact (y.m = x.m ∧ y.m.es = y.es.map (·.e)), cell g3 28 #[.int .i64 x.m.k, .int .i64 x.m.a, .int .i64 x.m.b, .int .u64 x.m.t, .int .u64 x.m.i, .int .u64 x.m.lt, x.ev, .int .u64 x.m.co, .bool x.m.rf, .int .u64 x.m.bi, .int .u64 x.m.bt, .int .i64 x.m.bc, .int .i64 x.m.o, x.dv, .bool x.m.la]]) rfl (a_doesU (Below.refl _ _) (fun _ h => h.elim) (os' := fun (y : MsgV) => [Ents 36 y.ev y.es, Vec 5 1 encB y.dv y.m.d, fact (y.m = x.m ∧ y.m.es = y.es.map (·.e)), cell g3 28 #[.int .i64 x.m.k, .int .i64 x.m.a, .int .i64 x.m.b, .int .u64 x.m.t, .int .u64 x.m.i, .int .u64 x.m.lt, x.ev, .int .u64 x.m.co, .bool x.m.rf, .int .u64 x.m.bi, .int .u64 x.m.bt, .int .i64 x.m.bc, .int .i64 x.m.o, x.dv, .bool x.m.la]]) [] 0 (ent_of Try.func29 (by kernel_rfl) rfl) (copyOf_does w x hx) rfl rfl rfl (fun _ => rfl) rfl rfl rfl) ?_; rintro y
    refine WL2.fact 2 rfl (fun _ h => h.2) ?_; rintro ⟨hym, hye⟩
    refine WL2.leave [2] rfl rfl ?_
    refine h_act (post := fun v1 => [Vec 5 1 encB v1 (encM y.m), Ents 36 y.ev y.es, Vec 5 1 encB y.dv y.m.d, cell g3 28 #[.int .i64 x.m.k, .int .i64 x.m.a, .int .i64 x.m.b, .int .u64 x.m.t, .int .u64 x.m.i, .int .u64 x.m.lt, x.ev, .int .u64 x.m.co, .bool x.m.rf, .int .u64 x.m.bi, .int .u64 x.m.bt, .int .i64 x.m.bc, .int .i64 x.m.o, x.dv, .bool x.m.la]]) rfl (a_makes (os' := fun v1 => [Vec 5 1 encB v1 (encM y.m), Ents 36 y.ev y.es, Vec 5 1 encB y.dv y.m.d, cell g3 28 #[.int .i64 x.m.k, .int .i64 x.m.a, .int .i64 x.m.b, .int .u64 x.m.t, .int .u64 x.m.i, .int .u64 x.m.lt, x.ev, .int .u64 x.m.co, .bool x.m.rf, .int .u64 x.m.bi, .int .u64 x.m.bt, .int .i64 x.m.bc, .int .i64 x.m.o, x.dv, .bool x.m.la]]) [] 0 (ent_of Try.func14 (by kernel_rfl) rfl) (fun w hH => encodeM_does w y (msgOk_copy hx hym hye (hH.ents 0 rfl) (hH.sl8 1 rfl)) (by rw [hym]; exact hr)) rfl rfl rfl (fun _ => rfl) rfl rfl rfl) ?_; rintro v1
    have hlen : (encM y.m).length ≤ 1024 := by rw [hym]; exact encM_len hx.ok hr
    refine h_q hflS rfl ?_
    refine h_done (d_seq (d_reg ?_))
    refine h_q hflS rfl ?_
    refine h_act (post := fun _ => [Vec 5 1 encB v1 (encM y.m), Ents 36 y.ev y.es, Vec 5 1 encB y.dv y.m.d, cell g3 28 #[.int .i64 x.m.k, .int .i64 x.m.a, .int .i64 x.m.b, .int .u64 x.m.t, .int .u64 x.m.i, .int .u64 x.m.lt, x.ev, .int .u64 x.m.co, .bool x.m.rf, .int .u64 x.m.bi, .int .u64 x.m.bt, .int .i64 x.m.bc, .int .i64 x.m.o, x.dv, .bool x.m.la]]) rfl (a_call (ent_of Try.func17 (by kernel_rfl) rfl) (fun w hH => known6_true w) rfl rfl rfl) ?_; rintro ⟨⟩
    refine h_q hflS rfl ?_
    refine h_val rfl (.bool false) (fun b w hb hH => exec_cmp rfl rfl rfl (cmp_neq_f (by decide)) hb) ?_
    refine h_q hflS rfl ?_
    refine h_done (d_else rfl (d_skip (f_to ?_)))
    have hpos : 4 ≤ (encM y.m).length := by unfold encM; rw [sealed_len]; omega
    obtain ⟨k, hk⟩ : ∃ k : Nat, at_ % ((encM y.m).length : Int) = (k : Int) := ⟨(at_ % ((encM y.m).length : Int)).toNat, by have := Int.emod_nonneg at_ (show ((encM y.m).length : Int) ≠ 0 by omega); omega⟩
    have hkl : k < (encM y.m).length := by have := Int.emod_lt_of_pos at_ (show 0 < ((encM y.m).length : Int) by omega); omega
    obtain ⟨p, hp⟩ : ∃ p, by_ % 255 = p := ⟨_, rfl⟩
    have hp0 : 0 ≤ p ∧ p < 255 := by omega
    obtain ⟨q, hq⟩ : ∃ q : UInt8, 1 + p = (q.toNat : Int) := ⟨UInt8.ofNat (1 + p).toNat, by rw [byte_of _ (by omega)]; omega⟩
    have hq0 : q ≠ 0 := fun e => by rw [e] at hq; simp at hq; omega
    obtain ⟨c, hc⟩ : ∃ c, (encM y.m)[k]? = some c := ⟨_, List.getElem?_eq_getElem hkl⟩
    have hcg : (encM y.m)[k] = c := (List.getElem?_eq_some_iff.1 hc).2
    obtain ⟨z0, hz0⟩ : ∃ z0, c ^^^ q = z0 := ⟨_, rfl⟩
    have hzn : z0 ≠ (encM y.m)[k] := by rw [hcg, ← hz0]; exact xor_ne c q hq0
    have hT : decM ((encM y.m).set k z0) = (.zero, 13) := decM_turned (hym ▸ hx.ok) (by rw [hym]; exact hr) k hkl z0 hzn
    refine d_reg ?_
    refine h_q hflS rfl ?_
    refine h_val rfl (.int .i64 ((encM y.m).length : Int)) (fun b w hb hH => e_vlen 0 Try.underlying26 rfl rfl rfl hH hb) ?_
    refine h_act (post := fun _ => [Vec 5 1 encB v1 (encM y.m), Ents 36 y.ev y.es, Vec 5 1 encB y.dv y.m.d, cell g3 28 #[.int .i64 x.m.k, .int .i64 x.m.a, .int .i64 x.m.b, .int .u64 x.m.t, .int .u64 x.m.i, .int .u64 x.m.lt, x.ev, .int .u64 x.m.co, .bool x.m.rf, .int .u64 x.m.bi, .int .u64 x.m.bt, .int .i64 x.m.bc, .int .i64 x.m.o, x.dv, .bool x.m.la]]) rfl (a_call (ent_of Try.func27 (by kernel_rfl) rfl) (fun w hH => pick w at_ ((encM y.m).length : Int) wa (by omega) hk) rfl rfl rfl) ?_; rintro ⟨⟩
    refine h_q hflS rfl ?_
    refine h_done (d_seq ?_)
    refine d_parS 12 1 [⟨.quiet, [none], fun _ => v1, []⟩, ⟨.quiet, [none], fun _ => .int .i64 (k : Int), []⟩, ⟨.quiet, [none], fun _ => v1, []⟩, ⟨.quiet, [none], fun _ => .int .i64 (k : Int), []⟩, ⟨.quiet, [none], fun _ => elp v1 (k * 1), [2, 3]⟩, ⟨.quiet, [none], fun _ => .int .u8 ((c).toNat : Int), [4]⟩, ⟨.quiet, [none], fun _ => .int .i64 by_, []⟩, ⟨.actv 0, [some false], fun _ => .int .i64 p, [6]⟩, ⟨.quiet, [some true], fun _ => .int .i64 (1 + p), [7]⟩, ⟨.quiet, [some true], fun _ => .int .u8 (q.toNat : Int), [8]⟩, ⟨.quiet, [some true], fun _ => .int .u8 (z0.toNat : Int), [5, 9]⟩, ⟨.quiet, [some true], fun _ => elp v1 (k * 1), [0, 1]⟩] [(2, .int .i64 by_), (6, .bool false), (7, v1), (9, .int .i64 (k : Int))] (fun ρ => match ρ with | [r0] => [Vec 5 1 encB v1 (encM y.m), Ents 36 y.ev y.es, Vec 5 1 encB y.dv y.m.d, cell g3 28 #[.int .i64 x.m.k, .int .i64 x.m.a, .int .i64 x.m.b, .int .u64 x.m.t, .int .u64 x.m.i, .int .u64 x.m.lt, x.ev, .int .u64 x.m.co, .bool x.m.rf, .int .u64 x.m.bi, .int .u64 x.m.bt, .int .i64 x.m.bc, .int .i64 x.m.o, x.dv, .bool x.m.la]] | _ => []) (by kernel_rfl) (by kernel_rfl) ⟨rfl, rfl, rfl, rfl, trivial⟩ rfl ?_ ?_
    · skip
      refine s_cons (by intro r0_; exact ⟨rfl, fun b w hH hb => exec_q1 hflS rfl hb⟩) ?_
      refine s_cons (by intro r0_; exact ⟨rfl, fun b w hH hb => exec_q1 hflS rfl hb⟩) ?_
      refine s_cons (by intro r0_; exact ⟨rfl, fun b w hH hb => exec_q1 hflS rfl hb⟩) ?_
      refine s_cons (by intro r0_; exact ⟨rfl, fun b w hH hb => exec_q1 hflS rfl hb⟩) ?_
      refine s_cons (by intro r0_; exact ⟨rfl, fun b w hH hb => e_vidx 0 sl_uint8 okB rfl k hkl rfl rfl rfl hH hb⟩) ?_
      refine s_cons (by intro r0_; exact ⟨rfl, fun b w hH hb => e_vload1 0 ty_uint8 okB rfl k (a := c) hc rfl rfl rfl hH hb⟩) ?_
      refine s_cons (by intro r0_; exact ⟨rfl, fun b w hH hb => exec_q1 hflS rfl hb⟩) ?_
      refine s_cons (by exact ⟨rfl, Acts.su (a_call (ent_of Try.func27 (by kernel_rfl) rfl) (fun w hH => pick w by_ 255 wb (by decide) hp) rfl rfl rfl) rfl⟩) ?_
      refine s_cons (by intro v0_; exact ⟨rfl, fun b w hH hb => exec_ar rfl rfl rfl rfl (IntWalk.i64_in _ (by omega)) hb⟩) ?_
      refine s_cons (by intro v0_; exact ⟨rfl, fun b w hH hb => exec_conv Try.underlying3 Try.underlying5 (by rw [IntWalk.u8_in _ (by omega)]; exact hq) rfl rfl hb⟩) ?_
      refine s_cons (by intro v0_; exact ⟨rfl, fun b w hH hb => exec_xor (by rw [xor_u8, hz0]) rfl rfl rfl hb⟩) ?_
      refine s_cons (by intro v0_; exact ⟨rfl, fun b w hH hb => e_vidx 0 sl_uint8 okB rfl k hkl rfl rfl rfl hH hb⟩) ?_
      exact s_nil
    intro v0_
    refine WL2.keep (env' := [(6, .bool false), (7, v1), (43, .int .u8 (z0.toNat : Int)), (44, elp v1 (k * 1))]) ⟨rfl, rfl, rfl, rfl, trivial⟩ ?_
    refine h_q hflS rfl ?_
    refine h_acts (post := fun _ => [Vec 5 1 encB v1 ((encM y.m).set k z0), Ents 36 y.ev y.es, Vec 5 1 encB y.dv y.m.d, cell g3 28 #[.int .i64 x.m.k, .int .i64 x.m.a, .int .i64 x.m.b, .int .u64 x.m.t, .int .u64 x.m.i, .int .u64 x.m.lt, x.ev, .int .u64 x.m.co, .bool x.m.rf, .int .u64 x.m.bi, .int .u64 x.m.bt, .int .i64 x.m.bc, .int .i64 x.m.o, x.dv, .bool x.m.la]]) rfl rfl (a_vstore1 0 ty_uint8 okB rfl k hkl z0 rfl rfl rfl rfl rfl) ?_; rintro ⟨⟩
    refine h_nil (f_to (d_reg ?_))
    refine h_q hflS rfl ?_
    refine h_act (post := fun (z : MsgV) => [Ents 36 z.ev z.es, Vec 5 1 encB z.dv z.m.d, fact (z.m = MsgD.zero ∧ z.m.es = z.es.map (·.e)), Vec 5 1 encB v1 ((encM y.m).set k z0), Ents 36 y.ev y.es, Vec 5 1 encB y.dv y.m.d, cell g3 28 #[.int .i64 x.m.k, .int .i64 x.m.a, .int .i64 x.m.b, .int .u64 x.m.t, .int .u64 x.m.i, .int .u64 x.m.lt, x.ev, .int .u64 x.m.co, .bool x.m.rf, .int .u64 x.m.bi, .int .u64 x.m.bt, .int .i64 x.m.bc, .int .i64 x.m.o, x.dv, .bool x.m.la]]) rfl (a_makes (os' := fun (z : MsgV) => [Ents 36 z.ev z.es, Vec 5 1 encB z.dv z.m.d, fact (z.m = MsgD.zero ∧ z.m.es = z.es.map (·.e)), Vec 5 1 encB v1 ((encM y.m).set k z0), Ents 36 y.ev y.es, Vec 5 1 encB y.dv y.m.d, cell g3 28 #[.int .i64 x.m.k, .int .i64 x.m.a, .int .i64 x.m.b, .int .u64 x.m.t, .int .u64 x.m.i, .int .u64 x.m.lt, x.ev, .int .u64 x.m.co, .bool x.m.rf, .int .u64 x.m.bi, .int .u64 x.m.bt, .int .i64 x.m.bc, .int .i64 x.m.o, x.dv, .bool x.m.la]]) [] 0 (ent_of Try.func15 (by kernel_rfl) rfl) (fun w hH => decodeM_does w v1 ((encM y.m).set k z0) (hH.sl8 0 rfl) (by rw [List.length_set]; omega) MsgD.zero 13 hT) rfl rfl rfl (fun _ => rfl) rfl rfl rfl) ?_; rintro z
    refine WL2.fact 2 rfl (fun _ h => h.2) ?_; rintro ⟨hzm, hze⟩
    refine WL2.leave [2] rfl rfl ?_
    refine h_q hflS rfl ?_
    refine h_act (post := fun g10 => [cell g10 28 #[.int .i64 0, .int .i64 0, .int .i64 0, .int .u64 0, .int .u64 0, .int .u64 0, .slice none 0 0, .int .u64 0, .bool false, .int .u64 0, .int .u64 0, .int .i64 0, .int .i64 0, .slice none 0 0, .bool false], Ents 36 z.ev z.es, Vec 5 1 encB z.dv z.m.d, Vec 5 1 encB v1 ((encM y.m).set k z0), Ents 36 y.ev y.es, Vec 5 1 encB y.dv y.m.d, cell g3 28 #[.int .i64 x.m.k, .int .i64 x.m.a, .int .i64 x.m.b, .int .u64 x.m.t, .int .u64 x.m.i, .int .u64 x.m.lt, x.ev, .int .u64 x.m.co, .bool x.m.rf, .int .u64 x.m.bi, .int .u64 x.m.bt, .int .i64 x.m.bc, .int .i64 x.m.o, x.dv, .bool x.m.la]]) rfl (a_alloc ze_api_Msg rfl) ?_; rintro g10
    refine h_acts (post := fun _ => [cell g10 28 #[.int .i64 z.m.k, .int .i64 z.m.a, .int .i64 z.m.b, .int .u64 z.m.t, .int .u64 z.m.i, .int .u64 z.m.lt, z.ev, .int .u64 z.m.co, .bool z.m.rf, .int .u64 z.m.bi, .int .u64 z.m.bt, .int .i64 z.m.bc, .int .i64 z.m.o, z.dv, .bool z.m.la], Ents 36 z.ev z.es, Vec 5 1 encB z.dv z.m.d, Vec 5 1 encB v1 ((encM y.m).set k z0), Ents 36 y.ev y.es, Vec 5 1 encB y.dv y.m.d, cell g3 28 #[.int .i64 x.m.k, .int .i64 x.m.a, .int .i64 x.m.b, .int .u64 x.m.t, .int .u64 x.m.i, .int .u64 x.m.lt, x.ev, .int .u64 x.m.co, .bool x.m.rf, .int .u64 x.m.bi, .int .u64 x.m.bt, .int .i64 x.m.bc, .int .i64 x.m.o, x.dv, .bool x.m.la]]) rfl rfl (a_store 0 (v := .agg #[.int .i64 z.m.k, .int .i64 z.m.a, .int .i64 z.m.b, .int .u64 z.m.t, .int .u64 z.m.i, .int .u64 z.m.lt, z.ev, .int .u64 z.m.co, .bool z.m.rf, .int .u64 z.m.bi, .int .u64 z.m.bt, .int .i64 z.m.bc, .int .i64 z.m.o, z.dv, .bool z.m.la]) #[.int .i64 z.m.k, .int .i64 z.m.a, .int .i64 z.m.b, .int .u64 z.m.t, .int .u64 z.m.i, .int .u64 z.m.lt, z.ev, .int .u64 z.m.co, .bool z.m.rf, .int .u64 z.m.bi, .int .u64 z.m.bt, .int .i64 z.m.bc, .int .i64 z.m.o, z.dv, .bool z.m.la] ty_api_Msg.2 rfl rfl rfl rfl rfl rfl rfl rfl rfl) ?_; rintro ⟨⟩
    refine h_q hflS rfl ?_
    refine h_done (d_reg ?_)
    refine h_q hflS rfl ?_
    refine h_val rfl (.bool true) (fun b w hb hH => exec_cmp rfl rfl rfl (cmp_eql_t (by decide)) hb) ?_
    refine h_q hflS rfl ?_
    refine h_done (d_ret ?_)
    exact f_fin1 (.tmp rfl) (fun w h => ⟨rfl, below0 h.up⟩) rfl
  · skip
    refine d_reg ?_
    refine h_q hflS rfl ?_
    refine h_val rfl (.agg #[.int .i64 x.m.k, .int .i64 x.m.a, .int .i64 x.m.b, .int .u64 x.m.t, .int .u64 x.m.i, .int .u64 x.m.lt, x.ev, .int .u64 x.m.co, .bool x.m.rf, .int .u64 x.m.bi, .int .u64 x.m.bt, .int .i64 x.m.bc, .int .i64 x.m.o, x.dv, .bool x.m.la]) (fun b w hb hH => exec_load rfl rfl (reads_agg (cs := [.int .i64 x.m.k, .int .i64 x.m.a, .int .i64 x.m.b, .int .u64 x.m.t, .int .u64 x.m.i, .int .u64 x.m.lt, x.ev, .int .u64 x.m.co, .bool x.m.rf, .int .u64 x.m.bi, .int .u64 x.m.bt, .int .i64 x.m.bc, .int .i64 x.m.o, x.dv, .bool x.m.la]) ty_api_Msg rfl) (hH.row 0 rfl) hb) ?_
    refine h_act (post := fun (y : MsgV) => [Ents 36 y.ev y.es, Vec 5 1 encB y.dv y.m.d, fact (y.m = x.m ∧ y.m.es = y.es.map (·.e)), cell g3 28 #[.int .i64 x.m.k, .int .i64 x.m.a, .int .i64 x.m.b, .int .u64 x.m.t, .int .u64 x.m.i, .int .u64 x.m.lt, x.ev, .int .u64 x.m.co, .bool x.m.rf, .int .u64 x.m.bi, .int .u64 x.m.bt, .int .i64 x.m.bc, .int .i64 x.m.o, x.dv, .bool x.m.la]]) rfl (a_doesU (Below.refl _ _) (fun _ h => h.elim) (os' := fun (y : MsgV) => [Ents 36 y.ev y.es, Vec 5 1 encB y.dv y.m.d, fact (y.m = x.m ∧ y.m.es = y.es.map (·.e)), cell g3 28 #[.int .i64 x.m.k, .int .i64 x.m.a, .int .i64 x.m.b, .int .u64 x.m.t, .int .u64 x.m.i, .int .u64 x.m.lt, x.ev, .int .u64 x.m.co, .bool x.m.rf, .int .u64 x.m.bi, .int .u64 x.m.bt, .int .i64 x.m.bc, .int .i64 x.m.o, x.dv, .bool x.m.la]]) [] 0 (ent_of Try.func29 (by kernel_rfl) rfl) (copyOf_does w x hx) rfl rfl rfl (fun _ => rfl) rfl rfl rfl) ?_; rintro y
    refine WL2.fact 2 rfl (fun _ h => h.2) ?_; rintro ⟨hym, hye⟩
    refine WL2.leave [2] rfl rfl ?_
    refine h_act (post := fun _ => [Ents 36 y.ev y.es, Vec 5 1 encB y.dv y.m.d, cell g3 28 #[.int .i64 x.m.k, .int .i64 x.m.a, .int .i64 x.m.b, .int .u64 x.m.t, .int .u64 x.m.i, .int .u64 x.m.lt, x.ev, .int .u64 x.m.co, .bool x.m.rf, .int .u64 x.m.bi, .int .u64 x.m.bt, .int .i64 x.m.bc, .int .i64 x.m.o, x.dv, .bool x.m.la]]) rfl (a_call (ent_of Try.func14 (by kernel_rfl) rfl) (fun w hH => encodeM_bad w y (msgOk_copy hx hym hye (hH.ents 0 rfl) (hH.sl8 1 rfl)) (by rw [hym]; exact hr)) rfl rfl rfl) ?_; rintro ⟨⟩
    refine h_q hflS rfl ?_
    refine h_done (d_seq (d_reg ?_))
    refine h_q hflS rfl ?_
    refine h_act (post := fun _ => [Ents 36 y.ev y.es, Vec 5 1 encB y.dv y.m.d, cell g3 28 #[.int .i64 x.m.k, .int .i64 x.m.a, .int .i64 x.m.b, .int .u64 x.m.t, .int .u64 x.m.i, .int .u64 x.m.lt, x.ev, .int .u64 x.m.co, .bool x.m.rf, .int .u64 x.m.bi, .int .u64 x.m.bt, .int .i64 x.m.bc, .int .i64 x.m.o, x.dv, .bool x.m.la]]) rfl (a_call (ent_of Try.func17 (by kernel_rfl) rfl) (fun w hH => known6_true w) rfl rfl rfl) ?_; rintro ⟨⟩
    refine h_q hflS rfl ?_
    refine h_val rfl (.bool true) (fun b w hb hH => exec_cmp rfl rfl rfl (cmp_neq_t (by decide)) hb) ?_
    refine h_q hflS rfl ?_
    refine h_done (d_then rfl (d_reg ?_))
    refine h_q hflS rfl ?_
    refine h_act (post := fun _ => [Ents 36 y.ev y.es, Vec 5 1 encB y.dv y.m.d, cell g3 28 #[.int .i64 x.m.k, .int .i64 x.m.a, .int .i64 x.m.b, .int .u64 x.m.t, .int .u64 x.m.i, .int .u64 x.m.lt, x.ev, .int .u64 x.m.co, .bool x.m.rf, .int .u64 x.m.bi, .int .u64 x.m.bt, .int .i64 x.m.bc, .int .i64 x.m.o, x.dv, .bool x.m.la]]) rfl (a_call (ent_of Try.func17 (by kernel_rfl) rfl) (fun w hH => known6_true w) rfl rfl rfl) ?_; rintro ⟨⟩
    refine h_q hflS rfl ?_
    refine h_val rfl (.bool true) (fun b w hb hH => exec_cmp rfl rfl rfl (cmp_eql_t (by decide)) hb) ?_
    refine h_q hflS rfl ?_
    refine h_done (d_ret (f_then_ret ?_))
    exact f_fin1 (.tmp rfl) (fun w h => ⟨rfl, below0 h.up⟩) rfl
end Go.Proofs.Ytnhcbjlaeaohjaa.Sep
