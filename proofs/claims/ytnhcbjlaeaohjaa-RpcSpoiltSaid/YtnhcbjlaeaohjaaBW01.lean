/-
  RpcW
-/
import Derived.Test.YtnhcbjlaeaohjaaBI02
import Derived.Test.YtnhcbjlaeaohjaaBN01
set_option linter.unusedSimpArgs false
set_option linter.unusedVariables false

namespace Go.Proofs.Ytnhcbjlaeaohjaa.Sep
open Go.RowKit
open Go.Proofs.Ytnhcbjlaeaohjaa.Mem (Dist Blk Chg below0)

set_option maxRecDepth 100000 in
theorem rpcdecodes_true (w : World) (v : Value) (l : List UInt8) (b : Bool) (hv : Sl8 w v l) (hl : l.length + 4 ≤ 140737488355328) : Calls Try.prog 8 #[v, .bool b] w fun e w' => e = .returned (.bool true) ∧ Below w.heap.size w w' := by
  refine d_in (args := [v, .bool b]) 44 Try.func8 rfl rfl rfl ?_
  refine d_reg ?_
  refine h_q hflS rfl ?_
  refine h_done (d_seq ?_)
  cases b
  · skip
    obtain ⟨⟨m, en⟩, hD⟩ : ∃ R, decM l = R := ⟨_, rfl⟩
    refine d_reg ?_
    refine h_q hflS rfl ?_
    refine h_done (d_else rfl (d_skip (f_to (d_reg ?_))))
    refine h_q hflS rfl ?_
    refine h_act (X := Value) (val := fun v : Value => v) (post := fun u0 => [Vec 5 1 encB u0 ([])]) rfl (by refine a_build0 (e := 5) (t := 26) (k := 1) (enc := encB) ?_ ?_; exact sl_uint8; exact rfl) ?_; rintro u0
    refine h_q hflS rfl ?_
    refine h_act (post := fun u1 => [Vec 5 1 encB u1 l]) rfl (a_append8 0 sl_uint8 (by kernel_rfl) rfl (l) (fun w hH => (arg80 hv hH).rd) (by simp only [List.length_nil]; omega) rfl rfl rfl (List.nil_append l)) ?_; rintro u1
    refine h_q hflS rfl ?_
    refine h_done (d_reg ?_)
    refine h_q hflS rfl ?_
    refine h_act (post := fun (x : MsgV) => [Ents 36 x.ev x.es, Vec 5 1 encB x.dv x.m.d, fact (x.m = m ∧ x.m.es = x.es.map (·.e)), Vec 5 1 encB u1 l]) rfl (a_makes (os' := fun (x : MsgV) => [Ents 36 x.ev x.es, Vec 5 1 encB x.dv x.m.d, fact (x.m = m ∧ x.m.es = x.es.map (·.e)), Vec 5 1 encB u1 l]) [] 0 (ent_of Try.func15 (by kernel_rfl) rfl) (fun w hH => decodeM_does w u1 l (hH.sl8 0 rfl) (by omega) m en hD) rfl rfl rfl (fun _ => rfl) rfl rfl rfl) ?_; rintro x
    refine WL2.fact 2 rfl (fun _ h => h.2) ?_; rintro ⟨hxm, hxe⟩
    refine WL2.leave [2] rfl rfl ?_
    refine h_q hflS rfl ?_
    refine h_act (post := fun g6 => [cell g6 28 #[.int .i64 0, .int .i64 0, .int .i64 0, .int .u64 0, .int .u64 0, .int .u64 0, .slice none 0 0, .int .u64 0, .bool false, .int .u64 0, .int .u64 0, .int .i64 0, .int .i64 0, .slice none 0 0, .bool false], Ents 36 x.ev x.es, Vec 5 1 encB x.dv x.m.d, Vec 5 1 encB u1 l]) rfl (a_alloc ze_api_Msg rfl) ?_; rintro g6
    refine h_acts (post := fun _ => [cell g6 28 #[.int .i64 x.m.k, .int .i64 x.m.a, .int .i64 x.m.b, .int .u64 x.m.t, .int .u64 x.m.i, .int .u64 x.m.lt, x.ev, .int .u64 x.m.co, .bool x.m.rf, .int .u64 x.m.bi, .int .u64 x.m.bt, .int .i64 x.m.bc, .int .i64 x.m.o, x.dv, .bool x.m.la], Ents 36 x.ev x.es, Vec 5 1 encB x.dv x.m.d, Vec 5 1 encB u1 l]) rfl rfl (a_store 0 (v := .agg #[.int .i64 x.m.k, .int .i64 x.m.a, .int .i64 x.m.b, .int .u64 x.m.t, .int .u64 x.m.i, .int .u64 x.m.lt, x.ev, .int .u64 x.m.co, .bool x.m.rf, .int .u64 x.m.bi, .int .u64 x.m.bt, .int .i64 x.m.bc, .int .i64 x.m.o, x.dv, .bool x.m.la]) #[.int .i64 x.m.k, .int .i64 x.m.a, .int .i64 x.m.b, .int .u64 x.m.t, .int .u64 x.m.i, .int .u64 x.m.lt, x.ev, .int .u64 x.m.co, .bool x.m.rf, .int .u64 x.m.bi, .int .u64 x.m.bt, .int .i64 x.m.bc, .int .i64 x.m.o, x.dv, .bool x.m.la] ty_api_Msg.2 rfl rfl rfl rfl rfl rfl rfl rfl rfl) ?_; rintro ⟨⟩
    refine h_q hflS rfl ?_
    refine h_done (d_reg ?_)
    refine h_q hflS rfl ?_
    refine h_act (post := fun (z : MsgV) => [Ents 36 z.ev z.es, Vec 5 1 encB z.dv z.m.d, fact (z.m = m ∧ z.m.es = z.es.map (·.e)), cell g6 28 #[.int .i64 x.m.k, .int .i64 x.m.a, .int .i64 x.m.b, .int .u64 x.m.t, .int .u64 x.m.i, .int .u64 x.m.lt, x.ev, .int .u64 x.m.co, .bool x.m.rf, .int .u64 x.m.bi, .int .u64 x.m.bt, .int .i64 x.m.bc, .int .i64 x.m.o, x.dv, .bool x.m.la], Ents 36 x.ev x.es, Vec 5 1 encB x.dv x.m.d, Vec 5 1 encB u1 l]) rfl (a_doesU (Below.refl _ _) (fun _ h => h.elim) (os' := fun (z : MsgV) => [Ents 36 z.ev z.es, Vec 5 1 encB z.dv z.m.d, fact (z.m = m ∧ z.m.es = z.es.map (·.e)), cell g6 28 #[.int .i64 x.m.k, .int .i64 x.m.a, .int .i64 x.m.b, .int .u64 x.m.t, .int .u64 x.m.i, .int .u64 x.m.lt, x.ev, .int .u64 x.m.co, .bool x.m.rf, .int .u64 x.m.bi, .int .u64 x.m.bt, .int .i64 x.m.bc, .int .i64 x.m.o, x.dv, .bool x.m.la], Ents 36 x.ev x.es, Vec 5 1 encB x.dv x.m.d, Vec 5 1 encB u1 l]) [] 0 (ent_of Try.func33 (by kernel_rfl) rfl) (rdecodeM_does w v l hv (by omega) m en hD) rfl rfl rfl (fun _ => rfl) rfl rfl rfl) ?_; rintro z
    refine WL2.fact 2 rfl (fun _ h => h.2) ?_; rintro ⟨hzm, hze⟩
    refine WL2.leave [2] rfl rfl ?_
    refine h_q hflS rfl ?_
    refine h_act (post := fun g8 => [cell g8 28 #[.int .i64 0, .int .i64 0, .int .i64 0, .int .u64 0, .int .u64 0, .int .u64 0, .slice none 0 0, .int .u64 0, .bool false, .int .u64 0, .int .u64 0, .int .i64 0, .int .i64 0, .slice none 0 0, .bool false], Ents 36 z.ev z.es, Vec 5 1 encB z.dv z.m.d, cell g6 28 #[.int .i64 x.m.k, .int .i64 x.m.a, .int .i64 x.m.b, .int .u64 x.m.t, .int .u64 x.m.i, .int .u64 x.m.lt, x.ev, .int .u64 x.m.co, .bool x.m.rf, .int .u64 x.m.bi, .int .u64 x.m.bt, .int .i64 x.m.bc, .int .i64 x.m.o, x.dv, .bool x.m.la], Ents 36 x.ev x.es, Vec 5 1 encB x.dv x.m.d, Vec 5 1 encB u1 l]) rfl (a_alloc ze_api_Msg rfl) ?_; rintro g8
    refine h_acts (post := fun _ => [cell g8 28 #[.int .i64 z.m.k, .int .i64 z.m.a, .int .i64 z.m.b, .int .u64 z.m.t, .int .u64 z.m.i, .int .u64 z.m.lt, z.ev, .int .u64 z.m.co, .bool z.m.rf, .int .u64 z.m.bi, .int .u64 z.m.bt, .int .i64 z.m.bc, .int .i64 z.m.o, z.dv, .bool z.m.la], Ents 36 z.ev z.es, Vec 5 1 encB z.dv z.m.d, cell g6 28 #[.int .i64 x.m.k, .int .i64 x.m.a, .int .i64 x.m.b, .int .u64 x.m.t, .int .u64 x.m.i, .int .u64 x.m.lt, x.ev, .int .u64 x.m.co, .bool x.m.rf, .int .u64 x.m.bi, .int .u64 x.m.bt, .int .i64 x.m.bc, .int .i64 x.m.o, x.dv, .bool x.m.la], Ents 36 x.ev x.es, Vec 5 1 encB x.dv x.m.d, Vec 5 1 encB u1 l]) rfl rfl (a_store 0 (v := .agg #[.int .i64 z.m.k, .int .i64 z.m.a, .int .i64 z.m.b, .int .u64 z.m.t, .int .u64 z.m.i, .int .u64 z.m.lt, z.ev, .int .u64 z.m.co, .bool z.m.rf, .int .u64 z.m.bi, .int .u64 z.m.bt, .int .i64 z.m.bc, .int .i64 z.m.o, z.dv, .bool z.m.la]) #[.int .i64 z.m.k, .int .i64 z.m.a, .int .i64 z.m.b, .int .u64 z.m.t, .int .u64 z.m.i, .int .u64 z.m.lt, z.ev, .int .u64 z.m.co, .bool z.m.rf, .int .u64 z.m.bi, .int .u64 z.m.bt, .int .i64 z.m.bc, .int .i64 z.m.o, z.dv, .bool z.m.la] ty_api_Msg.2 rfl rfl rfl rfl rfl rfl rfl rfl rfl) ?_; rintro ⟨⟩
    refine h_q hflS rfl ?_
    refine h_done (d_reg ?_)
    refine h_q hflS rfl ?_
    refine h_act (post := fun _ => [cell g8 28 #[.int .i64 z.m.k, .int .i64 z.m.a, .int .i64 z.m.b, .int .u64 z.m.t, .int .u64 z.m.i, .int .u64 z.m.lt, z.ev, .int .u64 z.m.co, .bool z.m.rf, .int .u64 z.m.bi, .int .u64 z.m.bt, .int .i64 z.m.bc, .int .i64 z.m.o, z.dv, .bool z.m.la], Ents 36 z.ev z.es, Vec 5 1 encB z.dv z.m.d, cell g6 28 #[.int .i64 x.m.k, .int .i64 x.m.a, .int .i64 x.m.b, .int .u64 x.m.t, .int .u64 x.m.i, .int .u64 x.m.lt, x.ev, .int .u64 x.m.co, .bool x.m.rf, .int .u64 x.m.bi, .int .u64 x.m.bt, .int .i64 x.m.bc, .int .i64 x.m.o, x.dv, .bool x.m.la], Ents 36 x.ev x.es, Vec 5 1 encB x.dv x.m.d, Vec 5 1 encB u1 l]) rfl (a_call (ent_of Try.func17 (by kernel_rfl) rfl) (fun w hH => known6_true w) rfl rfl rfl) ?_; rintro ⟨⟩
    refine h_q hflS rfl ?_
    refine h_val rfl (.agg #[.int .i64 x.m.k, .int .i64 x.m.a, .int .i64 x.m.b, .int .u64 x.m.t, .int .u64 x.m.i, .int .u64 x.m.lt, x.ev, .int .u64 x.m.co, .bool x.m.rf, .int .u64 x.m.bi, .int .u64 x.m.bt, .int .i64 x.m.bc, .int .i64 x.m.o, x.dv, .bool x.m.la]) (fun b w hb hH => exec_load rfl rfl (reads_agg (cs := [.int .i64 x.m.k, .int .i64 x.m.a, .int .i64 x.m.b, .int .u64 x.m.t, .int .u64 x.m.i, .int .u64 x.m.lt, x.ev, .int .u64 x.m.co, .bool x.m.rf, .int .u64 x.m.bi, .int .u64 x.m.bt, .int .i64 x.m.bc, .int .i64 x.m.o, x.dv, .bool x.m.la]) ty_api_Msg rfl) (hH.row 3 rfl) hb) ?_
    refine h_val rfl (.agg #[.int .i64 z.m.k, .int .i64 z.m.a, .int .i64 z.m.b, .int .u64 z.m.t, .int .u64 z.m.i, .int .u64 z.m.lt, z.ev, .int .u64 z.m.co, .bool z.m.rf, .int .u64 z.m.bi, .int .u64 z.m.bt, .int .i64 z.m.bc, .int .i64 z.m.o, z.dv, .bool z.m.la]) (fun b w hb hH => exec_load rfl rfl (reads_agg (cs := [.int .i64 z.m.k, .int .i64 z.m.a, .int .i64 z.m.b, .int .u64 z.m.t, .int .u64 z.m.i, .int .u64 z.m.lt, z.ev, .int .u64 z.m.co, .bool z.m.rf, .int .u64 z.m.bi, .int .u64 z.m.bt, .int .i64 z.m.bc, .int .i64 z.m.o, z.dv, .bool z.m.la]) ty_api_Msg rfl) (hH.row 0 rfl) hb) ?_
    refine h_act (post := fun _ => [cell g8 28 #[.int .i64 z.m.k, .int .i64 z.m.a, .int .i64 z.m.b, .int .u64 z.m.t, .int .u64 z.m.i, .int .u64 z.m.lt, z.ev, .int .u64 z.m.co, .bool z.m.rf, .int .u64 z.m.bi, .int .u64 z.m.bt, .int .i64 z.m.bc, .int .i64 z.m.o, z.dv, .bool z.m.la], Ents 36 z.ev z.es, Vec 5 1 encB z.dv z.m.d, cell g6 28 #[.int .i64 x.m.k, .int .i64 x.m.a, .int .i64 x.m.b, .int .u64 x.m.t, .int .u64 x.m.i, .int .u64 x.m.lt, x.ev, .int .u64 x.m.co, .bool x.m.rf, .int .u64 x.m.bi, .int .u64 x.m.bt, .int .i64 x.m.bc, .int .i64 x.m.o, x.dv, .bool x.m.la], Ents 36 x.ev x.es, Vec 5 1 encB x.dv x.m.d, Vec 5 1 encB u1 l]) rfl (a_call (ent_of Try.func18 (by kernel_rfl) rfl) (fun w hH => samem_ok w x z (msgOk_dec hD hxm hxe (hH.ents 4 rfl) (hH.sl8 5 rfl)) (msgOk_dec hD hzm hze (hH.ents 1 rfl) (hH.sl8 2 rfl)) (hzm.trans hxm.symm)) rfl rfl rfl) ?_; rintro ⟨⟩
    refine h_q hflS rfl ?_
    refine h_val rfl (.bool true) (fun b w hb hH => exec_cmp rfl rfl rfl (cmp_eql_t rfl) hb) ?_
    refine h_q hflS rfl ?_
    refine h_val rfl (.string (bs l)) (fun b w hb hH => exec_str8 Try.underlying26 Try.underlying5 (by kernel_rfl) Try.underlying9 (hH.sl8 6 rfl) rfl rfl hb) ?_
    refine h_q hflS rfl ?_
    refine h_val rfl (.string (bs l)) (fun b w hb hH => exec_str8 Try.underlying26 Try.underlying5 (by kernel_rfl) Try.underlying9 (arg80 hv hH) rfl rfl hb) ?_
    refine h_val rfl (.bool true) (fun b w hb hH => exec_same rfl rfl rfl (by simp) hb) ?_
    refine h_q hflS rfl ?_
    refine h_done (d_ret ?_)
    exact f_fin1 (.tmp rfl) (fun w h => ⟨rfl, below0 h.up⟩) rfl
  · skip
    obtain ⟨L, hL⟩ : ∃ L, sealed l = L := ⟨_, rfl⟩
    have hLl : L.length = l.length + 4 := by rw [← hL, sealed_len]
    obtain ⟨⟨m, en⟩, hD⟩ : ∃ R, decM L = R := ⟨_, rfl⟩
    refine d_reg ?_
    refine h_q hflS rfl ?_
    refine h_done (d_then rfl (d_reg1 ?_))
    refine h_q hflS rfl ?_
    refine h_act (post := fun vb => [Vec 5 1 encB vb L]) rfl (a_doesU (Below.refl _ _) (fun _ h => h.elim) (os' := fun vb => [Vec 5 1 encB vb L]) [] 0 (ent_of Try.func32 (by kernel_rfl) rfl) (rseal_mk hv (by omega) L hL) rfl rfl rfl (fun _ => rfl) rfl rfl rfl) ?_; rintro vb
    refine h_q hflS rfl ?_
    refine h_nil (f_to (d_reg ?_))
    refine h_q hflS rfl ?_
    refine h_act (X := Value) (val := fun v : Value => v) (post := fun u0 => [Vec 5 1 encB u0 ([]), Vec 5 1 encB vb L]) rfl (by refine a_build0 (e := 5) (t := 26) (k := 1) (enc := encB) ?_ ?_; exact sl_uint8; exact rfl) ?_; rintro u0
    refine h_q hflS rfl ?_
    refine h_act (post := fun u1 => [Vec 5 1 encB u1 L, Vec 5 1 encB vb L]) rfl (a_append8 0 sl_uint8 (by kernel_rfl) rfl (L) (fun w hH => hH.vec 1 rfl okB) (by simp only [List.length_nil]; omega) rfl rfl rfl (List.nil_append L)) ?_; rintro u1
    refine h_q hflS rfl ?_
    refine h_done (d_reg ?_)
    refine h_q hflS rfl ?_
    refine h_act (post := fun (x : MsgV) => [Ents 36 x.ev x.es, Vec 5 1 encB x.dv x.m.d, fact (x.m = m ∧ x.m.es = x.es.map (·.e)), Vec 5 1 encB u1 L, Vec 5 1 encB vb L]) rfl (a_makes (os' := fun (x : MsgV) => [Ents 36 x.ev x.es, Vec 5 1 encB x.dv x.m.d, fact (x.m = m ∧ x.m.es = x.es.map (·.e)), Vec 5 1 encB u1 L, Vec 5 1 encB vb L]) [] 0 (ent_of Try.func15 (by kernel_rfl) rfl) (fun w hH => decodeM_does w u1 L (hH.sl8 0 rfl) (by omega) m en hD) rfl rfl rfl (fun _ => rfl) rfl rfl rfl) ?_; rintro x
    refine WL2.fact 2 rfl (fun _ h => h.2) ?_; rintro ⟨hxm, hxe⟩
    refine WL2.leave [2] rfl rfl ?_
    refine h_q hflS rfl ?_
    refine h_act (post := fun g6 => [cell g6 28 #[.int .i64 0, .int .i64 0, .int .i64 0, .int .u64 0, .int .u64 0, .int .u64 0, .slice none 0 0, .int .u64 0, .bool false, .int .u64 0, .int .u64 0, .int .i64 0, .int .i64 0, .slice none 0 0, .bool false], Ents 36 x.ev x.es, Vec 5 1 encB x.dv x.m.d, Vec 5 1 encB u1 L, Vec 5 1 encB vb L]) rfl (a_alloc ze_api_Msg rfl) ?_; rintro g6
    refine h_acts (post := fun _ => [cell g6 28 #[.int .i64 x.m.k, .int .i64 x.m.a, .int .i64 x.m.b, .int .u64 x.m.t, .int .u64 x.m.i, .int .u64 x.m.lt, x.ev, .int .u64 x.m.co, .bool x.m.rf, .int .u64 x.m.bi, .int .u64 x.m.bt, .int .i64 x.m.bc, .int .i64 x.m.o, x.dv, .bool x.m.la], Ents 36 x.ev x.es, Vec 5 1 encB x.dv x.m.d, Vec 5 1 encB u1 L, Vec 5 1 encB vb L]) rfl rfl (a_store 0 (v := .agg #[.int .i64 x.m.k, .int .i64 x.m.a, .int .i64 x.m.b, .int .u64 x.m.t, .int .u64 x.m.i, .int .u64 x.m.lt, x.ev, .int .u64 x.m.co, .bool x.m.rf, .int .u64 x.m.bi, .int .u64 x.m.bt, .int .i64 x.m.bc, .int .i64 x.m.o, x.dv, .bool x.m.la]) #[.int .i64 x.m.k, .int .i64 x.m.a, .int .i64 x.m.b, .int .u64 x.m.t, .int .u64 x.m.i, .int .u64 x.m.lt, x.ev, .int .u64 x.m.co, .bool x.m.rf, .int .u64 x.m.bi, .int .u64 x.m.bt, .int .i64 x.m.bc, .int .i64 x.m.o, x.dv, .bool x.m.la] ty_api_Msg.2 rfl rfl rfl rfl rfl rfl rfl rfl rfl) ?_; rintro ⟨⟩
    refine h_q hflS rfl ?_
    refine h_done (d_reg ?_)
    refine h_q hflS rfl ?_
    refine h_act (post := fun (z : MsgV) => [Ents 36 z.ev z.es, Vec 5 1 encB z.dv z.m.d, fact (z.m = m ∧ z.m.es = z.es.map (·.e)), cell g6 28 #[.int .i64 x.m.k, .int .i64 x.m.a, .int .i64 x.m.b, .int .u64 x.m.t, .int .u64 x.m.i, .int .u64 x.m.lt, x.ev, .int .u64 x.m.co, .bool x.m.rf, .int .u64 x.m.bi, .int .u64 x.m.bt, .int .i64 x.m.bc, .int .i64 x.m.o, x.dv, .bool x.m.la], Ents 36 x.ev x.es, Vec 5 1 encB x.dv x.m.d, Vec 5 1 encB u1 L, Vec 5 1 encB vb L]) rfl (a_makes (os' := fun (z : MsgV) => [Ents 36 z.ev z.es, Vec 5 1 encB z.dv z.m.d, fact (z.m = m ∧ z.m.es = z.es.map (·.e)), cell g6 28 #[.int .i64 x.m.k, .int .i64 x.m.a, .int .i64 x.m.b, .int .u64 x.m.t, .int .u64 x.m.i, .int .u64 x.m.lt, x.ev, .int .u64 x.m.co, .bool x.m.rf, .int .u64 x.m.bi, .int .u64 x.m.bt, .int .i64 x.m.bc, .int .i64 x.m.o, x.dv, .bool x.m.la], Ents 36 x.ev x.es, Vec 5 1 encB x.dv x.m.d, Vec 5 1 encB u1 L, Vec 5 1 encB vb L]) [] 0 (ent_of Try.func33 (by kernel_rfl) rfl) (fun w hH => rdecodeM_does w vb L (hH.sl8 4 rfl) (by omega) m en hD) rfl rfl rfl (fun _ => rfl) rfl rfl rfl) ?_; rintro z
    refine WL2.fact 2 rfl (fun _ h => h.2) ?_; rintro ⟨hzm, hze⟩
    refine WL2.leave [2] rfl rfl ?_
    refine h_q hflS rfl ?_
    refine h_act (post := fun g8 => [cell g8 28 #[.int .i64 0, .int .i64 0, .int .i64 0, .int .u64 0, .int .u64 0, .int .u64 0, .slice none 0 0, .int .u64 0, .bool false, .int .u64 0, .int .u64 0, .int .i64 0, .int .i64 0, .slice none 0 0, .bool false], Ents 36 z.ev z.es, Vec 5 1 encB z.dv z.m.d, cell g6 28 #[.int .i64 x.m.k, .int .i64 x.m.a, .int .i64 x.m.b, .int .u64 x.m.t, .int .u64 x.m.i, .int .u64 x.m.lt, x.ev, .int .u64 x.m.co, .bool x.m.rf, .int .u64 x.m.bi, .int .u64 x.m.bt, .int .i64 x.m.bc, .int .i64 x.m.o, x.dv, .bool x.m.la], Ents 36 x.ev x.es, Vec 5 1 encB x.dv x.m.d, Vec 5 1 encB u1 L, Vec 5 1 encB vb L]) rfl (a_alloc ze_api_Msg rfl) ?_; rintro g8
    refine h_acts (post := fun _ => [cell g8 28 #[.int .i64 z.m.k, .int .i64 z.m.a, .int .i64 z.m.b, .int .u64 z.m.t, .int .u64 z.m.i, .int .u64 z.m.lt, z.ev, .int .u64 z.m.co, .bool z.m.rf, .int .u64 z.m.bi, .int .u64 z.m.bt, .int .i64 z.m.bc, .int .i64 z.m.o, z.dv, .bool z.m.la], Ents 36 z.ev z.es, Vec 5 1 encB z.dv z.m.d, cell g6 28 #[.int .i64 x.m.k, .int .i64 x.m.a, .int .i64 x.m.b, .int .u64 x.m.t, .int .u64 x.m.i, .int .u64 x.m.lt, x.ev, .int .u64 x.m.co, .bool x.m.rf, .int .u64 x.m.bi, .int .u64 x.m.bt, .int .i64 x.m.bc, .int .i64 x.m.o, x.dv, .bool x.m.la], Ents 36 x.ev x.es, Vec 5 1 encB x.dv x.m.d, Vec 5 1 encB u1 L, Vec 5 1 encB vb L]) rfl rfl (a_store 0 (v := .agg #[.int .i64 z.m.k, .int .i64 z.m.a, .int .i64 z.m.b, .int .u64 z.m.t, .int .u64 z.m.i, .int .u64 z.m.lt, z.ev, .int .u64 z.m.co, .bool z.m.rf, .int .u64 z.m.bi, .int .u64 z.m.bt, .int .i64 z.m.bc, .int .i64 z.m.o, z.dv, .bool z.m.la]) #[.int .i64 z.m.k, .int .i64 z.m.a, .int .i64 z.m.b, .int .u64 z.m.t, .int .u64 z.m.i, .int .u64 z.m.lt, z.ev, .int .u64 z.m.co, .bool z.m.rf, .int .u64 z.m.bi, .int .u64 z.m.bt, .int .i64 z.m.bc, .int .i64 z.m.o, z.dv, .bool z.m.la] ty_api_Msg.2 rfl rfl rfl rfl rfl rfl rfl rfl rfl) ?_; rintro ⟨⟩
    refine h_q hflS rfl ?_
    refine h_done (d_reg ?_)
    refine h_q hflS rfl ?_
    refine h_act (post := fun _ => [cell g8 28 #[.int .i64 z.m.k, .int .i64 z.m.a, .int .i64 z.m.b, .int .u64 z.m.t, .int .u64 z.m.i, .int .u64 z.m.lt, z.ev, .int .u64 z.m.co, .bool z.m.rf, .int .u64 z.m.bi, .int .u64 z.m.bt, .int .i64 z.m.bc, .int .i64 z.m.o, z.dv, .bool z.m.la], Ents 36 z.ev z.es, Vec 5 1 encB z.dv z.m.d, cell g6 28 #[.int .i64 x.m.k, .int .i64 x.m.a, .int .i64 x.m.b, .int .u64 x.m.t, .int .u64 x.m.i, .int .u64 x.m.lt, x.ev, .int .u64 x.m.co, .bool x.m.rf, .int .u64 x.m.bi, .int .u64 x.m.bt, .int .i64 x.m.bc, .int .i64 x.m.o, x.dv, .bool x.m.la], Ents 36 x.ev x.es, Vec 5 1 encB x.dv x.m.d, Vec 5 1 encB u1 L, Vec 5 1 encB vb L]) rfl (a_call (ent_of Try.func17 (by kernel_rfl) rfl) (fun w hH => known6_true w) rfl rfl rfl) ?_; rintro ⟨⟩
    refine h_q hflS rfl ?_
    refine h_val rfl (.agg #[.int .i64 x.m.k, .int .i64 x.m.a, .int .i64 x.m.b, .int .u64 x.m.t, .int .u64 x.m.i, .int .u64 x.m.lt, x.ev, .int .u64 x.m.co, .bool x.m.rf, .int .u64 x.m.bi, .int .u64 x.m.bt, .int .i64 x.m.bc, .int .i64 x.m.o, x.dv, .bool x.m.la]) (fun b w hb hH => exec_load rfl rfl (reads_agg (cs := [.int .i64 x.m.k, .int .i64 x.m.a, .int .i64 x.m.b, .int .u64 x.m.t, .int .u64 x.m.i, .int .u64 x.m.lt, x.ev, .int .u64 x.m.co, .bool x.m.rf, .int .u64 x.m.bi, .int .u64 x.m.bt, .int .i64 x.m.bc, .int .i64 x.m.o, x.dv, .bool x.m.la]) ty_api_Msg rfl) (hH.row 3 rfl) hb) ?_
    refine h_val rfl (.agg #[.int .i64 z.m.k, .int .i64 z.m.a, .int .i64 z.m.b, .int .u64 z.m.t, .int .u64 z.m.i, .int .u64 z.m.lt, z.ev, .int .u64 z.m.co, .bool z.m.rf, .int .u64 z.m.bi, .int .u64 z.m.bt, .int .i64 z.m.bc, .int .i64 z.m.o, z.dv, .bool z.m.la]) (fun b w hb hH => exec_load rfl rfl (reads_agg (cs := [.int .i64 z.m.k, .int .i64 z.m.a, .int .i64 z.m.b, .int .u64 z.m.t, .int .u64 z.m.i, .int .u64 z.m.lt, z.ev, .int .u64 z.m.co, .bool z.m.rf, .int .u64 z.m.bi, .int .u64 z.m.bt, .int .i64 z.m.bc, .int .i64 z.m.o, z.dv, .bool z.m.la]) ty_api_Msg rfl) (hH.row 0 rfl) hb) ?_
    refine h_act (post := fun _ => [cell g8 28 #[.int .i64 z.m.k, .int .i64 z.m.a, .int .i64 z.m.b, .int .u64 z.m.t, .int .u64 z.m.i, .int .u64 z.m.lt, z.ev, .int .u64 z.m.co, .bool z.m.rf, .int .u64 z.m.bi, .int .u64 z.m.bt, .int .i64 z.m.bc, .int .i64 z.m.o, z.dv, .bool z.m.la], Ents 36 z.ev z.es, Vec 5 1 encB z.dv z.m.d, cell g6 28 #[.int .i64 x.m.k, .int .i64 x.m.a, .int .i64 x.m.b, .int .u64 x.m.t, .int .u64 x.m.i, .int .u64 x.m.lt, x.ev, .int .u64 x.m.co, .bool x.m.rf, .int .u64 x.m.bi, .int .u64 x.m.bt, .int .i64 x.m.bc, .int .i64 x.m.o, x.dv, .bool x.m.la], Ents 36 x.ev x.es, Vec 5 1 encB x.dv x.m.d, Vec 5 1 encB u1 L, Vec 5 1 encB vb L]) rfl (a_call (ent_of Try.func18 (by kernel_rfl) rfl) (fun w hH => samem_ok w x z (msgOk_dec hD hxm hxe (hH.ents 4 rfl) (hH.sl8 5 rfl)) (msgOk_dec hD hzm hze (hH.ents 1 rfl) (hH.sl8 2 rfl)) (hzm.trans hxm.symm)) rfl rfl rfl) ?_; rintro ⟨⟩
    refine h_q hflS rfl ?_
    refine h_val rfl (.bool true) (fun b w hb hH => exec_cmp rfl rfl rfl (cmp_eql_t rfl) hb) ?_
    refine h_q hflS rfl ?_
    refine h_val rfl (.string (bs L)) (fun b w hb hH => exec_str8 Try.underlying26 Try.underlying5 (by kernel_rfl) Try.underlying9 (hH.sl8 6 rfl) rfl rfl hb) ?_
    refine h_q hflS rfl ?_
    refine h_val rfl (.string (bs L)) (fun b w hb hH => exec_str8 Try.underlying26 Try.underlying5 (by kernel_rfl) Try.underlying9 (hH.sl8 7 rfl) rfl rfl hb) ?_
    refine h_val rfl (.bool true) (fun b w hb hH => exec_same rfl rfl rfl (by simp) hb) ?_
    refine h_q hflS rfl ?_
    refine h_done (d_ret ?_)
    exact f_fin1 (.tmp rfl) (fun w h => ⟨rfl, below0 h.up⟩) rfl

theorem vec_takes {A : Option Addr} {n c k : Nat} {l r : List UInt8} (hk : l.take k = r) : ∀ rs, Parts [Vec 5 1 encB (.slice A n c) l] rs → Vec 5 1 encB (.slice A r.length c) r rs := fun rs hr => by
  subst hk
  rcases hr.one' with ⟨h1, h2, h3⟩ | ⟨g, cap, cs, h1, h2, h3, h4, h5, h6⟩
  · simp only [Value.slice.injEq] at h1
    obtain ⟨rfl, _, rfl⟩ := h1
    subst h2
    exact .inl ⟨by simp, by simp, h3⟩
  · simp only [Value.slice.injEq] at h1
    obtain ⟨rfl, _, rfl⟩ := h1
    have hle : (l.take k).length ≤ l.length := by rw [List.length_take]; omega
    refine .inr ⟨g, c, cs, rfl, by omega, h3, h4, ?_, h6⟩
    have h7 : flat encB (l.take k) = (flat encB l).take ((l.take k).length * 1) := by
      rw [flat_take okB, List.length_take, ← List.take_eq_take_min]
    rw [h7, ← h5, List.take_take, Nat.min_eq_left (by omega)]
theorem rd8_cut6 {e : Value} {l r : List UInt8} {k : Nat} (hk : k ≤ l.length) (hr : l.take k = r) : Rd8 (Vec 5 1 encB e l) (subv 1 e 0 k) r := fun rs w h1 h2 => by
  subst hr
  obtain ⟨A, c, rfl, hb⟩ := vec_sl8 h1 h2
  rw [sub_take]
  exact ⟨A, c, by rw [List.length_take, Nat.min_eq_left hk], hb.take hk⟩
theorem layM_pos (m : MsgD) : 3 ≤ (layM m).length := by
  unfold layM
  rw [List.length_append]
  have : (headM m).length = 3 := rfl
  omega

set_option maxRecDepth 100000 in
theorem rpcspoilt_true (w : World) (x : MsgV) (hx : MsgOk w x) (how at_ to : Int) (w1 : I64 how) (w2 : I64 at_) (w3 : I64 to) : Calls Try.prog 9 #[.agg #[.int .i64 x.m.k, .int .i64 x.m.a, .int .i64 x.m.b, .int .u64 x.m.t, .int .u64 x.m.i, .int .u64 x.m.lt, x.ev, .int .u64 x.m.co, .bool x.m.rf, .int .u64 x.m.bi, .int .u64 x.m.bt, .int .i64 x.m.bc, .int .i64 x.m.o, x.dv, .bool x.m.la], .int .i64 how, .int .i64 at_, .int .i64 to] w fun e w' => e = .returned (.bool true) ∧ Below w.heap.size w w' := by
  refine d_in (args := [.agg #[.int .i64 x.m.k, .int .i64 x.m.a, .int .i64 x.m.b, .int .u64 x.m.t, .int .u64 x.m.i, .int .u64 x.m.lt, x.ev, .int .u64 x.m.co, .bool x.m.rf, .int .u64 x.m.bi, .int .u64 x.m.bt, .int .i64 x.m.bc, .int .i64 x.m.o, x.dv, .bool x.m.la], .int .i64 how, .int .i64 at_, .int .i64 to]) 70 Try.func9 rfl rfl rfl ?_
  refine d_reg ?_
  refine h_q hflS rfl ?_
  refine h_act (post := fun g4 => [cell g4 28 #[.int .i64 x.m.k, .int .i64 x.m.a, .int .i64 x.m.b, .int .u64 x.m.t, .int .u64 x.m.i, .int .u64 x.m.lt, x.ev, .int .u64 x.m.co, .bool x.m.rf, .int .u64 x.m.bi, .int .u64 x.m.bt, .int .i64 x.m.bc, .int .i64 x.m.o, x.dv, .bool x.m.la]]) rfl (a_box (cs := #[.int .i64 x.m.k, .int .i64 x.m.a, .int .i64 x.m.b, .int .u64 x.m.t, .int .u64 x.m.i, .int .u64 x.m.lt, x.ev, .int .u64 x.m.co, .bool x.m.rf, .int .u64 x.m.bi, .int .u64 x.m.bt, .int .i64 x.m.bc, .int .i64 x.m.o, x.dv, .bool x.m.la]) rfl rfl rfl) ?_; rintro g4
  refine h_q hflS rfl ?_
  refine h_done ?_
  rcases Bool.eq_false_or_eq_true (rightM x.m) with hr | hr
  · skip
    obtain ⟨L, hL⟩ : ∃ L, layM x.m = L := ⟨_, rfl⟩
    have hL0 := layM_pos x.m
    rw [hL] at hL0
    have hL1 := layM_len hx.ok.i hx.ok.lt hx.ok.co hr
    rw [hL] at hL1
    obtain ⟨E, hE⟩ : ∃ E, encM x.m = E := ⟨_, rfl⟩
    have hEL : E.take L.length = L := by rw [← hE]; unfold encM; rw [hL]; exact List.take_left' rfl
    have hEl : E.length = L.length + 4 := by rw [← hE]; unfold encM; rw [hL, sealed_len]
    obtain ⟨k, hk⟩ : ∃ k : Nat, at_ % (L.length : Int) = (k : Int) := ⟨(at_ % (L.length : Int)).toNat, by have := Int.emod_nonneg at_ (show (L.length : Int) ≠ 0 by omega); omega⟩
    have hkl : k < L.length := by have := Int.emod_lt_of_pos at_ (show 0 < (L.length : Int) by omega); omega
    obtain ⟨m, hm⟩ : ∃ m, how % 4 = m := ⟨_, rfl⟩
    have hm0 : 0 ≤ m ∧ m < 4 := by omega
    obtain ⟨q, hq⟩ : ∃ q : UInt8, IntKind.u8.wrap to = (q.toNat : Int) := by
        have h8 : 0 ≤ IntKind.u8.wrap to ∧ IntKind.u8.wrap to < 256 := by rw [IntKind.wrap_u8]; omega
        exact ⟨UInt8.ofNat (IntKind.u8.wrap to).toNat, by rw [byte_of _ (by omega)]; omega⟩
    refine d_reg ?_
    refine h_q hflS rfl ?_
    refine h_val rfl (.agg #[.int .i64 x.m.k, .int .i64 x.m.a, .int .i64 x.m.b, .int .u64 x.m.t, .int .u64 x.m.i, .int .u64 x.m.lt, x.ev, .int .u64 x.m.co, .bool x.m.rf, .int .u64 x.m.bi, .int .u64 x.m.bt, .int .i64 x.m.bc, .int .i64 x.m.o, x.dv, .bool x.m.la]) (fun b w hb hH => exec_load rfl rfl (reads_agg (cs := [.int .i64 x.m.k, .int .i64 x.m.a, .int .i64 x.m.b, .int .u64 x.m.t, .int .u64 x.m.i, .int .u64 x.m.lt, x.ev, .int .u64 x.m.co, .bool x.m.rf, .int .u64 x.m.bi, .int .u64 x.m.bt, .int .i64 x.m.bc, .int .i64 x.m.o, x.dv, .bool x.m.la]) ty_api_Msg rfl) (hH.row 0 rfl) hb) ?_
    refine h_act (post := fun v1 => [Vec 5 1 encB v1 E, cell g4 28 #[.int .i64 x.m.k, .int .i64 x.m.a, .int .i64 x.m.b, .int .u64 x.m.t, .int .u64 x.m.i, .int .u64 x.m.lt, x.ev, .int .u64 x.m.co, .bool x.m.rf, .int .u64 x.m.bi, .int .u64 x.m.bt, .int .i64 x.m.bc, .int .i64 x.m.o, x.dv, .bool x.m.la]]) rfl (a_doesU (Below.refl _ _) (fun _ h => h.elim) (os' := fun v1 => [Vec 5 1 encB v1 E, cell g4 28 #[.int .i64 x.m.k, .int .i64 x.m.a, .int .i64 x.m.b, .int .u64 x.m.t, .int .u64 x.m.i, .int .u64 x.m.lt, x.ev, .int .u64 x.m.co, .bool x.m.rf, .int .u64 x.m.bi, .int .u64 x.m.bt, .int .i64 x.m.bc, .int .i64 x.m.o, x.dv, .bool x.m.la]]) [] 0 (ent_of Try.func31 (by kernel_rfl) rfl) ((by have h := rencodeM_does w x hx hr; rw [hE] at h; exact h)) rfl rfl rfl (fun _ => rfl) rfl rfl rfl) ?_; rintro v1
    refine WL2.fact 0 rfl (fun _ h => Vec.is h) ?_; rintro ⟨A1, c1, rfl⟩
    refine WL2.fact 0 rfl (fun rs h => Vec.cap8 h) ?_; rintro hcap
    refine h_q hflS rfl ?_
    refine h_done (d_seq (d_reg ?_))
    refine h_q hflS rfl ?_
    refine h_val rfl (.bool false) (fun b w hb hH => exec_cmp rfl rfl rfl (cmp_neq_f (by decide)) hb) ?_
    refine h_done (d_else rfl (d_skip (f_to (d_reg ?_))))
    refine h_q hflS rfl ?_
    refine h_val rfl (.int .i64 (E.length : Int)) (fun b w hb hH => e_len sl_uint8 rfl rfl hH hb) ?_
    refine h_val rfl (.int .i64 (L.length : Int)) (fun b w hb hH => exec_ar rfl rfl rfl rfl (by rw [IntWalk.i64_in _ (by omega)]; omega) hb) ?_
    refine h_val rfl (.slice A1 L.length c1) (fun b w hb hH => e_sub_hi (j := L.length) sl_uint8 sub_take (by omega) rfl rfl rfl hH hb) ?_
    refine h_q hflS rfl ?_
    refine h_done ?_
    refine WC2.keep (env' := [(0, .agg #[.int .i64 x.m.k, .int .i64 x.m.a, .int .i64 x.m.b, .int .u64 x.m.t, .int .u64 x.m.i, .int .u64 x.m.lt, x.ev, .int .u64 x.m.co, .bool x.m.rf, .int .u64 x.m.bi, .int .u64 x.m.bt, .int .i64 x.m.bc, .int .i64 x.m.o, x.dv, .bool x.m.la]), (1, .int .i64 how), (2, .int .i64 at_), (3, .int .i64 to), (4, .pointer (some ⟨g4, 0, none⟩)), (8, .bool false), (13, .agg #[.int .i64 x.m.k, .int .i64 x.m.a, .int .i64 x.m.b, .int .u64 x.m.t, .int .u64 x.m.i, .int .u64 x.m.lt, x.ev, .int .u64 x.m.co, .bool x.m.rf, .int .u64 x.m.bi, .int .u64 x.m.bt, .int .i64 x.m.bc, .int .i64 x.m.o, x.dv, .bool x.m.la]), (14, .tuple #[.slice A1 E.length c1, .int .i64 0]), (12, .tuple #[.slice A1 E.length c1, .int .i64 0]), (15, .slice A1 E.length c1), (16, .int .i64 0), (10, .int .i64 0), (17, .int .i64 0), (18, .bool false), (20, .slice A1 E.length c1), (21, .slice A1 E.length c1), (22, .int .i64 (E.length : Int)), (23, .int .i64 (L.length : Int)), (24, .slice A1 L.length c1), (9, .slice A1 L.length c1)]) ⟨rfl, rfl, rfl, rfl, rfl, rfl, rfl, rfl, rfl, rfl, rfl, rfl, rfl, rfl, rfl, rfl, rfl, rfl, rfl, rfl, trivial⟩ ?_
    refine WC2.mid [Vec 5 1 encB (.slice A1 E.length c1) E, cell g4 28 #[.int .i64 x.m.k, .int .i64 x.m.a, .int .i64 x.m.b, .int .u64 x.m.t, .int .u64 x.m.i, .int .u64 x.m.lt, x.ev, .int .u64 x.m.co, .bool x.m.rf, .int .u64 x.m.bi, .int .u64 x.m.bt, .int .i64 x.m.bc, .int .i64 x.m.o, x.dv, .bool x.m.la]] (.refl _) ?_
    refine d_close [0] rfl (vec_takes hEL) rfl ?_
    generalize hvl : Value.slice A1 L.length c1 = vl
    refine d_reg ?_
    refine h_q hflS rfl ?_
    refine h_val rfl (.int .i64 (L.length : Int)) (fun b w hb hH => e_vlen 0 Try.underlying26 rfl rfl rfl hH hb) ?_
    refine h_act (post := fun _ => [Vec 5 1 encB vl L, cell g4 28 #[.int .i64 x.m.k, .int .i64 x.m.a, .int .i64 x.m.b, .int .u64 x.m.t, .int .u64 x.m.i, .int .u64 x.m.lt, x.ev, .int .u64 x.m.co, .bool x.m.rf, .int .u64 x.m.bi, .int .u64 x.m.bt, .int .i64 x.m.bc, .int .i64 x.m.o, x.dv, .bool x.m.la]]) rfl (a_call (ent_of Try.func27 (by kernel_rfl) rfl) (fun w hH => pick w at_ (L.length : Int) w2 (by omega) hk) rfl rfl rfl) ?_; rintro ⟨⟩
    refine h_q hflS rfl ?_
    refine h_done (d_seq (d_reg ?_))
    refine h_q hflS rfl ?_
    refine h_act (post := fun _ => [Vec 5 1 encB vl L, cell g4 28 #[.int .i64 x.m.k, .int .i64 x.m.a, .int .i64 x.m.b, .int .u64 x.m.t, .int .u64 x.m.i, .int .u64 x.m.lt, x.ev, .int .u64 x.m.co, .bool x.m.rf, .int .u64 x.m.bi, .int .u64 x.m.bt, .int .i64 x.m.bc, .int .i64 x.m.o, x.dv, .bool x.m.la]]) rfl (a_call (ent_of Try.func27 (by kernel_rfl) rfl) (fun w hH => pick w how 4 w1 (by decide) hm) rfl rfl rfl) ?_; rintro ⟨⟩
    refine h_done (d_block ?_)
    have hc : m = 0 ∨ m = 1 ∨ m = 2 ∨ m = 3 := by omega
    rcases hc with rfl | rfl | rfl | rfl
    · skip
      refine d_reg ?_
      refine h_q hflS rfl ?_
      refine h_val rfl (.bool true) (fun b w hb hH => exec_cmp rfl rfl rfl (cmp_eql_t (by decide)) hb) ?_
      refine h_q hflS rfl ?_
      refine h_done (d_then rfl (d_reg1 ?_))
      refine h_q hflS rfl ?_
      refine h_val rfl (.int .u8 (q.toNat : Int)) (fun b w hb hH => exec_conv Try.underlying3 Try.underlying5 hq rfl rfl hb) ?_
      refine h_val rfl (elp vl (k * 1)) (fun b w hb hH => e_vidx 0 sl_uint8 okB rfl k hkl rfl rfl rfl hH hb) ?_
      refine h_acts (post := fun _ => [Vec 5 1 encB vl (L.set k q), cell g4 28 #[.int .i64 x.m.k, .int .i64 x.m.a, .int .i64 x.m.b, .int .u64 x.m.t, .int .u64 x.m.i, .int .u64 x.m.lt, x.ev, .int .u64 x.m.co, .bool x.m.rf, .int .u64 x.m.bi, .int .u64 x.m.bt, .int .i64 x.m.bc, .int .i64 x.m.o, x.dv, .bool x.m.la]]) rfl rfl (a_vstore1 0 ty_uint8 okB rfl k hkl q rfl rfl rfl rfl rfl) ?_; rintro ⟨⟩
      refine h_nil (f_block (f_to (d_reg ?_)))
      refine h_q hflS rfl ?_
      refine h_act (post := fun _ => [Vec 5 1 encB vl (L.set k q), cell g4 28 #[.int .i64 x.m.k, .int .i64 x.m.a, .int .i64 x.m.b, .int .u64 x.m.t, .int .u64 x.m.i, .int .u64 x.m.lt, x.ev, .int .u64 x.m.co, .bool x.m.rf, .int .u64 x.m.bi, .int .u64 x.m.bt, .int .i64 x.m.bc, .int .i64 x.m.o, x.dv, .bool x.m.la]]) rfl (a_call (ent_of Try.func8 (by kernel_rfl) rfl) (fun w hH => rpcdecodes_true w vl (L.set k q) true (hH.sl8 0 rfl) (by simp; omega)) rfl rfl rfl) ?_; rintro ⟨⟩
      refine h_q hflS rfl ?_
      refine h_done (d_ret ?_)
      exact f_fin1 (.tmp rfl) (fun w h => ⟨rfl, below0 h.up⟩) rfl
    · skip
      refine d_reg ?_
      refine h_q hflS rfl ?_
      refine h_val rfl (.bool false) (fun b w hb hH => exec_cmp rfl rfl rfl (cmp_eql_f (by decide)) hb) ?_
      refine h_q hflS rfl ?_
      refine h_done (d_else rfl (d_reg ?_))
      refine h_q hflS rfl ?_
      refine h_val rfl (.bool true) (fun b w hb hH => exec_cmp rfl rfl rfl (cmp_eql_t (by decide)) hb) ?_
      refine h_q hflS rfl ?_
      refine h_done (d_then rfl ?_)
      refine d_emps 2 rfl ?_
      refine d_parS 13 5 [⟨.act 0, [some false, some false, none, some false, some false], fun _ => undef, []⟩, ⟨.quiet, [none, none, none, none, none], fun _ => vl, []⟩, ⟨.quiet, [none, none, none, none, none], fun _ => .int .i64 (k : Int), []⟩, ⟨.quiet, [none, none, none, none, none], fun _ => subv 1 vl 0 k, [1, 2]⟩, ⟨.act 1, [some true, some false, none, some false, some false], fun _ => undef, [0, 3]⟩, ⟨.quiet, [none, none, none, none, none], fun _ => .int .i64 to, []⟩, ⟨.quiet, [none, none, none, none, none], fun _ => .int .u8 (q.toNat : Int), [5]⟩, ⟨.act 2, [none, none, some false, some false, some false], fun _ => undef, [6]⟩, ⟨.act 3, [some true, some true, some true, some false, some false], fun _ => undef, [4, 7]⟩, ⟨.quiet, [none, none, none, none, none], fun _ => vl, []⟩, ⟨.quiet, [none, none, none, none, none], fun _ => .int .i64 (k : Int), []⟩, ⟨.quiet, [none, none, none, none, none], fun _ => subv 1 vl k L.length, [9, 10]⟩, ⟨.act 4, [some true, some true, some true, some true, some false], fun _ => undef, [8, 11]⟩] [(3, .int .i64 to), (8, .bool false), (9, vl), (11, .int .i64 (k : Int))] (fun ρ => match ρ with | [r0, r1, r2, r3, r4] => [selS r2 (fun u3 => Vec 5 1 encB u3 ([q])) (emp), selS r4 (fun u5 => Vec 5 1 encB u5 (L.take k ++ [q] ++ L.drop k)) (selS r3 (fun u4 => Vec 5 1 encB u4 (L.take k ++ [q])) (selS r1 (fun u2 => Vec 5 1 encB u2 (L.take k)) (selS r0 (fun u1 => Vec 5 1 encB u1 ([])) (emp)))), Vec 5 1 encB vl L, cell g4 28 #[.int .i64 x.m.k, .int .i64 x.m.a, .int .i64 x.m.b, .int .u64 x.m.t, .int .u64 x.m.i, .int .u64 x.m.lt, x.ev, .int .u64 x.m.co, .bool x.m.rf, .int .u64 x.m.bi, .int .u64 x.m.bt, .int .i64 x.m.bc, .int .i64 x.m.o, x.dv, .bool x.m.la]] | _ => []) (by kernel_rfl) (by kernel_rfl) ⟨rfl, rfl, rfl, rfl, trivial⟩ rfl ?_ ?_
      · skip
        refine s_cons (by intro r2_; exact ⟨rfl, Acts.s (Acts.place (val := fun u1 : Value => u1) (t := fun u1 => Vec 5 1 encB u1 ([])) (os' := fun u1 => [selS r2_ (fun u3 => Vec 5 1 encB u3 ([q])) (emp), Vec 5 1 encB u1 ([]), Vec 5 1 encB vl L, cell g4 28 #[.int .i64 x.m.k, .int .i64 x.m.a, .int .i64 x.m.b, .int .u64 x.m.t, .int .u64 x.m.i, .int .u64 x.m.lt, x.ev, .int .u64 x.m.co, .bool x.m.rf, .int .u64 x.m.bi, .int .u64 x.m.bt, .int .i64 x.m.bc, .int .i64 x.m.o, x.dv, .bool x.m.la]]) 1 rfl (by refine a_build0 (e := 5) (t := 26) (k := 1) (enc := encB) ?_ ?_; exact sl_uint8; exact rfl) (fun _ => rfl)) (fun _ => rfl)⟩) ?_
        refine s_cons (by intro r0_ r1_ r2_ r3_ r4_; exact ⟨rfl, fun b w hH hb => exec_q1 hflS rfl hb⟩) ?_
        refine s_cons (by intro r0_ r1_ r2_ r3_ r4_; exact ⟨rfl, fun b w hH hb => exec_q1 hflS rfl hb⟩) ?_
        refine s_cons (by intro r0_ r1_ r2_ r3_ r4_; exact ⟨rfl, fun b w hH hb => e_vsub_hi 2 (b := k) sl_uint8 rfl (by omega) rfl rfl rfl hH hb⟩) ?_
        refine s_cons (by intro u1 r2_; exact ⟨rfl, Acts.s (a_append 1 sl_uint8 okB rfl (L.take k) (fun w hH => hH.vecq 2 rfl okB (Nat.zero_le _) (by omega) (m := L.take k) (by simp)) (by simp; omega) rfl rfl rfl (List.nil_append _)) (fun _ => rfl)⟩) ?_
        refine s_cons (by intro r0_ r1_ r2_ r3_ r4_; exact ⟨rfl, fun b w hH hb => exec_q1 hflS rfl hb⟩) ?_
        refine s_cons (by intro r0_ r1_ r2_ r3_ r4_; exact ⟨rfl, fun b w hH hb => exec_conv Try.underlying3 Try.underlying5 hq rfl rfl hb⟩) ?_
        refine s_cons (by intro r0_ r1_; exact ⟨rfl, Acts.s (Acts.place (val := fun u3 : Value => u3) (t := fun u3 => Vec 5 1 encB u3 ([q])) (os' := fun u3 => [Vec 5 1 encB u3 ([q]), selS r1_ (fun u2 => Vec 5 1 encB u2 (L.take k)) (selS r0_ (fun u1 => Vec 5 1 encB u1 ([])) (emp)), Vec 5 1 encB vl L, cell g4 28 #[.int .i64 x.m.k, .int .i64 x.m.a, .int .i64 x.m.b, .int .u64 x.m.t, .int .u64 x.m.i, .int .u64 x.m.lt, x.ev, .int .u64 x.m.co, .bool x.m.rf, .int .u64 x.m.bi, .int .u64 x.m.bt, .int .i64 x.m.bc, .int .i64 x.m.o, x.dv, .bool x.m.la]]) 0 rfl (by refine a_build1 (e := 5) (t := 26) (enc := encB) (x := .tmp 49) (c := .int .u8 ((q).toNat : Int)) ?_ ?_ q ?_ ?_ ?_; exact sl_uint8; exact okB; exact rfl; exact rfl; exact rfl) (fun _ => rfl)) (fun _ => rfl)⟩) ?_
        refine s_cons (by intro u1 u2 u3; exact ⟨rfl, Acts.s (a_append 1 sl_uint8 okB rfl ([q]) (fun w hH => hH.vec 0 rfl okB) (by simp; omega) rfl rfl rfl rfl) (fun _ => rfl)⟩) ?_
        refine s_cons (by intro r0_ r1_ r2_ r3_ r4_; exact ⟨rfl, fun b w hH hb => exec_q1 hflS rfl hb⟩) ?_
        refine s_cons (by intro r0_ r1_ r2_ r3_ r4_; exact ⟨rfl, fun b w hH hb => exec_q1 hflS rfl hb⟩) ?_
        refine s_cons (by intro r0_ r1_ r2_ r3_ r4_; exact ⟨rfl, fun b w hH hb => e_vsub_lo 2 (a := k) sl_uint8 rfl (by omega) rfl rfl rfl hH hb⟩) ?_
        refine s_cons (by intro u1 u2 u3 u4; exact ⟨rfl, Acts.s (a_append 1 sl_uint8 okB rfl (L.drop k) (fun w hH => hH.vecq 2 rfl okB (by omega) (Nat.le_refl _) (m := L.drop k) (by simp)) (by simp; omega) rfl rfl rfl rfl) (fun _ => rfl)⟩) ?_
        exact s_nil
      intro u1 u2 u3 u4 u5
      refine WL2.keep (env' := [(8, .bool false), (9, vl), (55, u5)]) ⟨rfl, rfl, rfl, trivial⟩ ?_
      refine h_q hflS rfl ?_
      refine h_nil (f_block (f_to (d_reg ?_)))
      refine h_q hflS rfl ?_
      refine h_act (post := fun _ => [Vec 5 1 encB u3 ([q]), Vec 5 1 encB u5 (L.take k ++ [q] ++ L.drop k), Vec 5 1 encB vl L, cell g4 28 #[.int .i64 x.m.k, .int .i64 x.m.a, .int .i64 x.m.b, .int .u64 x.m.t, .int .u64 x.m.i, .int .u64 x.m.lt, x.ev, .int .u64 x.m.co, .bool x.m.rf, .int .u64 x.m.bi, .int .u64 x.m.bt, .int .i64 x.m.bc, .int .i64 x.m.o, x.dv, .bool x.m.la]]) rfl (a_call (ent_of Try.func8 (by kernel_rfl) rfl) (fun w hH => rpcdecodes_true w u5 (L.take k ++ [q] ++ L.drop k) true (hH.sl8 1 rfl) (by simp; omega)) rfl rfl rfl) ?_; rintro ⟨⟩
      refine h_q hflS rfl ?_
      refine h_done (d_ret ?_)
      exact f_fin1 (.tmp rfl) (fun w h => ⟨rfl, below0 h.up⟩) rfl
    · skip
      refine d_reg ?_
      refine h_q hflS rfl ?_
      refine h_val rfl (.bool false) (fun b w hb hH => exec_cmp rfl rfl rfl (cmp_eql_f (by decide)) hb) ?_
      refine h_q hflS rfl ?_
      refine h_done (d_else rfl (d_reg ?_))
      refine h_q hflS rfl ?_
      refine h_val rfl (.bool false) (fun b w hb hH => exec_cmp rfl rfl rfl (cmp_eql_f (by decide)) hb) ?_
      refine h_q hflS rfl ?_
      refine h_done (d_else rfl (d_reg ?_))
      refine h_q hflS rfl ?_
      refine h_val rfl (.bool true) (fun b w hb hH => exec_cmp rfl rfl rfl (cmp_eql_t (by decide)) hb) ?_
      refine h_q hflS rfl ?_
      refine h_done (d_then rfl ?_)
      refine d_emps 1 rfl ?_
      refine d_parS 10 3 [⟨.act 0, [some false, some false, some false], fun _ => undef, []⟩, ⟨.quiet, [none, none, none], fun _ => vl, []⟩, ⟨.quiet, [none, none, none], fun _ => .int .i64 (k : Int), []⟩, ⟨.quiet, [none, none, none], fun _ => subv 1 vl 0 k, [1, 2]⟩, ⟨.act 1, [some true, some false, some false], fun _ => undef, [0, 3]⟩, ⟨.quiet, [none, none, none], fun _ => vl, []⟩, ⟨.quiet, [none, none, none], fun _ => .int .i64 (k : Int), []⟩, ⟨.quiet, [none, none, none], fun _ => .int .i64 ((k + 1 : Nat) : Int), [6]⟩, ⟨.quiet, [none, none, none], fun _ => subv 1 vl (k + 1) L.length, [5, 7]⟩, ⟨.act 2, [some true, some true, some false], fun _ => undef, [4, 8]⟩] [(8, .bool false), (9, vl), (11, .int .i64 (k : Int))] (fun ρ => match ρ with | [r0, r1, r2] => [selS r2 (fun u8 => Vec 5 1 encB u8 (L.take k ++ L.drop (k + 1))) (selS r1 (fun u7 => Vec 5 1 encB u7 (L.take k)) (selS r0 (fun u6 => Vec 5 1 encB u6 ([])) (emp))), Vec 5 1 encB vl L, cell g4 28 #[.int .i64 x.m.k, .int .i64 x.m.a, .int .i64 x.m.b, .int .u64 x.m.t, .int .u64 x.m.i, .int .u64 x.m.lt, x.ev, .int .u64 x.m.co, .bool x.m.rf, .int .u64 x.m.bi, .int .u64 x.m.bt, .int .i64 x.m.bc, .int .i64 x.m.o, x.dv, .bool x.m.la]] | _ => []) (by kernel_rfl) (by kernel_rfl) ⟨rfl, rfl, rfl, trivial⟩ rfl ?_ ?_
      · skip
        refine s_cons (by exact ⟨rfl, Acts.s (Acts.place (val := fun u6 : Value => u6) (t := fun u6 => Vec 5 1 encB u6 ([])) (os' := fun u6 => [Vec 5 1 encB u6 ([]), Vec 5 1 encB vl L, cell g4 28 #[.int .i64 x.m.k, .int .i64 x.m.a, .int .i64 x.m.b, .int .u64 x.m.t, .int .u64 x.m.i, .int .u64 x.m.lt, x.ev, .int .u64 x.m.co, .bool x.m.rf, .int .u64 x.m.bi, .int .u64 x.m.bt, .int .i64 x.m.bc, .int .i64 x.m.o, x.dv, .bool x.m.la]]) 0 rfl (by refine a_build0 (e := 5) (t := 26) (k := 1) (enc := encB) ?_ ?_; exact sl_uint8; exact rfl) (fun _ => rfl)) (fun _ => rfl)⟩) ?_
        refine s_cons (by intro r0_ r1_ r2_; exact ⟨rfl, fun b w hH hb => exec_q1 hflS rfl hb⟩) ?_
        refine s_cons (by intro r0_ r1_ r2_; exact ⟨rfl, fun b w hH hb => exec_q1 hflS rfl hb⟩) ?_
        refine s_cons (by intro r0_ r1_ r2_; exact ⟨rfl, fun b w hH hb => e_vsub_hi 1 (b := k) sl_uint8 rfl (by omega) rfl rfl rfl hH hb⟩) ?_
        refine s_cons (by intro u6; exact ⟨rfl, Acts.s (a_append 0 sl_uint8 okB rfl (L.take k) (fun w hH => hH.vecq 1 rfl okB (Nat.zero_le _) (by omega) (m := L.take k) (by simp)) (by simp; omega) rfl rfl rfl (List.nil_append _)) (fun _ => rfl)⟩) ?_
        refine s_cons (by intro r0_ r1_ r2_; exact ⟨rfl, fun b w hH hb => exec_q1 hflS rfl hb⟩) ?_
        refine s_cons (by intro r0_ r1_ r2_; exact ⟨rfl, fun b w hH hb => exec_q1 hflS rfl hb⟩) ?_
        refine s_cons (by intro r0_ r1_ r2_; exact ⟨rfl, fun b w hH hb => exec_ar rfl rfl rfl rfl (by rw [IntWalk.i64_in _ (by omega)]; omega) hb⟩) ?_
        refine s_cons (by intro r0_ r1_ r2_; exact ⟨rfl, fun b w hH hb => e_vsub_lo 1 (a := (k + 1)) sl_uint8 rfl (by omega) rfl rfl rfl hH hb⟩) ?_
        refine s_cons (by intro u6 u7; exact ⟨rfl, Acts.s (a_append 0 sl_uint8 okB rfl (L.drop (k + 1)) (fun w hH => hH.vecq 1 rfl okB (by omega) (Nat.le_refl _) (m := L.drop (k + 1)) (by simp)) (by simp; omega) rfl rfl rfl rfl) (fun _ => rfl)⟩) ?_
        exact s_nil
      intro u6 u7 u8
      refine WL2.keep (env' := [(8, .bool false), (9, vl), (67, u8)]) ⟨rfl, rfl, rfl, trivial⟩ ?_
      refine h_q hflS rfl ?_
      refine h_nil (f_block (f_to (d_reg ?_)))
      refine h_q hflS rfl ?_
      refine h_act (post := fun _ => [Vec 5 1 encB u8 (L.take k ++ L.drop (k + 1)), Vec 5 1 encB vl L, cell g4 28 #[.int .i64 x.m.k, .int .i64 x.m.a, .int .i64 x.m.b, .int .u64 x.m.t, .int .u64 x.m.i, .int .u64 x.m.lt, x.ev, .int .u64 x.m.co, .bool x.m.rf, .int .u64 x.m.bi, .int .u64 x.m.bt, .int .i64 x.m.bc, .int .i64 x.m.o, x.dv, .bool x.m.la]]) rfl (a_call (ent_of Try.func8 (by kernel_rfl) rfl) (fun w hH => rpcdecodes_true w u8 (L.take k ++ L.drop (k + 1)) true (hH.sl8 0 rfl) (by simp; omega)) rfl rfl rfl) ?_; rintro ⟨⟩
      refine h_q hflS rfl ?_
      refine h_done (d_ret ?_)
      exact f_fin1 (.tmp rfl) (fun w h => ⟨rfl, below0 h.up⟩) rfl
    · skip
      refine d_reg ?_
      refine h_q hflS rfl ?_
      refine h_val rfl (.bool false) (fun b w hb hH => exec_cmp rfl rfl rfl (cmp_eql_f (by decide)) hb) ?_
      refine h_q hflS rfl ?_
      refine h_done (d_else rfl (d_reg ?_))
      refine h_q hflS rfl ?_
      refine h_val rfl (.bool false) (fun b w hb hH => exec_cmp rfl rfl rfl (cmp_eql_f (by decide)) hb) ?_
      refine h_q hflS rfl ?_
      refine h_done (d_else rfl (d_reg ?_))
      refine h_q hflS rfl ?_
      refine h_val rfl (.bool false) (fun b w hb hH => exec_cmp rfl rfl rfl (cmp_eql_f (by decide)) hb) ?_
      refine h_q hflS rfl ?_
      refine h_done (d_else rfl (d_reg1 ?_))
      refine h_q hflS rfl ?_
      refine h_val rfl (subv 1 vl 0 k) (fun b w hb hH => e_vsub_hi 0 (b := k) sl_uint8 rfl (by omega) rfl rfl rfl hH hb) ?_
      refine h_q hflS rfl ?_
      refine h_nil (f_block (f_to (d_reg ?_)))
      refine h_q hflS rfl ?_
      refine h_act (post := fun _ => [Vec 5 1 encB vl L, cell g4 28 #[.int .i64 x.m.k, .int .i64 x.m.a, .int .i64 x.m.b, .int .u64 x.m.t, .int .u64 x.m.i, .int .u64 x.m.lt, x.ev, .int .u64 x.m.co, .bool x.m.rf, .int .u64 x.m.bi, .int .u64 x.m.bt, .int .i64 x.m.bc, .int .i64 x.m.o, x.dv, .bool x.m.la]]) rfl (a_call (ent_of Try.func8 (by kernel_rfl) rfl) (fun w hH => rpcdecodes_true w (subv 1 vl 0 k) (L.take k) true (hH.rd8 0 rfl (rd8_cut6 (by omega) rfl)) (by simp; omega)) rfl rfl rfl) ?_; rintro ⟨⟩
      refine h_q hflS rfl ?_
      refine h_done (d_ret ?_)
      exact f_fin1 (.tmp rfl) (fun w h => ⟨rfl, below0 h.up⟩) rfl
  · skip
    refine d_reg ?_
    refine h_q hflS rfl ?_
    refine h_val rfl (.agg #[.int .i64 x.m.k, .int .i64 x.m.a, .int .i64 x.m.b, .int .u64 x.m.t, .int .u64 x.m.i, .int .u64 x.m.lt, x.ev, .int .u64 x.m.co, .bool x.m.rf, .int .u64 x.m.bi, .int .u64 x.m.bt, .int .i64 x.m.bc, .int .i64 x.m.o, x.dv, .bool x.m.la]) (fun b w hb hH => exec_load rfl rfl (reads_agg (cs := [.int .i64 x.m.k, .int .i64 x.m.a, .int .i64 x.m.b, .int .u64 x.m.t, .int .u64 x.m.i, .int .u64 x.m.lt, x.ev, .int .u64 x.m.co, .bool x.m.rf, .int .u64 x.m.bi, .int .u64 x.m.bt, .int .i64 x.m.bc, .int .i64 x.m.o, x.dv, .bool x.m.la]) ty_api_Msg rfl) (hH.row 0 rfl) hb) ?_
    refine h_act (post := fun _ => [cell g4 28 #[.int .i64 x.m.k, .int .i64 x.m.a, .int .i64 x.m.b, .int .u64 x.m.t, .int .u64 x.m.i, .int .u64 x.m.lt, x.ev, .int .u64 x.m.co, .bool x.m.rf, .int .u64 x.m.bi, .int .u64 x.m.bt, .int .i64 x.m.bc, .int .i64 x.m.o, x.dv, .bool x.m.la]]) rfl (a_call (ent_of Try.func31 (by kernel_rfl) rfl) (fun w hH => rencodeM_bad w x (argM0 hx hH) hr) rfl rfl rfl) ?_; rintro ⟨⟩
    refine h_q hflS rfl ?_
    refine h_done (d_seq (d_reg ?_))
    refine h_q hflS rfl ?_
    refine h_val rfl (.bool true) (fun b w hb hH => exec_cmp rfl rfl rfl (cmp_neq_t (by decide)) hb) ?_
    refine h_done (d_then rfl (d_reg ?_))
    refine h_q hflS rfl ?_
    refine h_act (post := fun _ => [cell g4 28 #[.int .i64 x.m.k, .int .i64 x.m.a, .int .i64 x.m.b, .int .u64 x.m.t, .int .u64 x.m.i, .int .u64 x.m.lt, x.ev, .int .u64 x.m.co, .bool x.m.rf, .int .u64 x.m.bi, .int .u64 x.m.bt, .int .i64 x.m.bc, .int .i64 x.m.o, x.dv, .bool x.m.la]]) rfl (a_call (ent_of Try.func17 (by kernel_rfl) rfl) (fun w hH => known6_true w) rfl rfl rfl) ?_; rintro ⟨⟩
    refine h_q hflS rfl ?_
    refine h_done (d_ret (f_then_ret ?_))
    exact f_fin1 (.tmp rfl) (fun w h => ⟨rfl, below0 h.up⟩) rfl
end Go.Proofs.Ytnhcbjlaeaohjaa.Sep
