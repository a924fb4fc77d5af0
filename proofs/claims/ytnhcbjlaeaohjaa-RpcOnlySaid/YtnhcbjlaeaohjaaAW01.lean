/-
  RpcR · RpcS · RpcW
-/
import Derived.Test.YtnhcbjlaeaohjaaAH03
import Derived.Test.YtnhcbjlaeaohjaaAN01
set_option linter.unusedSimpArgs false
set_option linter.unusedVariables false

namespace Go.Proofs.Ytnhcbjlaeaohjaa.Sep
open Go.RowKit
open Go.Proofs.Ytnhcbjlaeaohjaa.Mem (Dist Blk Chg below0)

end Go.Proofs.Ytnhcbjlaeaohjaa.Sep

namespace Go.Proofs.Ytnhcbjlaeaohjaa.Sep
open Go.RowKit
open Go.Proofs.Ytnhcbjlaeaohjaa.Mem (Dist Blk Chg below0)

end Go.Proofs.Ytnhcbjlaeaohjaa.Sep

namespace Go.Proofs.Ytnhcbjlaeaohjaa.Sep
open Go.RowKit
open Go.Proofs.Ytnhcbjlaeaohjaa.Mem (Dist Blk Chg below0)

set_option maxRecDepth 100000 in
theorem rpconly_true (w : World) (v : Value) (l : List UInt8) (b : Bool) (hv : Sl8 w v l) (hl : l.length + 4 ≤ 140737488355328) : Calls Try.prog 11 #[v, .bool b] w fun e w' => e = .returned (.bool true) ∧ Below w.heap.size w w' := by
  refine d_in (args := [v, .bool b]) 47 Try.func11 rfl rfl rfl ?_
  refine d_reg ?_
  refine h_q hflS rfl ?_
  refine h_done (d_seq ?_)
  cases b
  · skip
    obtain ⟨⟨m, en⟩, hD⟩ : ∃ R, decM l = R := ⟨_, rfl⟩
    refine d_reg ?_
    refine h_q hflS rfl ?_
    refine h_done (d_else rfl (d_skip (f_to (d_reg ?_))))
    refine h_q hflS rfl ?_
    refine h_act (post := fun (x : MsgV) => [Ents 36 x.ev x.es, Vec 5 1 encB x.dv x.m.d, fact (x.m = m ∧ x.m.es = x.es.map (·.e))]) rfl (a_doesU (Below.refl _ _) (fun _ h => h.elim) (os' := fun (x : MsgV) => [Ents 36 x.ev x.es, Vec 5 1 encB x.dv x.m.d, fact (x.m = m ∧ x.m.es = x.es.map (·.e))]) [] 0 (ent_of Try.func15 (by kernel_rfl) rfl) (decodeM_does w v l hv (by omega) m en hD) rfl rfl rfl (fun _ => rfl) rfl rfl rfl) ?_; rintro x
    refine WL2.fact 2 rfl (fun _ h => h.2) ?_; rintro ⟨hxm, hxe⟩
    refine WL2.leave [2] rfl rfl ?_
    refine h_q hflS rfl ?_
    refine h_act (post := fun g5 => [cell g5 28 #[.int .i64 0, .int .i64 0, .int .i64 0, .int .u64 0, .int .u64 0, .int .u64 0, .slice none 0 0, .int .u64 0, .bool false, .int .u64 0, .int .u64 0, .int .i64 0, .int .i64 0, .slice none 0 0, .bool false], Ents 36 x.ev x.es, Vec 5 1 encB x.dv x.m.d]) rfl (a_alloc ze_api_Msg rfl) ?_; rintro g5
    refine h_acts (post := fun _ => [cell g5 28 #[.int .i64 x.m.k, .int .i64 x.m.a, .int .i64 x.m.b, .int .u64 x.m.t, .int .u64 x.m.i, .int .u64 x.m.lt, x.ev, .int .u64 x.m.co, .bool x.m.rf, .int .u64 x.m.bi, .int .u64 x.m.bt, .int .i64 x.m.bc, .int .i64 x.m.o, x.dv, .bool x.m.la], Ents 36 x.ev x.es, Vec 5 1 encB x.dv x.m.d]) rfl rfl (a_store 0 (v := .agg #[.int .i64 x.m.k, .int .i64 x.m.a, .int .i64 x.m.b, .int .u64 x.m.t, .int .u64 x.m.i, .int .u64 x.m.lt, x.ev, .int .u64 x.m.co, .bool x.m.rf, .int .u64 x.m.bi, .int .u64 x.m.bt, .int .i64 x.m.bc, .int .i64 x.m.o, x.dv, .bool x.m.la]) #[.int .i64 x.m.k, .int .i64 x.m.a, .int .i64 x.m.b, .int .u64 x.m.t, .int .u64 x.m.i, .int .u64 x.m.lt, x.ev, .int .u64 x.m.co, .bool x.m.rf, .int .u64 x.m.bi, .int .u64 x.m.bt, .int .i64 x.m.bc, .int .i64 x.m.o, x.dv, .bool x.m.la] ty_api_Msg.2 rfl rfl rfl rfl rfl rfl rfl rfl rfl) ?_; rintro ⟨⟩
    refine h_q hflS rfl ?_
    refine h_done (d_seq ?_)
    have hb := decM_back l
    rw [hD] at hb
    rcases hb with ⟨he, hz⟩ | ⟨he, hr, hE, _⟩
    · skip
      have hz : m = .zero := hz
      refine d_reg ?_
      refine h_q hflS rfl ?_
      refine h_act (post := fun _ => [cell g5 28 #[.int .i64 x.m.k, .int .i64 x.m.a, .int .i64 x.m.b, .int .u64 x.m.t, .int .u64 x.m.i, .int .u64 x.m.lt, x.ev, .int .u64 x.m.co, .bool x.m.rf, .int .u64 x.m.bi, .int .u64 x.m.bt, .int .i64 x.m.bc, .int .i64 x.m.o, x.dv, .bool x.m.la], Ents 36 x.ev x.es, Vec 5 1 encB x.dv x.m.d]) rfl (a_call (ent_of Try.func17 (by kernel_rfl) rfl) (fun w hH => known6_true w) rfl rfl rfl) ?_; rintro ⟨⟩
      refine h_q hflS rfl ?_
      refine h_val rfl (.bool true) (fun b w hb hH => exec_cmp rfl rfl rfl (cmp_neq_t (by simp only at he; omega)) hb) ?_
      refine h_q hflS rfl ?_
      refine h_done (d_then rfl (d_reg ?_))
      refine h_q hflS rfl ?_
      refine h_act (post := fun _ => [cell g5 28 #[.int .i64 x.m.k, .int .i64 x.m.a, .int .i64 x.m.b, .int .u64 x.m.t, .int .u64 x.m.i, .int .u64 x.m.lt, x.ev, .int .u64 x.m.co, .bool x.m.rf, .int .u64 x.m.bi, .int .u64 x.m.bt, .int .i64 x.m.bc, .int .i64 x.m.o, x.dv, .bool x.m.la], Ents 36 x.ev x.es, Vec 5 1 encB x.dv x.m.d]) rfl (a_call (ent_of Try.func17 (by kernel_rfl) rfl) (fun w hH => known6_true w) rfl rfl rfl) ?_; rintro ⟨⟩
      refine h_q hflS rfl ?_
      refine h_val rfl (.agg #[.int .i64 x.m.k, .int .i64 x.m.a, .int .i64 x.m.b, .int .u64 x.m.t, .int .u64 x.m.i, .int .u64 x.m.lt, x.ev, .int .u64 x.m.co, .bool x.m.rf, .int .u64 x.m.bi, .int .u64 x.m.bt, .int .i64 x.m.bc, .int .i64 x.m.o, x.dv, .bool x.m.la]) (fun b w hb hH => exec_load rfl rfl (reads_agg (cs := [.int .i64 x.m.k, .int .i64 x.m.a, .int .i64 x.m.b, .int .u64 x.m.t, .int .u64 x.m.i, .int .u64 x.m.lt, x.ev, .int .u64 x.m.co, .bool x.m.rf, .int .u64 x.m.bi, .int .u64 x.m.bt, .int .i64 x.m.bc, .int .i64 x.m.o, x.dv, .bool x.m.la]) ty_api_Msg rfl) (hH.row 0 rfl) hb) ?_
      refine h_val rfl (.agg #[.int .i64 0, .int .i64 0, .int .i64 0, .int .u64 0, .int .u64 0, .int .u64 0, .slice none 0 0, .int .u64 0, .bool false, .int .u64 0, .int .u64 0, .int .i64 0, .int .i64 0, .slice none 0 0, .bool false]) (fun b w hb hH => exec_build rfl rfl (by kernel_rfl) hb) ?_
      refine h_act (post := fun _ => [cell g5 28 #[.int .i64 x.m.k, .int .i64 x.m.a, .int .i64 x.m.b, .int .u64 x.m.t, .int .u64 x.m.i, .int .u64 x.m.lt, x.ev, .int .u64 x.m.co, .bool x.m.rf, .int .u64 x.m.bi, .int .u64 x.m.bt, .int .i64 x.m.bc, .int .i64 x.m.o, x.dv, .bool x.m.la], Ents 36 x.ev x.es, Vec 5 1 encB x.dv x.m.d]) rfl (a_call (ent_of Try.func18 (by kernel_rfl) rfl) (fun w hH => samem_ok w x (⟨.zero, [], none, 0, none, 0⟩ : MsgV) (msgOk_dec hD hxm hxe (hH.ents 1 rfl) (hH.sl8 2 rfl)) (msgOk_zero w .zero rfl rfl zero_ok) (by rw [hxm]; exact hz.symm)) rfl rfl rfl) ?_; rintro ⟨⟩
      refine h_q hflS rfl ?_
      refine h_done (d_ret (f_then_ret ?_))
      exact f_fin1 (.tmp rfl) (fun w h => ⟨rfl, below0 h.up⟩) rfl
    · skip
      have hr : rightM m = true := hr
      refine d_reg ?_
      refine h_q hflS rfl ?_
      refine h_act (post := fun _ => [cell g5 28 #[.int .i64 x.m.k, .int .i64 x.m.a, .int .i64 x.m.b, .int .u64 x.m.t, .int .u64 x.m.i, .int .u64 x.m.lt, x.ev, .int .u64 x.m.co, .bool x.m.rf, .int .u64 x.m.bi, .int .u64 x.m.bt, .int .i64 x.m.bc, .int .i64 x.m.o, x.dv, .bool x.m.la], Ents 36 x.ev x.es, Vec 5 1 encB x.dv x.m.d]) rfl (a_call (ent_of Try.func17 (by kernel_rfl) rfl) (fun w hH => known6_true w) rfl rfl rfl) ?_; rintro ⟨⟩
      refine h_q hflS rfl ?_
      refine h_val rfl (.bool false) (fun b w hb hH => exec_cmp rfl rfl rfl (cmp_neq_f (by simp only at he; omega)) hb) ?_
      refine h_q hflS rfl ?_
      refine h_done (d_else rfl (d_skip (f_to (d_reg ?_))))
      refine h_q hflS rfl ?_
      refine h_val rfl (.agg #[.int .i64 x.m.k, .int .i64 x.m.a, .int .i64 x.m.b, .int .u64 x.m.t, .int .u64 x.m.i, .int .u64 x.m.lt, x.ev, .int .u64 x.m.co, .bool x.m.rf, .int .u64 x.m.bi, .int .u64 x.m.bt, .int .i64 x.m.bc, .int .i64 x.m.o, x.dv, .bool x.m.la]) (fun b w hb hH => exec_load rfl rfl (reads_agg (cs := [.int .i64 x.m.k, .int .i64 x.m.a, .int .i64 x.m.b, .int .u64 x.m.t, .int .u64 x.m.i, .int .u64 x.m.lt, x.ev, .int .u64 x.m.co, .bool x.m.rf, .int .u64 x.m.bi, .int .u64 x.m.bt, .int .i64 x.m.bc, .int .i64 x.m.o, x.dv, .bool x.m.la]) ty_api_Msg rfl) (hH.row 0 rfl) hb) ?_
      refine h_act (post := fun v1 => [Vec 5 1 encB v1 (encM x.m), cell g5 28 #[.int .i64 x.m.k, .int .i64 x.m.a, .int .i64 x.m.b, .int .u64 x.m.t, .int .u64 x.m.i, .int .u64 x.m.lt, x.ev, .int .u64 x.m.co, .bool x.m.rf, .int .u64 x.m.bi, .int .u64 x.m.bt, .int .i64 x.m.bc, .int .i64 x.m.o, x.dv, .bool x.m.la], Ents 36 x.ev x.es, Vec 5 1 encB x.dv x.m.d]) rfl (a_makes (os' := fun v1 => [Vec 5 1 encB v1 (encM x.m), cell g5 28 #[.int .i64 x.m.k, .int .i64 x.m.a, .int .i64 x.m.b, .int .u64 x.m.t, .int .u64 x.m.i, .int .u64 x.m.lt, x.ev, .int .u64 x.m.co, .bool x.m.rf, .int .u64 x.m.bi, .int .u64 x.m.bt, .int .i64 x.m.bc, .int .i64 x.m.o, x.dv, .bool x.m.la], Ents 36 x.ev x.es, Vec 5 1 encB x.dv x.m.d]) [] 0 (ent_of Try.func14 (by kernel_rfl) rfl) (fun w hH => encodeM_does w x (msgOk_dec hD hxm hxe (hH.ents 1 rfl) (hH.sl8 2 rfl)) (by rw [hxm]; exact hr)) rfl rfl rfl (fun _ => rfl) rfl rfl rfl) ?_; rintro v1
      refine h_q hflS rfl ?_
      refine h_done (d_reg ?_)
      refine h_q hflS rfl ?_
      refine h_val rfl (.agg #[.int .i64 x.m.k, .int .i64 x.m.a, .int .i64 x.m.b, .int .u64 x.m.t, .int .u64 x.m.i, .int .u64 x.m.lt, x.ev, .int .u64 x.m.co, .bool x.m.rf, .int .u64 x.m.bi, .int .u64 x.m.bt, .int .i64 x.m.bc, .int .i64 x.m.o, x.dv, .bool x.m.la]) (fun b w hb hH => exec_load rfl rfl (reads_agg (cs := [.int .i64 x.m.k, .int .i64 x.m.a, .int .i64 x.m.b, .int .u64 x.m.t, .int .u64 x.m.i, .int .u64 x.m.lt, x.ev, .int .u64 x.m.co, .bool x.m.rf, .int .u64 x.m.bi, .int .u64 x.m.bt, .int .i64 x.m.bc, .int .i64 x.m.o, x.dv, .bool x.m.la]) ty_api_Msg rfl) (hH.row 1 rfl) hb) ?_
      refine h_act (post := fun _ => [Vec 5 1 encB v1 (encM x.m), cell g5 28 #[.int .i64 x.m.k, .int .i64 x.m.a, .int .i64 x.m.b, .int .u64 x.m.t, .int .u64 x.m.i, .int .u64 x.m.lt, x.ev, .int .u64 x.m.co, .bool x.m.rf, .int .u64 x.m.bi, .int .u64 x.m.bt, .int .i64 x.m.bc, .int .i64 x.m.o, x.dv, .bool x.m.la], Ents 36 x.ev x.es, Vec 5 1 encB x.dv x.m.d]) rfl (a_call (ent_of Try.func19 (by kernel_rfl) rfl) (fun w hH => rightM_any w x (msgOk_dec hD hxm hxe (hH.ents 2 rfl) (hH.sl8 3 rfl)) true (by rw [hxm]; exact hr)) rfl rfl rfl) ?_; rintro ⟨⟩
      refine h_q hflS rfl ?_
      refine h_val rfl (.bool true) (fun b w hb hH => exec_cmp rfl rfl rfl (cmp_eql_t (by decide)) hb) ?_
      refine h_q hflS rfl ?_
      refine h_val rfl (.string (bs (encM x.m))) (fun b w hb hH => exec_str8 Try.underlying26 Try.underlying5 (by kernel_rfl) Try.underlying9 (hH.sl8 0 rfl) rfl rfl hb) ?_
      refine h_q hflS rfl ?_
      refine h_val rfl (.string (bs l)) (fun b w hb hH => exec_str8 Try.underlying26 Try.underlying5 (by kernel_rfl) Try.underlying9 (arg80 hv hH) rfl rfl hb) ?_
      refine h_val rfl (.bool true) (fun b w hb hH => exec_same rfl rfl rfl (by rw [hxm, show encM m = l from hE]; simp) hb) ?_
      refine h_q hflS rfl ?_
      refine h_done (d_ret ?_)
      exact f_fin1 (.tmp rfl) (fun w h => ⟨rfl, below0 h.up⟩) rfl
  · skip
    obtain ⟨L, hL⟩ : ∃ L, sealed l = L := ⟨_, rfl⟩
    have hLl : L.length = l.length + 4 := by rw [← hL, sealed_len]
    obtain ⟨⟨m, en⟩, hD⟩ : ∃ R, decM L = R := ⟨_, rfl⟩
    refine d_reg ?_
    refine h_q hflS rfl ?_
    refine h_done (d_then rfl (d_reg1 ?_))
    refine h_q hflS rfl ?_
    refine h_act (post := fun vb => [Vec 5 1 encB vb L]) rfl (a_doesU (Below.refl _ _) (fun _ h => h.elim) (os' := fun vb => [Vec 5 1 encB vb L]) [] 0 (ent_of Try.func32 (by kernel_rfl) rfl) (rseal_mk hv (by omega) L hL) rfl rfl rfl (fun _ => rfl) rfl rfl rfl) ?_; rintro vb
    refine h_q hflS rfl ?_
    refine h_nil (f_to (d_reg ?_))
    refine h_q hflS rfl ?_
    refine h_act (post := fun (x : MsgV) => [Ents 36 x.ev x.es, Vec 5 1 encB x.dv x.m.d, fact (x.m = m ∧ x.m.es = x.es.map (·.e)), Vec 5 1 encB vb L]) rfl (a_makes (os' := fun (x : MsgV) => [Ents 36 x.ev x.es, Vec 5 1 encB x.dv x.m.d, fact (x.m = m ∧ x.m.es = x.es.map (·.e)), Vec 5 1 encB vb L]) [] 0 (ent_of Try.func15 (by kernel_rfl) rfl) (fun w hH => decodeM_does w vb L (hH.sl8 0 rfl) (by omega) m en hD) rfl rfl rfl (fun _ => rfl) rfl rfl rfl) ?_; rintro x
    refine WL2.fact 2 rfl (fun _ h => h.2) ?_; rintro ⟨hxm, hxe⟩
    refine WL2.leave [2] rfl rfl ?_
    refine h_q hflS rfl ?_
    refine h_act (post := fun g5 => [cell g5 28 #[.int .i64 0, .int .i64 0, .int .i64 0, .int .u64 0, .int .u64 0, .int .u64 0, .slice none 0 0, .int .u64 0, .bool false, .int .u64 0, .int .u64 0, .int .i64 0, .int .i64 0, .slice none 0 0, .bool false], Ents 36 x.ev x.es, Vec 5 1 encB x.dv x.m.d, Vec 5 1 encB vb L]) rfl (a_alloc ze_api_Msg rfl) ?_; rintro g5
    refine h_acts (post := fun _ => [cell g5 28 #[.int .i64 x.m.k, .int .i64 x.m.a, .int .i64 x.m.b, .int .u64 x.m.t, .int .u64 x.m.i, .int .u64 x.m.lt, x.ev, .int .u64 x.m.co, .bool x.m.rf, .int .u64 x.m.bi, .int .u64 x.m.bt, .int .i64 x.m.bc, .int .i64 x.m.o, x.dv, .bool x.m.la], Ents 36 x.ev x.es, Vec 5 1 encB x.dv x.m.d, Vec 5 1 encB vb L]) rfl rfl (a_store 0 (v := .agg #[.int .i64 x.m.k, .int .i64 x.m.a, .int .i64 x.m.b, .int .u64 x.m.t, .int .u64 x.m.i, .int .u64 x.m.lt, x.ev, .int .u64 x.m.co, .bool x.m.rf, .int .u64 x.m.bi, .int .u64 x.m.bt, .int .i64 x.m.bc, .int .i64 x.m.o, x.dv, .bool x.m.la]) #[.int .i64 x.m.k, .int .i64 x.m.a, .int .i64 x.m.b, .int .u64 x.m.t, .int .u64 x.m.i, .int .u64 x.m.lt, x.ev, .int .u64 x.m.co, .bool x.m.rf, .int .u64 x.m.bi, .int .u64 x.m.bt, .int .i64 x.m.bc, .int .i64 x.m.o, x.dv, .bool x.m.la] ty_api_Msg.2 rfl rfl rfl rfl rfl rfl rfl rfl rfl) ?_; rintro ⟨⟩
    refine h_q hflS rfl ?_
    refine h_done (d_seq ?_)
    have hb := decM_back L
    rw [hD] at hb
    rcases hb with ⟨he, hz⟩ | ⟨he, hr, hE, _⟩
    · skip
      have hz : m = .zero := hz
      refine d_reg ?_
      refine h_q hflS rfl ?_
      refine h_act (post := fun _ => [cell g5 28 #[.int .i64 x.m.k, .int .i64 x.m.a, .int .i64 x.m.b, .int .u64 x.m.t, .int .u64 x.m.i, .int .u64 x.m.lt, x.ev, .int .u64 x.m.co, .bool x.m.rf, .int .u64 x.m.bi, .int .u64 x.m.bt, .int .i64 x.m.bc, .int .i64 x.m.o, x.dv, .bool x.m.la], Ents 36 x.ev x.es, Vec 5 1 encB x.dv x.m.d, Vec 5 1 encB vb L]) rfl (a_call (ent_of Try.func17 (by kernel_rfl) rfl) (fun w hH => known6_true w) rfl rfl rfl) ?_; rintro ⟨⟩
      refine h_q hflS rfl ?_
      refine h_val rfl (.bool true) (fun b w hb hH => exec_cmp rfl rfl rfl (cmp_neq_t (by simp only at he; omega)) hb) ?_
      refine h_q hflS rfl ?_
      refine h_done (d_then rfl (d_reg ?_))
      refine h_q hflS rfl ?_
      refine h_act (post := fun _ => [cell g5 28 #[.int .i64 x.m.k, .int .i64 x.m.a, .int .i64 x.m.b, .int .u64 x.m.t, .int .u64 x.m.i, .int .u64 x.m.lt, x.ev, .int .u64 x.m.co, .bool x.m.rf, .int .u64 x.m.bi, .int .u64 x.m.bt, .int .i64 x.m.bc, .int .i64 x.m.o, x.dv, .bool x.m.la], Ents 36 x.ev x.es, Vec 5 1 encB x.dv x.m.d, Vec 5 1 encB vb L]) rfl (a_call (ent_of Try.func17 (by kernel_rfl) rfl) (fun w hH => known6_true w) rfl rfl rfl) ?_; rintro ⟨⟩
      refine h_q hflS rfl ?_
      refine h_val rfl (.agg #[.int .i64 x.m.k, .int .i64 x.m.a, .int .i64 x.m.b, .int .u64 x.m.t, .int .u64 x.m.i, .int .u64 x.m.lt, x.ev, .int .u64 x.m.co, .bool x.m.rf, .int .u64 x.m.bi, .int .u64 x.m.bt, .int .i64 x.m.bc, .int .i64 x.m.o, x.dv, .bool x.m.la]) (fun b w hb hH => exec_load rfl rfl (reads_agg (cs := [.int .i64 x.m.k, .int .i64 x.m.a, .int .i64 x.m.b, .int .u64 x.m.t, .int .u64 x.m.i, .int .u64 x.m.lt, x.ev, .int .u64 x.m.co, .bool x.m.rf, .int .u64 x.m.bi, .int .u64 x.m.bt, .int .i64 x.m.bc, .int .i64 x.m.o, x.dv, .bool x.m.la]) ty_api_Msg rfl) (hH.row 0 rfl) hb) ?_
      refine h_val rfl (.agg #[.int .i64 0, .int .i64 0, .int .i64 0, .int .u64 0, .int .u64 0, .int .u64 0, .slice none 0 0, .int .u64 0, .bool false, .int .u64 0, .int .u64 0, .int .i64 0, .int .i64 0, .slice none 0 0, .bool false]) (fun b w hb hH => exec_build rfl rfl (by kernel_rfl) hb) ?_
      refine h_act (post := fun _ => [cell g5 28 #[.int .i64 x.m.k, .int .i64 x.m.a, .int .i64 x.m.b, .int .u64 x.m.t, .int .u64 x.m.i, .int .u64 x.m.lt, x.ev, .int .u64 x.m.co, .bool x.m.rf, .int .u64 x.m.bi, .int .u64 x.m.bt, .int .i64 x.m.bc, .int .i64 x.m.o, x.dv, .bool x.m.la], Ents 36 x.ev x.es, Vec 5 1 encB x.dv x.m.d, Vec 5 1 encB vb L]) rfl (a_call (ent_of Try.func18 (by kernel_rfl) rfl) (fun w hH => samem_ok w x (⟨.zero, [], none, 0, none, 0⟩ : MsgV) (msgOk_dec hD hxm hxe (hH.ents 1 rfl) (hH.sl8 2 rfl)) (msgOk_zero w .zero rfl rfl zero_ok) (by rw [hxm]; exact hz.symm)) rfl rfl rfl) ?_; rintro ⟨⟩
      refine h_q hflS rfl ?_
      refine h_done (d_ret (f_then_ret ?_))
      exact f_fin1 (.tmp rfl) (fun w h => ⟨rfl, below0 h.up⟩) rfl
    · skip
      have hr : rightM m = true := hr
      refine d_reg ?_
      refine h_q hflS rfl ?_
      refine h_act (post := fun _ => [cell g5 28 #[.int .i64 x.m.k, .int .i64 x.m.a, .int .i64 x.m.b, .int .u64 x.m.t, .int .u64 x.m.i, .int .u64 x.m.lt, x.ev, .int .u64 x.m.co, .bool x.m.rf, .int .u64 x.m.bi, .int .u64 x.m.bt, .int .i64 x.m.bc, .int .i64 x.m.o, x.dv, .bool x.m.la], Ents 36 x.ev x.es, Vec 5 1 encB x.dv x.m.d, Vec 5 1 encB vb L]) rfl (a_call (ent_of Try.func17 (by kernel_rfl) rfl) (fun w hH => known6_true w) rfl rfl rfl) ?_; rintro ⟨⟩
      refine h_q hflS rfl ?_
      refine h_val rfl (.bool false) (fun b w hb hH => exec_cmp rfl rfl rfl (cmp_neq_f (by simp only at he; omega)) hb) ?_
      refine h_q hflS rfl ?_
      refine h_done (d_else rfl (d_skip (f_to (d_reg ?_))))
      refine h_q hflS rfl ?_
      refine h_val rfl (.agg #[.int .i64 x.m.k, .int .i64 x.m.a, .int .i64 x.m.b, .int .u64 x.m.t, .int .u64 x.m.i, .int .u64 x.m.lt, x.ev, .int .u64 x.m.co, .bool x.m.rf, .int .u64 x.m.bi, .int .u64 x.m.bt, .int .i64 x.m.bc, .int .i64 x.m.o, x.dv, .bool x.m.la]) (fun b w hb hH => exec_load rfl rfl (reads_agg (cs := [.int .i64 x.m.k, .int .i64 x.m.a, .int .i64 x.m.b, .int .u64 x.m.t, .int .u64 x.m.i, .int .u64 x.m.lt, x.ev, .int .u64 x.m.co, .bool x.m.rf, .int .u64 x.m.bi, .int .u64 x.m.bt, .int .i64 x.m.bc, .int .i64 x.m.o, x.dv, .bool x.m.la]) ty_api_Msg rfl) (hH.row 0 rfl) hb) ?_
      refine h_act (post := fun v1 => [Vec 5 1 encB v1 (encM x.m), cell g5 28 #[.int .i64 x.m.k, .int .i64 x.m.a, .int .i64 x.m.b, .int .u64 x.m.t, .int .u64 x.m.i, .int .u64 x.m.lt, x.ev, .int .u64 x.m.co, .bool x.m.rf, .int .u64 x.m.bi, .int .u64 x.m.bt, .int .i64 x.m.bc, .int .i64 x.m.o, x.dv, .bool x.m.la], Ents 36 x.ev x.es, Vec 5 1 encB x.dv x.m.d, Vec 5 1 encB vb L]) rfl (a_makes (os' := fun v1 => [Vec 5 1 encB v1 (encM x.m), cell g5 28 #[.int .i64 x.m.k, .int .i64 x.m.a, .int .i64 x.m.b, .int .u64 x.m.t, .int .u64 x.m.i, .int .u64 x.m.lt, x.ev, .int .u64 x.m.co, .bool x.m.rf, .int .u64 x.m.bi, .int .u64 x.m.bt, .int .i64 x.m.bc, .int .i64 x.m.o, x.dv, .bool x.m.la], Ents 36 x.ev x.es, Vec 5 1 encB x.dv x.m.d, Vec 5 1 encB vb L]) [] 0 (ent_of Try.func14 (by kernel_rfl) rfl) (fun w hH => encodeM_does w x (msgOk_dec hD hxm hxe (hH.ents 1 rfl) (hH.sl8 2 rfl)) (by rw [hxm]; exact hr)) rfl rfl rfl (fun _ => rfl) rfl rfl rfl) ?_; rintro v1
      refine h_q hflS rfl ?_
      refine h_done (d_reg ?_)
      refine h_q hflS rfl ?_
      refine h_val rfl (.agg #[.int .i64 x.m.k, .int .i64 x.m.a, .int .i64 x.m.b, .int .u64 x.m.t, .int .u64 x.m.i, .int .u64 x.m.lt, x.ev, .int .u64 x.m.co, .bool x.m.rf, .int .u64 x.m.bi, .int .u64 x.m.bt, .int .i64 x.m.bc, .int .i64 x.m.o, x.dv, .bool x.m.la]) (fun b w hb hH => exec_load rfl rfl (reads_agg (cs := [.int .i64 x.m.k, .int .i64 x.m.a, .int .i64 x.m.b, .int .u64 x.m.t, .int .u64 x.m.i, .int .u64 x.m.lt, x.ev, .int .u64 x.m.co, .bool x.m.rf, .int .u64 x.m.bi, .int .u64 x.m.bt, .int .i64 x.m.bc, .int .i64 x.m.o, x.dv, .bool x.m.la]) ty_api_Msg rfl) (hH.row 1 rfl) hb) ?_
      refine h_act (post := fun _ => [Vec 5 1 encB v1 (encM x.m), cell g5 28 #[.int .i64 x.m.k, .int .i64 x.m.a, .int .i64 x.m.b, .int .u64 x.m.t, .int .u64 x.m.i, .int .u64 x.m.lt, x.ev, .int .u64 x.m.co, .bool x.m.rf, .int .u64 x.m.bi, .int .u64 x.m.bt, .int .i64 x.m.bc, .int .i64 x.m.o, x.dv, .bool x.m.la], Ents 36 x.ev x.es, Vec 5 1 encB x.dv x.m.d, Vec 5 1 encB vb L]) rfl (a_call (ent_of Try.func19 (by kernel_rfl) rfl) (fun w hH => rightM_any w x (msgOk_dec hD hxm hxe (hH.ents 2 rfl) (hH.sl8 3 rfl)) true (by rw [hxm]; exact hr)) rfl rfl rfl) ?_; rintro ⟨⟩
      refine h_q hflS rfl ?_
      refine h_val rfl (.bool true) (fun b w hb hH => exec_cmp rfl rfl rfl (cmp_eql_t (by decide)) hb) ?_
      refine h_q hflS rfl ?_
      refine h_val rfl (.string (bs (encM x.m))) (fun b w hb hH => exec_str8 Try.underlying26 Try.underlying5 (by kernel_rfl) Try.underlying9 (hH.sl8 0 rfl) rfl rfl hb) ?_
      refine h_q hflS rfl ?_
      refine h_val rfl (.string (bs L)) (fun b w hb hH => exec_str8 Try.underlying26 Try.underlying5 (by kernel_rfl) Try.underlying9 (hH.sl8 4 rfl) rfl rfl hb) ?_
      refine h_val rfl (.bool true) (fun b w hb hH => exec_same rfl rfl rfl (by rw [hxm, show encM m = L from hE]; simp) hb) ?_
      refine h_q hflS rfl ?_
      refine h_done (d_ret ?_)
      exact f_fin1 (.tmp rfl) (fun w h => ⟨rfl, below0 h.up⟩) rfl

end Go.Proofs.Ytnhcbjlaeaohjaa.Sep
