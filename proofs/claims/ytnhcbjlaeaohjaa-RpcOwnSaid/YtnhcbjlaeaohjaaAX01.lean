/-
  RpcX
-/
import Derived.Test.YtnhcbjlaeaohjaaAN01
set_option linter.unusedSimpArgs false
set_option linter.unusedVariables false

namespace Go.Proofs.Ytnhcbjlaeaohjaa.Sep
open Go.RowKit
open Go.Proofs.Ytnhcbjlaeaohjaa.Mem (Dist Blk Chg below0)

theorem each_start {l : List EntV} : ∀ rs, Parts [Each (fun x : EntV => Vec 5 1 encB x.v x.e.d) l] rs → Each (fun x : EntV × List UInt8 => Vec 5 1 encB x.1.v x.2) (l.map fun x => (x, x.e.d)) rs := fun rs h => by
  refine each_map ?_ rs h.one'
  rw [List.map_map]
  rfl
theorem at_pair {l : List (EntV × List UInt8)} {es : List EntV} {i : Nat} {e : EntV} (h : l.map (·.1) = es) (he : es[i]? = some e) : ∃ d, l[i]? = some (e, d) := by
  rw [← h, List.getElem?_map] at he
  cases hx : l[i]? with
  | none => rw [hx] at he; simp at he
  | some y =>
    rw [hx] at he
    simp only [Option.map_some, Option.some.injEq] at he
    exact ⟨y.2, by rw [← he]⟩
theorem pair_back {l : List (EntV × List UInt8)} {es : List EntV} {i : Nat} {e : EntV} {d : List UInt8} (h : l.map (·.1) = es) (he : es[i]? = some e) : (l.take i ++ (e, d) :: l.drop (i + 1)).map (·.1) = es := by
  rw [List.map_append, List.map_cons, List.map_take, List.map_drop, h, ← drop_at he, List.take_append_drop]

set_option maxRecDepth 100000 in
theorem rpcown_true (w : World) (x : MsgV) (hx : MsgOk w x) : Calls Try.prog 13 #[.agg #[.int .i64 x.m.k, .int .i64 x.m.a, .int .i64 x.m.b, .int .u64 x.m.t, .int .u64 x.m.i, .int .u64 x.m.lt, x.ev, .int .u64 x.m.co, .bool x.m.rf, .int .u64 x.m.bi, .int .u64 x.m.bt, .int .i64 x.m.bc, .int .i64 x.m.o, x.dv, .bool x.m.la]] w fun e w' => e = .returned (.bool true) ∧ Below w.heap.size w w' := by
  refine d_in (args := [.agg #[.int .i64 x.m.k, .int .i64 x.m.a, .int .i64 x.m.b, .int .u64 x.m.t, .int .u64 x.m.i, .int .u64 x.m.lt, x.ev, .int .u64 x.m.co, .bool x.m.rf, .int .u64 x.m.bi, .int .u64 x.m.bt, .int .i64 x.m.bc, .int .i64 x.m.o, x.dv, .bool x.m.la]]) 83 Try.func13 rfl rfl rfl ?_
  refine d_reg ?_
  refine h_q hflS rfl ?_
  refine h_act (post := fun g1 => [cell g1 28 #[.int .i64 x.m.k, .int .i64 x.m.a, .int .i64 x.m.b, .int .u64 x.m.t, .int .u64 x.m.i, .int .u64 x.m.lt, x.ev, .int .u64 x.m.co, .bool x.m.rf, .int .u64 x.m.bi, .int .u64 x.m.bt, .int .i64 x.m.bc, .int .i64 x.m.o, x.dv, .bool x.m.la]]) rfl (a_box (cs := #[.int .i64 x.m.k, .int .i64 x.m.a, .int .i64 x.m.b, .int .u64 x.m.t, .int .u64 x.m.i, .int .u64 x.m.lt, x.ev, .int .u64 x.m.co, .bool x.m.rf, .int .u64 x.m.bi, .int .u64 x.m.bt, .int .i64 x.m.bc, .int .i64 x.m.o, x.dv, .bool x.m.la]) rfl rfl rfl) ?_; rintro g1
  refine h_q hflS rfl ?_
  refine h_done ?_
  rcases Bool.eq_false_or_eq_true (rightM x.m) with hr | hr
  · skip
    have hlen : (encM x.m).length ≤ 1024 := encM_len hx.ok hr
    refine d_reg ?_
    refine h_q hflS rfl ?_
    refine h_val rfl (.agg #[.int .i64 x.m.k, .int .i64 x.m.a, .int .i64 x.m.b, .int .u64 x.m.t, .int .u64 x.m.i, .int .u64 x.m.lt, x.ev, .int .u64 x.m.co, .bool x.m.rf, .int .u64 x.m.bi, .int .u64 x.m.bt, .int .i64 x.m.bc, .int .i64 x.m.o, x.dv, .bool x.m.la]) (fun b w hb hH => exec_load rfl rfl (reads_agg (cs := [.int .i64 x.m.k, .int .i64 x.m.a, .int .i64 x.m.b, .int .u64 x.m.t, .int .u64 x.m.i, .int .u64 x.m.lt, x.ev, .int .u64 x.m.co, .bool x.m.rf, .int .u64 x.m.bi, .int .u64 x.m.bt, .int .i64 x.m.bc, .int .i64 x.m.o, x.dv, .bool x.m.la]) ty_api_Msg rfl) (hH.row 0 rfl) hb) ?_
    refine h_act (post := fun v1 => [Vec 5 1 encB v1 (encM x.m), cell g1 28 #[.int .i64 x.m.k, .int .i64 x.m.a, .int .i64 x.m.b, .int .u64 x.m.t, .int .u64 x.m.i, .int .u64 x.m.lt, x.ev, .int .u64 x.m.co, .bool x.m.rf, .int .u64 x.m.bi, .int .u64 x.m.bt, .int .i64 x.m.bc, .int .i64 x.m.o, x.dv, .bool x.m.la]]) rfl (a_doesU (Below.refl _ _) (fun _ h => h.elim) (os' := fun v1 => [Vec 5 1 encB v1 (encM x.m), cell g1 28 #[.int .i64 x.m.k, .int .i64 x.m.a, .int .i64 x.m.b, .int .u64 x.m.t, .int .u64 x.m.i, .int .u64 x.m.lt, x.ev, .int .u64 x.m.co, .bool x.m.rf, .int .u64 x.m.bi, .int .u64 x.m.bt, .int .i64 x.m.bc, .int .i64 x.m.o, x.dv, .bool x.m.la]]) [] 0 (ent_of Try.func31 (by kernel_rfl) rfl) (rencodeM_does w x hx hr) rfl rfl rfl (fun _ => rfl) rfl rfl rfl) ?_; rintro v1
    refine h_q hflS rfl ?_
    refine h_done (d_seq (d_reg ?_))
    refine h_q hflS rfl ?_
    refine h_val rfl (.bool false) (fun b w hb hH => exec_cmp rfl rfl rfl (cmp_neq_f (by decide)) hb) ?_
    refine h_done (d_else rfl (d_skip (f_to (d_reg ?_))))
    refine h_q hflS rfl ?_
    refine h_act (post := fun (p : MsgV) => [Ents 36 p.ev p.es, Vec 5 1 encB p.dv p.m.d, fact (p.m = x.m ∧ p.m.es = p.es.map (·.e)), Vec 5 1 encB v1 (encM x.m), cell g1 28 #[.int .i64 x.m.k, .int .i64 x.m.a, .int .i64 x.m.b, .int .u64 x.m.t, .int .u64 x.m.i, .int .u64 x.m.lt, x.ev, .int .u64 x.m.co, .bool x.m.rf, .int .u64 x.m.bi, .int .u64 x.m.bt, .int .i64 x.m.bc, .int .i64 x.m.o, x.dv, .bool x.m.la]]) rfl (a_makes (os' := fun (p : MsgV) => [Ents 36 p.ev p.es, Vec 5 1 encB p.dv p.m.d, fact (p.m = x.m ∧ p.m.es = p.es.map (·.e)), Vec 5 1 encB v1 (encM x.m), cell g1 28 #[.int .i64 x.m.k, .int .i64 x.m.a, .int .i64 x.m.b, .int .u64 x.m.t, .int .u64 x.m.i, .int .u64 x.m.lt, x.ev, .int .u64 x.m.co, .bool x.m.rf, .int .u64 x.m.bi, .int .u64 x.m.bt, .int .i64 x.m.bc, .int .i64 x.m.o, x.dv, .bool x.m.la]]) [] 0 (ent_of Try.func15 (by kernel_rfl) rfl) (fun w hH => decodeM_does w v1 (encM x.m) (hH.sl8 0 rfl) (by omega) x.m 0 (decM_lay hx.ok hr)) rfl rfl rfl (fun _ => rfl) rfl rfl rfl) ?_; rintro p
    refine WL2.fact 2 rfl (fun _ h => h.2) ?_; rintro ⟨hpm, hpe⟩
    refine WL2.leave [2] rfl rfl ?_
    refine h_q hflS rfl ?_
    refine h_act (post := fun g5 => [cell g5 28 #[.int .i64 0, .int .i64 0, .int .i64 0, .int .u64 0, .int .u64 0, .int .u64 0, .slice none 0 0, .int .u64 0, .bool false, .int .u64 0, .int .u64 0, .int .i64 0, .int .i64 0, .slice none 0 0, .bool false], Ents 36 p.ev p.es, Vec 5 1 encB p.dv p.m.d, Vec 5 1 encB v1 (encM x.m), cell g1 28 #[.int .i64 x.m.k, .int .i64 x.m.a, .int .i64 x.m.b, .int .u64 x.m.t, .int .u64 x.m.i, .int .u64 x.m.lt, x.ev, .int .u64 x.m.co, .bool x.m.rf, .int .u64 x.m.bi, .int .u64 x.m.bt, .int .i64 x.m.bc, .int .i64 x.m.o, x.dv, .bool x.m.la]]) rfl (a_alloc ze_api_Msg rfl) ?_; rintro g5
    refine h_acts (post := fun _ => [cell g5 28 #[.int .i64 p.m.k, .int .i64 p.m.a, .int .i64 p.m.b, .int .u64 p.m.t, .int .u64 p.m.i, .int .u64 p.m.lt, p.ev, .int .u64 p.m.co, .bool p.m.rf, .int .u64 p.m.bi, .int .u64 p.m.bt, .int .i64 p.m.bc, .int .i64 p.m.o, p.dv, .bool p.m.la], Ents 36 p.ev p.es, Vec 5 1 encB p.dv p.m.d, Vec 5 1 encB v1 (encM x.m), cell g1 28 #[.int .i64 x.m.k, .int .i64 x.m.a, .int .i64 x.m.b, .int .u64 x.m.t, .int .u64 x.m.i, .int .u64 x.m.lt, x.ev, .int .u64 x.m.co, .bool x.m.rf, .int .u64 x.m.bi, .int .u64 x.m.bt, .int .i64 x.m.bc, .int .i64 x.m.o, x.dv, .bool x.m.la]]) rfl rfl (a_store 0 (v := .agg #[.int .i64 p.m.k, .int .i64 p.m.a, .int .i64 p.m.b, .int .u64 p.m.t, .int .u64 p.m.i, .int .u64 p.m.lt, p.ev, .int .u64 p.m.co, .bool p.m.rf, .int .u64 p.m.bi, .int .u64 p.m.bt, .int .i64 p.m.bc, .int .i64 p.m.o, p.dv, .bool p.m.la]) #[.int .i64 p.m.k, .int .i64 p.m.a, .int .i64 p.m.b, .int .u64 p.m.t, .int .u64 p.m.i, .int .u64 p.m.lt, p.ev, .int .u64 p.m.co, .bool p.m.rf, .int .u64 p.m.bi, .int .u64 p.m.bt, .int .i64 p.m.bc, .int .i64 p.m.o, p.dv, .bool p.m.la] ty_api_Msg.2 rfl rfl rfl rfl rfl rfl rfl rfl rfl) ?_; rintro ⟨⟩
    refine h_q hflS rfl ?_
    refine h_done (d_reg ?_)
    refine h_q hflS rfl ?_
    refine h_act (post := fun (z : MsgV) => [Ents 36 z.ev z.es, Vec 5 1 encB z.dv z.m.d, fact (z.m = x.m ∧ z.m.es = z.es.map (·.e)), cell g5 28 #[.int .i64 p.m.k, .int .i64 p.m.a, .int .i64 p.m.b, .int .u64 p.m.t, .int .u64 p.m.i, .int .u64 p.m.lt, p.ev, .int .u64 p.m.co, .bool p.m.rf, .int .u64 p.m.bi, .int .u64 p.m.bt, .int .i64 p.m.bc, .int .i64 p.m.o, p.dv, .bool p.m.la], Ents 36 p.ev p.es, Vec 5 1 encB p.dv p.m.d, Vec 5 1 encB v1 (encM x.m), cell g1 28 #[.int .i64 x.m.k, .int .i64 x.m.a, .int .i64 x.m.b, .int .u64 x.m.t, .int .u64 x.m.i, .int .u64 x.m.lt, x.ev, .int .u64 x.m.co, .bool x.m.rf, .int .u64 x.m.bi, .int .u64 x.m.bt, .int .i64 x.m.bc, .int .i64 x.m.o, x.dv, .bool x.m.la]]) rfl (a_makes (os' := fun (z : MsgV) => [Ents 36 z.ev z.es, Vec 5 1 encB z.dv z.m.d, fact (z.m = x.m ∧ z.m.es = z.es.map (·.e)), cell g5 28 #[.int .i64 p.m.k, .int .i64 p.m.a, .int .i64 p.m.b, .int .u64 p.m.t, .int .u64 p.m.i, .int .u64 p.m.lt, p.ev, .int .u64 p.m.co, .bool p.m.rf, .int .u64 p.m.bi, .int .u64 p.m.bt, .int .i64 p.m.bc, .int .i64 p.m.o, p.dv, .bool p.m.la], Ents 36 p.ev p.es, Vec 5 1 encB p.dv p.m.d, Vec 5 1 encB v1 (encM x.m), cell g1 28 #[.int .i64 x.m.k, .int .i64 x.m.a, .int .i64 x.m.b, .int .u64 x.m.t, .int .u64 x.m.i, .int .u64 x.m.lt, x.ev, .int .u64 x.m.co, .bool x.m.rf, .int .u64 x.m.bi, .int .u64 x.m.bt, .int .i64 x.m.bc, .int .i64 x.m.o, x.dv, .bool x.m.la]]) [] 0 (ent_of Try.func15 (by kernel_rfl) rfl) (fun w hH => decodeM_does w v1 (encM x.m) (hH.sl8 3 rfl) (by omega) x.m 0 (decM_lay hx.ok hr)) rfl rfl rfl (fun _ => rfl) rfl rfl rfl) ?_; rintro z
    refine WL2.fact 2 rfl (fun _ h => h.2) ?_; rintro ⟨hzm, hze⟩
    refine WL2.leave [2] rfl rfl ?_
    refine h_q hflS rfl ?_
    refine h_act (post := fun g7 => [cell g7 28 #[.int .i64 0, .int .i64 0, .int .i64 0, .int .u64 0, .int .u64 0, .int .u64 0, .slice none 0 0, .int .u64 0, .bool false, .int .u64 0, .int .u64 0, .int .i64 0, .int .i64 0, .slice none 0 0, .bool false], Ents 36 z.ev z.es, Vec 5 1 encB z.dv z.m.d, cell g5 28 #[.int .i64 p.m.k, .int .i64 p.m.a, .int .i64 p.m.b, .int .u64 p.m.t, .int .u64 p.m.i, .int .u64 p.m.lt, p.ev, .int .u64 p.m.co, .bool p.m.rf, .int .u64 p.m.bi, .int .u64 p.m.bt, .int .i64 p.m.bc, .int .i64 p.m.o, p.dv, .bool p.m.la], Ents 36 p.ev p.es, Vec 5 1 encB p.dv p.m.d, Vec 5 1 encB v1 (encM x.m), cell g1 28 #[.int .i64 x.m.k, .int .i64 x.m.a, .int .i64 x.m.b, .int .u64 x.m.t, .int .u64 x.m.i, .int .u64 x.m.lt, x.ev, .int .u64 x.m.co, .bool x.m.rf, .int .u64 x.m.bi, .int .u64 x.m.bt, .int .i64 x.m.bc, .int .i64 x.m.o, x.dv, .bool x.m.la]]) rfl (a_alloc ze_api_Msg rfl) ?_; rintro g7
    refine h_acts (post := fun _ => [cell g7 28 #[.int .i64 z.m.k, .int .i64 z.m.a, .int .i64 z.m.b, .int .u64 z.m.t, .int .u64 z.m.i, .int .u64 z.m.lt, z.ev, .int .u64 z.m.co, .bool z.m.rf, .int .u64 z.m.bi, .int .u64 z.m.bt, .int .i64 z.m.bc, .int .i64 z.m.o, z.dv, .bool z.m.la], Ents 36 z.ev z.es, Vec 5 1 encB z.dv z.m.d, cell g5 28 #[.int .i64 p.m.k, .int .i64 p.m.a, .int .i64 p.m.b, .int .u64 p.m.t, .int .u64 p.m.i, .int .u64 p.m.lt, p.ev, .int .u64 p.m.co, .bool p.m.rf, .int .u64 p.m.bi, .int .u64 p.m.bt, .int .i64 p.m.bc, .int .i64 p.m.o, p.dv, .bool p.m.la], Ents 36 p.ev p.es, Vec 5 1 encB p.dv p.m.d, Vec 5 1 encB v1 (encM x.m), cell g1 28 #[.int .i64 x.m.k, .int .i64 x.m.a, .int .i64 x.m.b, .int .u64 x.m.t, .int .u64 x.m.i, .int .u64 x.m.lt, x.ev, .int .u64 x.m.co, .bool x.m.rf, .int .u64 x.m.bi, .int .u64 x.m.bt, .int .i64 x.m.bc, .int .i64 x.m.o, x.dv, .bool x.m.la]]) rfl rfl (a_store 0 (v := .agg #[.int .i64 z.m.k, .int .i64 z.m.a, .int .i64 z.m.b, .int .u64 z.m.t, .int .u64 z.m.i, .int .u64 z.m.lt, z.ev, .int .u64 z.m.co, .bool z.m.rf, .int .u64 z.m.bi, .int .u64 z.m.bt, .int .i64 z.m.bc, .int .i64 z.m.o, z.dv, .bool z.m.la]) #[.int .i64 z.m.k, .int .i64 z.m.a, .int .i64 z.m.b, .int .u64 z.m.t, .int .u64 z.m.i, .int .u64 z.m.lt, z.ev, .int .u64 z.m.co, .bool z.m.rf, .int .u64 z.m.bi, .int .u64 z.m.bt, .int .i64 z.m.bc, .int .i64 z.m.o, z.dv, .bool z.m.la] ty_api_Msg.2 rfl rfl rfl rfl rfl rfl rfl rfl rfl) ?_; rintro ⟨⟩
    refine h_q hflS rfl ?_
    refine h_done (d_seq ?_)
    have hin := decM_in (decM_lay hx.ok hr)
    have hpd : p.m.d.length ≤ 256 := by rw [hpm]; exact hin.2.2.2
    have hpl : p.es.length ≤ 4 := by have h := hin.2.1; rw [← hpm, hpe, List.length_map] at h; exact h
    have hsm : ∀ y ∈ p.es.map fun x => (x, x.e.d), y.2.length ≤ 256 := fun y hy => by
          obtain ⟨q, hq, rfl⟩ := List.mem_map.1 hy
          have h1 := hin.2.2.1 q.e (by rw [← hpm, hpe]; exact List.mem_map_of_mem hq)
          have h2 := (rightE_iff h1).2.2
          show q.e.d.length ≤ 256
          rcases h2 with ⟨_, h, _⟩ | ⟨_, _, h, _⟩ | ⟨_, h, _⟩
          · rw [h]; simp
          · omega
          · rw [h]; simp
    refine d_reg ?_
    refine h_q hflS rfl ?_
    refine h_done (d_block ?_)
    refine d_open 4 rfl ents_open (fun _ => rfl) ?_; rintro ⟨⟩
    refine d_close [1] rfl each_start rfl ?_
    refine d_loop (α := Nat × List (EntV × List UInt8)) (fun ⟨i, l⟩ => [(1, .pointer (some ⟨g1, 0, none⟩)), (2, .bool false), (3, v1), (5, .pointer (some ⟨g5, 0, none⟩)), (7, .pointer (some ⟨g7, 0, none⟩)), (9, .int .i64 ((i : Nat) : Int))]) (fun ⟨i, l⟩ => [Each (fun x : EntV × List UInt8 => Vec 5 1 encB x.1.v x.2) l, Vec 36 5 encV p.ev p.es, cell g7 28 #[.int .i64 z.m.k, .int .i64 z.m.a, .int .i64 z.m.b, .int .u64 z.m.t, .int .u64 z.m.i, .int .u64 z.m.lt, z.ev, .int .u64 z.m.co, .bool z.m.rf, .int .u64 z.m.bi, .int .u64 z.m.bt, .int .i64 z.m.bc, .int .i64 z.m.o, z.dv, .bool z.m.la], Ents 36 z.ev z.es, Vec 5 1 encB z.dv z.m.d, cell g5 28 #[.int .i64 p.m.k, .int .i64 p.m.a, .int .i64 p.m.b, .int .u64 p.m.t, .int .u64 p.m.i, .int .u64 p.m.lt, p.ev, .int .u64 p.m.co, .bool p.m.rf, .int .u64 p.m.bi, .int .u64 p.m.bt, .int .i64 p.m.bc, .int .i64 p.m.o, p.dv, .bool p.m.la], Vec 5 1 encB p.dv p.m.d, Vec 5 1 encB v1 (encM x.m), cell g1 28 #[.int .i64 x.m.k, .int .i64 x.m.a, .int .i64 x.m.b, .int .u64 x.m.t, .int .u64 x.m.i, .int .u64 x.m.lt, x.ev, .int .u64 x.m.co, .bool x.m.rf, .int .u64 x.m.bi, .int .u64 x.m.bt, .int .i64 x.m.bc, .int .i64 x.m.o, x.dv, .bool x.m.la]]) (fun ⟨i, l⟩ => i ≤ p.es.length ∧ l.map (·.1) = p.es ∧ (∀ y ∈ l, y.2.length ≤ 256)) (fun ⟨i, l⟩ => p.es.length - i) (0, p.es.map fun x => (x, x.e.d)) ⟨Nat.zero_le _, by rw [List.map_map]; exact List.map_id _, hsm⟩ ⟨rfl, rfl, rfl, rfl, rfl, rfl, trivial⟩ rfl ?_
    rintro ⟨i, l⟩ hI
    refine WC2.at_ (env' := [(1, .pointer (some ⟨g1, 0, none⟩)), (2, .bool false), (3, v1), (5, .pointer (some ⟨g5, 0, none⟩)), (7, .pointer (some ⟨g7, 0, none⟩)), (9, .int .i64 ((i : Nat) : Int))]) (rs' := [Each (fun x : EntV × List UInt8 => Vec 5 1 encB x.1.v x.2) l, Vec 36 5 encV p.ev p.es, cell g7 28 #[.int .i64 z.m.k, .int .i64 z.m.a, .int .i64 z.m.b, .int .u64 z.m.t, .int .u64 z.m.i, .int .u64 z.m.lt, z.ev, .int .u64 z.m.co, .bool z.m.rf, .int .u64 z.m.bi, .int .u64 z.m.bt, .int .i64 z.m.bc, .int .i64 z.m.o, z.dv, .bool z.m.la], Ents 36 z.ev z.es, Vec 5 1 encB z.dv z.m.d, cell g5 28 #[.int .i64 p.m.k, .int .i64 p.m.a, .int .i64 p.m.b, .int .u64 p.m.t, .int .u64 p.m.i, .int .u64 p.m.lt, p.ev, .int .u64 p.m.co, .bool p.m.rf, .int .u64 p.m.bi, .int .u64 p.m.bt, .int .i64 p.m.bc, .int .i64 p.m.o, p.dv, .bool p.m.la], Vec 5 1 encB p.dv p.m.d, Vec 5 1 encB v1 (encM x.m), cell g1 28 #[.int .i64 x.m.k, .int .i64 x.m.a, .int .i64 x.m.b, .int .u64 x.m.t, .int .u64 x.m.i, .int .u64 x.m.lt, x.ev, .int .u64 x.m.co, .bool x.m.rf, .int .u64 x.m.bi, .int .u64 x.m.bt, .int .i64 x.m.bc, .int .i64 x.m.o, x.dv, .bool x.m.la]]) ⟨rfl, rfl, rfl, rfl, rfl, rfl, trivial⟩ rfl ?_
    have hI1 : i ≤ p.es.length := hI.1
    have hI2 : l.map (·.1) = p.es := hI.2.1
    have hI3 := hI.2.2
    refine d_seq ?_
    rcases Nat.lt_or_ge i p.es.length with hi | hi
    · skip
      obtain ⟨e, he⟩ : ∃ e, p.es[i]? = some e := ⟨_, List.getElem?_eq_getElem hi⟩
      obtain ⟨d0, hx0⟩ := at_pair hI2 he
      have hd0 : d0.length ≤ 256 := hI3 (e, d0) (List.mem_of_getElem? hx0)
      refine d_reg ?_
      refine h_q hflS rfl ?_
      refine h_val rfl (p.ev) (fun b w hb hH => exec_load rfl rfl (reads_one ty_s_api_Entry rfl) (hH.row 5 rfl) hb) ?_
      refine h_val rfl (.int .i64 (p.es.length : Int)) (fun b w hb hH => e_slen (hH.vec 1 rfl okV) Try.underlying23 rfl rfl hb) ?_
      refine h_val rfl (.bool true) (fun b w hb hH => exec_cmp rfl rfl rfl (cmp_lss_t (by omega)) hb) ?_
      refine h_done (d_then rfl (d_skip (f_to (d_seq (d_block ?_)))))
      refine d_open 0 rfl (each_open hx0) (fun _ => rfl) ?_; rintro ⟨⟩
      refine WC2.keep (env' := [(1, .pointer (some ⟨g1, 0, none⟩)), (2, .bool false), (3, v1), (5, .pointer (some ⟨g5, 0, none⟩)), (7, .pointer (some ⟨g7, 0, none⟩)), (9, .int .i64 ((i : Nat) : Int)), (31, .int .i64 ((i : Nat) : Int)), (32, .pointer (some ⟨g5, 6, none⟩)), (33, p.ev), (34, .int .i64 (p.es.length : Int)), (35, .bool true)]) ⟨rfl, rfl, rfl, rfl, rfl, rfl, rfl, rfl, rfl, rfl, rfl, trivial⟩ ?_
      refine WC2.mid [Each (fun x : EntV × List UInt8 => Vec 5 1 encB x.1.v x.2) (l.take i), Vec 5 1 encB e.v d0, Each (fun x : EntV × List UInt8 => Vec 5 1 encB x.1.v x.2) (l.drop (i + 1)), Vec 36 5 encV p.ev p.es, cell g7 28 #[.int .i64 z.m.k, .int .i64 z.m.a, .int .i64 z.m.b, .int .u64 z.m.t, .int .u64 z.m.i, .int .u64 z.m.lt, z.ev, .int .u64 z.m.co, .bool z.m.rf, .int .u64 z.m.bi, .int .u64 z.m.bt, .int .i64 z.m.bc, .int .i64 z.m.o, z.dv, .bool z.m.la], Ents 36 z.ev z.es, Vec 5 1 encB z.dv z.m.d, cell g5 28 #[.int .i64 p.m.k, .int .i64 p.m.a, .int .i64 p.m.b, .int .u64 p.m.t, .int .u64 p.m.i, .int .u64 p.m.lt, p.ev, .int .u64 p.m.co, .bool p.m.rf, .int .u64 p.m.bi, .int .u64 p.m.bt, .int .i64 p.m.bc, .int .i64 p.m.o, p.dv, .bool p.m.la], Vec 5 1 encB p.dv p.m.d, Vec 5 1 encB v1 (encM x.m), cell g1 28 #[.int .i64 x.m.k, .int .i64 x.m.a, .int .i64 x.m.b, .int .u64 x.m.t, .int .u64 x.m.i, .int .u64 x.m.lt, x.ev, .int .u64 x.m.co, .bool x.m.rf, .int .u64 x.m.bi, .int .u64 x.m.bt, .int .i64 x.m.bc, .int .i64 x.m.o, x.dv, .bool x.m.la]] (.refl _) ?_
      refine d_reg ?_
      refine h_q hflS rfl ?_
      refine h_done (d_block ?_)
      refine d_loop (α := Nat × List UInt8) (fun ⟨k, ds⟩ => [(1, .pointer (some ⟨g1, 0, none⟩)), (2, .bool false), (3, v1), (5, .pointer (some ⟨g5, 0, none⟩)), (7, .pointer (some ⟨g7, 0, none⟩)), (9, .int .i64 ((i : Nat) : Int)), (31, .int .i64 ((i : Nat) : Int)), (32, .pointer (some ⟨g5, 6, none⟩)), (33, p.ev), (34, .int .i64 (p.es.length : Int)), (35, .bool true), (10, .int .i64 ((k : Nat) : Int))]) (fun ⟨k, ds⟩ => [Each (fun x : EntV × List UInt8 => Vec 5 1 encB x.1.v x.2) (l.take i), Vec 5 1 encB e.v ds, Each (fun x : EntV × List UInt8 => Vec 5 1 encB x.1.v x.2) (l.drop (i + 1)), Vec 36 5 encV p.ev p.es, cell g7 28 #[.int .i64 z.m.k, .int .i64 z.m.a, .int .i64 z.m.b, .int .u64 z.m.t, .int .u64 z.m.i, .int .u64 z.m.lt, z.ev, .int .u64 z.m.co, .bool z.m.rf, .int .u64 z.m.bi, .int .u64 z.m.bt, .int .i64 z.m.bc, .int .i64 z.m.o, z.dv, .bool z.m.la], Ents 36 z.ev z.es, Vec 5 1 encB z.dv z.m.d, cell g5 28 #[.int .i64 p.m.k, .int .i64 p.m.a, .int .i64 p.m.b, .int .u64 p.m.t, .int .u64 p.m.i, .int .u64 p.m.lt, p.ev, .int .u64 p.m.co, .bool p.m.rf, .int .u64 p.m.bi, .int .u64 p.m.bt, .int .i64 p.m.bc, .int .i64 p.m.o, p.dv, .bool p.m.la], Vec 5 1 encB p.dv p.m.d, Vec 5 1 encB v1 (encM x.m), cell g1 28 #[.int .i64 x.m.k, .int .i64 x.m.a, .int .i64 x.m.b, .int .u64 x.m.t, .int .u64 x.m.i, .int .u64 x.m.lt, x.ev, .int .u64 x.m.co, .bool x.m.rf, .int .u64 x.m.bi, .int .u64 x.m.bt, .int .i64 x.m.bc, .int .i64 x.m.o, x.dv, .bool x.m.la]]) (fun ⟨k, ds⟩ => k ≤ ds.length ∧ ds.length = d0.length) (fun ⟨k, ds⟩ => ds.length - k) (0, d0) ⟨Nat.zero_le _, rfl⟩ ⟨rfl, rfl, rfl, rfl, rfl, rfl, rfl, rfl, rfl, rfl, rfl, rfl, trivial⟩ rfl ?_
      rintro ⟨k, ds⟩ hIk
      refine WC2.at_ (env' := [(1, .pointer (some ⟨g1, 0, none⟩)), (2, .bool false), (3, v1), (5, .pointer (some ⟨g5, 0, none⟩)), (7, .pointer (some ⟨g7, 0, none⟩)), (9, .int .i64 ((i : Nat) : Int)), (31, .int .i64 ((i : Nat) : Int)), (32, .pointer (some ⟨g5, 6, none⟩)), (33, p.ev), (34, .int .i64 (p.es.length : Int)), (35, .bool true), (10, .int .i64 ((k : Nat) : Int))]) (rs' := [Each (fun x : EntV × List UInt8 => Vec 5 1 encB x.1.v x.2) (l.take i), Vec 5 1 encB e.v ds, Each (fun x : EntV × List UInt8 => Vec 5 1 encB x.1.v x.2) (l.drop (i + 1)), Vec 36 5 encV p.ev p.es, cell g7 28 #[.int .i64 z.m.k, .int .i64 z.m.a, .int .i64 z.m.b, .int .u64 z.m.t, .int .u64 z.m.i, .int .u64 z.m.lt, z.ev, .int .u64 z.m.co, .bool z.m.rf, .int .u64 z.m.bi, .int .u64 z.m.bt, .int .i64 z.m.bc, .int .i64 z.m.o, z.dv, .bool z.m.la], Ents 36 z.ev z.es, Vec 5 1 encB z.dv z.m.d, cell g5 28 #[.int .i64 p.m.k, .int .i64 p.m.a, .int .i64 p.m.b, .int .u64 p.m.t, .int .u64 p.m.i, .int .u64 p.m.lt, p.ev, .int .u64 p.m.co, .bool p.m.rf, .int .u64 p.m.bi, .int .u64 p.m.bt, .int .i64 p.m.bc, .int .i64 p.m.o, p.dv, .bool p.m.la], Vec 5 1 encB p.dv p.m.d, Vec 5 1 encB v1 (encM x.m), cell g1 28 #[.int .i64 x.m.k, .int .i64 x.m.a, .int .i64 x.m.b, .int .u64 x.m.t, .int .u64 x.m.i, .int .u64 x.m.lt, x.ev, .int .u64 x.m.co, .bool x.m.rf, .int .u64 x.m.bi, .int .u64 x.m.bt, .int .i64 x.m.bc, .int .i64 x.m.o, x.dv, .bool x.m.la]]) ⟨rfl, rfl, rfl, rfl, rfl, rfl, rfl, rfl, rfl, rfl, rfl, rfl, trivial⟩ rfl ?_
      refine d_seq ?_
      have hIk1 : k ≤ ds.length := hIk.1
      have hIk2 := hIk.2
      rcases Nat.lt_or_ge k ds.length with hk | hk
      · skip
        refine d_reg ?_
        refine h_q hflS rfl ?_
        refine h_val rfl (p.ev) (fun b w hb hH => exec_load rfl rfl (reads_one ty_s_api_Entry rfl) (hH.row 7 rfl) hb) ?_
        refine h_q hflS rfl ?_
        refine h_val rfl (elp p.ev (i * 5)) (fun b w hb hH => e_sidx okV (hH.vec 3 rfl okV) sl_api_Entry (j := i) he rfl rfl rfl hb) ?_
        refine h_val rfl (elp p.ev (i * 5 + 3)) (fun b w hb hH => e_sfield okV (by decide) (hH.vec 3 rfl okV) (j := i) he fd_api_Entry_3 rfl rfl hb) ?_
        refine h_val rfl (e.v) (fun b w hb hH => e_sload okV (by decide) (hH.vec 3 rfl okV) (j := i) he ty_s_uint8 (off := 3) rfl rfl rfl hb) ?_
        refine h_val rfl (.int .i64 (ds.length : Int)) (fun b w hb hH => e_vlen 1 Try.underlying26 rfl rfl rfl hH hb) ?_
        refine h_val rfl (.bool true) (fun b w hb hH => exec_cmp rfl rfl rfl (cmp_lss_t (by omega)) hb) ?_
        refine h_done (d_then rfl (d_skip (f_to (d_seq (d_block (d_reg1 ?_))))))
        refine h_q hflS rfl ?_
        refine h_val rfl (p.ev) (fun b w hb hH => exec_load rfl rfl (reads_one ty_s_api_Entry rfl) (hH.row 7 rfl) hb) ?_
        refine h_q hflS rfl ?_
        refine h_val rfl (elp p.ev (i * 5)) (fun b w hb hH => e_sidx okV (hH.vec 3 rfl okV) sl_api_Entry (j := i) he rfl rfl rfl hb) ?_
        refine h_val rfl (elp p.ev (i * 5 + 3)) (fun b w hb hH => e_sfield okV (by decide) (hH.vec 3 rfl okV) (j := i) he fd_api_Entry_3 rfl rfl hb) ?_
        refine h_val rfl (e.v) (fun b w hb hH => e_sload okV (by decide) (hH.vec 3 rfl okV) (j := i) he ty_s_uint8 (off := 3) rfl rfl rfl hb) ?_
        refine h_q hflS rfl ?_
        refine h_val rfl (elp e.v (k * 1)) (fun b w hb hH => e_vidx 1 sl_uint8 okB rfl k hk rfl rfl rfl hH hb) ?_
        refine h_acts (post := fun _ => [Each (fun x : EntV × List UInt8 => Vec 5 1 encB x.1.v x.2) (l.take i), Vec 5 1 encB e.v (ds.set k 238), Each (fun x : EntV × List UInt8 => Vec 5 1 encB x.1.v x.2) (l.drop (i + 1)), Vec 36 5 encV p.ev p.es, cell g7 28 #[.int .i64 z.m.k, .int .i64 z.m.a, .int .i64 z.m.b, .int .u64 z.m.t, .int .u64 z.m.i, .int .u64 z.m.lt, z.ev, .int .u64 z.m.co, .bool z.m.rf, .int .u64 z.m.bi, .int .u64 z.m.bt, .int .i64 z.m.bc, .int .i64 z.m.o, z.dv, .bool z.m.la], Ents 36 z.ev z.es, Vec 5 1 encB z.dv z.m.d, cell g5 28 #[.int .i64 p.m.k, .int .i64 p.m.a, .int .i64 p.m.b, .int .u64 p.m.t, .int .u64 p.m.i, .int .u64 p.m.lt, p.ev, .int .u64 p.m.co, .bool p.m.rf, .int .u64 p.m.bi, .int .u64 p.m.bt, .int .i64 p.m.bc, .int .i64 p.m.o, p.dv, .bool p.m.la], Vec 5 1 encB p.dv p.m.d, Vec 5 1 encB v1 (encM x.m), cell g1 28 #[.int .i64 x.m.k, .int .i64 x.m.a, .int .i64 x.m.b, .int .u64 x.m.t, .int .u64 x.m.i, .int .u64 x.m.lt, x.ev, .int .u64 x.m.co, .bool x.m.rf, .int .u64 x.m.bi, .int .u64 x.m.bt, .int .i64 x.m.bc, .int .i64 x.m.o, x.dv, .bool x.m.la]]) rfl rfl (a_vstore1 1 ty_uint8 okB rfl k hk 238 rfl rfl rfl rfl rfl) ?_; rintro ⟨⟩
        refine h_nil (f_block (f_to (d_reg1 ?_)))
        refine h_q hflS rfl ?_
        refine h_val rfl (.int .i64 ((k + 1 : Nat) : Int)) (fun b w hb hH => exec_ar rfl rfl rfl rfl (by rw [IntWalk.i64_in _ (by omega)]; omega) hb) ?_
        refine h_q hflS rfl ?_
        refine h_nil ?_
        exact f_again (k + 1, ds.set k 238) 0 ⟨by rw [List.length_set]; omega, by rw [List.length_set]; exact hIk2⟩ (show (ds.set k 238).length - (k + 1) < ds.length - k by rw [List.length_set]; omega) ⟨rfl, rfl, rfl, rfl, rfl, rfl, rfl, rfl, rfl, rfl, rfl, rfl, trivial⟩ rfl
      · skip
        refine d_reg ?_
        refine h_q hflS rfl ?_
        refine h_val rfl (p.ev) (fun b w hb hH => exec_load rfl rfl (reads_one ty_s_api_Entry rfl) (hH.row 7 rfl) hb) ?_
        refine h_q hflS rfl ?_
        refine h_val rfl (elp p.ev (i * 5)) (fun b w hb hH => e_sidx okV (hH.vec 3 rfl okV) sl_api_Entry (j := i) he rfl rfl rfl hb) ?_
        refine h_val rfl (elp p.ev (i * 5 + 3)) (fun b w hb hH => e_sfield okV (by decide) (hH.vec 3 rfl okV) (j := i) he fd_api_Entry_3 rfl rfl hb) ?_
        refine h_val rfl (e.v) (fun b w hb hH => e_sload okV (by decide) (hH.vec 3 rfl okV) (j := i) he ty_s_uint8 (off := 3) rfl rfl rfl hb) ?_
        refine h_val rfl (.int .i64 (ds.length : Int)) (fun b w hb hH => e_vlen 1 Try.underlying26 rfl rfl rfl hH hb) ?_
        refine h_val rfl (.bool false) (fun b w hb hH => exec_cmp rfl rfl rfl (cmp_lss_f (by omega)) hb) ?_
        refine h_done (d_else rfl (d_exit (f_then_exit (f_then_exit (f_block_exit (f_block (f_to ?_)))))))
        refine d_close [0, 1, 2] rfl (each_back (f := (fun x : EntV × List UInt8 => Vec 5 1 encB x.1.v x.2)) (y := (e, ds))) rfl ?_
        refine d_reg1 ?_
        refine h_q hflS rfl ?_
        refine h_val rfl (.int .i64 ((i + 1 : Nat) : Int)) (fun b w hb hH => exec_ar rfl rfl rfl rfl (by rw [IntWalk.i64_in _ (by omega)]; omega) hb) ?_
        refine h_q hflS rfl ?_
        refine h_nil ?_
        exact f_again (i + 1, l.take i ++ (e, ds) :: l.drop (i + 1)) 0 ⟨hi, pair_back hI2 he, fun y hy => by
                  rcases List.mem_append.1 hy with h | h
                  · exact hI3 y (List.mem_of_mem_take h)
                  · rcases List.mem_cons.1 h with h | h
                    · rw [h]; show ds.length ≤ 256; omega
                    · exact hI3 y (List.mem_of_mem_drop h)⟩ (show p.es.length - (i + 1) < p.es.length - i by omega) ⟨rfl, rfl, rfl, rfl, rfl, rfl, trivial⟩ rfl
    · skip
      refine d_reg ?_
      refine h_q hflS rfl ?_
      refine h_val rfl (p.ev) (fun b w hb hH => exec_load rfl rfl (reads_one ty_s_api_Entry rfl) (hH.row 5 rfl) hb) ?_
      refine h_val rfl (.int .i64 (p.es.length : Int)) (fun b w hb hH => e_slen (hH.vec 1 rfl okV) Try.underlying23 rfl rfl hb) ?_
      refine h_val rfl (.bool false) (fun b w hb hH => exec_cmp rfl rfl rfl (cmp_lss_f (by omega)) hb) ?_
      refine h_done (d_else rfl (d_exit (f_then_exit (f_then_exit (f_block_exit (f_to (d_seq (d_reg ?_))))))))
      refine h_q hflS rfl ?_
      refine h_done (d_block ?_)
      refine d_loop (α := Nat × List UInt8) (fun ⟨k2, dd⟩ => [(1, .pointer (some ⟨g1, 0, none⟩)), (2, .bool false), (3, v1), (5, .pointer (some ⟨g5, 0, none⟩)), (7, .pointer (some ⟨g7, 0, none⟩)), (11, .int .i64 ((k2 : Nat) : Int))]) (fun ⟨k2, dd⟩ => [Each (fun x : EntV × List UInt8 => Vec 5 1 encB x.1.v x.2) l, Vec 36 5 encV p.ev p.es, cell g7 28 #[.int .i64 z.m.k, .int .i64 z.m.a, .int .i64 z.m.b, .int .u64 z.m.t, .int .u64 z.m.i, .int .u64 z.m.lt, z.ev, .int .u64 z.m.co, .bool z.m.rf, .int .u64 z.m.bi, .int .u64 z.m.bt, .int .i64 z.m.bc, .int .i64 z.m.o, z.dv, .bool z.m.la], Ents 36 z.ev z.es, Vec 5 1 encB z.dv z.m.d, cell g5 28 #[.int .i64 p.m.k, .int .i64 p.m.a, .int .i64 p.m.b, .int .u64 p.m.t, .int .u64 p.m.i, .int .u64 p.m.lt, p.ev, .int .u64 p.m.co, .bool p.m.rf, .int .u64 p.m.bi, .int .u64 p.m.bt, .int .i64 p.m.bc, .int .i64 p.m.o, p.dv, .bool p.m.la], Vec 5 1 encB p.dv dd, Vec 5 1 encB v1 (encM x.m), cell g1 28 #[.int .i64 x.m.k, .int .i64 x.m.a, .int .i64 x.m.b, .int .u64 x.m.t, .int .u64 x.m.i, .int .u64 x.m.lt, x.ev, .int .u64 x.m.co, .bool x.m.rf, .int .u64 x.m.bi, .int .u64 x.m.bt, .int .i64 x.m.bc, .int .i64 x.m.o, x.dv, .bool x.m.la]]) (fun ⟨k2, dd⟩ => k2 ≤ dd.length ∧ dd.length = p.m.d.length) (fun ⟨k2, dd⟩ => dd.length - k2) (0, p.m.d) ⟨Nat.zero_le _, rfl⟩ ⟨rfl, rfl, rfl, rfl, rfl, rfl, trivial⟩ rfl ?_
      rintro ⟨k2, dd⟩ hIk2
      refine WC2.at_ (env' := [(1, .pointer (some ⟨g1, 0, none⟩)), (2, .bool false), (3, v1), (5, .pointer (some ⟨g5, 0, none⟩)), (7, .pointer (some ⟨g7, 0, none⟩)), (11, .int .i64 ((k2 : Nat) : Int))]) (rs' := [Each (fun x : EntV × List UInt8 => Vec 5 1 encB x.1.v x.2) l, Vec 36 5 encV p.ev p.es, cell g7 28 #[.int .i64 z.m.k, .int .i64 z.m.a, .int .i64 z.m.b, .int .u64 z.m.t, .int .u64 z.m.i, .int .u64 z.m.lt, z.ev, .int .u64 z.m.co, .bool z.m.rf, .int .u64 z.m.bi, .int .u64 z.m.bt, .int .i64 z.m.bc, .int .i64 z.m.o, z.dv, .bool z.m.la], Ents 36 z.ev z.es, Vec 5 1 encB z.dv z.m.d, cell g5 28 #[.int .i64 p.m.k, .int .i64 p.m.a, .int .i64 p.m.b, .int .u64 p.m.t, .int .u64 p.m.i, .int .u64 p.m.lt, p.ev, .int .u64 p.m.co, .bool p.m.rf, .int .u64 p.m.bi, .int .u64 p.m.bt, .int .i64 p.m.bc, .int .i64 p.m.o, p.dv, .bool p.m.la], Vec 5 1 encB p.dv dd, Vec 5 1 encB v1 (encM x.m), cell g1 28 #[.int .i64 x.m.k, .int .i64 x.m.a, .int .i64 x.m.b, .int .u64 x.m.t, .int .u64 x.m.i, .int .u64 x.m.lt, x.ev, .int .u64 x.m.co, .bool x.m.rf, .int .u64 x.m.bi, .int .u64 x.m.bt, .int .i64 x.m.bc, .int .i64 x.m.o, x.dv, .bool x.m.la]]) ⟨rfl, rfl, rfl, rfl, rfl, rfl, trivial⟩ rfl ?_
      refine d_seq ?_
      have hIk21 : k2 ≤ dd.length := hIk2.1
      have hIk22 := hIk2.2
      rcases Nat.lt_or_ge k2 dd.length with hk2 | hk2
      · skip
        refine d_reg ?_
        refine h_q hflS rfl ?_
        refine h_val rfl (p.dv) (fun b w hb hH => exec_load rfl rfl (reads_one ty_s_uint8 rfl) (hH.row 5 rfl) hb) ?_
        refine h_val rfl (.int .i64 (dd.length : Int)) (fun b w hb hH => e_vlen 6 Try.underlying26 rfl rfl rfl hH hb) ?_
        refine h_val rfl (.bool true) (fun b w hb hH => exec_cmp rfl rfl rfl (cmp_lss_t (by omega)) hb) ?_
        refine h_done (d_then rfl (d_skip (f_to (d_seq (d_block (d_reg1 ?_))))))
        refine h_q hflS rfl ?_
        refine h_val rfl (p.dv) (fun b w hb hH => exec_load rfl rfl (reads_one ty_s_uint8 rfl) (hH.row 5 rfl) hb) ?_
        refine h_q hflS rfl ?_
        refine h_val rfl (elp p.dv (k2 * 1)) (fun b w hb hH => e_vidx 6 sl_uint8 okB rfl k2 hk2 rfl rfl rfl hH hb) ?_
        refine h_acts (post := fun _ => [Each (fun x : EntV × List UInt8 => Vec 5 1 encB x.1.v x.2) l, Vec 36 5 encV p.ev p.es, cell g7 28 #[.int .i64 z.m.k, .int .i64 z.m.a, .int .i64 z.m.b, .int .u64 z.m.t, .int .u64 z.m.i, .int .u64 z.m.lt, z.ev, .int .u64 z.m.co, .bool z.m.rf, .int .u64 z.m.bi, .int .u64 z.m.bt, .int .i64 z.m.bc, .int .i64 z.m.o, z.dv, .bool z.m.la], Ents 36 z.ev z.es, Vec 5 1 encB z.dv z.m.d, cell g5 28 #[.int .i64 p.m.k, .int .i64 p.m.a, .int .i64 p.m.b, .int .u64 p.m.t, .int .u64 p.m.i, .int .u64 p.m.lt, p.ev, .int .u64 p.m.co, .bool p.m.rf, .int .u64 p.m.bi, .int .u64 p.m.bt, .int .i64 p.m.bc, .int .i64 p.m.o, p.dv, .bool p.m.la], Vec 5 1 encB p.dv (dd.set k2 238), Vec 5 1 encB v1 (encM x.m), cell g1 28 #[.int .i64 x.m.k, .int .i64 x.m.a, .int .i64 x.m.b, .int .u64 x.m.t, .int .u64 x.m.i, .int .u64 x.m.lt, x.ev, .int .u64 x.m.co, .bool x.m.rf, .int .u64 x.m.bi, .int .u64 x.m.bt, .int .i64 x.m.bc, .int .i64 x.m.o, x.dv, .bool x.m.la]]) rfl rfl (a_vstore1 6 ty_uint8 okB rfl k2 hk2 238 rfl rfl rfl rfl rfl) ?_; rintro ⟨⟩
        refine h_nil (f_block (f_to (d_reg1 ?_)))
        refine h_q hflS rfl ?_
        refine h_val rfl (.int .i64 ((k2 + 1 : Nat) : Int)) (fun b w hb hH => exec_ar rfl rfl rfl rfl (by rw [IntWalk.i64_in _ (by omega)]; omega) hb) ?_
        refine h_q hflS rfl ?_
        refine h_nil ?_
        exact f_again (k2 + 1, dd.set k2 238) 0 ⟨by rw [List.length_set]; omega, by rw [List.length_set]; exact hIk22⟩ (show (dd.set k2 238).length - (k2 + 1) < dd.length - k2 by rw [List.length_set]; omega) ⟨rfl, rfl, rfl, rfl, rfl, rfl, trivial⟩ rfl
      · skip
        refine d_reg ?_
        refine h_q hflS rfl ?_
        refine h_val rfl (p.dv) (fun b w hb hH => exec_load rfl rfl (reads_one ty_s_uint8 rfl) (hH.row 5 rfl) hb) ?_
        refine h_val rfl (.int .i64 (dd.length : Int)) (fun b w hb hH => e_vlen 6 Try.underlying26 rfl rfl rfl hH hb) ?_
        refine h_val rfl (.bool false) (fun b w hb hH => exec_cmp rfl rfl rfl (cmp_lss_f (by omega)) hb) ?_
        refine h_done (d_else rfl (d_exit (f_then_exit (f_then_exit (f_block_exit (f_to (d_seq (d_reg ?_))))))))
        refine h_q hflS rfl ?_
        refine h_done (d_block ?_)
        refine d_loop (α := Nat × List UInt8) (fun ⟨k3, bb⟩ => [(1, .pointer (some ⟨g1, 0, none⟩)), (2, .bool false), (3, v1), (7, .pointer (some ⟨g7, 0, none⟩)), (12, .int .i64 ((k3 : Nat) : Int))]) (fun ⟨k3, bb⟩ => [Each (fun x : EntV × List UInt8 => Vec 5 1 encB x.1.v x.2) l, Vec 36 5 encV p.ev p.es, cell g7 28 #[.int .i64 z.m.k, .int .i64 z.m.a, .int .i64 z.m.b, .int .u64 z.m.t, .int .u64 z.m.i, .int .u64 z.m.lt, z.ev, .int .u64 z.m.co, .bool z.m.rf, .int .u64 z.m.bi, .int .u64 z.m.bt, .int .i64 z.m.bc, .int .i64 z.m.o, z.dv, .bool z.m.la], Ents 36 z.ev z.es, Vec 5 1 encB z.dv z.m.d, cell g5 28 #[.int .i64 p.m.k, .int .i64 p.m.a, .int .i64 p.m.b, .int .u64 p.m.t, .int .u64 p.m.i, .int .u64 p.m.lt, p.ev, .int .u64 p.m.co, .bool p.m.rf, .int .u64 p.m.bi, .int .u64 p.m.bt, .int .i64 p.m.bc, .int .i64 p.m.o, p.dv, .bool p.m.la], Vec 5 1 encB p.dv dd, Vec 5 1 encB v1 bb, cell g1 28 #[.int .i64 x.m.k, .int .i64 x.m.a, .int .i64 x.m.b, .int .u64 x.m.t, .int .u64 x.m.i, .int .u64 x.m.lt, x.ev, .int .u64 x.m.co, .bool x.m.rf, .int .u64 x.m.bi, .int .u64 x.m.bt, .int .i64 x.m.bc, .int .i64 x.m.o, x.dv, .bool x.m.la]]) (fun ⟨k3, bb⟩ => k3 ≤ bb.length ∧ bb.length = (encM x.m).length) (fun ⟨k3, bb⟩ => bb.length - k3) (0, (encM x.m)) ⟨Nat.zero_le _, rfl⟩ ⟨rfl, rfl, rfl, rfl, rfl, trivial⟩ rfl ?_
        rintro ⟨k3, bb⟩ hIk3
        refine WC2.at_ (env' := [(1, .pointer (some ⟨g1, 0, none⟩)), (2, .bool false), (3, v1), (7, .pointer (some ⟨g7, 0, none⟩)), (12, .int .i64 ((k3 : Nat) : Int))]) (rs' := [Each (fun x : EntV × List UInt8 => Vec 5 1 encB x.1.v x.2) l, Vec 36 5 encV p.ev p.es, cell g7 28 #[.int .i64 z.m.k, .int .i64 z.m.a, .int .i64 z.m.b, .int .u64 z.m.t, .int .u64 z.m.i, .int .u64 z.m.lt, z.ev, .int .u64 z.m.co, .bool z.m.rf, .int .u64 z.m.bi, .int .u64 z.m.bt, .int .i64 z.m.bc, .int .i64 z.m.o, z.dv, .bool z.m.la], Ents 36 z.ev z.es, Vec 5 1 encB z.dv z.m.d, cell g5 28 #[.int .i64 p.m.k, .int .i64 p.m.a, .int .i64 p.m.b, .int .u64 p.m.t, .int .u64 p.m.i, .int .u64 p.m.lt, p.ev, .int .u64 p.m.co, .bool p.m.rf, .int .u64 p.m.bi, .int .u64 p.m.bt, .int .i64 p.m.bc, .int .i64 p.m.o, p.dv, .bool p.m.la], Vec 5 1 encB p.dv dd, Vec 5 1 encB v1 bb, cell g1 28 #[.int .i64 x.m.k, .int .i64 x.m.a, .int .i64 x.m.b, .int .u64 x.m.t, .int .u64 x.m.i, .int .u64 x.m.lt, x.ev, .int .u64 x.m.co, .bool x.m.rf, .int .u64 x.m.bi, .int .u64 x.m.bt, .int .i64 x.m.bc, .int .i64 x.m.o, x.dv, .bool x.m.la]]) ⟨rfl, rfl, rfl, rfl, rfl, trivial⟩ rfl ?_
        refine d_seq ?_
        have hIk31 : k3 ≤ bb.length := hIk3.1
        have hIk32 := hIk3.2
        rcases Nat.lt_or_ge k3 bb.length with hk3 | hk3
        · skip
          refine d_reg ?_
          refine h_q hflS rfl ?_
          refine h_val rfl (.int .i64 (bb.length : Int)) (fun b w hb hH => e_vlen 7 Try.underlying26 rfl rfl rfl hH hb) ?_
          refine h_val rfl (.bool true) (fun b w hb hH => exec_cmp rfl rfl rfl (cmp_lss_t (by omega)) hb) ?_
          refine h_done (d_then rfl (d_skip (f_to (d_seq (d_block (d_reg1 ?_))))))
          refine h_q hflS rfl ?_
          refine h_val rfl (elp v1 (k3 * 1)) (fun b w hb hH => e_vidx 7 sl_uint8 okB rfl k3 hk3 rfl rfl rfl hH hb) ?_
          refine h_acts (post := fun _ => [Each (fun x : EntV × List UInt8 => Vec 5 1 encB x.1.v x.2) l, Vec 36 5 encV p.ev p.es, cell g7 28 #[.int .i64 z.m.k, .int .i64 z.m.a, .int .i64 z.m.b, .int .u64 z.m.t, .int .u64 z.m.i, .int .u64 z.m.lt, z.ev, .int .u64 z.m.co, .bool z.m.rf, .int .u64 z.m.bi, .int .u64 z.m.bt, .int .i64 z.m.bc, .int .i64 z.m.o, z.dv, .bool z.m.la], Ents 36 z.ev z.es, Vec 5 1 encB z.dv z.m.d, cell g5 28 #[.int .i64 p.m.k, .int .i64 p.m.a, .int .i64 p.m.b, .int .u64 p.m.t, .int .u64 p.m.i, .int .u64 p.m.lt, p.ev, .int .u64 p.m.co, .bool p.m.rf, .int .u64 p.m.bi, .int .u64 p.m.bt, .int .i64 p.m.bc, .int .i64 p.m.o, p.dv, .bool p.m.la], Vec 5 1 encB p.dv dd, Vec 5 1 encB v1 (bb.set k3 221), cell g1 28 #[.int .i64 x.m.k, .int .i64 x.m.a, .int .i64 x.m.b, .int .u64 x.m.t, .int .u64 x.m.i, .int .u64 x.m.lt, x.ev, .int .u64 x.m.co, .bool x.m.rf, .int .u64 x.m.bi, .int .u64 x.m.bt, .int .i64 x.m.bc, .int .i64 x.m.o, x.dv, .bool x.m.la]]) rfl rfl (a_vstore1 7 ty_uint8 okB rfl k3 hk3 221 rfl rfl rfl rfl rfl) ?_; rintro ⟨⟩
          refine h_nil (f_block (f_to (d_reg1 ?_)))
          refine h_q hflS rfl ?_
          refine h_val rfl (.int .i64 ((k3 + 1 : Nat) : Int)) (fun b w hb hH => exec_ar rfl rfl rfl rfl (by rw [IntWalk.i64_in _ (by omega)]; omega) hb) ?_
          refine h_q hflS rfl ?_
          refine h_nil ?_
          exact f_again (k3 + 1, bb.set k3 221) 0 ⟨by rw [List.length_set]; omega, by rw [List.length_set]; exact hIk32⟩ (show (bb.set k3 221).length - (k3 + 1) < bb.length - k3 by rw [List.length_set]; omega) ⟨rfl, rfl, rfl, rfl, rfl, trivial⟩ rfl
        · skip
          refine d_reg ?_
          refine h_q hflS rfl ?_
          refine h_val rfl (.int .i64 (bb.length : Int)) (fun b w hb hH => e_vlen 7 Try.underlying26 rfl rfl rfl hH hb) ?_
          refine h_val rfl (.bool false) (fun b w hb hH => exec_cmp rfl rfl rfl (cmp_lss_f (by omega)) hb) ?_
          refine h_done (d_else rfl (d_exit (f_then_exit (f_then_exit (f_block_exit (f_to (d_reg ?_)))))))
          refine h_q hflS rfl ?_
          refine h_act (post := fun _ => [Each (fun x : EntV × List UInt8 => Vec 5 1 encB x.1.v x.2) l, Vec 36 5 encV p.ev p.es, cell g7 28 #[.int .i64 z.m.k, .int .i64 z.m.a, .int .i64 z.m.b, .int .u64 z.m.t, .int .u64 z.m.i, .int .u64 z.m.lt, z.ev, .int .u64 z.m.co, .bool z.m.rf, .int .u64 z.m.bi, .int .u64 z.m.bt, .int .i64 z.m.bc, .int .i64 z.m.o, z.dv, .bool z.m.la], Ents 36 z.ev z.es, Vec 5 1 encB z.dv z.m.d, cell g5 28 #[.int .i64 p.m.k, .int .i64 p.m.a, .int .i64 p.m.b, .int .u64 p.m.t, .int .u64 p.m.i, .int .u64 p.m.lt, p.ev, .int .u64 p.m.co, .bool p.m.rf, .int .u64 p.m.bi, .int .u64 p.m.bt, .int .i64 p.m.bc, .int .i64 p.m.o, p.dv, .bool p.m.la], Vec 5 1 encB p.dv dd, Vec 5 1 encB v1 bb, cell g1 28 #[.int .i64 x.m.k, .int .i64 x.m.a, .int .i64 x.m.b, .int .u64 x.m.t, .int .u64 x.m.i, .int .u64 x.m.lt, x.ev, .int .u64 x.m.co, .bool x.m.rf, .int .u64 x.m.bi, .int .u64 x.m.bt, .int .i64 x.m.bc, .int .i64 x.m.o, x.dv, .bool x.m.la]]) rfl (a_call (ent_of Try.func17 (by kernel_rfl) rfl) (fun w hH => known6_true w) rfl rfl rfl) ?_; rintro ⟨⟩
          refine h_q hflS rfl ?_
          refine h_val rfl (.agg #[.int .i64 z.m.k, .int .i64 z.m.a, .int .i64 z.m.b, .int .u64 z.m.t, .int .u64 z.m.i, .int .u64 z.m.lt, z.ev, .int .u64 z.m.co, .bool z.m.rf, .int .u64 z.m.bi, .int .u64 z.m.bt, .int .i64 z.m.bc, .int .i64 z.m.o, z.dv, .bool z.m.la]) (fun b w hb hH => exec_load rfl rfl (reads_agg (cs := [.int .i64 z.m.k, .int .i64 z.m.a, .int .i64 z.m.b, .int .u64 z.m.t, .int .u64 z.m.i, .int .u64 z.m.lt, z.ev, .int .u64 z.m.co, .bool z.m.rf, .int .u64 z.m.bi, .int .u64 z.m.bt, .int .i64 z.m.bc, .int .i64 z.m.o, z.dv, .bool z.m.la]) ty_api_Msg rfl) (hH.row 2 rfl) hb) ?_
          refine h_val rfl (.agg #[.int .i64 x.m.k, .int .i64 x.m.a, .int .i64 x.m.b, .int .u64 x.m.t, .int .u64 x.m.i, .int .u64 x.m.lt, x.ev, .int .u64 x.m.co, .bool x.m.rf, .int .u64 x.m.bi, .int .u64 x.m.bt, .int .i64 x.m.bc, .int .i64 x.m.o, x.dv, .bool x.m.la]) (fun b w hb hH => exec_load rfl rfl (reads_agg (cs := [.int .i64 x.m.k, .int .i64 x.m.a, .int .i64 x.m.b, .int .u64 x.m.t, .int .u64 x.m.i, .int .u64 x.m.lt, x.ev, .int .u64 x.m.co, .bool x.m.rf, .int .u64 x.m.bi, .int .u64 x.m.bt, .int .i64 x.m.bc, .int .i64 x.m.o, x.dv, .bool x.m.la]) ty_api_Msg rfl) (hH.row 8 rfl) hb) ?_
          refine h_act (post := fun _ => [Each (fun x : EntV × List UInt8 => Vec 5 1 encB x.1.v x.2) l, Vec 36 5 encV p.ev p.es, cell g7 28 #[.int .i64 z.m.k, .int .i64 z.m.a, .int .i64 z.m.b, .int .u64 z.m.t, .int .u64 z.m.i, .int .u64 z.m.lt, z.ev, .int .u64 z.m.co, .bool z.m.rf, .int .u64 z.m.bi, .int .u64 z.m.bt, .int .i64 z.m.bc, .int .i64 z.m.o, z.dv, .bool z.m.la], Ents 36 z.ev z.es, Vec 5 1 encB z.dv z.m.d, cell g5 28 #[.int .i64 p.m.k, .int .i64 p.m.a, .int .i64 p.m.b, .int .u64 p.m.t, .int .u64 p.m.i, .int .u64 p.m.lt, p.ev, .int .u64 p.m.co, .bool p.m.rf, .int .u64 p.m.bi, .int .u64 p.m.bt, .int .i64 p.m.bc, .int .i64 p.m.o, p.dv, .bool p.m.la], Vec 5 1 encB p.dv dd, Vec 5 1 encB v1 bb, cell g1 28 #[.int .i64 x.m.k, .int .i64 x.m.a, .int .i64 x.m.b, .int .u64 x.m.t, .int .u64 x.m.i, .int .u64 x.m.lt, x.ev, .int .u64 x.m.co, .bool x.m.rf, .int .u64 x.m.bi, .int .u64 x.m.bt, .int .i64 x.m.bc, .int .i64 x.m.o, x.dv, .bool x.m.la]]) rfl (a_call (ent_of Try.func18 (by kernel_rfl) rfl) (fun w hH => samem_ok w z x (msgOk_dec (decM_lay hx.ok hr) hzm hze (hH.ents 3 rfl) (hH.sl8 4 rfl)) (argM0 hx hH) hzm.symm) rfl rfl rfl) ?_; rintro ⟨⟩
          refine h_q hflS rfl ?_
          refine h_done (d_ret ?_)
          exact f_fin1 (.tmp rfl) (fun w h => ⟨rfl, below0 h.up⟩) rfl
  · skip
    refine d_reg ?_
    refine h_q hflS rfl ?_
    refine h_val rfl (.agg #[.int .i64 x.m.k, .int .i64 x.m.a, .int .i64 x.m.b, .int .u64 x.m.t, .int .u64 x.m.i, .int .u64 x.m.lt, x.ev, .int .u64 x.m.co, .bool x.m.rf, .int .u64 x.m.bi, .int .u64 x.m.bt, .int .i64 x.m.bc, .int .i64 x.m.o, x.dv, .bool x.m.la]) (fun b w hb hH => exec_load rfl rfl (reads_agg (cs := [.int .i64 x.m.k, .int .i64 x.m.a, .int .i64 x.m.b, .int .u64 x.m.t, .int .u64 x.m.i, .int .u64 x.m.lt, x.ev, .int .u64 x.m.co, .bool x.m.rf, .int .u64 x.m.bi, .int .u64 x.m.bt, .int .i64 x.m.bc, .int .i64 x.m.o, x.dv, .bool x.m.la]) ty_api_Msg rfl) (hH.row 0 rfl) hb) ?_
    refine h_act (post := fun _ => [cell g1 28 #[.int .i64 x.m.k, .int .i64 x.m.a, .int .i64 x.m.b, .int .u64 x.m.t, .int .u64 x.m.i, .int .u64 x.m.lt, x.ev, .int .u64 x.m.co, .bool x.m.rf, .int .u64 x.m.bi, .int .u64 x.m.bt, .int .i64 x.m.bc, .int .i64 x.m.o, x.dv, .bool x.m.la]]) rfl (a_call (ent_of Try.func31 (by kernel_rfl) rfl) (fun w hH => rencodeM_bad w x (argM0 hx hH) hr) rfl rfl rfl) ?_; rintro ⟨⟩
    refine h_q hflS rfl ?_
    refine h_done (d_seq (d_reg ?_))
    refine h_q hflS rfl ?_
    refine h_val rfl (.bool true) (fun b w hb hH => exec_cmp rfl rfl rfl (cmp_neq_t (by decide)) hb) ?_
    refine h_done (d_then rfl (d_reg ?_))
    refine h_q hflS rfl ?_
    refine h_act (post := fun _ => [cell g1 28 #[.int .i64 x.m.k, .int .i64 x.m.a, .int .i64 x.m.b, .int .u64 x.m.t, .int .u64 x.m.i, .int .u64 x.m.lt, x.ev, .int .u64 x.m.co, .bool x.m.rf, .int .u64 x.m.bi, .int .u64 x.m.bt, .int .i64 x.m.bc, .int .i64 x.m.o, x.dv, .bool x.m.la]]) rfl (a_call (ent_of Try.func17 (by kernel_rfl) rfl) (fun w hH => known6_true w) rfl rfl rfl) ?_; rintro ⟨⟩
    refine h_q hflS rfl ?_
    refine h_done (d_ret (f_then_ret ?_))
    exact f_fin1 (.tmp rfl) (fun w h => ⟨rfl, below0 h.up⟩) rfl
end Go.Proofs.Ytnhcbjlaeaohjaa.Sep
