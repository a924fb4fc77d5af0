/-
  RpcT
-/
import Derived.Test.YtnhcbjlaeaohjaaBH01
set_option linter.unusedSimpArgs false
set_option linter.unusedVariables false

namespace Go.Proofs.Ytnhcbjlaeaohjaa.Sep
open Go.RowKit
open Go.Proofs.Ytnhcbjlaeaohjaa.Mem (Dist Blk Chg below0)

theorem eqBase_same (a b c : Int) : EqAt Try.prog 25 (.agg #[.int .u64 a, .int .u64 b, .int .i64 c]) (.agg #[.int .u64 a, .int .u64 b, .int .i64 c]) true := by
  have h := eqBase a b c a b c
  rwa [show (a == a && (b == b && c == c)) = true by simp] at h
theorem argE0 {w0 w : World} {os : List Ass} {v : Value} {l : List EntV} (h : EntsRd w0 v l) (hH : Hp Nil w0 w os) : EntsRd w v l := h.below (hH.up.below (Nat.le_refl _) (fun _ h => h.elim))

set_option maxRecDepth 100000 in
theorem samees_true (w : World) (v v2 : Value) (l l2 : List EntV) (hv : EntsRd w v l) (hv2 : EntsRd w v2 l2) (h : l.map (·.e) = l2.map (·.e)) (hle : l.length ≤ 9223372036854775807) : Calls Try.prog 46 #[v, v2] w fun e w' => e = .returned (.bool true) ∧ Below w.heap.size w w' := by
  have hln : l.length = l2.length := by have := congrArg List.length h; simpa using this
  refine d_in (args := [v, v2]) 27 Try.func46 rfl rfl rfl ?_
  refine d_reg ?_
  refine h_q hflS rfl ?_
  refine h_done (d_seq (d_reg ?_))
  refine h_q hflS rfl ?_
  refine h_val rfl (.int .i64 (l.length : Int)) (fun b w hb hH => e_slen ((argE0 hv hH).1) Try.underlying23 rfl rfl hb) ?_
  refine h_q hflS rfl ?_
  refine h_val rfl (.int .i64 (l2.length : Int)) (fun b w hb hH => e_slen ((argE0 hv2 hH).1) Try.underlying23 rfl rfl hb) ?_
  refine h_val rfl (.bool false) (fun b w hb hH => exec_cmp rfl rfl rfl (cmp_neq_f (by omega)) hb) ?_
  refine h_done (d_else rfl (d_skip (f_to (d_seq (d_reg ?_)))))
  refine h_q hflS rfl ?_
  refine h_done (d_block ?_)
  refine d_loop (α := Nat) (fun j => [(0, v), (1, v2), (4, .bool false), (5, .int .i64 ((j : Nat) : Int))]) (fun j => []) (fun j => j ≤ l.length) (fun j => l.length - j) 0 (Nat.zero_le _) ⟨rfl, rfl, rfl, rfl, trivial⟩ rfl ?_
  rintro j hI
  refine WC2.at_ (env' := [(0, v), (1, v2), (4, .bool false), (5, .int .i64 ((j : Nat) : Int))]) (rs' := []) ⟨rfl, rfl, rfl, rfl, trivial⟩ rfl ?_
  refine d_seq ?_
  rcases Nat.lt_or_ge j l.length with hj | hj
  · skip
    obtain ⟨x, hx⟩ : ∃ x, l[j]? = some x := ⟨_, List.getElem?_eq_getElem hj⟩
    obtain ⟨y, hy⟩ : ∃ y, l2[j]? = some y := ⟨_, List.getElem?_eq_getElem (by omega)⟩
    have hmx := List.mem_of_getElem? hx
    have hmy := List.mem_of_getElem? hy
    have hxy : x.e = y.e := by
        have h1 := congrArg (fun z => z[j]?) h
        simp only [List.getElem?_map, hx, hy, Option.map_some] at h1
        exact Option.some.inj h1
    refine d_reg ?_
    refine h_q hflS rfl ?_
    refine h_val rfl (.int .i64 (l.length : Int)) (fun b w hb hH => e_slen ((argE0 hv hH).1) Try.underlying23 rfl rfl hb) ?_
    refine h_val rfl (.bool true) (fun b w hb hH => exec_cmp rfl rfl rfl (cmp_lss_t (by omega)) hb) ?_
    refine h_done (d_then rfl (d_skip (f_to (d_seq (d_block (d_seq ?_))))))
    refine d_parS 10 1 [⟨.quiet, [none], fun _ => v, []⟩, ⟨.quiet, [none], fun _ => .int .i64 ((j : Nat) : Int), []⟩, ⟨.quiet, [none], fun _ => elp v (j * 5), [0, 1]⟩, ⟨.quiet, [none], fun _ => .agg (encV x).toArray, [2]⟩, ⟨.quiet, [none], fun _ => v2, []⟩, ⟨.quiet, [none], fun _ => .int .i64 ((j : Nat) : Int), []⟩, ⟨.quiet, [none], fun _ => elp v2 (j * 5), [4, 5]⟩, ⟨.quiet, [none], fun _ => .agg (encV y).toArray, [6]⟩, ⟨.actv 0, [some false], fun _ => .bool true, [3, 7]⟩, ⟨.quiet, [some true], fun _ => .bool false, [8]⟩] [(0, v), (1, v2), (4, .bool false), (5, .int .i64 ((j : Nat) : Int)), (11, .int .i64 ((j : Nat) : Int)), (12, v), (13, .int .i64 (l.length : Int)), (14, .bool true)] (fun ρ => match ρ with | [r0] => [] | _ => []) (by kernel_rfl) (by kernel_rfl) ⟨rfl, rfl, rfl, rfl, rfl, rfl, rfl, rfl, trivial⟩ rfl ?_ ?_
    · skip
      refine s_cons (by intro r0_; exact ⟨rfl, fun b w hH hb => exec_q1 hflS rfl hb⟩) ?_
      refine s_cons (by intro r0_; exact ⟨rfl, fun b w hH hb => exec_q1 hflS rfl hb⟩) ?_
      refine s_cons (by intro r0_; exact ⟨rfl, fun b w hH hb => e_sidx okV ((argE0 hv hH).1) sl_api_Entry (j := j) hx rfl rfl rfl hb⟩) ?_
      refine s_cons (by intro r0_; exact ⟨rfl, fun b w hH hb => e_sagg okV (by decide) ((argE0 hv hH).1) (j := j) hx ty_api_Entry rfl rfl hb⟩) ?_
      refine s_cons (by intro r0_; exact ⟨rfl, fun b w hH hb => exec_q1 hflS rfl hb⟩) ?_
      refine s_cons (by intro r0_; exact ⟨rfl, fun b w hH hb => exec_q1 hflS rfl hb⟩) ?_
      refine s_cons (by intro r0_; exact ⟨rfl, fun b w hH hb => e_sidx okV ((argE0 hv2 hH).1) sl_api_Entry (j := j) hy rfl rfl rfl hb⟩) ?_
      refine s_cons (by intro r0_; exact ⟨rfl, fun b w hH hb => e_sagg okV (by decide) ((argE0 hv2 hH).1) (j := j) hy ty_api_Entry rfl rfl hb⟩) ?_
      refine s_cons (by exact ⟨rfl, Acts.su (a_call (ent_of Try.func25 (by kernel_rfl) rfl) (fun w hH => samee_true w x y ((argE0 hv hH).2 x hmx) ((argE0 hv2 hH).2 y hmy) hxy) rfl rfl rfl) rfl⟩) ?_
      refine s_cons (by intro v0_; exact ⟨rfl, fun b w hH hb => exec_q1 hflS rfl hb⟩) ?_
      exact s_nil
    intro v0_
    refine WL2.keep (env' := [(0, v), (1, v2), (4, .bool false), (5, .int .i64 ((j : Nat) : Int)), (11, .int .i64 ((j : Nat) : Int)), (12, v), (13, .int .i64 (l.length : Int)), (14, .bool true), (17, v), (18, .int .i64 ((j : Nat) : Int)), (19, elp v (j * 5)), (20, .agg (encV x).toArray), (21, v2), (22, .int .i64 ((j : Nat) : Int)), (23, elp v2 (j * 5)), (24, .agg (encV y).toArray), (25, .bool true), (26, .bool false)]) ⟨rfl, rfl, rfl, rfl, rfl, rfl, rfl, rfl, rfl, rfl, rfl, rfl, rfl, rfl, rfl, rfl, rfl, rfl, trivial⟩ ?_
    refine h_nil (f_to (d_else rfl (d_skip (f_block (f_to (d_reg1 ?_))))))
    refine h_q hflS rfl ?_
    refine h_val rfl (.int .i64 ((j + 1 : Nat) : Int)) (fun b w hb hH => exec_ar rfl rfl rfl rfl (by rw [IntWalk.i64_in _ (by omega)]; omega) hb) ?_
    refine h_q hflS rfl ?_
    refine h_nil ?_
    exact f_again (j + 1) 0 hj (show l.length - (j + 1) < l.length - j by omega) ⟨rfl, rfl, rfl, rfl, trivial⟩ rfl
  · skip
    refine d_reg ?_
    refine h_q hflS rfl ?_
    refine h_val rfl (.int .i64 (l.length : Int)) (fun b w hb hH => e_slen ((argE0 hv hH).1) Try.underlying23 rfl rfl hb) ?_
    refine h_val rfl (.bool false) (fun b w hb hH => exec_cmp rfl rfl rfl (cmp_lss_f (by omega)) hb) ?_
    refine h_done (d_else rfl (d_exit (f_then_exit (f_then_exit (f_block_exit (f_to (d_reg ?_)))))))
    refine h_q hflS rfl ?_
    refine h_done (d_ret ?_)
    exact f_fin1 (.tmp rfl) (fun w h => ⟨rfl, below0 h.up⟩) rfl

set_option maxRecDepth 100000 in
theorem samem_as (w : World) (x : MsgV) (es2 : List EntV) (EA2 : Option Addr) (ec2 : Nat) (A2 : Option Addr) (c2 : Nat) (hx : EntsRd w x.ev x.es) (hy : EntsRd w (.slice EA2 es2.length ec2) es2) (hdx : Sl8 w x.dv x.m.d) (hdy : Sl8 w (.slice A2 x.m.d.length c2) x.m.d) (h : x.es.map (·.e) = es2.map (·.e)) (hle : x.es.length ≤ 9223372036854775807) : Calls Try.prog 18 #[.agg #[.int .i64 x.m.k, .int .i64 x.m.a, .int .i64 x.m.b, .int .u64 x.m.t, .int .u64 x.m.i, .int .u64 x.m.lt, x.ev, .int .u64 x.m.co, .bool x.m.rf, .int .u64 x.m.bi, .int .u64 x.m.bt, .int .i64 x.m.bc, .int .i64 x.m.o, x.dv, .bool x.m.la], .agg #[.int .i64 x.m.k, .int .i64 x.m.a, .int .i64 x.m.b, .int .u64 x.m.t, .int .u64 x.m.i, .int .u64 x.m.lt, .slice EA2 es2.length ec2, .int .u64 x.m.co, .bool x.m.rf, .int .u64 x.m.bi, .int .u64 x.m.bt, .int .i64 x.m.bc, .int .i64 x.m.o, .slice A2 x.m.d.length c2, .bool x.m.la]] w fun e w' => e = .returned (.bool true) ∧ Below w.heap.size w w' := by
  refine d_in (args := [.agg #[.int .i64 x.m.k, .int .i64 x.m.a, .int .i64 x.m.b, .int .u64 x.m.t, .int .u64 x.m.i, .int .u64 x.m.lt, x.ev, .int .u64 x.m.co, .bool x.m.rf, .int .u64 x.m.bi, .int .u64 x.m.bt, .int .i64 x.m.bc, .int .i64 x.m.o, x.dv, .bool x.m.la], .agg #[.int .i64 x.m.k, .int .i64 x.m.a, .int .i64 x.m.b, .int .u64 x.m.t, .int .u64 x.m.i, .int .u64 x.m.lt, .slice EA2 es2.length ec2, .int .u64 x.m.co, .bool x.m.rf, .int .u64 x.m.bi, .int .u64 x.m.bt, .int .i64 x.m.bc, .int .i64 x.m.o, .slice A2 x.m.d.length c2, .bool x.m.la]]) 96 Try.func18 rfl rfl rfl ?_
  refine d_reg ?_
  refine h_q hflS rfl ?_
  refine h_act (post := fun g2 => [cell g2 28 #[.int .i64 x.m.k, .int .i64 x.m.a, .int .i64 x.m.b, .int .u64 x.m.t, .int .u64 x.m.i, .int .u64 x.m.lt, x.ev, .int .u64 x.m.co, .bool x.m.rf, .int .u64 x.m.bi, .int .u64 x.m.bt, .int .i64 x.m.bc, .int .i64 x.m.o, x.dv, .bool x.m.la]]) rfl (a_box (cs := #[.int .i64 x.m.k, .int .i64 x.m.a, .int .i64 x.m.b, .int .u64 x.m.t, .int .u64 x.m.i, .int .u64 x.m.lt, x.ev, .int .u64 x.m.co, .bool x.m.rf, .int .u64 x.m.bi, .int .u64 x.m.bt, .int .i64 x.m.bc, .int .i64 x.m.o, x.dv, .bool x.m.la]) rfl rfl rfl) ?_; rintro g2
  refine h_act (post := fun g3 => [cell g3 28 #[.int .i64 x.m.k, .int .i64 x.m.a, .int .i64 x.m.b, .int .u64 x.m.t, .int .u64 x.m.i, .int .u64 x.m.lt, .slice EA2 es2.length ec2, .int .u64 x.m.co, .bool x.m.rf, .int .u64 x.m.bi, .int .u64 x.m.bt, .int .i64 x.m.bc, .int .i64 x.m.o, .slice A2 x.m.d.length c2, .bool x.m.la], cell g2 28 #[.int .i64 x.m.k, .int .i64 x.m.a, .int .i64 x.m.b, .int .u64 x.m.t, .int .u64 x.m.i, .int .u64 x.m.lt, x.ev, .int .u64 x.m.co, .bool x.m.rf, .int .u64 x.m.bi, .int .u64 x.m.bt, .int .i64 x.m.bc, .int .i64 x.m.o, x.dv, .bool x.m.la]]) rfl (a_box (cs := #[.int .i64 x.m.k, .int .i64 x.m.a, .int .i64 x.m.b, .int .u64 x.m.t, .int .u64 x.m.i, .int .u64 x.m.lt, .slice EA2 es2.length ec2, .int .u64 x.m.co, .bool x.m.rf, .int .u64 x.m.bi, .int .u64 x.m.bt, .int .i64 x.m.bc, .int .i64 x.m.o, .slice A2 x.m.d.length c2, .bool x.m.la]) rfl rfl rfl) ?_; rintro g3
  refine h_q hflS rfl ?_
  refine h_done (d_reg ?_)
  refine h_q hflS rfl ?_
  refine h_val rfl (.int .i64 x.m.k) (fun b w hb hH => exec_load rfl rfl (reads_one ty_int rfl) (hH.row 1 rfl) hb) ?_
  refine h_q hflS rfl ?_
  refine h_val rfl (.int .i64 x.m.k) (fun b w hb hH => exec_load rfl rfl (reads_one ty_int rfl) (hH.row 0 rfl) hb) ?_
  refine h_val rfl (.bool true) (fun b w hb hH => exec_cmp rfl rfl rfl (cmp_eql_t rfl) hb) ?_
  refine h_q hflS rfl ?_
  refine h_val rfl (.int .i64 x.m.a) (fun b w hb hH => exec_load rfl rfl (reads_one ty_int rfl) (hH.row 1 rfl) hb) ?_
  refine h_q hflS rfl ?_
  refine h_val rfl (.int .i64 x.m.a) (fun b w hb hH => exec_load rfl rfl (reads_one ty_int rfl) (hH.row 0 rfl) hb) ?_
  refine h_val rfl (.bool true) (fun b w hb hH => exec_cmp rfl rfl rfl (cmp_eql_t rfl) hb) ?_
  refine h_q hflS rfl ?_
  refine h_val rfl (.int .i64 x.m.b) (fun b w hb hH => exec_load rfl rfl (reads_one ty_int rfl) (hH.row 1 rfl) hb) ?_
  refine h_q hflS rfl ?_
  refine h_val rfl (.int .i64 x.m.b) (fun b w hb hH => exec_load rfl rfl (reads_one ty_int rfl) (hH.row 0 rfl) hb) ?_
  refine h_val rfl (.bool true) (fun b w hb hH => exec_cmp rfl rfl rfl (cmp_eql_t rfl) hb) ?_
  refine h_q hflS rfl ?_
  refine h_val rfl (.int .u64 x.m.t) (fun b w hb hH => exec_load rfl rfl (reads_one ty_uint64 rfl) (hH.row 1 rfl) hb) ?_
  refine h_q hflS rfl ?_
  refine h_val rfl (.int .u64 x.m.t) (fun b w hb hH => exec_load rfl rfl (reads_one ty_uint64 rfl) (hH.row 0 rfl) hb) ?_
  refine h_val rfl (.bool true) (fun b w hb hH => exec_cmp rfl rfl rfl (cmp_eql_t rfl) hb) ?_
  refine h_q hflS rfl ?_
  refine h_val rfl (.int .u64 x.m.i) (fun b w hb hH => exec_load rfl rfl (reads_one ty_uint64 rfl) (hH.row 1 rfl) hb) ?_
  refine h_q hflS rfl ?_
  refine h_val rfl (.int .u64 x.m.i) (fun b w hb hH => exec_load rfl rfl (reads_one ty_uint64 rfl) (hH.row 0 rfl) hb) ?_
  refine h_val rfl (.bool true) (fun b w hb hH => exec_cmp rfl rfl rfl (cmp_eql_t rfl) hb) ?_
  refine h_q hflS rfl ?_
  refine h_val rfl (.int .u64 x.m.lt) (fun b w hb hH => exec_load rfl rfl (reads_one ty_uint64 rfl) (hH.row 1 rfl) hb) ?_
  refine h_q hflS rfl ?_
  refine h_val rfl (.int .u64 x.m.lt) (fun b w hb hH => exec_load rfl rfl (reads_one ty_uint64 rfl) (hH.row 0 rfl) hb) ?_
  refine h_val rfl (.bool true) (fun b w hb hH => exec_cmp rfl rfl rfl (cmp_eql_t rfl) hb) ?_
  refine h_q hflS rfl ?_
  refine h_val rfl (x.ev) (fun b w hb hH => exec_load rfl rfl (reads_one ty_s_api_Entry rfl) (hH.row 1 rfl) hb) ?_
  refine h_q hflS rfl ?_
  refine h_val rfl (.slice EA2 es2.length ec2) (fun b w hb hH => exec_load rfl rfl (reads_one ty_s_api_Entry rfl) (hH.row 0 rfl) hb) ?_
  refine h_act (post := fun _ => [cell g3 28 #[.int .i64 x.m.k, .int .i64 x.m.a, .int .i64 x.m.b, .int .u64 x.m.t, .int .u64 x.m.i, .int .u64 x.m.lt, .slice EA2 es2.length ec2, .int .u64 x.m.co, .bool x.m.rf, .int .u64 x.m.bi, .int .u64 x.m.bt, .int .i64 x.m.bc, .int .i64 x.m.o, .slice A2 x.m.d.length c2, .bool x.m.la], cell g2 28 #[.int .i64 x.m.k, .int .i64 x.m.a, .int .i64 x.m.b, .int .u64 x.m.t, .int .u64 x.m.i, .int .u64 x.m.lt, x.ev, .int .u64 x.m.co, .bool x.m.rf, .int .u64 x.m.bi, .int .u64 x.m.bt, .int .i64 x.m.bc, .int .i64 x.m.o, x.dv, .bool x.m.la]]) rfl (a_call (ent_of Try.func46 (by kernel_rfl) rfl) (fun w hH => samees_true w _ _ x.es es2 (argE0 hx hH) (argE0 hy hH) h hle) rfl rfl rfl) ?_; rintro ⟨⟩
  refine h_q hflS rfl ?_
  refine h_val rfl (.int .u64 x.m.co) (fun b w hb hH => exec_load rfl rfl (reads_one ty_uint64 rfl) (hH.row 1 rfl) hb) ?_
  refine h_q hflS rfl ?_
  refine h_val rfl (.int .u64 x.m.co) (fun b w hb hH => exec_load rfl rfl (reads_one ty_uint64 rfl) (hH.row 0 rfl) hb) ?_
  refine h_val rfl (.bool true) (fun b w hb hH => exec_cmp rfl rfl rfl (cmp_eql_t rfl) hb) ?_
  refine h_q hflS rfl ?_
  refine h_val rfl (.bool x.m.rf) (fun b w hb hH => exec_load rfl rfl (reads_one ty_bool rfl) (hH.row 1 rfl) hb) ?_
  refine h_q hflS rfl ?_
  refine h_val rfl (.bool x.m.rf) (fun b w hb hH => exec_load rfl rfl (reads_one ty_bool rfl) (hH.row 0 rfl) hb) ?_
  refine h_val rfl (.bool true) (fun b w hb hH => exec_eqs (eqB_same _) rfl rfl rfl hb) ?_
  refine h_q hflS rfl ?_
  refine h_val rfl (.agg #[.int .u64 x.m.bi, .int .u64 x.m.bt, .int .i64 x.m.bc]) (fun b w hb hH => exec_load rfl rfl (reads_agg (cs := [.int .i64 x.m.k, .int .i64 x.m.a, .int .i64 x.m.b, .int .u64 x.m.t, .int .u64 x.m.i, .int .u64 x.m.lt, x.ev, .int .u64 x.m.co, .bool x.m.rf, .int .u64 x.m.bi, .int .u64 x.m.bt, .int .i64 x.m.bc, .int .i64 x.m.o, x.dv, .bool x.m.la]) ty_api_Base rfl) (hH.row 1 rfl) hb) ?_
  refine h_q hflS rfl ?_
  refine h_val rfl (.agg #[.int .u64 x.m.bi, .int .u64 x.m.bt, .int .i64 x.m.bc]) (fun b w hb hH => exec_load rfl rfl (reads_agg (cs := [.int .i64 x.m.k, .int .i64 x.m.a, .int .i64 x.m.b, .int .u64 x.m.t, .int .u64 x.m.i, .int .u64 x.m.lt, .slice EA2 es2.length ec2, .int .u64 x.m.co, .bool x.m.rf, .int .u64 x.m.bi, .int .u64 x.m.bt, .int .i64 x.m.bc, .int .i64 x.m.o, .slice A2 x.m.d.length c2, .bool x.m.la]) ty_api_Base rfl) (hH.row 0 rfl) hb) ?_
  refine h_val rfl (.bool true) (fun b w hb hH => exec_eqs (eqBase_same _ _ _) rfl rfl rfl hb) ?_
  refine h_q hflS rfl ?_
  refine h_val rfl (.int .i64 x.m.o) (fun b w hb hH => exec_load rfl rfl (reads_one ty_int rfl) (hH.row 1 rfl) hb) ?_
  refine h_q hflS rfl ?_
  refine h_val rfl (.int .i64 x.m.o) (fun b w hb hH => exec_load rfl rfl (reads_one ty_int rfl) (hH.row 0 rfl) hb) ?_
  refine h_val rfl (.bool true) (fun b w hb hH => exec_cmp rfl rfl rfl (cmp_eql_t rfl) hb) ?_
  refine h_q hflS rfl ?_
  refine h_val rfl (x.dv) (fun b w hb hH => exec_load rfl rfl (reads_one ty_s_uint8 rfl) (hH.row 1 rfl) hb) ?_
  refine h_val rfl (.string (bs x.m.d)) (fun b w hb hH => exec_str8 Try.underlying26 Try.underlying5 (by kernel_rfl) Try.underlying9 (arg80 hdx hH) rfl rfl hb) ?_
  refine h_q hflS rfl ?_
  refine h_val rfl (.slice A2 x.m.d.length c2) (fun b w hb hH => exec_load rfl rfl (reads_one ty_s_uint8 rfl) (hH.row 0 rfl) hb) ?_
  refine h_val rfl (.string (bs x.m.d)) (fun b w hb hH => exec_str8 Try.underlying26 Try.underlying5 (by kernel_rfl) Try.underlying9 (arg80 hdy hH) rfl rfl hb) ?_
  refine h_val rfl (.bool true) (fun b w hb hH => exec_same rfl rfl rfl (by simp) hb) ?_
  refine h_q hflS rfl ?_
  refine h_val rfl (.bool x.m.la) (fun b w hb hH => exec_load rfl rfl (reads_one ty_bool rfl) (hH.row 1 rfl) hb) ?_
  refine h_q hflS rfl ?_
  refine h_val rfl (.bool x.m.la) (fun b w hb hH => exec_load rfl rfl (reads_one ty_bool rfl) (hH.row 0 rfl) hb) ?_
  refine h_val rfl (.bool true) (fun b w hb hH => exec_eqs (eqB_same _) rfl rfl rfl hb) ?_
  refine h_q hflS rfl ?_
  refine h_done ?_
  refine WC2.keep (env' := [(4, .bool true)]) ⟨rfl, trivial⟩ ?_
  refine d_ret ?_
  exact f_fin1 (.tmp rfl) (fun w h => ⟨rfl, below0 h.up⟩) rfl

theorem samem_true (w : World) (x y : MsgV) (hx : EntsRd w x.ev x.es) (hy : EntsRd w y.ev y.es) (hdx : Sl8 w x.dv x.m.d) (hdy : Sl8 w y.dv y.m.d) (hex : x.m.es = x.es.map (·.e)) (hey : y.m.es = y.es.map (·.e)) (h : y.m = x.m) (hle : x.es.length ≤ 9223372036854775807) : Calls Try.prog 18 #[.agg #[.int .i64 x.m.k, .int .i64 x.m.a, .int .i64 x.m.b, .int .u64 x.m.t, .int .u64 x.m.i, .int .u64 x.m.lt, x.ev, .int .u64 x.m.co, .bool x.m.rf, .int .u64 x.m.bi, .int .u64 x.m.bt, .int .i64 x.m.bc, .int .i64 x.m.o, x.dv, .bool x.m.la], .agg #[.int .i64 y.m.k, .int .i64 y.m.a, .int .i64 y.m.b, .int .u64 y.m.t, .int .u64 y.m.i, .int .u64 y.m.lt, y.ev, .int .u64 y.m.co, .bool y.m.rf, .int .u64 y.m.bi, .int .u64 y.m.bt, .int .i64 y.m.bc, .int .i64 y.m.o, y.dv, .bool y.m.la]] w fun e w' => e = .returned (.bool true) ∧ Below w.heap.size w w' := by
  obtain ⟨ym, es2, EA2, ec2, A2, c2⟩ := y
  obtain rfl : ym = x.m := h
  exact samem_as w x es2 EA2 ec2 A2 c2 hx hy hdx hdy (hex.symm.trans hey) hle
theorem samem_ok (w : World) (x y : MsgV) (hx : MsgOk w x) (hy : MsgOk w y) (h : y.m = x.m) : Calls Try.prog 18 #[.agg #[.int .i64 x.m.k, .int .i64 x.m.a, .int .i64 x.m.b, .int .u64 x.m.t, .int .u64 x.m.i, .int .u64 x.m.lt, x.ev, .int .u64 x.m.co, .bool x.m.rf, .int .u64 x.m.bi, .int .u64 x.m.bt, .int .i64 x.m.bc, .int .i64 x.m.o, x.dv, .bool x.m.la], .agg #[.int .i64 y.m.k, .int .i64 y.m.a, .int .i64 y.m.b, .int .u64 y.m.t, .int .u64 y.m.i, .int .u64 y.m.lt, y.ev, .int .u64 y.m.co, .bool y.m.rf, .int .u64 y.m.bi, .int .u64 y.m.bt, .int .i64 y.m.bc, .int .i64 y.m.o, y.dv, .bool y.m.la]] w fun e w' => e = .returned (.bool true) ∧ Below w.heap.size w w' := samem_true w x y hx.rd hy.rd hx.d hy.d hx.es hy.es h (by have := hx.le; omega)
end Go.Proofs.Ytnhcbjlaeaohjaa.Sep
