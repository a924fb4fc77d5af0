/-
  CmdW
-/
import Derived.Test.YtlkknncndgamdaaDoorU01
set_option linter.unusedSimpArgs false
set_option linter.unusedVariables false

namespace Go.Proofs.YtlkknncndgamdaaDoor.Sep
open Go.RowKit
open Go.Proofs.YtlkknncndgamdaaDoor.Mem (Dist Blk Chg below0)

set_option maxRecDepth 100000 in
theorem right_law (w : World) (hcn : Coins w) (c : CmdD) (ho : c.ok) (is : Bool) : Calls Tryd.prog 3 #[.agg #[.int .i64 c.k, .int .u64 c.s, .int .u64 c.q, .int .u64 c.a, .int .u64 c.b, .int .i64 c.hi, .int .u64 c.lo, .int .i64 c.sc, .string (bs c.x), .string (bs c.y)], .bool is] w fun e w' => e = .returned (.bool true) ∧ Below w.heap.size w w' := by
  obtain ⟨d, hd⟩ : ∃ d, shapeC is c = d := ⟨_, rfl⟩
  have hod : d.ok := hd ▸ shapeC_ok is c ho
  obtain ⟨r, hr⟩ : ∃ r, rightB d = r := ⟨_, rfl⟩
  refine d_in (args := [.agg #[.int .i64 c.k, .int .u64 c.s, .int .u64 c.q, .int .u64 c.a, .int .u64 c.b, .int .i64 c.hi, .int .u64 c.lo, .int .i64 c.sc, .string (bs c.x), .string (bs c.y)], .bool is]) 16 Tryd.func3 rfl rfl rfl ?_
  refine d_reg ?_
  refine h_q hflS rfl ?_
  refine h_act (post := fun g2 => [cell g2 28 #[.int .i64 c.k, .int .u64 c.s, .int .u64 c.q, .int .u64 c.a, .int .u64 c.b, .int .i64 c.hi, .int .u64 c.lo, .int .i64 c.sc, .string (bs c.x), .string (bs c.y)]]) rfl (a_box (cs := #[.int .i64 c.k, .int .u64 c.s, .int .u64 c.q, .int .u64 c.a, .int .u64 c.b, .int .i64 c.hi, .int .u64 c.lo, .int .i64 c.sc, .string (bs c.x), .string (bs c.y)]) rfl rfl rfl) ?_; rintro g2
  refine h_q hflS rfl ?_
  refine h_done (d_reg ?_)
  refine h_q hflS rfl ?_
  refine h_val rfl (.agg #[.int .i64 c.k, .int .u64 c.s, .int .u64 c.q, .int .u64 c.a, .int .u64 c.b, .int .i64 c.hi, .int .u64 c.lo, .int .i64 c.sc, .string (bs c.x), .string (bs c.y)]) (fun b w hb hH => exec_load rfl rfl (reads_agg (cs := [.int .i64 c.k, .int .u64 c.s, .int .u64 c.q, .int .u64 c.a, .int .u64 c.b, .int .i64 c.hi, .int .u64 c.lo, .int .i64 c.sc, .string (bs c.x), .string (bs c.y)]) ty_api_Cmd rfl) (hH.row 0 rfl) hb) ?_
  refine h_q hflS rfl ?_
  refine h_act (post := fun _ => [cell g2 28 #[.int .i64 c.k, .int .u64 c.s, .int .u64 c.q, .int .u64 c.a, .int .u64 c.b, .int .i64 c.hi, .int .u64 c.lo, .int .i64 c.sc, .string (bs c.x), .string (bs c.y)]]) rfl (a_call (ent_of Tryd.func7 (by kernel_rfl) rfl) (fun w hH => shaped_any w (hcn.up hH) c ho is d hd) rfl rfl rfl) ?_; rintro ⟨⟩
  refine h_acts (post := fun _ => [cell g2 28 #[.int .i64 d.k, .int .u64 d.s, .int .u64 d.q, .int .u64 d.a, .int .u64 d.b, .int .i64 d.hi, .int .u64 d.lo, .int .i64 d.sc, .string (bs d.x), .string (bs d.y)]]) rfl rfl (a_store 0 (v := .agg #[.int .i64 d.k, .int .u64 d.s, .int .u64 d.q, .int .u64 d.a, .int .u64 d.b, .int .i64 d.hi, .int .u64 d.lo, .int .i64 d.sc, .string (bs d.x), .string (bs d.y)]) #[.int .i64 d.k, .int .u64 d.s, .int .u64 d.q, .int .u64 d.a, .int .u64 d.b, .int .i64 d.hi, .int .u64 d.lo, .int .i64 d.sc, .string (bs d.x), .string (bs d.y)] ty_api_Cmd.2 rfl rfl rfl rfl rfl rfl rfl rfl rfl) ?_; rintro ⟨⟩
  refine h_done (d_seq ?_)
  refine d_par 8 3 [⟨.call, 1, fun _ => .bool true, []⟩, ⟨.quiet, 1, fun _ => .bool true, [0]⟩, ⟨.quiet, 1, fun _ => .agg #[.int .i64 d.k, .int .u64 d.s, .int .u64 d.q, .int .u64 d.a, .int .u64 d.b, .int .i64 d.hi, .int .u64 d.lo, .int .i64 d.sc, .string (bs d.x), .string (bs d.y)], [1]⟩, ⟨.call, 2, fun _ => .bool r, [2, 1]⟩, ⟨.quiet, 1, fun _ => .agg #[.int .i64 d.k, .int .u64 d.s, .int .u64 d.q, .int .u64 d.a, .int .u64 d.b, .int .i64 d.hi, .int .u64 d.lo, .int .i64 d.sc, .string (bs d.x), .string (bs d.y)], [1]⟩, ⟨.call, 3, fun _ => .bool r, [4, 1]⟩, ⟨.quiet, 3, fun _ => .bool true, [3, 5, 1]⟩, ⟨.quiet, 3, fun _ => .bool true, [1, 6]⟩] [(2, .pointer (some ⟨g2, 0, none⟩)), (4, .bool false)] (by kernel_rfl) (by kernel_rfl) ⟨rfl, rfl, trivial⟩ ?_ ?_
  · skip
    refine o_cons (o_call (ent_of Tryd.func8 (by kernel_rfl) rfl) (fun w hU => known_true w) (fun _ _ => rfl) rfl (fun _ _ => rfl) (fun _ _ => rfl)) ?_
    refine o_cons (o_q hflS (fun _ _ => rfl) (fun _ _ => rfl)) ?_
    refine o_cons (o_load 0 (reads_agg (cs := [.int .i64 d.k, .int .u64 d.s, .int .u64 d.q, .int .u64 d.a, .int .u64 d.b, .int .i64 d.hi, .int .u64 d.lo, .int .i64 d.sc, .string (bs d.x), .string (bs d.y)]) ty_api_Cmd rfl) (fun _ _ => rfl) rfl (fun _ _ => rfl) rfl) ?_
    refine o_cons (o_call (ent_of Tryd.func9 (by kernel_rfl) rfl) (fun w hU => right_any w d hod r hr) (fun _ _ => rfl) rfl (fun _ _ => rfl) (fun _ _ => rfl)) ?_
    refine o_cons (o_load 0 (reads_agg (cs := [.int .i64 d.k, .int .u64 d.s, .int .u64 d.q, .int .u64 d.a, .int .u64 d.b, .int .i64 d.hi, .int .u64 d.lo, .int .i64 d.sc, .string (bs d.x), .string (bs d.y)]) ty_api_Cmd rfl) (fun _ _ => rfl) rfl (fun _ _ => rfl) rfl) ?_
    refine o_cons (o_call (ent_of Tryd.func10 (by kernel_rfl) rfl) (fun w hU => rright_any w d hod r hr) (fun _ _ => rfl) rfl (fun _ _ => rfl) (fun _ _ => rfl)) ?_
    refine o_cons (o_eqs (eqB_same _) (fun _ _ => rfl) rfl (fun _ _ => rfl) (fun _ _ => rfl)) ?_
    refine o_cons (o_q hflS (fun _ _ => rfl) (fun _ _ => rfl)) ?_
    exact o_nil
  intro σ1 gs1
  refine WL2.keep (env' := [(4, .bool false), (15, .bool true)]) ⟨rfl, rfl, trivial⟩ ?_
  refine h_q hflS rfl ?_
  refine h_nil (f_to (d_ret ?_))
  exact f_fin1 (.tmp rfl) (fun w h => ⟨rfl, below0 h.up⟩) rfl

set_option maxRecDepth 100000 in
theorem encodes_law (w : World) (hcn : Coins w) (c : CmdD) (ho : c.ok) (is : Bool) : Calls Tryd.prog 4 #[.agg #[.int .i64 c.k, .int .u64 c.s, .int .u64 c.q, .int .u64 c.a, .int .u64 c.b, .int .i64 c.hi, .int .u64 c.lo, .int .i64 c.sc, .string (bs c.x), .string (bs c.y)], .bool is] w fun e w' => e = .returned (.bool true) ∧ Below w.heap.size w w' := by
  obtain ⟨d, hd⟩ : ∃ d, shapeC is c = d := ⟨_, rfl⟩
  have hod : d.ok := hd ▸ shapeC_ok is c ho
  refine d_in (args := [.agg #[.int .i64 c.k, .int .u64 c.s, .int .u64 c.q, .int .u64 c.a, .int .u64 c.b, .int .i64 c.hi, .int .u64 c.lo, .int .i64 c.sc, .string (bs c.x), .string (bs c.y)], .bool is]) 35 Tryd.func4 rfl rfl rfl ?_
  refine d_reg ?_
  refine h_q hflS rfl ?_
  refine h_act (post := fun g2 => [cell g2 28 #[.int .i64 c.k, .int .u64 c.s, .int .u64 c.q, .int .u64 c.a, .int .u64 c.b, .int .i64 c.hi, .int .u64 c.lo, .int .i64 c.sc, .string (bs c.x), .string (bs c.y)]]) rfl (a_box (cs := #[.int .i64 c.k, .int .u64 c.s, .int .u64 c.q, .int .u64 c.a, .int .u64 c.b, .int .i64 c.hi, .int .u64 c.lo, .int .i64 c.sc, .string (bs c.x), .string (bs c.y)]) rfl rfl rfl) ?_; rintro g2
  refine h_q hflS rfl ?_
  refine h_done (d_reg ?_)
  refine h_q hflS rfl ?_
  refine h_val rfl (.agg #[.int .i64 c.k, .int .u64 c.s, .int .u64 c.q, .int .u64 c.a, .int .u64 c.b, .int .i64 c.hi, .int .u64 c.lo, .int .i64 c.sc, .string (bs c.x), .string (bs c.y)]) (fun b w hb hH => exec_load rfl rfl (reads_agg (cs := [.int .i64 c.k, .int .u64 c.s, .int .u64 c.q, .int .u64 c.a, .int .u64 c.b, .int .i64 c.hi, .int .u64 c.lo, .int .i64 c.sc, .string (bs c.x), .string (bs c.y)]) ty_api_Cmd rfl) (hH.row 0 rfl) hb) ?_
  refine h_q hflS rfl ?_
  refine h_act (post := fun _ => [cell g2 28 #[.int .i64 c.k, .int .u64 c.s, .int .u64 c.q, .int .u64 c.a, .int .u64 c.b, .int .i64 c.hi, .int .u64 c.lo, .int .i64 c.sc, .string (bs c.x), .string (bs c.y)]]) rfl (a_call (ent_of Tryd.func7 (by kernel_rfl) rfl) (fun w hH => shaped_any w (hcn.up hH) c ho is d hd) rfl rfl rfl) ?_; rintro ⟨⟩
  refine h_acts (post := fun _ => [cell g2 28 #[.int .i64 d.k, .int .u64 d.s, .int .u64 d.q, .int .u64 d.a, .int .u64 d.b, .int .i64 d.hi, .int .u64 d.lo, .int .i64 d.sc, .string (bs d.x), .string (bs d.y)]]) rfl rfl (a_store 0 (v := .agg #[.int .i64 d.k, .int .u64 d.s, .int .u64 d.q, .int .u64 d.a, .int .u64 d.b, .int .i64 d.hi, .int .u64 d.lo, .int .i64 d.sc, .string (bs d.x), .string (bs d.y)]) #[.int .i64 d.k, .int .u64 d.s, .int .u64 d.q, .int .u64 d.a, .int .u64 d.b, .int .i64 d.hi, .int .u64 d.lo, .int .i64 d.sc, .string (bs d.x), .string (bs d.y)] ty_api_Cmd.2 rfl rfl rfl rfl rfl rfl rfl rfl rfl) ?_; rintro ⟨⟩
  refine h_done ?_
  rcases Bool.eq_false_or_eq_true (rightB d) with hr | hr
  · skip
    refine d_reg ?_
    refine h_q hflS rfl ?_
    refine h_val rfl (.agg #[.int .i64 d.k, .int .u64 d.s, .int .u64 d.q, .int .u64 d.a, .int .u64 d.b, .int .i64 d.hi, .int .u64 d.lo, .int .i64 d.sc, .string (bs d.x), .string (bs d.y)]) (fun b w hb hH => exec_load rfl rfl (reads_agg (cs := [.int .i64 d.k, .int .u64 d.s, .int .u64 d.q, .int .u64 d.a, .int .u64 d.b, .int .i64 d.hi, .int .u64 d.lo, .int .i64 d.sc, .string (bs d.x), .string (bs d.y)]) ty_api_Cmd rfl) (hH.row 0 rfl) hb) ?_
    refine h_act (post := fun v1 => [Vec 5 1 encB v1 (encL d), cell g2 28 #[.int .i64 d.k, .int .u64 d.s, .int .u64 d.q, .int .u64 d.a, .int .u64 d.b, .int .i64 d.hi, .int .u64 d.lo, .int .i64 d.sc, .string (bs d.x), .string (bs d.y)]]) rfl (a_does (os' := fun v1 => [Vec 5 1 encB v1 (encL d), cell g2 28 #[.int .i64 d.k, .int .u64 d.s, .int .u64 d.q, .int .u64 d.a, .int .u64 d.b, .int .i64 d.hi, .int .u64 d.lo, .int .i64 d.sc, .string (bs d.x), .string (bs d.y)]]) [] 0 (ent_of Tryd.func11 (by kernel_rfl) rfl) (encode_does d hod hr) rfl rfl rfl (fun _ => rfl) rfl rfl rfl) ?_; rintro v1
    refine h_q hflS rfl ?_
    refine h_done (d_reg ?_)
    refine h_q hflS rfl ?_
    refine h_val rfl (.agg #[.int .i64 d.k, .int .u64 d.s, .int .u64 d.q, .int .u64 d.a, .int .u64 d.b, .int .i64 d.hi, .int .u64 d.lo, .int .i64 d.sc, .string (bs d.x), .string (bs d.y)]) (fun b w hb hH => exec_load rfl rfl (reads_agg (cs := [.int .i64 d.k, .int .u64 d.s, .int .u64 d.q, .int .u64 d.a, .int .u64 d.b, .int .i64 d.hi, .int .u64 d.lo, .int .i64 d.sc, .string (bs d.x), .string (bs d.y)]) ty_api_Cmd rfl) (hH.row 1 rfl) hb) ?_
    refine h_act (post := fun v2 => [Vec 5 1 encB v2 (encL d), Vec 5 1 encB v1 (encL d), cell g2 28 #[.int .i64 d.k, .int .u64 d.s, .int .u64 d.q, .int .u64 d.a, .int .u64 d.b, .int .i64 d.hi, .int .u64 d.lo, .int .i64 d.sc, .string (bs d.x), .string (bs d.y)]]) rfl (a_does (os' := fun v2 => [Vec 5 1 encB v2 (encL d), Vec 5 1 encB v1 (encL d), cell g2 28 #[.int .i64 d.k, .int .u64 d.s, .int .u64 d.q, .int .u64 d.a, .int .u64 d.b, .int .i64 d.hi, .int .u64 d.lo, .int .i64 d.sc, .string (bs d.x), .string (bs d.y)]]) [] 0 (ent_of Tryd.func12 (by kernel_rfl) rfl) (rencode_does d hod hr) rfl rfl rfl (fun _ => rfl) rfl rfl rfl) ?_; rintro v2
    refine h_q hflS rfl ?_
    refine h_done (d_reg ?_)
    refine h_q hflS rfl ?_
    refine h_act (post := fun _ => [Vec 5 1 encB v2 (encL d), Vec 5 1 encB v1 (encL d), cell g2 28 #[.int .i64 d.k, .int .u64 d.s, .int .u64 d.q, .int .u64 d.a, .int .u64 d.b, .int .i64 d.hi, .int .u64 d.lo, .int .i64 d.sc, .string (bs d.x), .string (bs d.y)]]) rfl (a_call (ent_of Tryd.func8 (by kernel_rfl) rfl) (fun w hH => known_true w) rfl rfl rfl) ?_; rintro ⟨⟩
    refine h_q hflS rfl ?_
    refine h_val rfl (.string (bs (encL d))) (fun b w hb hH => exec_str8 Tryd.underlying33 Tryd.underlying5 (by kernel_rfl) Tryd.underlying9 (hH.sl8 1 rfl) rfl rfl hb) ?_
    refine h_q hflS rfl ?_
    refine h_val rfl (.string (bs (encL d))) (fun b w hb hH => exec_str8 Tryd.underlying33 Tryd.underlying5 (by kernel_rfl) Tryd.underlying9 (hH.sl8 0 rfl) rfl rfl hb) ?_
    refine h_val rfl (.bool true) (fun b w hb hH => exec_same rfl rfl rfl (by simp) hb) ?_
    refine h_q hflS rfl ?_
    refine h_val rfl (.bool true) (fun b w hb hH => exec_cmp rfl rfl rfl (cmp_eql_t (by decide)) hb) ?_
    refine h_q hflS rfl ?_
    refine h_done (d_ret ?_)
    exact f_fin1 (.tmp rfl) (fun w h => ⟨rfl, below0 h.up⟩) rfl
  · skip
    refine d_reg ?_
    refine h_q hflS rfl ?_
    refine h_val rfl (.agg #[.int .i64 d.k, .int .u64 d.s, .int .u64 d.q, .int .u64 d.a, .int .u64 d.b, .int .i64 d.hi, .int .u64 d.lo, .int .i64 d.sc, .string (bs d.x), .string (bs d.y)]) (fun b w hb hH => exec_load rfl rfl (reads_agg (cs := [.int .i64 d.k, .int .u64 d.s, .int .u64 d.q, .int .u64 d.a, .int .u64 d.b, .int .i64 d.hi, .int .u64 d.lo, .int .i64 d.sc, .string (bs d.x), .string (bs d.y)]) ty_api_Cmd rfl) (hH.row 0 rfl) hb) ?_
    refine h_act (post := fun _ => [cell g2 28 #[.int .i64 d.k, .int .u64 d.s, .int .u64 d.q, .int .u64 d.a, .int .u64 d.b, .int .i64 d.hi, .int .u64 d.lo, .int .i64 d.sc, .string (bs d.x), .string (bs d.y)]]) rfl (a_call (ent_of Tryd.func11 (by kernel_rfl) rfl) (fun w hH => encode_bad w d hod hr) rfl rfl rfl) ?_; rintro ⟨⟩
    refine h_q hflS rfl ?_
    refine h_done (d_reg ?_)
    refine h_q hflS rfl ?_
    refine h_val rfl (.agg #[.int .i64 d.k, .int .u64 d.s, .int .u64 d.q, .int .u64 d.a, .int .u64 d.b, .int .i64 d.hi, .int .u64 d.lo, .int .i64 d.sc, .string (bs d.x), .string (bs d.y)]) (fun b w hb hH => exec_load rfl rfl (reads_agg (cs := [.int .i64 d.k, .int .u64 d.s, .int .u64 d.q, .int .u64 d.a, .int .u64 d.b, .int .i64 d.hi, .int .u64 d.lo, .int .i64 d.sc, .string (bs d.x), .string (bs d.y)]) ty_api_Cmd rfl) (hH.row 0 rfl) hb) ?_
    refine h_act (post := fun _ => [cell g2 28 #[.int .i64 d.k, .int .u64 d.s, .int .u64 d.q, .int .u64 d.a, .int .u64 d.b, .int .i64 d.hi, .int .u64 d.lo, .int .i64 d.sc, .string (bs d.x), .string (bs d.y)]]) rfl (a_call (ent_of Tryd.func12 (by kernel_rfl) rfl) (fun w hH => rencode_bad w d hod hr) rfl rfl rfl) ?_; rintro ⟨⟩
    refine h_q hflS rfl ?_
    refine h_done (d_reg ?_)
    refine h_q hflS rfl ?_
    refine h_act (post := fun _ => [cell g2 28 #[.int .i64 d.k, .int .u64 d.s, .int .u64 d.q, .int .u64 d.a, .int .u64 d.b, .int .i64 d.hi, .int .u64 d.lo, .int .i64 d.sc, .string (bs d.x), .string (bs d.y)]]) rfl (a_call (ent_of Tryd.func8 (by kernel_rfl) rfl) (fun w hH => known_true w) rfl rfl rfl) ?_; rintro ⟨⟩
    refine h_q hflS rfl ?_
    refine h_val rfl (.string (bs ([]))) (fun b w hb hH => exec_str8 Tryd.underlying33 Tryd.underlying5 (by kernel_rfl) Tryd.underlying9 (sl8_nil w) rfl rfl hb) ?_
    refine h_q hflS rfl ?_
    refine h_val rfl (.string (bs ([]))) (fun b w hb hH => exec_str8 Tryd.underlying33 Tryd.underlying5 (by kernel_rfl) Tryd.underlying9 (sl8_nil w) rfl rfl hb) ?_
    refine h_val rfl (.bool true) (fun b w hb hH => exec_same rfl rfl rfl (by simp) hb) ?_
    refine h_q hflS rfl ?_
    refine h_val rfl (.bool true) (fun b w hb hH => exec_cmp rfl rfl rfl (cmp_eql_t (by decide)) hb) ?_
    refine h_q hflS rfl ?_
    refine h_done (d_ret ?_)
    exact f_fin1 (.tmp rfl) (fun w h => ⟨rfl, below0 h.up⟩) rfl

set_option maxRecDepth 100000 in
theorem spoilt_law (w : World) (hcn : Coins w) (c : CmdD) (ho : c.ok) (how at_ to : Int) (w1 : I64 how) (w2 : I64 at_) (w3 : I64 to) : Calls Tryd.prog 5 #[.agg #[.int .i64 c.k, .int .u64 c.s, .int .u64 c.q, .int .u64 c.a, .int .u64 c.b, .int .i64 c.hi, .int .u64 c.lo, .int .i64 c.sc, .string (bs c.x), .string (bs c.y)], .int .i64 how, .int .i64 at_, .int .i64 to] w fun e w' => e = .returned (.bool true) ∧ Below w.heap.size w w' := by
  obtain ⟨d, hd⟩ : ∃ d, shapeC true c = d := ⟨_, rfl⟩
  have hod : d.ok := hd ▸ shapeC_ok true c ho
  have hr : rightB d = true := hd ▸ handC_right c
  have hlen := encL_len hod hr
  have hpos : 0 < (encL d).length := by rw [encL_eq]; simp
  refine d_in (args := [.agg #[.int .i64 c.k, .int .u64 c.s, .int .u64 c.q, .int .u64 c.a, .int .u64 c.b, .int .i64 c.hi, .int .u64 c.lo, .int .i64 c.sc, .string (bs c.x), .string (bs c.y)], .int .i64 how, .int .i64 at_, .int .i64 to]) 27 Tryd.func5 rfl rfl rfl ?_
  refine d_reg ?_
  refine h_q hflS rfl ?_
  refine h_act (post := fun g4 => [cell g4 28 #[.int .i64 c.k, .int .u64 c.s, .int .u64 c.q, .int .u64 c.a, .int .u64 c.b, .int .i64 c.hi, .int .u64 c.lo, .int .i64 c.sc, .string (bs c.x), .string (bs c.y)]]) rfl (a_box (cs := #[.int .i64 c.k, .int .u64 c.s, .int .u64 c.q, .int .u64 c.a, .int .u64 c.b, .int .i64 c.hi, .int .u64 c.lo, .int .i64 c.sc, .string (bs c.x), .string (bs c.y)]) rfl rfl rfl) ?_; rintro g4
  refine h_q hflS rfl ?_
  refine h_done (d_reg ?_)
  refine h_q hflS rfl ?_
  refine h_val rfl (.agg #[.int .i64 c.k, .int .u64 c.s, .int .u64 c.q, .int .u64 c.a, .int .u64 c.b, .int .i64 c.hi, .int .u64 c.lo, .int .i64 c.sc, .string (bs c.x), .string (bs c.y)]) (fun b w hb hH => exec_load rfl rfl (reads_agg (cs := [.int .i64 c.k, .int .u64 c.s, .int .u64 c.q, .int .u64 c.a, .int .u64 c.b, .int .i64 c.hi, .int .u64 c.lo, .int .i64 c.sc, .string (bs c.x), .string (bs c.y)]) ty_api_Cmd rfl) (hH.row 0 rfl) hb) ?_
  refine h_act (post := fun _ => [cell g4 28 #[.int .i64 c.k, .int .u64 c.s, .int .u64 c.q, .int .u64 c.a, .int .u64 c.b, .int .i64 c.hi, .int .u64 c.lo, .int .i64 c.sc, .string (bs c.x), .string (bs c.y)]]) rfl (a_call (ent_of Tryd.func7 (by kernel_rfl) rfl) (fun w hH => shaped_any w (hcn.up hH) c ho true d hd) rfl rfl rfl) ?_; rintro ⟨⟩
  refine h_act (post := fun v1 => [Vec 5 1 encB v1 (encL d), cell g4 28 #[.int .i64 c.k, .int .u64 c.s, .int .u64 c.q, .int .u64 c.a, .int .u64 c.b, .int .i64 c.hi, .int .u64 c.lo, .int .i64 c.sc, .string (bs c.x), .string (bs c.y)]]) rfl (a_does (os' := fun v1 => [Vec 5 1 encB v1 (encL d), cell g4 28 #[.int .i64 c.k, .int .u64 c.s, .int .u64 c.q, .int .u64 c.a, .int .u64 c.b, .int .i64 c.hi, .int .u64 c.lo, .int .i64 c.sc, .string (bs c.x), .string (bs c.y)]]) [] 0 (ent_of Tryd.func12 (by kernel_rfl) rfl) (rencode_does d hod hr) rfl rfl rfl (fun _ => rfl) rfl rfl rfl) ?_; rintro v1
  refine h_q hflS rfl ?_
  refine h_done (d_reg ?_)
  refine h_q hflS rfl ?_
  refine h_val rfl (.bool true) (fun b w hb hH => exec_cmp rfl rfl rfl (cmp_eql_t (by decide)) hb) ?_
  refine h_q hflS rfl ?_
  refine h_act rfl (a_does  [0] 0 (ent_of Tryd.func14 (by kernel_rfl) rfl) (spoilt_does v1 (encL d) how at_ to hpos (by omega) w1 w2 w3) rfl rfl rfl (fun _ => rfl) rfl rfl rfl) ?_; rintro ⟨u, L, X⟩
  refine WL2.fact 0 rfl (fun _ h => h.2) ?_; rintro ⟨hRX, hLX⟩
  refine h_act (post := fun _ => [fact (Rd8 X u L ∧ L.length ≤ 2000), X, cell g4 28 #[.int .i64 c.k, .int .u64 c.s, .int .u64 c.q, .int .u64 c.a, .int .u64 c.b, .int .i64 c.hi, .int .u64 c.lo, .int .i64 c.sc, .string (bs c.x), .string (bs c.y)]]) rfl (a_call (ent_of Tryd.func13 (by kernel_rfl) rfl) (fun w hH => decodes_true w u L (hH.rd8 1 rfl hRX) (Nat.le_trans hLX (by decide))) rfl rfl rfl) ?_; rintro ⟨⟩
  refine h_q hflS rfl ?_
  refine h_done (d_ret ?_)
  exact f_fin1 (.tmp rfl) (fun w h => ⟨rfl, below0 h.up⟩) rfl

set_option maxRecDepth 100000 in
theorem back_law (w : World) (hcn : Coins w) (c : CmdD) (ho : c.ok) (is : Bool) : Calls Tryd.prog 6 #[.agg #[.int .i64 c.k, .int .u64 c.s, .int .u64 c.q, .int .u64 c.a, .int .u64 c.b, .int .i64 c.hi, .int .u64 c.lo, .int .i64 c.sc, .string (bs c.x), .string (bs c.y)], .bool is] w fun e w' => e = .returned (.bool true) ∧ Below w.heap.size w w' := by
  obtain ⟨d, hd⟩ : ∃ d, shapeC is c = d := ⟨_, rfl⟩
  have hod : d.ok := hd ▸ shapeC_ok is c ho
  refine d_in (args := [.agg #[.int .i64 c.k, .int .u64 c.s, .int .u64 c.q, .int .u64 c.a, .int .u64 c.b, .int .i64 c.hi, .int .u64 c.lo, .int .i64 c.sc, .string (bs c.x), .string (bs c.y)], .bool is]) 52 Tryd.func6 rfl rfl rfl ?_
  refine d_reg ?_
  refine h_q hflS rfl ?_
  refine h_act (post := fun g2 => [cell g2 28 #[.int .i64 c.k, .int .u64 c.s, .int .u64 c.q, .int .u64 c.a, .int .u64 c.b, .int .i64 c.hi, .int .u64 c.lo, .int .i64 c.sc, .string (bs c.x), .string (bs c.y)]]) rfl (a_box (cs := #[.int .i64 c.k, .int .u64 c.s, .int .u64 c.q, .int .u64 c.a, .int .u64 c.b, .int .i64 c.hi, .int .u64 c.lo, .int .i64 c.sc, .string (bs c.x), .string (bs c.y)]) rfl rfl rfl) ?_; rintro g2
  refine h_q hflS rfl ?_
  refine h_done (d_reg ?_)
  refine h_q hflS rfl ?_
  refine h_val rfl (.agg #[.int .i64 c.k, .int .u64 c.s, .int .u64 c.q, .int .u64 c.a, .int .u64 c.b, .int .i64 c.hi, .int .u64 c.lo, .int .i64 c.sc, .string (bs c.x), .string (bs c.y)]) (fun b w hb hH => exec_load rfl rfl (reads_agg (cs := [.int .i64 c.k, .int .u64 c.s, .int .u64 c.q, .int .u64 c.a, .int .u64 c.b, .int .i64 c.hi, .int .u64 c.lo, .int .i64 c.sc, .string (bs c.x), .string (bs c.y)]) ty_api_Cmd rfl) (hH.row 0 rfl) hb) ?_
  refine h_q hflS rfl ?_
  refine h_act (post := fun _ => [cell g2 28 #[.int .i64 c.k, .int .u64 c.s, .int .u64 c.q, .int .u64 c.a, .int .u64 c.b, .int .i64 c.hi, .int .u64 c.lo, .int .i64 c.sc, .string (bs c.x), .string (bs c.y)]]) rfl (a_call (ent_of Tryd.func7 (by kernel_rfl) rfl) (fun w hH => shaped_any w (hcn.up hH) c ho is d hd) rfl rfl rfl) ?_; rintro ⟨⟩
  refine h_acts (post := fun _ => [cell g2 28 #[.int .i64 d.k, .int .u64 d.s, .int .u64 d.q, .int .u64 d.a, .int .u64 d.b, .int .i64 d.hi, .int .u64 d.lo, .int .i64 d.sc, .string (bs d.x), .string (bs d.y)]]) rfl rfl (a_store 0 (v := .agg #[.int .i64 d.k, .int .u64 d.s, .int .u64 d.q, .int .u64 d.a, .int .u64 d.b, .int .i64 d.hi, .int .u64 d.lo, .int .i64 d.sc, .string (bs d.x), .string (bs d.y)]) #[.int .i64 d.k, .int .u64 d.s, .int .u64 d.q, .int .u64 d.a, .int .u64 d.b, .int .i64 d.hi, .int .u64 d.lo, .int .i64 d.sc, .string (bs d.x), .string (bs d.y)] ty_api_Cmd.2 rfl rfl rfl rfl rfl rfl rfl rfl rfl) ?_; rintro ⟨⟩
  refine h_done ?_
  rcases Bool.eq_false_or_eq_true (rightB d) with hr | hr
  · skip
    have hlen := encL_len hod hr
    refine d_reg ?_
    refine h_q hflS rfl ?_
    refine h_val rfl (.agg #[.int .i64 d.k, .int .u64 d.s, .int .u64 d.q, .int .u64 d.a, .int .u64 d.b, .int .i64 d.hi, .int .u64 d.lo, .int .i64 d.sc, .string (bs d.x), .string (bs d.y)]) (fun b w hb hH => exec_load rfl rfl (reads_agg (cs := [.int .i64 d.k, .int .u64 d.s, .int .u64 d.q, .int .u64 d.a, .int .u64 d.b, .int .i64 d.hi, .int .u64 d.lo, .int .i64 d.sc, .string (bs d.x), .string (bs d.y)]) ty_api_Cmd rfl) (hH.row 0 rfl) hb) ?_
    refine h_act (post := fun v1 => [Vec 5 1 encB v1 (encL d), cell g2 28 #[.int .i64 d.k, .int .u64 d.s, .int .u64 d.q, .int .u64 d.a, .int .u64 d.b, .int .i64 d.hi, .int .u64 d.lo, .int .i64 d.sc, .string (bs d.x), .string (bs d.y)]]) rfl (a_does (os' := fun v1 => [Vec 5 1 encB v1 (encL d), cell g2 28 #[.int .i64 d.k, .int .u64 d.s, .int .u64 d.q, .int .u64 d.a, .int .u64 d.b, .int .i64 d.hi, .int .u64 d.lo, .int .i64 d.sc, .string (bs d.x), .string (bs d.y)]]) [] 0 (ent_of Tryd.func11 (by kernel_rfl) rfl) (encode_does d hod hr) rfl rfl rfl (fun _ => rfl) rfl rfl rfl) ?_; rintro v1
    refine h_q hflS rfl ?_
    refine h_done (d_seq (d_reg ?_))
    refine h_q hflS rfl ?_
    refine h_act (post := fun _ => [Vec 5 1 encB v1 (encL d), cell g2 28 #[.int .i64 d.k, .int .u64 d.s, .int .u64 d.q, .int .u64 d.a, .int .u64 d.b, .int .i64 d.hi, .int .u64 d.lo, .int .i64 d.sc, .string (bs d.x), .string (bs d.y)]]) rfl (a_call (ent_of Tryd.func8 (by kernel_rfl) rfl) (fun w hH => known_true w) rfl rfl rfl) ?_; rintro ⟨⟩
    refine h_q hflS rfl ?_
    refine h_val rfl (.bool true) (fun b w hb hH => exec_cmp rfl rfl rfl (cmp_eql_t (by decide)) hb) ?_
    refine h_val rfl (.agg #[.int .i64 d.k, .int .u64 d.s, .int .u64 d.q, .int .u64 d.a, .int .u64 d.b, .int .i64 d.hi, .int .u64 d.lo, .int .i64 d.sc, .string (bs d.x), .string (bs d.y)]) (fun b w hb hH => exec_load rfl rfl (reads_agg (cs := [.int .i64 d.k, .int .u64 d.s, .int .u64 d.q, .int .u64 d.a, .int .u64 d.b, .int .i64 d.hi, .int .u64 d.lo, .int .i64 d.sc, .string (bs d.x), .string (bs d.y)]) ty_api_Cmd rfl) (hH.row 1 rfl) hb) ?_
    refine h_act (post := fun _ => [Vec 5 1 encB v1 (encL d), cell g2 28 #[.int .i64 d.k, .int .u64 d.s, .int .u64 d.q, .int .u64 d.a, .int .u64 d.b, .int .i64 d.hi, .int .u64 d.lo, .int .i64 d.sc, .string (bs d.x), .string (bs d.y)]]) rfl (a_call (ent_of Tryd.func9 (by kernel_rfl) rfl) (fun w hH => right_any w d hod true hr) rfl rfl rfl) ?_; rintro ⟨⟩
    refine h_val rfl (.bool false) (fun b w hb hH => exec_nes (neB true true) rfl rfl rfl hb) ?_
    refine h_q hflS rfl ?_
    refine h_done (d_else rfl (d_skip (f_to (d_seq (d_reg ?_)))))
    refine h_q hflS rfl ?_
    refine h_val rfl (.bool false) (fun b w hb hH => exec_cmp rfl rfl rfl (cmp_neq_f (by decide)) hb) ?_
    refine h_done (d_else rfl (d_skip (f_to (d_reg ?_))))
    refine h_q hflS rfl ?_
    refine h_act (post := fun _ => [Vec 5 1 encB v1 (encL d), cell g2 28 #[.int .i64 d.k, .int .u64 d.s, .int .u64 d.q, .int .u64 d.a, .int .u64 d.b, .int .i64 d.hi, .int .u64 d.lo, .int .i64 d.sc, .string (bs d.x), .string (bs d.y)]]) rfl (a_call (ent_of Tryd.func15 (by kernel_rfl) rfl) (fun w hH => decode_any w v1 (encL d) (hH.sl8 0 rfl) (by omega) d 0 (decoded_lay hod hr)) rfl rfl rfl) ?_; rintro ⟨⟩
    refine h_q hflS rfl ?_
    refine h_act (post := fun g7 => [cell g7 28 #[.int .i64 0, .int .u64 0, .int .u64 0, .int .u64 0, .int .u64 0, .int .i64 0, .int .u64 0, .int .i64 0, .string { data := #[] }, .string { data := #[] }], Vec 5 1 encB v1 (encL d), cell g2 28 #[.int .i64 d.k, .int .u64 d.s, .int .u64 d.q, .int .u64 d.a, .int .u64 d.b, .int .i64 d.hi, .int .u64 d.lo, .int .i64 d.sc, .string (bs d.x), .string (bs d.y)]]) rfl (a_alloc ze_api_Cmd rfl) ?_; rintro g7
    refine h_acts (post := fun _ => [cell g7 28 #[.int .i64 d.k, .int .u64 d.s, .int .u64 d.q, .int .u64 d.a, .int .u64 d.b, .int .i64 d.hi, .int .u64 d.lo, .int .i64 d.sc, .string (bs d.x), .string (bs d.y)], Vec 5 1 encB v1 (encL d), cell g2 28 #[.int .i64 d.k, .int .u64 d.s, .int .u64 d.q, .int .u64 d.a, .int .u64 d.b, .int .i64 d.hi, .int .u64 d.lo, .int .i64 d.sc, .string (bs d.x), .string (bs d.y)]]) rfl rfl (a_store 0 (v := .agg #[.int .i64 d.k, .int .u64 d.s, .int .u64 d.q, .int .u64 d.a, .int .u64 d.b, .int .i64 d.hi, .int .u64 d.lo, .int .i64 d.sc, .string (bs d.x), .string (bs d.y)]) #[.int .i64 d.k, .int .u64 d.s, .int .u64 d.q, .int .u64 d.a, .int .u64 d.b, .int .i64 d.hi, .int .u64 d.lo, .int .i64 d.sc, .string (bs d.x), .string (bs d.y)] ty_api_Cmd.2 rfl rfl rfl rfl rfl rfl rfl rfl rfl) ?_; rintro ⟨⟩
    refine h_q hflS rfl ?_
    refine h_done (d_reg ?_)
    refine h_q hflS rfl ?_
    refine h_val rfl (.bool true) (fun b w hb hH => exec_cmp rfl rfl rfl (cmp_eql_t (by decide)) hb) ?_
    refine h_q hflS rfl ?_
    refine h_val rfl (.agg #[.int .i64 d.k, .int .u64 d.s, .int .u64 d.q, .int .u64 d.a, .int .u64 d.b, .int .i64 d.hi, .int .u64 d.lo, .int .i64 d.sc, .string (bs d.x), .string (bs d.y)]) (fun b w hb hH => exec_load rfl rfl (reads_agg (cs := [.int .i64 d.k, .int .u64 d.s, .int .u64 d.q, .int .u64 d.a, .int .u64 d.b, .int .i64 d.hi, .int .u64 d.lo, .int .i64 d.sc, .string (bs d.x), .string (bs d.y)]) ty_api_Cmd rfl) (hH.row 0 rfl) hb) ?_
    refine h_val rfl (.agg #[.int .i64 d.k, .int .u64 d.s, .int .u64 d.q, .int .u64 d.a, .int .u64 d.b, .int .i64 d.hi, .int .u64 d.lo, .int .i64 d.sc, .string (bs d.x), .string (bs d.y)]) (fun b w hb hH => exec_load rfl rfl (reads_agg (cs := [.int .i64 d.k, .int .u64 d.s, .int .u64 d.q, .int .u64 d.a, .int .u64 d.b, .int .i64 d.hi, .int .u64 d.lo, .int .i64 d.sc, .string (bs d.x), .string (bs d.y)]) ty_api_Cmd rfl) (hH.row 2 rfl) hb) ?_
    refine h_val rfl (.bool true) (fun b w hb hH => exec_eqs (eqC_same d) rfl rfl rfl hb) ?_
    refine h_q hflS rfl ?_
    refine h_val rfl (.int .i64 ((encL d).length : Int)) (fun b w hb hH => e_vlen 1 Tryd.underlying33 rfl rfl rfl hH hb) ?_
    refine h_val rfl (.bool true) (fun b w hb hH => exec_cmp rfl rfl rfl (cmp_leq_t (by omega)) hb) ?_
    refine h_q hflS rfl ?_
    refine h_done (d_ret ?_)
    exact f_fin1 (.tmp rfl) (fun w h => ⟨rfl, below0 h.up⟩) rfl
  · skip
    refine d_reg ?_
    refine h_q hflS rfl ?_
    refine h_val rfl (.agg #[.int .i64 d.k, .int .u64 d.s, .int .u64 d.q, .int .u64 d.a, .int .u64 d.b, .int .i64 d.hi, .int .u64 d.lo, .int .i64 d.sc, .string (bs d.x), .string (bs d.y)]) (fun b w hb hH => exec_load rfl rfl (reads_agg (cs := [.int .i64 d.k, .int .u64 d.s, .int .u64 d.q, .int .u64 d.a, .int .u64 d.b, .int .i64 d.hi, .int .u64 d.lo, .int .i64 d.sc, .string (bs d.x), .string (bs d.y)]) ty_api_Cmd rfl) (hH.row 0 rfl) hb) ?_
    refine h_act (post := fun _ => [cell g2 28 #[.int .i64 d.k, .int .u64 d.s, .int .u64 d.q, .int .u64 d.a, .int .u64 d.b, .int .i64 d.hi, .int .u64 d.lo, .int .i64 d.sc, .string (bs d.x), .string (bs d.y)]]) rfl (a_call (ent_of Tryd.func11 (by kernel_rfl) rfl) (fun w hH => encode_bad w d hod hr) rfl rfl rfl) ?_; rintro ⟨⟩
    refine h_q hflS rfl ?_
    refine h_done (d_seq (d_reg ?_))
    refine h_q hflS rfl ?_
    refine h_act (post := fun _ => [cell g2 28 #[.int .i64 d.k, .int .u64 d.s, .int .u64 d.q, .int .u64 d.a, .int .u64 d.b, .int .i64 d.hi, .int .u64 d.lo, .int .i64 d.sc, .string (bs d.x), .string (bs d.y)]]) rfl (a_call (ent_of Tryd.func8 (by kernel_rfl) rfl) (fun w hH => known_true w) rfl rfl rfl) ?_; rintro ⟨⟩
    refine h_q hflS rfl ?_
    refine h_val rfl (.bool false) (fun b w hb hH => exec_cmp rfl rfl rfl (cmp_eql_f (by decide)) hb) ?_
    refine h_val rfl (.agg #[.int .i64 d.k, .int .u64 d.s, .int .u64 d.q, .int .u64 d.a, .int .u64 d.b, .int .i64 d.hi, .int .u64 d.lo, .int .i64 d.sc, .string (bs d.x), .string (bs d.y)]) (fun b w hb hH => exec_load rfl rfl (reads_agg (cs := [.int .i64 d.k, .int .u64 d.s, .int .u64 d.q, .int .u64 d.a, .int .u64 d.b, .int .i64 d.hi, .int .u64 d.lo, .int .i64 d.sc, .string (bs d.x), .string (bs d.y)]) ty_api_Cmd rfl) (hH.row 0 rfl) hb) ?_
    refine h_act (post := fun _ => [cell g2 28 #[.int .i64 d.k, .int .u64 d.s, .int .u64 d.q, .int .u64 d.a, .int .u64 d.b, .int .i64 d.hi, .int .u64 d.lo, .int .i64 d.sc, .string (bs d.x), .string (bs d.y)]]) rfl (a_call (ent_of Tryd.func9 (by kernel_rfl) rfl) (fun w hH => right_any w d hod false hr) rfl rfl rfl) ?_; rintro ⟨⟩
    refine h_val rfl (.bool false) (fun b w hb hH => exec_nes (neB false false) rfl rfl rfl hb) ?_
    refine h_q hflS rfl ?_
    refine h_done (d_else rfl (d_skip (f_to (d_seq (d_reg ?_)))))
    refine h_q hflS rfl ?_
    refine h_val rfl (.bool true) (fun b w hb hH => exec_cmp rfl rfl rfl (cmp_neq_t (by decide)) hb) ?_
    refine h_done (d_then rfl (d_reg ?_))
    refine h_q hflS rfl ?_
    refine h_val rfl (.bool true) (fun b w hb hH => exec_cmp rfl rfl rfl (cmp_eql_t (by decide)) hb) ?_
    refine h_q hflS rfl ?_
    refine h_val rfl (.int .i64 (([]).length : Int)) (fun b w hb hH => e_slen ((sl8_nil w).rd) Tryd.underlying33 rfl rfl hb) ?_
    refine h_val rfl (.bool true) (fun b w hb hH => exec_cmp rfl rfl rfl (cmp_eql_t rfl) hb) ?_
    refine h_q hflS rfl ?_
    refine h_done (d_ret (f_then_ret ?_))
    exact f_fin1 (.tmp rfl) (fun w h => ⟨rfl, below0 h.up⟩) rfl
end Go.Proofs.YtlkknncndgamdaaDoor.Sep
