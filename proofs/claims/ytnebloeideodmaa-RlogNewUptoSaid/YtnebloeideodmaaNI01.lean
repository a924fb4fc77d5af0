/-
  RlI · RlJ · RlK
-/
import Derived.Test.YtnebloeideodmaaNH02
set_option linter.unusedSimpArgs false
set_option linter.unusedVariables false

namespace Go.Proofs.Ytnebloeideodmaa.Sep
open Go.RowKit
open Go.Proofs.Ytnebloeideodmaa.Mem (Dist Blk Chg below0)

theorem log_rd {P : Program} {F : FuncId} {args : Array Value} {val : Value} {g : Nat} {bi bt bc : Int} {es : List EntD} (h : ∀ (v : Value) (sl : List EntV) (f : Nat), RingD sl f es → Does P F args [cell g 67 #[.int .u64 bi, .int .u64 bt, .int .i64 bc, v, .int .i64 (f : Int), .int .i64 (es.length : Int)], Vec 32 5 encV v (sl), Each dat sl] (fun _ : Unit => val) (fun _ => [cell g 67 #[.int .u64 bi, .int .u64 bt, .int .i64 bc, v, .int .i64 (f : Int), .int .i64 (es.length : Int)], Vec 32 5 encV v (sl), Each dat sl])) : Does P F args [LogD g bi bt bc es] (fun _ : Unit => val) (fun _ => [LogD g bi bt bc es]) := fun w rs hp hr hd => by
  obtain ⟨⟨v, sl, f⟩, a, b, e, h1, c, d, e2, h2, p, q, e3, h3, h4⟩ := hp.one'
  obtain ⟨a4, b4, e4, ⟨h5, hR⟩, h6⟩ := h4
  refine (h v sl f hR w rs ⟨a, b, e, h1, c, d, e2, h2, ?_⟩ hr hd).mono ?_
  · subst h5
    have : b4 = [] := h6
    subst this
    have : q = [] := by simpa using e4
    subst this
    exact ⟨p, [], e3, h3, rfl⟩
  · rintro e' w' ⟨x, he, rs', hx, hc⟩
    exact ⟨x, he, rs', Parts.one (LogD.mk rfl hR rs' hx), hc⟩

set_option maxRecDepth 100000 in
theorem len_any (g : Nat) (bi bt bc : Int) (v : Value) (fi n : Int)  : Does Try.prog 18 #[.pointer (some ⟨g, 0, none⟩)] [cell g 67 #[.int .u64 bi, .int .u64 bt, .int .i64 bc, v, .int .i64 fi, .int .i64 n]] (fun (_ : Unit) => .int .i64 n) (fun (_ : Unit) => [cell g 67 #[.int .u64 bi, .int .u64 bt, .int .i64 bc, v, .int .i64 fi, .int .i64 n]]) := by
  refine d_ins (args := [.pointer (some ⟨g, 0, none⟩)]) 8 Try.func18 rfl rfl rfl ?_; intro w rs
  refine d_reg ?_
  refine h_q hflS rfl ?_
  refine h_done (d_reg ?_)
  refine h_q hflS rfl ?_
  refine h_val rfl (.pointer (some ⟨g, 0, none⟩)) (fun b w hb hH => by exact exec_nilCheck rfl rfl hb) ?_
  refine h_q hflS rfl ?_
  refine h_val rfl (.int .i64 n) (fun b w hb hH => exec_load rfl rfl (reads_one ty_int rfl) (hH.row 0 rfl) hb) ?_
  refine h_q hflS rfl ?_
  refine h_done (d_ret ?_)
  exact f_fin1 (.tmp rfl) (fun w h => tells () rfl [0] rfl h same_parts) rfl

set_option maxRecDepth 100000 in
theorem base_any (g : Nat) (bi bt bc : Int) (v : Value) (fi n : Int)  : Does Try.prog 15 #[.pointer (some ⟨g, 0, none⟩)] [cell g 67 #[.int .u64 bi, .int .u64 bt, .int .i64 bc, v, .int .i64 fi, .int .i64 n]] (fun (_ : Unit) => .agg #[.int .u64 bi, .int .u64 bt, .int .i64 bc]) (fun (_ : Unit) => [cell g 67 #[.int .u64 bi, .int .u64 bt, .int .i64 bc, v, .int .i64 fi, .int .i64 n]]) := by
  refine d_ins (args := [.pointer (some ⟨g, 0, none⟩)]) 7 Try.func15 rfl rfl rfl ?_; intro w rs
  refine d_reg ?_
  refine h_q hflS rfl ?_
  refine h_act (post := fun r2 => [cell r2 28 #[.int .u64 0, .int .u64 0, .int .i64 0], cell g 67 #[.int .u64 bi, .int .u64 bt, .int .i64 bc, v, .int .i64 fi, .int .i64 n]]) rfl (a_alloc ze_api_Base rfl) ?_; rintro r2
  refine h_done (d_reg ?_)
  refine h_q hflS rfl ?_
  refine h_val rfl (.pointer (some ⟨g, 0, none⟩)) (fun b w hb hH => by exact exec_nilCheck rfl rfl hb) ?_
  refine h_q hflS rfl ?_
  refine h_val rfl (.agg #[.int .u64 bi, .int .u64 bt, .int .i64 bc]) (fun b w hb hH => exec_load rfl rfl (reads_agg (cs := [.int .u64 bi, .int .u64 bt, .int .i64 bc, v, .int .i64 fi, .int .i64 n]) ty_api_Base rfl) (hH.row 1 rfl) hb) ?_
  refine h_acts (post := fun _ => [cell r2 28 #[.int .u64 bi, .int .u64 bt, .int .i64 bc], cell g 67 #[.int .u64 bi, .int .u64 bt, .int .i64 bc, v, .int .i64 fi, .int .i64 n]]) rfl rfl (a_store 0 (v := .agg #[.int .u64 bi, .int .u64 bt, .int .i64 bc]) #[.int .u64 bi, .int .u64 bt, .int .i64 bc] ty_api_Base.2 rfl rfl rfl rfl rfl rfl rfl rfl rfl) ?_; rintro ⟨⟩
  refine h_done (d_ret ?_)
  exact f_fin1 (.cell 0 (v := .agg #[.int .u64 bi, .int .u64 bt, .int .i64 bc]) (reads_agg (cs := [.int .u64 bi, .int .u64 bt, .int .i64 bc]) ty_api_Base rfl) rfl rfl) (fun w h => tells () rfl [1] rfl h same_parts) rfl

set_option maxRecDepth 100000 in
theorem last_any (g : Nat) (bi bt bc : Int) (v : Value) (fi n : Int) (h0 : 0 ≤ bi ∧ 0 ≤ n ∧ bi + n ≤ 9223372036854775807) : Does Try.prog 17 #[.pointer (some ⟨g, 0, none⟩)] [cell g 67 #[.int .u64 bi, .int .u64 bt, .int .i64 bc, v, .int .i64 fi, .int .i64 n]] (fun (_ : Unit) => .int .u64 (bi + n)) (fun (_ : Unit) => [cell g 67 #[.int .u64 bi, .int .u64 bt, .int .i64 bc, v, .int .i64 fi, .int .i64 n]]) := by
  refine d_ins (args := [.pointer (some ⟨g, 0, none⟩)]) 12 Try.func17 rfl rfl rfl ?_; intro w rs
  refine d_reg ?_
  refine h_q hflS rfl ?_
  refine h_done (d_seq ?_)
  refine d_parS 9 1 [⟨.quiet, [none], fun _ => .pointer (some ⟨g, 0, none⟩), []⟩, ⟨.quiet, [none], fun _ => .pointer (some ⟨g, 0, none⟩), [0]⟩, ⟨.quiet, [none], fun _ => .pointer (some ⟨g, 0, none⟩), [1]⟩, ⟨.quiet, [none], fun _ => .pointer (some ⟨g, 0, none⟩), [2]⟩, ⟨.quiet, [none], fun _ => .int .u64 bi, [3]⟩, ⟨.quiet, [none], fun _ => .pointer (some ⟨g, 0, none⟩), []⟩, ⟨.actv 0, [some false], fun _ => .int .i64 n, [5]⟩, ⟨.quiet, [some true], fun _ => .int .u64 n, [6]⟩, ⟨.quiet, [some true], fun _ => .int .u64 (bi + n), [4, 7]⟩] [(0, .pointer (some ⟨g, 0, none⟩)), (2, .int .u64 0)] (fun ρ => match ρ with | [rq0] => [cell g 67 #[.int .u64 bi, .int .u64 bt, .int .i64 bc, v, .int .i64 fi, .int .i64 n]] | _ => []) (by kernel_rfl) (by kernel_rfl) ⟨rfl, rfl, trivial⟩ rfl ?_ ?_
  · skip
    refine s_cons (by intro r0_; exact ⟨rfl, fun b w hH hb => exec_q1 hflS rfl hb⟩) ?_
    refine s_cons (by intro r0_; exact ⟨rfl, fun b w hH hb => by exact exec_nilCheck rfl rfl hb⟩) ?_
    refine s_cons (by intro r0_; exact ⟨rfl, fun b w hH hb => exec_q1 hflS rfl hb⟩) ?_
    refine s_cons (by intro r0_; exact ⟨rfl, fun b w hH hb => exec_q1 hflS rfl hb⟩) ?_
    refine s_cons (by intro r0_; exact ⟨rfl, fun b w hH hb => exec_load rfl rfl (reads_one ty_uint64 rfl) (hH.row 0 rfl) hb⟩) ?_
    refine s_cons (by intro r0_; exact ⟨rfl, fun b w hH hb => exec_q1 hflS rfl hb⟩) ?_
    refine s_cons (by exact ⟨rfl, Acts.su (a_does (os' := fun _ => [cell g 67 #[.int .u64 bi, .int .u64 bt, .int .i64 bc, v, .int .i64 fi, .int .i64 n]]) [0] 0 (ent_of Try.func18 (by kernel_rfl) rfl) (len_any g bi bt bc v fi n) rfl rfl rfl (fun _ => rfl) rfl rfl rfl) rfl⟩) ?_
    refine s_cons (by intro v0_; exact ⟨rfl, fun b w hH hb => exec_conv Try.underlying3 Try.underlying26 (IntWalk.u64_in _ (by omega)) rfl rfl hb⟩) ?_
    refine s_cons (by intro v0_; exact ⟨rfl, fun b w hH hb => exec_ar rfl rfl rfl rfl (IntWalk.u64_in _ (by omega)) hb⟩) ?_
    exact s_nil
  intro v0_
  refine WL2.keep (env' := [(2, .int .u64 0), (11, .int .u64 (bi + n))]) ⟨rfl, rfl, trivial⟩ ?_
  refine h_q hflS rfl ?_
  refine h_nil (f_to (d_ret ?_))
  exact f_fin1 (.tmp rfl) (fun w h => tells () rfl [0] rfl h same_parts) rfl

set_option maxRecDepth 100000 in
theorem upTo_any (g : Nat) (bi bt bc : Int) (v : Value) (fi : Int) (m : Nat) (x : Int) (hb0 : 0 ≤ bi ∧ bi ≤ 72057594037927935) (hm : (m : Int) ≤ 72057594037927935) (hx : 0 ≤ x ∧ x ≤ 18446744073709551615) (u : Nat) (hu : upM bi m x = u) : Does Try.prog 36 #[.pointer (some ⟨g, 0, none⟩), .int .u64 x] [cell g 67 #[.int .u64 bi, .int .u64 bt, .int .i64 bc, v, .int .i64 fi, .int .i64 (m : Int)]] (fun (_ : Unit) => .int .i64 (u : Int)) (fun (_ : Unit) => [cell g 67 #[.int .u64 bi, .int .u64 bt, .int .i64 bc, v, .int .i64 fi, .int .i64 (m : Int)]]) := by
  unfold upM at hu
  refine d_ins (args := [.pointer (some ⟨g, 0, none⟩), .int .u64 x]) 24 Try.func36 rfl rfl rfl ?_; intro w rs
  refine d_reg ?_
  refine h_q hflS rfl ?_
  refine h_done (d_seq ?_)
  rcases Int.lt_or_le bi x with hn | hn
  · skip
    refine d_reg ?_
    refine h_q hflS rfl ?_
    refine h_val rfl (.pointer (some ⟨g, 0, none⟩)) (fun b w hb hH => by exact exec_nilCheck rfl rfl hb) ?_
    refine h_q hflS rfl ?_
    refine h_val rfl (.int .u64 bi) (fun b w hb hH => exec_load rfl rfl (reads_one ty_uint64 rfl) (hH.row 0 rfl) hb) ?_
    refine h_val rfl (.bool false) (fun b w hb hH => exec_cmp rfl rfl rfl (cmp_leq_f (by omega)) hb) ?_
    refine h_done (d_else rfl (d_skip (f_to (d_seq ?_))))
    refine d_parS 12 1 [⟨.quiet, [none], fun _ => .int .u64 x, []⟩, ⟨.quiet, [none], fun _ => .pointer (some ⟨g, 0, none⟩), []⟩, ⟨.quiet, [none], fun _ => .pointer (some ⟨g, 0, none⟩), [1]⟩, ⟨.quiet, [none], fun _ => .pointer (some ⟨g, 0, none⟩), [2]⟩, ⟨.quiet, [none], fun _ => .pointer (some ⟨g, 0, none⟩), [3]⟩, ⟨.quiet, [none], fun _ => .int .u64 bi, [4]⟩, ⟨.quiet, [none], fun _ => .int .u64 (x - bi), [0, 5]⟩, ⟨.quiet, [none], fun _ => .pointer (some ⟨g, 0, none⟩), []⟩, ⟨.actv 0, [some false], fun _ => .int .i64 (m : Int), [7]⟩, ⟨.quiet, [some true], fun _ => .int .u64 (m : Int), [8]⟩, ⟨.quiet, [some true], fun _ => .int .u64 (u : Int), [6, 9]⟩, ⟨.quiet, [some true], fun _ => .int .i64 (u : Int), [10]⟩] [(0, .pointer (some ⟨g, 0, none⟩)), (1, .int .u64 x), (4, .int .i64 0)] (fun ρ => match ρ with | [rq0] => [cell g 67 #[.int .u64 bi, .int .u64 bt, .int .i64 bc, v, .int .i64 fi, .int .i64 (m : Int)]] | _ => []) (by kernel_rfl) (by kernel_rfl) ⟨rfl, rfl, rfl, trivial⟩ rfl ?_ ?_
    · skip
      refine s_cons (by intro r0_; exact ⟨rfl, fun b w hH hb => exec_q1 hflS rfl hb⟩) ?_
      refine s_cons (by intro r0_; exact ⟨rfl, fun b w hH hb => exec_q1 hflS rfl hb⟩) ?_
      refine s_cons (by intro r0_; exact ⟨rfl, fun b w hH hb => by exact exec_nilCheck rfl rfl hb⟩) ?_
      refine s_cons (by intro r0_; exact ⟨rfl, fun b w hH hb => exec_q1 hflS rfl hb⟩) ?_
      refine s_cons (by intro r0_; exact ⟨rfl, fun b w hH hb => exec_q1 hflS rfl hb⟩) ?_
      refine s_cons (by intro r0_; exact ⟨rfl, fun b w hH hb => exec_load rfl rfl (reads_one ty_uint64 rfl) (hH.row 0 rfl) hb⟩) ?_
      refine s_cons (by intro r0_; exact ⟨rfl, fun b w hH hb => exec_ar rfl rfl rfl rfl (IntWalk.u64_in _ (by omega)) hb⟩) ?_
      refine s_cons (by intro r0_; exact ⟨rfl, fun b w hH hb => exec_q1 hflS rfl hb⟩) ?_
      refine s_cons (by exact ⟨rfl, Acts.su (a_does (os' := fun _ => [cell g 67 #[.int .u64 bi, .int .u64 bt, .int .i64 bc, v, .int .i64 fi, .int .i64 (m : Int)]]) [0] 0 (ent_of Try.func18 (by kernel_rfl) rfl) (len_any g bi bt bc v fi (m : Int)) rfl rfl rfl (fun _ => rfl) rfl rfl rfl) rfl⟩) ?_
      refine s_cons (by intro v0_; exact ⟨rfl, fun b w hH hb => exec_conv Try.underlying3 Try.underlying26 (IntWalk.u64_in _ (by omega)) rfl rfl hb⟩) ?_
      refine s_cons (by intro v0_; exact ⟨rfl, fun b w hH hb => exec_builtin2 rfl rfl (fun cs => (fun w cs => run_min2 (by omega) _ _ w cs) w cs) hb⟩) ?_
      refine s_cons (by intro v0_; exact ⟨rfl, fun b w hH hb => exec_conv Try.underlying26 Try.underlying3 (IntWalk.i64_in _ (by omega)) rfl rfl hb⟩) ?_
      exact s_nil
    intro v0_
    refine WL2.keep (env' := [(4, .int .i64 0), (23, .int .i64 (u : Int))]) ⟨rfl, rfl, trivial⟩ ?_
    refine h_q hflS rfl ?_
    refine h_nil (f_to (d_ret ?_))
    exact f_fin1 (.tmp rfl) (fun w h => tells () rfl [0] rfl h same_parts) rfl
  · skip
    obtain rfl : u = 0 := by omega
    refine d_reg ?_
    refine h_q hflS rfl ?_
    refine h_val rfl (.pointer (some ⟨g, 0, none⟩)) (fun b w hb hH => by exact exec_nilCheck rfl rfl hb) ?_
    refine h_q hflS rfl ?_
    refine h_val rfl (.int .u64 bi) (fun b w hb hH => exec_load rfl rfl (reads_one ty_uint64 rfl) (hH.row 0 rfl) hb) ?_
    refine h_val rfl (.bool true) (fun b w hb hH => exec_cmp rfl rfl rfl (cmp_leq_t (by omega)) hb) ?_
    refine h_done (d_then rfl (d_reg ?_))
    refine h_q hflS rfl ?_
    refine h_done (d_ret (f_then_ret ?_))
    exact f_fin1 (.tmp rfl) (fun w h => tells () rfl [0] rfl h same_parts) rfl
end Go.Proofs.Ytnebloeideodmaa.Sep

namespace Go.Proofs.Ytnebloeideodmaa.Sep
open Go.RowKit
open Go.Proofs.Ytnebloeideodmaa.Mem (Dist Blk Chg below0)

theorem exec_field {P : Program} {n : Nat} {env : List (Nat × Value)} {a : Act} {w : World} {o : Oper} {T : TypeId} {x : Operand} {k : Nat} {v r : Value} (hf : (Instr.field T v k).run P w = .ok r w) (ho : o.op = .field T x k) (hx : evs env x = some v) (hF : Fr n a env) : (execOp a.eval o).run P w = .ok (.value r) w := by
  unfold execOp
  simp only [ho, hF.evs hx]
  simp [hf]
theorem fe_term (k t i : Int) (v : Value) (c : Int) (w : World) : (Instr.field 32 (.agg #[.int .i64 k, .int .u64 t, .int .u64 i, v, .int .i64 c]) 1).run Try.prog w = .ok (.int .u64 t) w := by kernel_rfl

set_option maxRecDepth 100000 in
theorem term_any (g : Nat) (bi bt bc : Int) (es : List EntD) (hI : InvL bi bt es) (v : Value) (sl : List EntV) (f : Nat) (hR : RingD sl f es) (x : Int) (hx : 0 ≤ x ∧ x ≤ 18446744073709551615) (a : Int) (ok : Bool) (ht : termM bi bt es x = (a, ok)) : Does Try.prog 32 #[.pointer (some ⟨g, 0, none⟩), .int .u64 x] [cell g 67 #[.int .u64 bi, .int .u64 bt, .int .i64 bc, v, .int .i64 (f : Int), .int .i64 (es.length : Int)], Vec 32 5 encV v sl, Each dat sl] (fun (_ : Unit) => .tuple #[.int .u64 a, .bool ok]) (fun (_ : Unit) => [cell g 67 #[.int .u64 bi, .int .u64 bt, .int .i64 bc, v, .int .i64 (f : Int), .int .i64 (es.length : Int)], Vec 32 5 encV v sl, Each dat sl]) := by
  have hb0 := hI.hi
  have ht0 := hI.ht
  have hle0 := hI.len
  have hm0 : (es.length : Int) ≤ 72057594037927935 := by omega
  have hls : 0 ≤ bi ∧ 0 ≤ (es.length : Int) ∧ bi + (es.length : Int) ≤ 9223372036854775807 := by omega
  have hsz := hR.sz
  refine d_ins (args := [.pointer (some ⟨g, 0, none⟩), .int .u64 x]) 42 Try.func32 rfl rfl rfl ?_; intro w rs
  refine d_reg ?_
  refine h_q hflS rfl ?_
  refine h_done (d_seq (d_block ?_))
  rcases (show x = bi ∨ x < bi ∨ bi + (es.length : Int) < x ∨ (bi < x ∧ x ≤ bi + (es.length : Int)) by omega) with hn | hn | hn | ⟨hn, hn2⟩
  · skip
    obtain ⟨rfl, rfl⟩ : bt = a ∧ true = ok := by rw [hn, termM_base] at ht; exact ⟨congrArg Prod.fst ht, congrArg Prod.snd ht⟩
    refine d_reg ?_
    refine h_q hflS rfl ?_
    refine h_val rfl (.pointer (some ⟨g, 0, none⟩)) (fun b w hb hH => by exact exec_nilCheck rfl rfl hb) ?_
    refine h_q hflS rfl ?_
    refine h_val rfl (.int .u64 bi) (fun b w hb hH => exec_load rfl rfl (reads_one ty_uint64 rfl) (hH.row 0 rfl) hb) ?_
    refine h_val rfl (.bool true) (fun b w hb hH => exec_cmp rfl rfl rfl (cmp_eql_t (by omega)) hb) ?_
    refine h_q hflS rfl ?_
    refine h_done (d_then rfl (d_reg ?_))
    refine h_q hflS rfl ?_
    refine h_val rfl (.pointer (some ⟨g, 0, none⟩)) (fun b w hb hH => by exact exec_nilCheck rfl rfl hb) ?_
    refine h_q hflS rfl ?_
    refine h_val rfl (.int .u64 bt) (fun b w hb hH => exec_load rfl rfl (reads_one ty_uint64 rfl) (hH.row 0 rfl) hb) ?_
    refine h_q hflS rfl ?_
    refine h_done (d_ret (f_block_ret (f_then_ret ?_)))
    exact f_fin2 (.tmp rfl) (.tmp rfl) (fun w h => tells () rfl [0, 1, 2] rfl h same_parts) rfl
  · skip
    obtain ⟨rfl, rfl⟩ : 0 = a ∧ false = ok := by have h9 := termM_off (bt := bt) (es := es) (show x < bi ∨ bi + (es.length : Int) < x by omega); rw [ht] at h9; exact ⟨(congrArg Prod.fst h9).symm, (congrArg Prod.snd h9).symm⟩
    refine d_reg ?_
    refine h_q hflS rfl ?_
    refine h_val rfl (.pointer (some ⟨g, 0, none⟩)) (fun b w hb hH => by exact exec_nilCheck rfl rfl hb) ?_
    refine h_q hflS rfl ?_
    refine h_val rfl (.int .u64 bi) (fun b w hb hH => exec_load rfl rfl (reads_one ty_uint64 rfl) (hH.row 0 rfl) hb) ?_
    refine h_val rfl (.bool false) (fun b w hb hH => exec_cmp rfl rfl rfl (cmp_eql_f (by omega)) hb) ?_
    refine h_q hflS rfl ?_
    refine h_done (d_else rfl (d_reg ?_))
    refine h_q hflS rfl ?_
    refine h_val rfl (.pointer (some ⟨g, 0, none⟩)) (fun b w hb hH => by exact exec_nilCheck rfl rfl hb) ?_
    refine h_q hflS rfl ?_
    refine h_val rfl (.int .u64 bi) (fun b w hb hH => exec_load rfl rfl (reads_one ty_uint64 rfl) (hH.row 0 rfl) hb) ?_
    refine h_val rfl (.bool true) (fun b w hb hH => exec_cmp rfl rfl rfl (cmp_lss_t (by omega)) hb) ?_
    refine h_q hflS rfl ?_
    refine h_done (d_then rfl (d_reg ?_))
    refine h_q hflS rfl ?_
    refine h_done (d_ret (f_block_ret (f_then_ret ?_)))
    exact f_fin2 (.tmp rfl) (.tmp rfl) (fun w h => tells () rfl [0, 1, 2] rfl h same_parts) rfl
  · skip
    obtain ⟨rfl, rfl⟩ : 0 = a ∧ false = ok := by have h9 := termM_off (bt := bt) (es := es) (show x < bi ∨ bi + (es.length : Int) < x by omega); rw [ht] at h9; exact ⟨(congrArg Prod.fst h9).symm, (congrArg Prod.snd h9).symm⟩
    refine d_reg ?_
    refine h_q hflS rfl ?_
    refine h_val rfl (.pointer (some ⟨g, 0, none⟩)) (fun b w hb hH => by exact exec_nilCheck rfl rfl hb) ?_
    refine h_q hflS rfl ?_
    refine h_val rfl (.int .u64 bi) (fun b w hb hH => exec_load rfl rfl (reads_one ty_uint64 rfl) (hH.row 0 rfl) hb) ?_
    refine h_val rfl (.bool false) (fun b w hb hH => exec_cmp rfl rfl rfl (cmp_eql_f (by omega)) hb) ?_
    refine h_q hflS rfl ?_
    refine h_done (d_else rfl (d_reg ?_))
    refine h_q hflS rfl ?_
    refine h_val rfl (.pointer (some ⟨g, 0, none⟩)) (fun b w hb hH => by exact exec_nilCheck rfl rfl hb) ?_
    refine h_q hflS rfl ?_
    refine h_val rfl (.int .u64 bi) (fun b w hb hH => exec_load rfl rfl (reads_one ty_uint64 rfl) (hH.row 0 rfl) hb) ?_
    refine h_val rfl (.bool false) (fun b w hb hH => exec_cmp rfl rfl rfl (cmp_lss_f (by omega)) hb) ?_
    refine h_q hflS rfl ?_
    refine h_act (post := fun _ => [cell g 67 #[.int .u64 bi, .int .u64 bt, .int .i64 bc, v, .int .i64 (f : Int), .int .i64 (es.length : Int)], Vec 32 5 encV v sl, Each dat sl]) rfl (a_does (os' := fun _ => [cell g 67 #[.int .u64 bi, .int .u64 bt, .int .i64 bc, v, .int .i64 (f : Int), .int .i64 (es.length : Int)], Vec 32 5 encV v sl, Each dat sl]) [0] 0 (ent_of Try.func17 (by kernel_rfl) rfl) (last_any g bi bt bc v (f : Int) (es.length : Int) hls) rfl rfl rfl (fun _ => rfl) rfl rfl rfl) ?_; rintro ⟨⟩
    refine h_val rfl (.bool true) (fun b w hb hH => exec_cmp rfl rfl rfl (cmp_gtr_t (by omega)) hb) ?_
    refine h_q hflS rfl ?_
    refine h_done (d_then rfl (d_reg ?_))
    refine h_q hflS rfl ?_
    refine h_done (d_ret (f_block_ret (f_then_ret ?_)))
    exact f_fin2 (.tmp rfl) (.tmp rfl) (fun w h => tells () rfl [0, 1, 2] rfl h same_parts) rfl
  · skip
    obtain ⟨k, hk⟩ : ∃ k : Nat, x = bi + 1 + (k : Int) := ⟨(x - bi - 1).toNat, by omega⟩
    have hkl : k < es.length := by omega
    obtain ⟨e, he⟩ : ∃ e, es[k]? = some e := ⟨_, List.getElem?_eq_getElem hkl⟩
    obtain ⟨y, hy, hye⟩ := hR.at_ k e he
    obtain ⟨rfl, rfl⟩ : y.e.t = a ∧ true = ok := by have h9 := termM_at (bt := bt) hk he; rw [ht] at h9; rw [hye]; exact ⟨(congrArg Prod.fst h9).symm, (congrArg Prod.snd h9).symm⟩
    have hup : upM bi es.length x = k + 1 := by unfold upM; omega
    refine d_reg ?_
    refine h_q hflS rfl ?_
    refine h_val rfl (.pointer (some ⟨g, 0, none⟩)) (fun b w hb hH => by exact exec_nilCheck rfl rfl hb) ?_
    refine h_q hflS rfl ?_
    refine h_val rfl (.int .u64 bi) (fun b w hb hH => exec_load rfl rfl (reads_one ty_uint64 rfl) (hH.row 0 rfl) hb) ?_
    refine h_val rfl (.bool false) (fun b w hb hH => exec_cmp rfl rfl rfl (cmp_eql_f (by omega)) hb) ?_
    refine h_q hflS rfl ?_
    refine h_done (d_else rfl (d_reg ?_))
    refine h_q hflS rfl ?_
    refine h_val rfl (.pointer (some ⟨g, 0, none⟩)) (fun b w hb hH => by exact exec_nilCheck rfl rfl hb) ?_
    refine h_q hflS rfl ?_
    refine h_val rfl (.int .u64 bi) (fun b w hb hH => exec_load rfl rfl (reads_one ty_uint64 rfl) (hH.row 0 rfl) hb) ?_
    refine h_val rfl (.bool false) (fun b w hb hH => exec_cmp rfl rfl rfl (cmp_lss_f (by omega)) hb) ?_
    refine h_q hflS rfl ?_
    refine h_act (post := fun _ => [cell g 67 #[.int .u64 bi, .int .u64 bt, .int .i64 bc, v, .int .i64 (f : Int), .int .i64 (es.length : Int)], Vec 32 5 encV v sl, Each dat sl]) rfl (a_does (os' := fun _ => [cell g 67 #[.int .u64 bi, .int .u64 bt, .int .i64 bc, v, .int .i64 (f : Int), .int .i64 (es.length : Int)], Vec 32 5 encV v sl, Each dat sl]) [0] 0 (ent_of Try.func17 (by kernel_rfl) rfl) (last_any g bi bt bc v (f : Int) (es.length : Int) hls) rfl rfl rfl (fun _ => rfl) rfl rfl rfl) ?_; rintro ⟨⟩
    refine h_val rfl (.bool false) (fun b w hb hH => exec_cmp rfl rfl rfl (cmp_gtr_f (by omega)) hb) ?_
    refine h_q hflS rfl ?_
    refine h_done (d_else rfl (d_skip (f_block (f_to (d_seq ?_)))))
    refine d_parS 9 2 [⟨.quiet, [none, none], fun _ => .pointer (some ⟨g, 0, none⟩), []⟩, ⟨.quiet, [none, none], fun _ => .pointer (some ⟨g, 0, none⟩), [0]⟩, ⟨.quiet, [none, none], fun _ => .pointer (some ⟨g, 3, none⟩), [1]⟩, ⟨.quiet, [none, none], fun _ => .pointer (some ⟨g, 0, none⟩), []⟩, ⟨.quiet, [none, none], fun _ => .int .u64 x, []⟩, ⟨.actv 0, [some false, some false], fun _ => .int .i64 (k + 1 : Int), [3, 4]⟩, ⟨.quiet, [some true, none], fun _ => .int .i64 (k : Int), [5]⟩, ⟨.actv 1, [some true, some false], fun _ => .agg #[.int .i64 y.e.k, .int .u64 y.e.t, .int .u64 y.e.i, y.v, .int .i64 y.e.c], [2, 6]⟩, ⟨.quiet, [some true, some true], fun _ => .int .u64 y.e.t, [7]⟩] [(0, .pointer (some ⟨g, 0, none⟩)), (1, .int .u64 x), (4, .int .u64 0), (5, .bool false)] (fun ρ => match ρ with | [rq0, rq1] => [cell g 67 #[.int .u64 bi, .int .u64 bt, .int .i64 bc, v, .int .i64 (f : Int), .int .i64 (es.length : Int)], Vec 32 5 encV v sl, Each dat sl] | _ => []) (by kernel_rfl) (by kernel_rfl) ⟨rfl, rfl, rfl, rfl, trivial⟩ rfl ?_ ?_
    · skip
      refine s_cons (by intro r0_ r1_; exact ⟨rfl, fun b w hH hb => exec_q1 hflS rfl hb⟩) ?_
      refine s_cons (by intro r0_ r1_; exact ⟨rfl, fun b w hH hb => by exact exec_nilCheck rfl rfl hb⟩) ?_
      refine s_cons (by intro r0_ r1_; exact ⟨rfl, fun b w hH hb => exec_q1 hflS rfl hb⟩) ?_
      refine s_cons (by intro r0_ r1_; exact ⟨rfl, fun b w hH hb => exec_q1 hflS rfl hb⟩) ?_
      refine s_cons (by intro r0_ r1_; exact ⟨rfl, fun b w hH hb => exec_q1 hflS rfl hb⟩) ?_
      refine s_cons (by exact ⟨rfl, Acts.su (a_does (os' := fun _ => [cell g 67 #[.int .u64 bi, .int .u64 bt, .int .i64 bc, v, .int .i64 (f : Int), .int .i64 (es.length : Int)], Vec 32 5 encV v sl, Each dat sl]) [0] 0 (ent_of Try.func36 (by kernel_rfl) rfl) (upTo_any g bi bt bc v (f : Int) es.length x hb0 hm0 hx (k + 1) hup) rfl rfl rfl (fun _ => rfl) rfl rfl rfl) rfl⟩) ?_
      refine s_cons (by intro v0_ r1_; exact ⟨rfl, fun b w hH hb => exec_ar rfl rfl rfl rfl (by rw [IntWalk.i64_in _ (by omega)]; omega) hb⟩) ?_
      refine s_cons (by intro v0_; exact ⟨rfl, Acts.su (a_does (os' := fun _ => [cell g 67 #[.int .u64 bi, .int .u64 bt, .int .i64 bc, v, .int .i64 (f : Int), .int .i64 (es.length : Int)], Vec 32 5 encV v sl, Each dat sl]) [0, 1] 0 (ent_of Try.func62 (by kernel_rfl) rfl) (at_does g bi bt bc v sl f k (es.length : Int) (hR.lt hkl) (Nat.lt_of_lt_of_le hkl hR.le) hsz y hy) rfl rfl rfl (fun _ => rfl) rfl rfl rfl) rfl⟩) ?_
      refine s_cons (by intro v0_ v1_; exact ⟨rfl, fun b w hH hb => exec_field (fe_term _ _ _ _ _ _) rfl rfl hb⟩) ?_
      exact s_nil
    intro v0_ v1_
    refine WL2.keep (env' := [(4, .int .u64 0), (5, .bool false), (41, .int .u64 y.e.t)]) ⟨rfl, rfl, rfl, trivial⟩ ?_
    refine h_q hflS rfl ?_
    refine h_nil (f_to (d_ret ?_))
    exact f_fin2 (.tmp rfl) (.tmp rfl) (fun w h => tells () rfl [0, 1, 2] rfl h same_parts) rfl

set_option maxRecDepth 100000 in
theorem ltm_any (g : Nat) (bi bt bc : Int) (es : List EntD) (hI : InvL bi bt es) (v : Value) (sl : List EntV) (f : Nat) (hR : RingD sl f es)  : Does Try.prog 33 #[.pointer (some ⟨g, 0, none⟩)] [cell g 67 #[.int .u64 bi, .int .u64 bt, .int .i64 bc, v, .int .i64 (f : Int), .int .i64 (es.length : Int)], Vec 32 5 encV v sl, Each dat sl] (fun (_ : Unit) => .int .u64 (ltm bt es)) (fun (_ : Unit) => [cell g 67 #[.int .u64 bi, .int .u64 bt, .int .i64 bc, v, .int .i64 (f : Int), .int .i64 (es.length : Int)], Vec 32 5 encV v sl, Each dat sl]) := by
  have hb0 := hI.hi
  have ht0 := hI.ht
  have hle0 := hI.len
  have hm0 : (es.length : Int) ≤ 72057594037927935 := by omega
  have hls : 0 ≤ bi ∧ 0 ≤ (es.length : Int) ∧ bi + (es.length : Int) ≤ 9223372036854775807 := by omega
  have hsz := hR.sz
  refine d_ins (args := [.pointer (some ⟨g, 0, none⟩)]) 13 Try.func33 rfl rfl rfl ?_; intro w rs
  refine d_reg ?_
  refine h_q hflS rfl ?_
  refine h_done (d_reg ?_)
  refine h_q hflS rfl ?_
  refine h_act (post := fun _ => [cell g 67 #[.int .u64 bi, .int .u64 bt, .int .i64 bc, v, .int .i64 (f : Int), .int .i64 (es.length : Int)], Vec 32 5 encV v sl, Each dat sl]) rfl (a_does (os' := fun _ => [cell g 67 #[.int .u64 bi, .int .u64 bt, .int .i64 bc, v, .int .i64 (f : Int), .int .i64 (es.length : Int)], Vec 32 5 encV v sl, Each dat sl]) [0] 0 (ent_of Try.func17 (by kernel_rfl) rfl) (last_any g bi bt bc v (f : Int) (es.length : Int) hls) rfl rfl rfl (fun _ => rfl) rfl rfl rfl) ?_; rintro ⟨⟩
  refine h_act (post := fun _ => [cell g 67 #[.int .u64 bi, .int .u64 bt, .int .i64 bc, v, .int .i64 (f : Int), .int .i64 (es.length : Int)], Vec 32 5 encV v sl, Each dat sl]) rfl (a_does (os' := fun _ => [cell g 67 #[.int .u64 bi, .int .u64 bt, .int .i64 bc, v, .int .i64 (f : Int), .int .i64 (es.length : Int)], Vec 32 5 encV v sl, Each dat sl]) [0, 1, 2] 0 (ent_of Try.func32 (by kernel_rfl) rfl) (term_any g bi bt bc es hI v sl f hR (bi + (es.length : Int)) (by omega) (ltm bt es) true termM_last) rfl rfl rfl (fun _ => rfl) rfl rfl rfl) ?_; rintro ⟨⟩
  refine h_q hflS rfl ?_
  refine h_done (d_reg ?_)
  refine h_q hflS rfl ?_
  refine h_done (d_ret ?_)
  exact f_fin1 (.tmp rfl) (fun w h => tells () rfl [0, 1, 2] rfl h same_parts) rfl

set_option maxRecDepth 100000 in
theorem good_any (g : Nat) (bi bt bc : Int) (es : List EntD) (hI : InvL bi bt es) (v : Value) (sl : List EntV) (f : Nat) (hR : RingD sl f es) (x y : Int) (hx : 0 ≤ x ∧ x ≤ 18446744073709551615) (b : Bool) (hb : (decide (ltm bt es < y) || (decide (y = ltm bt es) && decide (bi + (es.length : Int) ≤ x))) = b) : Does Try.prog 12 #[.pointer (some ⟨g, 0, none⟩), .int .u64 x, .int .u64 y] [cell g 67 #[.int .u64 bi, .int .u64 bt, .int .i64 bc, v, .int .i64 (f : Int), .int .i64 (es.length : Int)], Vec 32 5 encV v sl, Each dat sl] (fun (_ : Unit) => .bool b) (fun (_ : Unit) => [cell g 67 #[.int .u64 bi, .int .u64 bt, .int .i64 bc, v, .int .i64 (f : Int), .int .i64 (es.length : Int)], Vec 32 5 encV v sl, Each dat sl]) := by
  have hb0 := hI.hi
  have ht0 := hI.ht
  have hle0 := hI.len
  have hm0 : (es.length : Int) ≤ 72057594037927935 := by omega
  have hls : 0 ≤ bi ∧ 0 ≤ (es.length : Int) ∧ bi + (es.length : Int) ≤ 9223372036854775807 := by omega
  have hsz := hR.sz
  refine d_ins (args := [.pointer (some ⟨g, 0, none⟩), .int .u64 x, .int .u64 y]) 24 Try.func12 rfl rfl rfl ?_; intro w rs
  refine d_reg ?_
  refine h_q hflS rfl ?_
  refine h_done (d_reg ?_)
  refine h_q hflS rfl ?_
  refine h_act (post := fun _ => [cell g 67 #[.int .u64 bi, .int .u64 bt, .int .i64 bc, v, .int .i64 (f : Int), .int .i64 (es.length : Int)], Vec 32 5 encV v sl, Each dat sl]) rfl (a_does (os' := fun _ => [cell g 67 #[.int .u64 bi, .int .u64 bt, .int .i64 bc, v, .int .i64 (f : Int), .int .i64 (es.length : Int)], Vec 32 5 encV v sl, Each dat sl]) [0, 1, 2] 0 (ent_of Try.func33 (by kernel_rfl) rfl) (ltm_any g bi bt bc es hI v sl f hR ) rfl rfl rfl (fun _ => rfl) rfl rfl rfl) ?_; rintro ⟨⟩
  refine h_q hflS rfl ?_
  refine h_done ?_
  rcases Int.lt_or_le (ltm bt es) y with h1 | h1
  rotate_left
  by_cases h2 : y = ltm bt es
  rcases Int.lt_or_le x (bi + (es.length : Int)) with h3 | h3
  · skip
    obtain rfl : b = false := by rw [← hb]; simp; omega
    refine d_reg ?_
    refine h_q hflS rfl ?_
    refine h_val rfl (.bool false) (fun b w hb hH => exec_cmp rfl rfl rfl (cmp_gtr_f (by omega)) hb) ?_
    refine h_q hflS rfl ?_
    refine h_val rfl (.bool true) (fun b w hb hH => exec_cmp rfl rfl rfl (cmp_eql_t h2) hb) ?_
    refine h_q hflS rfl ?_
    refine h_act (post := fun _ => [cell g 67 #[.int .u64 bi, .int .u64 bt, .int .i64 bc, v, .int .i64 (f : Int), .int .i64 (es.length : Int)], Vec 32 5 encV v sl, Each dat sl]) rfl (a_does (os' := fun _ => [cell g 67 #[.int .u64 bi, .int .u64 bt, .int .i64 bc, v, .int .i64 (f : Int), .int .i64 (es.length : Int)], Vec 32 5 encV v sl, Each dat sl]) [0] 0 (ent_of Try.func17 (by kernel_rfl) rfl) (last_any g bi bt bc v (f : Int) (es.length : Int) hls) rfl rfl rfl (fun _ => rfl) rfl rfl rfl) ?_; rintro ⟨⟩
    refine h_val rfl (.bool false) (fun b w hb hH => exec_cmp rfl rfl rfl (cmp_geq_f (by omega)) hb) ?_
    refine h_q hflS rfl ?_
    refine h_done (d_ret ?_)
    exact f_fin1 (.tmp rfl) (fun w h => tells () rfl [0, 1, 2] rfl h same_parts) rfl
  · skip
    obtain rfl : b = true := by rw [← hb]; simp; omega
    refine d_reg ?_
    refine h_q hflS rfl ?_
    refine h_val rfl (.bool false) (fun b w hb hH => exec_cmp rfl rfl rfl (cmp_gtr_f (by omega)) hb) ?_
    refine h_q hflS rfl ?_
    refine h_val rfl (.bool true) (fun b w hb hH => exec_cmp rfl rfl rfl (cmp_eql_t h2) hb) ?_
    refine h_q hflS rfl ?_
    refine h_act (post := fun _ => [cell g 67 #[.int .u64 bi, .int .u64 bt, .int .i64 bc, v, .int .i64 (f : Int), .int .i64 (es.length : Int)], Vec 32 5 encV v sl, Each dat sl]) rfl (a_does (os' := fun _ => [cell g 67 #[.int .u64 bi, .int .u64 bt, .int .i64 bc, v, .int .i64 (f : Int), .int .i64 (es.length : Int)], Vec 32 5 encV v sl, Each dat sl]) [0] 0 (ent_of Try.func17 (by kernel_rfl) rfl) (last_any g bi bt bc v (f : Int) (es.length : Int) hls) rfl rfl rfl (fun _ => rfl) rfl rfl rfl) ?_; rintro ⟨⟩
    refine h_val rfl (.bool true) (fun b w hb hH => exec_cmp rfl rfl rfl (cmp_geq_t (by omega)) hb) ?_
    refine h_q hflS rfl ?_
    refine h_done (d_ret ?_)
    exact f_fin1 (.tmp rfl) (fun w h => tells () rfl [0, 1, 2] rfl h same_parts) rfl
  · skip
    obtain rfl : b = false := by rw [← hb]; simp; omega
    refine d_reg ?_
    refine h_q hflS rfl ?_
    refine h_val rfl (.bool false) (fun b w hb hH => exec_cmp rfl rfl rfl (cmp_gtr_f (by omega)) hb) ?_
    refine h_q hflS rfl ?_
    refine h_val rfl (.bool false) (fun b w hb hH => exec_cmp rfl rfl rfl (cmp_eql_f h2) hb) ?_
    refine h_q hflS rfl ?_
    refine h_done (d_ret ?_)
    exact f_fin1 (.tmp rfl) (fun w h => tells () rfl [0, 1, 2] rfl h same_parts) rfl
  · skip
    obtain rfl : b = true := by rw [← hb]; simp; omega
    refine d_reg ?_
    refine h_q hflS rfl ?_
    refine h_val rfl (.bool true) (fun b w hb hH => exec_cmp rfl rfl rfl (cmp_gtr_t (by omega)) hb) ?_
    refine h_q hflS rfl ?_
    refine h_done (d_ret ?_)
    exact f_fin1 (.tmp rfl) (fun w h => tells () rfl [0, 1, 2] rfl h same_parts) rfl
end Go.Proofs.Ytnebloeideodmaa.Sep

namespace Go.Proofs.Ytnebloeideodmaa.Sep
open Go.RowKit
open Go.Proofs.Ytnebloeideodmaa.Mem (Dist Blk Chg below0)

theorem RingD.is_ {sl : List EntV} {f k : Nat} {es : List EntD} {x : EntV} (h : RingD sl f es) (hk : k < es.length) (hx : sl[slotI f sl.length k]? = some x) : es[k]? = some x.e := by
  obtain ⟨e, he⟩ : ∃ e, es[k]? = some e := ⟨_, List.getElem?_eq_getElem hk⟩
  obtain ⟨y, hy, rfl⟩ := h.at_ k e he
  rw [hx] at hy
  rw [Option.some.inj hy]; exact he
theorem RingD.is0 {sl : List EntV} {f k : Nat} {es : List EntD} {x : EntV} (h : RingD sl f es) (hk : k < es.length) (hx : sl[slotI f sl.length (0 + k)]? = some x) : es[k]? = some x.e := by
  rw [Nat.zero_add] at hx; exact h.is_ hk hx
/-- what a log tells of its members, so far -/
def CfI (gs gx : Nat) (bi bc : Int) (es : List EntD) (i : Nat) : Ass := fun rs => ∃ z : Int × Int, cfL (bc, bi) (es.take i) = z ∧ Parts [cell gs 3 #[.int .i64 z.1], cell gx 26 #[.int .u64 z.2]] rs
theorem fact_inC {p : Prop} {A : List Ass} {rs : List RowT} (hp : p) (h : Parts A rs) : Parts (fact p :: A) rs := ⟨[], rs, rfl, ⟨rfl, hp⟩, h⟩
theorem CfI.open_ {gs gx : Nat} {bi bc : Int} {es : List EntD} {i : Nat} : ∀ rs, CfI gs gx bi bc es i rs → ∃ z : Int × Int, Parts [fact (cfL (bc, bi) (es.take i) = (z.1, z.2)), cell gs 3 #[.int .i64 z.1], cell gx 26 #[.int .u64 z.2]] rs := fun _ ⟨z, hz, h⟩ => ⟨z, fact_inC hz h⟩
theorem cfI_mk {gs gx : Nat} {bi bc : Int} {es : List EntD} {i : Nat} {a b : Int} (hz : cfL (bc, bi) (es.take i) = (a, b)) : ∀ rs, Parts [cell gs 3 #[.int .i64 a], cell gx 26 #[.int .u64 b]] rs → CfI gs gx bi bc es i rs := fun _ h => ⟨(a, b), hz, h⟩

set_option maxRecDepth 100000 in
theorem conf_l (g : Nat) (bi bt bc : Int) (es : List EntD) (hI : InvL bi bt es) (v : Value) (sl : List EntV) (f : Nat) (hR : RingD sl f es) (n : Nat) (hn : n ≤ es.length) (p q : Int) (hc : cfL (bc, bi) (es.take n) = (p, q)) : Does Try.prog 65 #[.pointer (some ⟨g, 0, none⟩), .int .i64 (n : Int)] [cell g 67 #[.int .u64 bi, .int .u64 bt, .int .i64 bc, v, .int .i64 (f : Int), .int .i64 (es.length : Int)], Vec 32 5 encV v sl, Each dat sl] (fun (_ : Unit) => .tuple #[.int .i64 p, .int .u64 q]) (fun (_ : Unit) => [cell g 67 #[.int .u64 bi, .int .u64 bt, .int .i64 bc, v, .int .i64 (f : Int), .int .i64 (es.length : Int)], Vec 32 5 encV v sl, Each dat sl]) := by
  have hb0 := hI.hi
  have ht0 := hI.ht
  have hle0 := hI.len
  have hm0 : (es.length : Int) ≤ 72057594037927935 := by omega
  have hls : 0 ≤ bi ∧ 0 ≤ (es.length : Int) ∧ bi + (es.length : Int) ≤ 9223372036854775807 := by omega
  have hsz := hR.sz
  have hfn : n = 0 ∨ f < sl.length := by have := hR.le; rcases hR.ff with h | h; exact .inl (by omega); exact .inr h
  refine d_insM (args := [.pointer (some ⟨g, 0, none⟩), .int .i64 (n : Int)]) 32 Try.func65 rfl rfl rfl ?_; intro w rs
  refine d_reg ?_
  refine h_q hflS rfl ?_
  refine h_act (post := fun gs => [cell gs 3 #[.int .i64 0], cell g 67 #[.int .u64 bi, .int .u64 bt, .int .i64 bc, v, .int .i64 (f : Int), .int .i64 (es.length : Int)], Vec 32 5 encV v sl, Each dat sl]) rfl (a_alloc ze_int rfl) ?_; rintro gs
  refine h_act (post := fun gx => [cell gx 26 #[.int .u64 0], cell gs 3 #[.int .i64 0], cell g 67 #[.int .u64 bi, .int .u64 bt, .int .i64 bc, v, .int .i64 (f : Int), .int .i64 (es.length : Int)], Vec 32 5 encV v sl, Each dat sl]) rfl (a_alloc ze_uint64 rfl) ?_; rintro gx
  refine h_done (d_seq ?_)
  refine d_parS 11 1 [⟨.quiet, [none], fun _ => .pointer (some ⟨g, 0, none⟩), []⟩, ⟨.quiet, [none], fun _ => .pointer (some ⟨g, 0, none⟩), [0]⟩, ⟨.quiet, [none], fun _ => .pointer (some ⟨g, 0, none⟩), [1]⟩, ⟨.quiet, [none], fun _ => .pointer (some ⟨g, 2, none⟩), [2]⟩, ⟨.quiet, [none], fun _ => .int .i64 bc, [3]⟩, ⟨.quiet, [none], fun _ => .pointer (some ⟨g, 0, none⟩), []⟩, ⟨.quiet, [none], fun _ => .pointer (some ⟨g, 0, none⟩), [5]⟩, ⟨.quiet, [none], fun _ => .pointer (some ⟨g, 0, none⟩), [6]⟩, ⟨.quiet, [none], fun _ => .pointer (some ⟨g, 0, none⟩), [7]⟩, ⟨.quiet, [none], fun _ => .int .u64 bi, [8]⟩, ⟨.actv 0, [some false], fun _ => undef, [4]⟩] [(0, .pointer (some ⟨g, 0, none⟩)), (1, .int .i64 (n : Int)), (4, .pointer (some ⟨gs, 0, none⟩)), (5, .pointer (some ⟨gx, 0, none⟩))] (fun ρ => match ρ with | [rq0] => [cell gx 26 #[.int .u64 0], selS rq0 (fun _ => cell gs 3 #[.int .i64 bc]) (cell gs 3 #[.int .i64 0]), cell g 67 #[.int .u64 bi, .int .u64 bt, .int .i64 bc, v, .int .i64 (f : Int), .int .i64 (es.length : Int)], Vec 32 5 encV v sl, Each dat sl] | _ => []) (by kernel_rfl) (by kernel_rfl) ⟨rfl, rfl, rfl, rfl, trivial⟩ rfl ?_ ?_
  · skip
    refine s_cons (by intro r0_; exact ⟨rfl, fun b w hH hb => exec_q1 hflS rfl hb⟩) ?_
    refine s_cons (by intro r0_; exact ⟨rfl, fun b w hH hb => by exact exec_nilCheck rfl rfl hb⟩) ?_
    refine s_cons (by intro r0_; exact ⟨rfl, fun b w hH hb => exec_q1 hflS rfl hb⟩) ?_
    refine s_cons (by intro r0_; exact ⟨rfl, fun b w hH hb => exec_q1 hflS rfl hb⟩) ?_
    refine s_cons (by intro r0_; exact ⟨rfl, fun b w hH hb => exec_load rfl rfl (reads_one ty_int rfl) (hH.row 2 rfl) hb⟩) ?_
    refine s_cons (by intro r0_; exact ⟨rfl, fun b w hH hb => exec_q1 hflS rfl hb⟩) ?_
    refine s_cons (by intro r0_; exact ⟨rfl, fun b w hH hb => by exact exec_nilCheck rfl rfl hb⟩) ?_
    refine s_cons (by intro r0_; exact ⟨rfl, fun b w hH hb => exec_q1 hflS rfl hb⟩) ?_
    refine s_cons (by intro r0_; exact ⟨rfl, fun b w hH hb => exec_q1 hflS rfl hb⟩) ?_
    refine s_cons (by intro r0_; exact ⟨rfl, fun b w hH hb => exec_load rfl rfl (reads_one ty_uint64 rfl) (hH.row 2 rfl) hb⟩) ?_
    refine s_cons (by exact ⟨rfl, Acts.su (a_store 1 (v := .int .i64 bc) #[.int .i64 bc] ty_int.2 rfl rfl rfl rfl rfl rfl rfl rfl rfl) rfl⟩) ?_
    exact s_nil
  intro v0_
  refine WL2.keep (env' := [(0, .pointer (some ⟨g, 0, none⟩)), (1, .int .i64 (n : Int)), (4, .pointer (some ⟨gs, 0, none⟩)), (5, .pointer (some ⟨gx, 0, none⟩)), (16, .int .u64 bi)]) ⟨rfl, rfl, rfl, rfl, rfl, trivial⟩ ?_
  refine h_q hflS rfl ?_
  refine h_acts (post := fun _ => [cell gx 26 #[.int .u64 bi], cell gs 3 #[.int .i64 bc], cell g 67 #[.int .u64 bi, .int .u64 bt, .int .i64 bc, v, .int .i64 (f : Int), .int .i64 (es.length : Int)], Vec 32 5 encV v sl, Each dat sl]) rfl rfl (a_store 0 (v := .int .u64 bi) #[.int .u64 bi] ty_uint64.2 rfl rfl rfl rfl rfl rfl rfl rfl rfl) ?_; rintro ⟨⟩
  refine h_nil (f_to (d_seq (d_reg ?_)))
  refine h_q hflS rfl ?_
  refine h_val rfl (.pointer (some ⟨g, 0, none⟩)) (fun b w hb hH => by exact exec_nilCheck rfl rfl hb) ?_
  refine h_q hflS rfl ?_
  refine h_act rfl (a_does  [] 0 (ent_of Try.func55 (by kernel_rfl) rfl) (part_any g 0 (n : Int)) rfl rfl rfl (fun _ => rfl) rfl rfl rfl) ?_; rintro ⟨gn, gr, gk⟩
  refine h_done (d_block ?_)
  refine d_close [4, 3] rfl (cfI_mk (es := es) (i := 0) rfl) rfl ?_
  refine WC2.keep (env' := [(0, .pointer (some ⟨g, 0, none⟩)), (1, .int .i64 (n : Int)), (4, .pointer (some ⟨gs, 0, none⟩)), (5, .pointer (some ⟨gx, 0, none⟩)), (16, .int .u64 bi), (17, .pointer (some ⟨g, 0, none⟩)), (18, .pointer (some ⟨g, 0, none⟩)), (19, .pointer (some ⟨g, 3, none⟩)), (20, .int .i64 (n : Int)), (21, .func (.func 68) #[] #[.pointer (some ⟨gn, 0, none⟩), .pointer (some ⟨gr, 0, none⟩), .pointer (some ⟨gk, 0, none⟩)])]) ⟨rfl, rfl, rfl, rfl, rfl, rfl, rfl, rfl, rfl, rfl, trivial⟩ ?_
  refine WC2.mid [CfI gs gx bi bc es 0, cell gn 3 #[.int .i64 (n : Int)], cell gr 90 #[.pointer (some ⟨g, 3, none⟩)], cell gk 3 #[.int .i64 0], cell g 67 #[.int .u64 bi, .int .u64 bt, .int .i64 bc, v, .int .i64 (f : Int), .int .i64 (es.length : Int)], Vec 32 5 encV v sl, Each dat sl] (.refl _) ?_
  refine wp_rangeF (caps := [.pointer (some ⟨gn, 0, none⟩), .pointer (some ⟨gr, 0, none⟩), .pointer (some ⟨gk, 0, none⟩)]) (post := [CfI gs gx bi bc es n, cell g 67 #[.int .u64 bi, .int .u64 bt, .int .i64 bc, v, .int .i64 (f : Int), .int .i64 (es.length : Int)], Vec 32 5 encV v sl, cell gn 3 #[.int .i64 (n : Int)], cell gr 90 #[.pointer (some ⟨g, 3, none⟩)], cell gk 3 #[.int .i64 0]]) (os' := [CfI gs gx bi bc es n, cell g 67 #[.int .u64 bi, .int .u64 bt, .int .i64 bc, v, .int .i64 (f : Int), .int .i64 (es.length : Int)], Vec 32 5 encV v sl, cell gn 3 #[.int .i64 (n : Int)], cell gr 90 #[.pointer (some ⟨g, 3, none⟩)], cell gk 3 #[.int .i64 0], Each dat sl]) (.normal) [0, 4, 5, 1, 2, 3] rfl (ent_of Try.func68 (by kernel_rfl) rfl) (fun L1 fn1 tm1 hf1 r1 k11 k12 k13 k14 k15 k16 => it_in (part1 (.yield L1) #[] gn gr gk g bi bt bc v sl f 0 n (es.length : Int) (by have := hR.le; omega) hfn hsz (fun i => recI L1 r1 (CfI gs gx bi bc es i)) ?_)) rfl rfl rfl ?_
  · skip
    intro i x hi hx
    refine rd_in (doesF_round (n := 32) (env := [(22, .agg #[.int .i64 x.e.k, .int .u64 x.e.t, .int .u64 x.e.i, x.v, .int .i64 x.e.c]), (0, .pointer (some ⟨g, 0, none⟩)), (1, .int .i64 (n : Int)), (4, .pointer (some ⟨gs, 0, none⟩)), (5, .pointer (some ⟨gx, 0, none⟩)), (16, .int .u64 bi), (17, .pointer (some ⟨g, 0, none⟩)), (18, .pointer (some ⟨g, 0, none⟩)), (19, .pointer (some ⟨g, 3, none⟩)), (20, .int .i64 (n : Int)), (21, .func (.func 68) #[] #[.pointer (some ⟨gn, 0, none⟩), .pointer (some ⟨gr, 0, none⟩), .pointer (some ⟨gk, 0, none⟩)])]) (.normal) k12 k11 (by rw [k14]; rfl) ?_ ?_)
    · rw [k14, k13]
      refine (congrArg (fun t => Fr 32 { tmps := t, defers := [] } _) (?_ : _ = (tm1.setIfInBounds 22 (.agg #[.int .i64 x.e.k, .int .u64 x.e.t, .int .u64 x.e.i, x.v, .int .i64 x.e.c])))).mpr (hf1.put (d := 22) (by decide) _)
      simp
    · intro w0 rs
      rw [k15]
      refine r_reg (by kernel_rfl) (by rintro ⟨a, w, h⟩; first | exact h.elim | exact nomatch h.1 | (obtain ⟨_, h, _⟩ := h; exact nomatch h)) ?_
      refine h_q hflS rfl ?_
      refine h_act (post := fun g1 => [cell g1 32 #[.int .i64 0, .int .u64 0, .int .u64 0, .slice none 0 0, .int .i64 0], recT L1 r1, CfI gs gx bi bc es i]) rfl (a_alloc ze_api_Entry rfl) ?_; rintro g1
      refine h_acts (post := fun _ => [cell g1 32 #[.int .i64 x.e.k, .int .u64 x.e.t, .int .u64 x.e.i, x.v, .int .i64 x.e.c], recT L1 r1, CfI gs gx bi bc es i]) rfl rfl (a_store 0 (v := .agg #[.int .i64 x.e.k, .int .u64 x.e.t, .int .u64 x.e.i, x.v, .int .i64 x.e.c]) #[.int .i64 x.e.k, .int .u64 x.e.t, .int .u64 x.e.i, x.v, .int .i64 x.e.c] ty_api_Entry.2 rfl rfl rfl rfl rfl rfl rfl rfl rfl) ?_; rintro ⟨⟩
      refine h_nil ?_
      refine r_begin 1 rfl k11 ?_
      rw [k16]
      refine r_open 2 rfl CfI.open_ (fun _ => rfl) ?_; rintro ⟨zs, zi⟩
      refine WCR.fact 0 rfl (fun _ h => h.2) ?_; rintro hz
      refine WCR.leave [0] rfl rfl ?_
      have hz : cfL (bc, bi) (es.take i) = (zs, zi) := hz
      have he := hR.is0 (by omega) hx
      refine r_block ?_
      by_cases hk : x.e.k = 2
      · skip
        have hz2 : cfL (bc, bi) (es.take (i + 1)) = (x.e.c, x.e.i) := by rw [cfL_take he, if_pos hk]
        refine r_seq (r_reg (by kernel_rfl) (by rintro ⟨a, w, h⟩; first | exact h.elim | exact nomatch h.1 | (obtain ⟨_, h, _⟩ := h; exact nomatch h)) ?_)
        refine h_q hflS rfl ?_
        refine h_val rfl (.int .i64 x.e.k) (fun b w hb hH => exec_load rfl rfl (reads_one ty_int rfl) (hH.row 2 rfl) hb) ?_
        refine h_val rfl (.bool true) (fun b w hb hH => exec_cmp rfl rfl rfl (cmp_eql_t hk) hb) ?_
        refine h_nil (r_to ?_)
        refine r_then rfl ?_
        refine r_parS (by rintro ⟨a, w, h⟩; first | exact h.elim | exact nomatch h.1 | (obtain ⟨_, h, _⟩ := h; exact nomatch h)) 5 1 [⟨.quiet, [none], fun _ => .pointer (some ⟨g1, 4, none⟩), []⟩, ⟨.quiet, [none], fun _ => .int .i64 x.e.c, [0]⟩, ⟨.quiet, [none], fun _ => .pointer (some ⟨g1, 2, none⟩), []⟩, ⟨.quiet, [none], fun _ => .int .u64 x.e.i, [2]⟩, ⟨.actv 0, [some false], fun _ => undef, [1]⟩] [(4, .pointer (some ⟨gs, 0, none⟩)), (5, .pointer (some ⟨gx, 0, none⟩)), (6, .pointer (some ⟨g1, 0, none⟩))] (fun ρ => match ρ with | [rq0] => [selS rq0 (fun _ => cell gs 3 #[.int .i64 x.e.c]) (cell gs 3 #[.int .i64 zs]), cell gx 26 #[.int .u64 zi], cell g1 32 #[.int .i64 x.e.k, .int .u64 x.e.t, .int .u64 x.e.i, x.v, .int .i64 x.e.c], recT L1 (busyR r1)] | _ => []) (by kernel_rfl) (by kernel_rfl) (by kernel_rfl) ⟨rfl, rfl, rfl, trivial⟩ rfl ?_ ?_
        · skip
          refine s_cons (by intro r0_; exact ⟨rfl, fun b w hH hb => exec_q1 hflS rfl hb⟩) ?_
          refine s_cons (by intro r0_; exact ⟨rfl, fun b w hH hb => exec_load rfl rfl (reads_one ty_int rfl) (hH.row 2 rfl) hb⟩) ?_
          refine s_cons (by intro r0_; exact ⟨rfl, fun b w hH hb => exec_q1 hflS rfl hb⟩) ?_
          refine s_cons (by intro r0_; exact ⟨rfl, fun b w hH hb => exec_load rfl rfl (reads_one ty_uint64 rfl) (hH.row 2 rfl) hb⟩) ?_
          refine s_cons (by exact ⟨rfl, Acts.su (a_store 0 (v := .int .i64 x.e.c) #[.int .i64 x.e.c] ty_int.2 rfl rfl rfl rfl rfl rfl rfl rfl rfl) rfl⟩) ?_
          exact s_nil
        intro v0_
        refine WL2.keep (env' := [(4, .pointer (some ⟨gs, 0, none⟩)), (5, .pointer (some ⟨gx, 0, none⟩)), (29, .int .u64 x.e.i)]) ⟨rfl, rfl, rfl, trivial⟩ ?_
        refine h_q hflS rfl ?_
        refine h_acts (post := fun _ => [cell gs 3 #[.int .i64 x.e.c], cell gx 26 #[.int .u64 x.e.i], cell g1 32 #[.int .i64 x.e.k, .int .u64 x.e.t, .int .u64 x.e.i, x.v, .int .i64 x.e.c], recT L1 (busyR r1)]) rfl rfl (a_store 1 (v := .int .u64 x.e.i) #[.int .u64 x.e.i] ty_uint64.2 rfl rfl rfl rfl rfl rfl rfl rfl rfl) ?_; rintro ⟨⟩
        refine h_nil (f_block ?_)
        refine f_close [0, 1] rfl (cfI_mk hz2) rfl ?_
        exact r_tell [2, 0] rfl rfl
      · skip
        have hz2 : cfL (bc, bi) (es.take (i + 1)) = (zs, zi) := by rw [cfL_take he, if_neg hk, hz]
        refine r_seq (r_reg (by kernel_rfl) (by rintro ⟨a, w, h⟩; first | exact h.elim | exact nomatch h.1 | (obtain ⟨_, h, _⟩ := h; exact nomatch h)) ?_)
        refine h_q hflS rfl ?_
        refine h_val rfl (.int .i64 x.e.k) (fun b w hb hH => exec_load rfl rfl (reads_one ty_int rfl) (hH.row 2 rfl) hb) ?_
        refine h_val rfl (.bool false) (fun b w hb hH => exec_cmp rfl rfl rfl (cmp_eql_f hk) hb) ?_
        refine h_nil (r_to ?_)
        refine r_else rfl ?_
        refine r_skip ?_
        refine f_block ?_
        refine f_close [0, 1] rfl (cfI_mk hz2) rfl ?_
        exact r_tell [2, 0] rfl rfl
  intro D aT wT hDm hD0 hdf hF hH
  obtain ⟨⟨zs, zi⟩, hH⟩ := hp_open 0 rfl CfI.open_ hH
  have hz := thing_is (p := (cfL (bc, bi) (es.take n) = (zs, zi))) 0 rfl (fun _ h => h.2) hH
  rw [hz] at hc
  obtain ⟨rfl, rfl⟩ : zs = p ∧ zi = q := ⟨congrArg Prod.fst hc, congrArg Prod.snd hc⟩
  refine t_to (env := [(4, .pointer (some ⟨gs, 0, none⟩)), (5, .pointer (some ⟨gx, 0, none⟩))]) (os := [fact (cfL (bc, bi) (es.take n) = (zs, zi)), cell gs 3 #[.int .i64 zs], cell gx 26 #[.int .u64 zi], cell g 67 #[.int .u64 bi, .int .u64 bt, .int .i64 bc, v, .int .i64 (f : Int), .int .i64 (es.length : Int)], Vec 32 5 encV v sl, cell gn 3 #[.int .i64 (n : Int)], cell gr 90 #[.pointer (some ⟨g, 3, none⟩)], cell gk 3 #[.int .i64 0], Each dat sl]) ?_ aT wT hDm hD0 hdf (hF.keep ⟨rfl, rfl, trivial⟩) hH
  refine t_anyQ (by kernel_rfl) ?_
  refine bt_two 0 1 (by kernel_rfl) ?_ ?_
  · skip
    refine bt_val rfl rfl (.int .i64 zs) (fun b w hb hH => exec_load rfl rfl (reads_one ty_int rfl) (hH.row 1 rfl) hb) ?_
    refine bt_two 1 2 (by kernel_rfl) ?_ ?_
    · skip
      refine bt_val rfl rfl (.int .u64 zi) (fun b w hb hH => exec_load rfl rfl (reads_one ty_uint64 rfl) (hH.row 2 rfl) hb) ?_
      refine bt_one 2 (by kernel_rfl) ?_
      refine bt_acts (post := fun _ => [fact (cfL (bc, bi) (es.take n) = (zs, zi)), cell gs 3 #[.int .i64 zs], cell gx 26 #[.int .u64 zi], cell g 67 #[.int .u64 bi, .int .u64 bt, .int .i64 bc, v, .int .i64 (f : Int), .int .i64 (es.length : Int)], Vec 32 5 encV v sl, cell gn 3 #[.int .i64 (n : Int)], cell gr 90 #[.pointer (some ⟨g, 3, none⟩)], cell gk 3 #[.int .i64 0], Each dat sl]) rfl rfl rfl (fun B w0 => a_store 1 (v := .int .i64 zs) #[.int .i64 zs] ty_int.2 rfl rfl rfl rfl rfl rfl rfl rfl rfl) ?_; rintro ⟨⟩
      refine bt_one 3 (by kernel_rfl) ?_
      refine bt_acts (post := fun _ => [fact (cfL (bc, bi) (es.take n) = (zs, zi)), cell gs 3 #[.int .i64 zs], cell gx 26 #[.int .u64 zi], cell g 67 #[.int .u64 bi, .int .u64 bt, .int .i64 bc, v, .int .i64 (f : Int), .int .i64 (es.length : Int)], Vec 32 5 encV v sl, cell gn 3 #[.int .i64 (n : Int)], cell gr 90 #[.pointer (some ⟨g, 3, none⟩)], cell gk 3 #[.int .i64 0], Each dat sl]) rfl rfl rfl (fun B w0 => a_store 2 (v := .int .u64 zi) #[.int .u64 zi] ty_uint64.2 rfl rfl rfl rfl rfl rfl rfl rfl rfl) ?_; rintro ⟨⟩
      refine bt_done (by kernel_rfl) (t_to ?_)
      refine WCT.keep (env' := [(4, .pointer (some ⟨gs, 0, none⟩)), (5, .pointer (some ⟨gx, 0, none⟩))]) ⟨rfl, rfl, trivial⟩ ?_
      exact t_ret (fun a w hD hD0 hd hF hH => m_fin2 (os := [fact (cfL (bc, bi) (es.take n) = (zs, zi)), cell gs 3 #[.int .i64 zs], cell gx 26 #[.int .u64 zi], cell g 67 #[.int .u64 bi, .int .u64 bt, .int .i64 bc, v, .int .i64 (f : Int), .int .i64 (es.length : Int)], Vec 32 5 encV v sl, cell gn 3 #[.int .i64 (n : Int)], cell gr 90 #[.pointer (some ⟨g, 3, none⟩)], cell gk 3 #[.int .i64 0], Each dat sl]) (.cell 1 (v := .int .i64 zs) (reads_one ty_int rfl) rfl rfl) (.cell 2 (v := .int .u64 zi) (reads_one ty_uint64 rfl) rfl rfl) rfl (fun w' h => tells (X := Unit) (val := fun _ => .tuple #[.int .i64 zs, .int .u64 zi]) (post := fun _ => [cell g 67 #[.int .u64 bi, .int .u64 bt, .int .i64 bc, v, .int .i64 (f : Int), .int .i64 (es.length : Int)], Vec 32 5 encV v sl, Each dat sl]) (os := [fact (cfL (bc, bi) (es.take n) = (zs, zi)), cell gs 3 #[.int .i64 zs], cell gx 26 #[.int .u64 zi], cell g 67 #[.int .u64 bi, .int .u64 bt, .int .i64 bc, v, .int .i64 (f : Int), .int .i64 (es.length : Int)], Vec 32 5 encV v sl, cell gn 3 #[.int .i64 (n : Int)], cell gr 90 #[.pointer (some ⟨g, 3, none⟩)], cell gk 3 #[.int .i64 0], Each dat sl]) () rfl [3, 4, 8] rfl h same_parts) D a w hD hD0 hd hF hH)
    · skip
      refine bt_acts (post := fun _ => [fact (cfL (bc, bi) (es.take n) = (zs, zi)), cell gs 3 #[.int .i64 zs], cell gx 26 #[.int .u64 zi], cell g 67 #[.int .u64 bi, .int .u64 bt, .int .i64 bc, v, .int .i64 (f : Int), .int .i64 (es.length : Int)], Vec 32 5 encV v sl, cell gn 3 #[.int .i64 (n : Int)], cell gr 90 #[.pointer (some ⟨g, 3, none⟩)], cell gk 3 #[.int .i64 0], Each dat sl]) rfl rfl rfl (fun B w0 => a_store 1 (v := .int .i64 zs) #[.int .i64 zs] ty_int.2 rfl rfl rfl rfl rfl rfl rfl rfl rfl) ?_; rintro ⟨⟩
      refine bt_one 1 (by kernel_rfl) ?_
      refine bt_val rfl rfl (.int .u64 zi) (fun b w hb hH => exec_load rfl rfl (reads_one ty_uint64 rfl) (hH.row 2 rfl) hb) ?_
      refine bt_one 3 (by kernel_rfl) ?_
      refine bt_acts (post := fun _ => [fact (cfL (bc, bi) (es.take n) = (zs, zi)), cell gs 3 #[.int .i64 zs], cell gx 26 #[.int .u64 zi], cell g 67 #[.int .u64 bi, .int .u64 bt, .int .i64 bc, v, .int .i64 (f : Int), .int .i64 (es.length : Int)], Vec 32 5 encV v sl, cell gn 3 #[.int .i64 (n : Int)], cell gr 90 #[.pointer (some ⟨g, 3, none⟩)], cell gk 3 #[.int .i64 0], Each dat sl]) rfl rfl rfl (fun B w0 => a_store 2 (v := .int .u64 zi) #[.int .u64 zi] ty_uint64.2 rfl rfl rfl rfl rfl rfl rfl rfl rfl) ?_; rintro ⟨⟩
      refine bt_done (by kernel_rfl) (t_to ?_)
      refine WCT.keep (env' := [(4, .pointer (some ⟨gs, 0, none⟩)), (5, .pointer (some ⟨gx, 0, none⟩))]) ⟨rfl, rfl, trivial⟩ ?_
      exact t_ret (fun a w hD hD0 hd hF hH => m_fin2 (os := [fact (cfL (bc, bi) (es.take n) = (zs, zi)), cell gs 3 #[.int .i64 zs], cell gx 26 #[.int .u64 zi], cell g 67 #[.int .u64 bi, .int .u64 bt, .int .i64 bc, v, .int .i64 (f : Int), .int .i64 (es.length : Int)], Vec 32 5 encV v sl, cell gn 3 #[.int .i64 (n : Int)], cell gr 90 #[.pointer (some ⟨g, 3, none⟩)], cell gk 3 #[.int .i64 0], Each dat sl]) (.cell 1 (v := .int .i64 zs) (reads_one ty_int rfl) rfl rfl) (.cell 2 (v := .int .u64 zi) (reads_one ty_uint64 rfl) rfl rfl) rfl (fun w' h => tells (X := Unit) (val := fun _ => .tuple #[.int .i64 zs, .int .u64 zi]) (post := fun _ => [cell g 67 #[.int .u64 bi, .int .u64 bt, .int .i64 bc, v, .int .i64 (f : Int), .int .i64 (es.length : Int)], Vec 32 5 encV v sl, Each dat sl]) (os := [fact (cfL (bc, bi) (es.take n) = (zs, zi)), cell gs 3 #[.int .i64 zs], cell gx 26 #[.int .u64 zi], cell g 67 #[.int .u64 bi, .int .u64 bt, .int .i64 bc, v, .int .i64 (f : Int), .int .i64 (es.length : Int)], Vec 32 5 encV v sl, cell gn 3 #[.int .i64 (n : Int)], cell gr 90 #[.pointer (some ⟨g, 3, none⟩)], cell gk 3 #[.int .i64 0], Each dat sl]) () rfl [3, 4, 8] rfl h same_parts) D a w hD hD0 hd hF hH)
  · skip
    refine bt_val rfl rfl (.int .u64 zi) (fun b w hb hH => exec_load rfl rfl (reads_one ty_uint64 rfl) (hH.row 2 rfl) hb) ?_
    refine bt_one 0 (by kernel_rfl) ?_
    refine bt_val rfl rfl (.int .i64 zs) (fun b w hb hH => exec_load rfl rfl (reads_one ty_int rfl) (hH.row 1 rfl) hb) ?_
    refine bt_one 2 (by kernel_rfl) ?_
    refine bt_acts (post := fun _ => [fact (cfL (bc, bi) (es.take n) = (zs, zi)), cell gs 3 #[.int .i64 zs], cell gx 26 #[.int .u64 zi], cell g 67 #[.int .u64 bi, .int .u64 bt, .int .i64 bc, v, .int .i64 (f : Int), .int .i64 (es.length : Int)], Vec 32 5 encV v sl, cell gn 3 #[.int .i64 (n : Int)], cell gr 90 #[.pointer (some ⟨g, 3, none⟩)], cell gk 3 #[.int .i64 0], Each dat sl]) rfl rfl rfl (fun B w0 => a_store 1 (v := .int .i64 zs) #[.int .i64 zs] ty_int.2 rfl rfl rfl rfl rfl rfl rfl rfl rfl) ?_; rintro ⟨⟩
    refine bt_one 3 (by kernel_rfl) ?_
    refine bt_acts (post := fun _ => [fact (cfL (bc, bi) (es.take n) = (zs, zi)), cell gs 3 #[.int .i64 zs], cell gx 26 #[.int .u64 zi], cell g 67 #[.int .u64 bi, .int .u64 bt, .int .i64 bc, v, .int .i64 (f : Int), .int .i64 (es.length : Int)], Vec 32 5 encV v sl, cell gn 3 #[.int .i64 (n : Int)], cell gr 90 #[.pointer (some ⟨g, 3, none⟩)], cell gk 3 #[.int .i64 0], Each dat sl]) rfl rfl rfl (fun B w0 => a_store 2 (v := .int .u64 zi) #[.int .u64 zi] ty_uint64.2 rfl rfl rfl rfl rfl rfl rfl rfl rfl) ?_; rintro ⟨⟩
    refine bt_done (by kernel_rfl) (t_to ?_)
    refine WCT.keep (env' := [(4, .pointer (some ⟨gs, 0, none⟩)), (5, .pointer (some ⟨gx, 0, none⟩))]) ⟨rfl, rfl, trivial⟩ ?_
    exact t_ret (fun a w hD hD0 hd hF hH => m_fin2 (os := [fact (cfL (bc, bi) (es.take n) = (zs, zi)), cell gs 3 #[.int .i64 zs], cell gx 26 #[.int .u64 zi], cell g 67 #[.int .u64 bi, .int .u64 bt, .int .i64 bc, v, .int .i64 (f : Int), .int .i64 (es.length : Int)], Vec 32 5 encV v sl, cell gn 3 #[.int .i64 (n : Int)], cell gr 90 #[.pointer (some ⟨g, 3, none⟩)], cell gk 3 #[.int .i64 0], Each dat sl]) (.cell 1 (v := .int .i64 zs) (reads_one ty_int rfl) rfl rfl) (.cell 2 (v := .int .u64 zi) (reads_one ty_uint64 rfl) rfl rfl) rfl (fun w' h => tells (X := Unit) (val := fun _ => .tuple #[.int .i64 zs, .int .u64 zi]) (post := fun _ => [cell g 67 #[.int .u64 bi, .int .u64 bt, .int .i64 bc, v, .int .i64 (f : Int), .int .i64 (es.length : Int)], Vec 32 5 encV v sl, Each dat sl]) (os := [fact (cfL (bc, bi) (es.take n) = (zs, zi)), cell gs 3 #[.int .i64 zs], cell gx 26 #[.int .u64 zi], cell g 67 #[.int .u64 bi, .int .u64 bt, .int .i64 bc, v, .int .i64 (f : Int), .int .i64 (es.length : Int)], Vec 32 5 encV v sl, cell gn 3 #[.int .i64 (n : Int)], cell gr 90 #[.pointer (some ⟨g, 3, none⟩)], cell gk 3 #[.int .i64 0], Each dat sl]) () rfl [3, 4, 8] rfl h same_parts) D a w hD hD0 hd hF hH)

set_option maxRecDepth 100000 in
theorem conf_any (g : Nat) (bi bt bc : Int) (es : List EntD) (hI : InvL bi bt es) (v : Value) (sl : List EntV) (f : Nat) (hR : RingD sl f es) (p q : Int) (hc : cfL (bc, bi) es = (p, q)) : Does Try.prog 43 #[.pointer (some ⟨g, 0, none⟩)] [cell g 67 #[.int .u64 bi, .int .u64 bt, .int .i64 bc, v, .int .i64 (f : Int), .int .i64 (es.length : Int)], Vec 32 5 encV v sl, Each dat sl] (fun (_ : Unit) => .tuple #[.int .i64 p, .int .u64 q]) (fun (_ : Unit) => [cell g 67 #[.int .u64 bi, .int .u64 bt, .int .i64 bc, v, .int .i64 (f : Int), .int .i64 (es.length : Int)], Vec 32 5 encV v sl, Each dat sl]) := by
  have hb0 := hI.hi
  have ht0 := hI.ht
  have hle0 := hI.len
  have hm0 : (es.length : Int) ≤ 72057594037927935 := by omega
  have hls : 0 ≤ bi ∧ 0 ≤ (es.length : Int) ∧ bi + (es.length : Int) ≤ 9223372036854775807 := by omega
  have hsz := hR.sz
  refine d_ins (args := [.pointer (some ⟨g, 0, none⟩)]) 10 Try.func43 rfl rfl rfl ?_; intro w rs
  refine d_reg ?_
  refine h_q hflS rfl ?_
  refine h_done (d_reg ?_)
  refine h_q hflS rfl ?_
  refine h_act (post := fun _ => [cell g 67 #[.int .u64 bi, .int .u64 bt, .int .i64 bc, v, .int .i64 (f : Int), .int .i64 (es.length : Int)], Vec 32 5 encV v sl, Each dat sl]) rfl (a_does (os' := fun _ => [cell g 67 #[.int .u64 bi, .int .u64 bt, .int .i64 bc, v, .int .i64 (f : Int), .int .i64 (es.length : Int)], Vec 32 5 encV v sl, Each dat sl]) [0] 0 (ent_of Try.func18 (by kernel_rfl) rfl) (len_any g bi bt bc v (f : Int) (es.length : Int)) rfl rfl rfl (fun _ => rfl) rfl rfl rfl) ?_; rintro ⟨⟩
  refine h_act (post := fun _ => [cell g 67 #[.int .u64 bi, .int .u64 bt, .int .i64 bc, v, .int .i64 (f : Int), .int .i64 (es.length : Int)], Vec 32 5 encV v sl, Each dat sl]) rfl (a_does (os' := fun _ => [cell g 67 #[.int .u64 bi, .int .u64 bt, .int .i64 bc, v, .int .i64 (f : Int), .int .i64 (es.length : Int)], Vec 32 5 encV v sl, Each dat sl]) [0, 1, 2] 0 (ent_of Try.func65 (by kernel_rfl) rfl) (conf_l g bi bt bc es hI v sl f hR es.length (Nat.le_refl _) p q (by rw [List.take_of_length_le (Nat.le_refl _)]; exact hc)) rfl rfl rfl (fun _ => rfl) rfl rfl rfl) ?_; rintro ⟨⟩
  refine h_q hflS rfl ?_
  refine h_done (d_ret ?_)
  exact f_fin2 (.tmp rfl) (.tmp rfl) (fun w h => tells () rfl [0, 1, 2] rfl h same_parts) rfl

set_option maxRecDepth 100000 in
theorem confAt_any (g : Nat) (bi bt bc : Int) (es : List EntD) (hI : InvL bi bt es) (v : Value) (sl : List EntV) (f : Nat) (hR : RingD sl f es) (x : Int) (hx : 0 ≤ x ∧ x ≤ 18446744073709551615) (p q : Int) (hc : cfL (bc, bi) (es.take (upM bi es.length x)) = (p, q)) : Does Try.prog 38 #[.pointer (some ⟨g, 0, none⟩), .int .u64 x] [cell g 67 #[.int .u64 bi, .int .u64 bt, .int .i64 bc, v, .int .i64 (f : Int), .int .i64 (es.length : Int)], Vec 32 5 encV v sl, Each dat sl] (fun (_ : Unit) => .int .i64 p) (fun (_ : Unit) => [cell g 67 #[.int .u64 bi, .int .u64 bt, .int .i64 bc, v, .int .i64 (f : Int), .int .i64 (es.length : Int)], Vec 32 5 encV v sl, Each dat sl]) := by
  have hb0 := hI.hi
  have ht0 := hI.ht
  have hle0 := hI.len
  have hm0 : (es.length : Int) ≤ 72057594037927935 := by omega
  have hls : 0 ≤ bi ∧ 0 ≤ (es.length : Int) ∧ bi + (es.length : Int) ≤ 9223372036854775807 := by omega
  have hsz := hR.sz
  refine d_ins (args := [.pointer (some ⟨g, 0, none⟩), .int .u64 x]) 16 Try.func38 rfl rfl rfl ?_; intro w rs
  refine d_reg ?_
  refine h_q hflS rfl ?_
  refine h_done (d_reg ?_)
  refine h_q hflS rfl ?_
  refine h_act (post := fun _ => [cell g 67 #[.int .u64 bi, .int .u64 bt, .int .i64 bc, v, .int .i64 (f : Int), .int .i64 (es.length : Int)], Vec 32 5 encV v sl, Each dat sl]) rfl (a_does (os' := fun _ => [cell g 67 #[.int .u64 bi, .int .u64 bt, .int .i64 bc, v, .int .i64 (f : Int), .int .i64 (es.length : Int)], Vec 32 5 encV v sl, Each dat sl]) [0] 0 (ent_of Try.func36 (by kernel_rfl) rfl) (upTo_any g bi bt bc v (f : Int) es.length x hb0 hm0 hx (upM bi es.length x) rfl) rfl rfl rfl (fun _ => rfl) rfl rfl rfl) ?_; rintro ⟨⟩
  refine h_act (post := fun _ => [cell g 67 #[.int .u64 bi, .int .u64 bt, .int .i64 bc, v, .int .i64 (f : Int), .int .i64 (es.length : Int)], Vec 32 5 encV v sl, Each dat sl]) rfl (a_does (os' := fun _ => [cell g 67 #[.int .u64 bi, .int .u64 bt, .int .i64 bc, v, .int .i64 (f : Int), .int .i64 (es.length : Int)], Vec 32 5 encV v sl, Each dat sl]) [0, 1, 2] 0 (ent_of Try.func65 (by kernel_rfl) rfl) (conf_l g bi bt bc es hI v sl f hR (upM bi es.length x) upM_le p q hc) rfl rfl rfl (fun _ => rfl) rfl rfl rfl) ?_; rintro ⟨⟩
  refine h_q hflS rfl ?_
  refine h_done (d_reg ?_)
  refine h_q hflS rfl ?_
  refine h_done (d_ret ?_)
  exact f_fin1 (.tmp rfl) (fun w h => tells () rfl [0, 1, 2] rfl h same_parts) rfl
end Go.Proofs.Ytnebloeideodmaa.Sep
