/-
  RlI · RlJ · RlK
-/
import Derived.Test.YtnebloeideodmaaOH01
set_option linter.unusedSimpArgs false
set_option linter.unusedVariables false

namespace Go.Proofs.Ytnebloeideodmaa.Sep
open Go.RowKit
open Go.Proofs.Ytnebloeideodmaa.Mem (Dist Blk Chg below0)

set_option maxRecDepth 100000 in
theorem len_any (g : Nat) (bi bt bc : Int) (v : Value) (fi n : Int)  : Does Try.prog 18 #[.pointer (some ⟨g, 0, none⟩)] [cell g 67 #[.int .u64 bi, .int .u64 bt, .int .i64 bc, v, .int .i64 fi, .int .i64 n]] (fun (_ : Unit) => .int .i64 n) (fun (_ : Unit) => [cell g 67 #[.int .u64 bi, .int .u64 bt, .int .i64 bc, v, .int .i64 fi, .int .i64 n]]) := by
  refine d_ins (args := [.pointer (some ⟨g, 0, none⟩)]) 8 Try.func18 rfl rfl rfl ?_; intro w rs
  refine d_reg ?_
  refine h_q hflS rfl ?_
  refine h_done (d_reg ?_)
  refine h_q hflS rfl ?_
  refine h_val rfl (.pointer (some ⟨g, 0, none⟩)) (fun b w hb hH => by exact exec_nilCheck rfl rfl hb) ?_
  refine h_q hflS rfl ?_
  refine h_val rfl (.int .i64 n) (fun b w hb hH => exec_load rfl rfl (reads_one ty_int rfl) (hH.row 0 rfl) hb) ?_
  refine h_q hflS rfl ?_
  refine h_done (d_ret ?_)
  exact f_fin1 (.tmp rfl) (fun w h => tells () rfl [0] rfl h same_parts) rfl

set_option maxRecDepth 100000 in
theorem upTo_any (g : Nat) (bi bt bc : Int) (v : Value) (fi : Int) (m : Nat) (x : Int) (hb0 : 0 ≤ bi ∧ bi ≤ 72057594037927935) (hm : (m : Int) ≤ 72057594037927935) (hx : 0 ≤ x ∧ x ≤ 18446744073709551615) (u : Nat) (hu : upM bi m x = u) : Does Try.prog 36 #[.pointer (some ⟨g, 0, none⟩), .int .u64 x] [cell g 67 #[.int .u64 bi, .int .u64 bt, .int .i64 bc, v, .int .i64 fi, .int .i64 (m : Int)]] (fun (_ : Unit) => .int .i64 (u : Int)) (fun (_ : Unit) => [cell g 67 #[.int .u64 bi, .int .u64 bt, .int .i64 bc, v, .int .i64 fi, .int .i64 (m : Int)]]) := by
  unfold upM at hu
  refine d_ins (args := [.pointer (some ⟨g, 0, none⟩), .int .u64 x]) 24 Try.func36 rfl rfl rfl ?_; intro w rs
  refine d_reg ?_
  refine h_q hflS rfl ?_
  refine h_done (d_seq ?_)
  rcases Int.lt_or_le bi x with hn | hn
  · skip
    refine d_reg ?_
    refine h_q hflS rfl ?_
    refine h_val rfl (.pointer (some ⟨g, 0, none⟩)) (fun b w hb hH => by exact exec_nilCheck rfl rfl hb) ?_
    refine h_q hflS rfl ?_
    refine h_val rfl (.int .u64 bi) (fun b w hb hH => exec_load rfl rfl (reads_one ty_uint64 rfl) (hH.row 0 rfl) hb) ?_
    refine h_val rfl (.bool false) (fun b w hb hH => exec_cmp rfl rfl rfl (cmp_leq_f (by omega)) hb) ?_
    refine h_done (d_else rfl (d_skip (f_to (d_seq ?_))))
    refine d_parS 12 1 [⟨.quiet, [none], fun _ => .int .u64 x, []⟩, ⟨.quiet, [none], fun _ => .pointer (some ⟨g, 0, none⟩), []⟩, ⟨.quiet, [none], fun _ => .pointer (some ⟨g, 0, none⟩), [1]⟩, ⟨.quiet, [none], fun _ => .pointer (some ⟨g, 0, none⟩), [2]⟩, ⟨.quiet, [none], fun _ => .pointer (some ⟨g, 0, none⟩), [3]⟩, ⟨.quiet, [none], fun _ => .int .u64 bi, [4]⟩, ⟨.quiet, [none], fun _ => .int .u64 (x - bi), [0, 5]⟩, ⟨.quiet, [none], fun _ => .pointer (some ⟨g, 0, none⟩), []⟩, ⟨.actv 0, [some false], fun _ => .int .i64 (m : Int), [7]⟩, ⟨.quiet, [some true], fun _ => .int .u64 (m : Int), [8]⟩, ⟨.quiet, [some true], fun _ => .int .u64 (u : Int), [6, 9]⟩, ⟨.quiet, [some true], fun _ => .int .i64 (u : Int), [10]⟩] [(0, .pointer (some ⟨g, 0, none⟩)), (1, .int .u64 x), (4, .int .i64 0)] (fun ρ => match ρ with | [rq0] => [cell g 67 #[.int .u64 bi, .int .u64 bt, .int .i64 bc, v, .int .i64 fi, .int .i64 (m : Int)]] | _ => []) (by kernel_rfl) (by kernel_rfl) ⟨rfl, rfl, rfl, trivial⟩ rfl ?_ ?_
    · skip
      refine s_cons (by intro r0_; exact ⟨rfl, fun b w hH hb => exec_q1 hflS rfl hb⟩) ?_
      refine s_cons (by intro r0_; exact ⟨rfl, fun b w hH hb => exec_q1 hflS rfl hb⟩) ?_
      refine s_cons (by intro r0_; exact ⟨rfl, fun b w hH hb => by exact exec_nilCheck rfl rfl hb⟩) ?_
      refine s_cons (by intro r0_; exact ⟨rfl, fun b w hH hb => exec_q1 hflS rfl hb⟩) ?_
      refine s_cons (by intro r0_; exact ⟨rfl, fun b w hH hb => exec_q1 hflS rfl hb⟩) ?_
      refine s_cons (by intro r0_; exact ⟨rfl, fun b w hH hb => exec_load rfl rfl (reads_one ty_uint64 rfl) (hH.row 0 rfl) hb⟩) ?_
      refine s_cons (by intro r0_; exact ⟨rfl, fun b w hH hb => exec_ar rfl rfl rfl rfl (IntWalk.u64_in _ (by omega)) hb⟩) ?_
      refine s_cons (by intro r0_; exact ⟨rfl, fun b w hH hb => exec_q1 hflS rfl hb⟩) ?_
      refine s_cons (by exact ⟨rfl, Acts.su (a_does (os' := fun _ => [cell g 67 #[.int .u64 bi, .int .u64 bt, .int .i64 bc, v, .int .i64 fi, .int .i64 (m : Int)]]) [0] 0 (ent_of Try.func18 (by kernel_rfl) rfl) (len_any g bi bt bc v fi (m : Int)) rfl rfl rfl (fun _ => rfl) rfl rfl rfl) rfl⟩) ?_
      refine s_cons (by intro v0_; exact ⟨rfl, fun b w hH hb => exec_conv Try.underlying3 Try.underlying26 (IntWalk.u64_in _ (by omega)) rfl rfl hb⟩) ?_
      refine s_cons (by intro v0_; exact ⟨rfl, fun b w hH hb => exec_builtin2 rfl rfl (fun cs => (fun w cs => run_min2 (by omega) _ _ w cs) w cs) hb⟩) ?_
      refine s_cons (by intro v0_; exact ⟨rfl, fun b w hH hb => exec_conv Try.underlying26 Try.underlying3 (IntWalk.i64_in _ (by omega)) rfl rfl hb⟩) ?_
      exact s_nil
    intro v0_
    refine WL2.keep (env' := [(4, .int .i64 0), (23, .int .i64 (u : Int))]) ⟨rfl, rfl, trivial⟩ ?_
    refine h_q hflS rfl ?_
    refine h_nil (f_to (d_ret ?_))
    exact f_fin1 (.tmp rfl) (fun w h => tells () rfl [0] rfl h same_parts) rfl
  · skip
    obtain rfl : u = 0 := by omega
    refine d_reg ?_
    refine h_q hflS rfl ?_
    refine h_val rfl (.pointer (some ⟨g, 0, none⟩)) (fun b w hb hH => by exact exec_nilCheck rfl rfl hb) ?_
    refine h_q hflS rfl ?_
    refine h_val rfl (.int .u64 bi) (fun b w hb hH => exec_load rfl rfl (reads_one ty_uint64 rfl) (hH.row 0 rfl) hb) ?_
    refine h_val rfl (.bool true) (fun b w hb hH => exec_cmp rfl rfl rfl (cmp_leq_t (by omega)) hb) ?_
    refine h_done (d_then rfl (d_reg ?_))
    refine h_q hflS rfl ?_
    refine h_done (d_ret (f_then_ret ?_))
    exact f_fin1 (.tmp rfl) (fun w h => tells () rfl [0] rfl h same_parts) rfl
end Go.Proofs.Ytnebloeideodmaa.Sep

namespace Go.Proofs.Ytnebloeideodmaa.Sep
open Go.RowKit
open Go.Proofs.Ytnebloeideodmaa.Mem (Dist Blk Chg below0)

theorem exec_field {P : Program} {n : Nat} {env : List (Nat × Value)} {a : Act} {w : World} {o : Oper} {T : TypeId} {x : Operand} {k : Nat} {v r : Value} (hf : (Instr.field T v k).run P w = .ok r w) (ho : o.op = .field T x k) (hx : evs env x = some v) (hF : Fr n a env) : (execOp a.eval o).run P w = .ok (.value r) w := by
  unfold execOp
  simp only [ho, hF.evs hx]
  simp [hf]
end Go.Proofs.Ytnebloeideodmaa.Sep

namespace Go.Proofs.Ytnebloeideodmaa.Sep
open Go.RowKit
open Go.Proofs.Ytnebloeideodmaa.Mem (Dist Blk Chg below0)

theorem RingD.is_ {sl : List EntV} {f k : Nat} {es : List EntD} {x : EntV} (h : RingD sl f es) (hk : k < es.length) (hx : sl[slotI f sl.length k]? = some x) : es[k]? = some x.e := by
  obtain ⟨e, he⟩ : ∃ e, es[k]? = some e := ⟨_, List.getElem?_eq_getElem hk⟩
  obtain ⟨y, hy, rfl⟩ := h.at_ k e he
  rw [hx] at hy
  rw [Option.some.inj hy]; exact he
/-- what a log tells of its members, so far -/
def CfI (gs gx : Nat) (bi bc : Int) (es : List EntD) (i : Nat) : Ass := fun rs => ∃ z : Int × Int, cfL (bc, bi) (es.take i) = z ∧ Parts [cell gs 3 #[.int .i64 z.1], cell gx 26 #[.int .u64 z.2]] rs
theorem fact_inC {p : Prop} {A : List Ass} {rs : List RowT} (hp : p) (h : Parts A rs) : Parts (fact p :: A) rs := ⟨[], rs, rfl, ⟨rfl, hp⟩, h⟩
theorem CfI.open_ {gs gx : Nat} {bi bc : Int} {es : List EntD} {i : Nat} : ∀ rs, CfI gs gx bi bc es i rs → ∃ z : Int × Int, Parts [fact (cfL (bc, bi) (es.take i) = (z.1, z.2)), cell gs 3 #[.int .i64 z.1], cell gx 26 #[.int .u64 z.2]] rs := fun _ ⟨z, hz, h⟩ => ⟨z, fact_inC hz h⟩
end Go.Proofs.Ytnebloeideodmaa.Sep
