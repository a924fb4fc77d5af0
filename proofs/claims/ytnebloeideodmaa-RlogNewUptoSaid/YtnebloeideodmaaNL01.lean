/-
  RlS · RlT · RlU
-/
import Derived.Test.YtnebloeideodmaaNK01
set_option linter.unusedSimpArgs false
set_option linter.unusedVariables false

namespace Go.Proofs.Ytnebloeideodmaa.Sep
open Go.RowKit
open Go.Proofs.Ytnebloeideodmaa.Mem (Dist Blk Chg below0)

end Go.Proofs.Ytnebloeideodmaa.Sep

namespace Go.Proofs.Ytnebloeideodmaa.Sep
open Go.RowKit
open Go.Proofs.Ytnebloeideodmaa.Mem (Dist Blk Chg below0)

theorem app_done {g : Nat} {bi bt bc : Int} {v : Value} {sl : List EntV} {f : Nat} {es : List EntD} {X : Ass} (h : RingD sl f es) {z : List RowT} (hz : Parts [cell g 67 #[.int .u64 bi, .int .u64 bt, .int .i64 bc, v, .int .i64 (f : Int), .int .i64 (es.length : Int)], Vec 32 5 encV v (sl), Each dat sl, X] z) : Parts [LogD g bi bt bc es, X] z := by
  obtain ⟨a, b, e, h1, c, d, e2, h2, p, q, e3, h3, h4⟩ := hz
  exact ⟨a ++ (c ++ p), q, by rw [e, e2, e3]; simp, LogD.mk rfl h _ ⟨a, c ++ p, rfl, h1, c, p, rfl, h2, Parts.one h3⟩, h4⟩

set_option maxRecDepth 100000 in
theorem new_ok (bi bt bc : Int) (hbi : 0 ≤ bi ∧ bi ≤ 18446744073709551615) (hbt : 0 ≤ bt ∧ bt ≤ 18446744073709551615) (hbc : -9223372036854775808 ≤ bc ∧ bc ≤ 9223372036854775807) (X : Ass) (A : Option Addr) (c : Nat) (l : List EntV) (hX : RdEs X (.slice A l.length c) l) (hd : ∀ x, x ∈ l → x.e.d.length ≤ 140737488351232) (hs : l.length * 56 ≤ 140737488351232) (h : baseR bi bt bc = true) (h2 : folB bi bt (l.map (·.e)) = true) : Does Try.prog 8 #[.agg #[.int .u64 bi, .int .u64 bt, .int .i64 bc], .slice A l.length c] [X] (fun (g : Nat) => .tuple #[.pointer (some ⟨g, 0, none⟩), .int .i64 0]) (fun (g : Nat) => [LogD g bi bt bc (l.map (·.e)), X]) := by
  have hln : l.length ≤ 9223372036854775807 := by omega
  refine d_ins (args := [.agg #[.int .u64 bi, .int .u64 bt, .int .i64 bc], .slice A l.length c]) 26 Try.func8 rfl rfl rfl ?_; intro w rs
  refine d_reg ?_
  refine h_q hflS rfl ?_
  refine h_act (post := fun g2 => [cell g2 28 #[.int .u64 bi, .int .u64 bt, .int .i64 bc], X]) rfl (a_box (cs := #[.int .u64 bi, .int .u64 bt, .int .i64 bc]) rfl rfl rfl) ?_; rintro g2
  refine h_q hflS rfl ?_
  refine h_done (d_seq (d_reg ?_))
  refine h_q hflS rfl ?_
  refine h_val rfl (.agg #[.int .u64 bi, .int .u64 bt, .int .i64 bc]) (fun b w hb hH => exec_load rfl rfl (reads_agg (cs := [.int .u64 bi, .int .u64 bt, .int .i64 bc]) ty_api_Base rfl) (hH.row 0 rfl) hb) ?_
  refine h_act (post := fun _ => [cell g2 28 #[.int .u64 bi, .int .u64 bt, .int .i64 bc], X]) rfl (a_call (ent_of Try.func29 (by kernel_rfl) rfl) (fun w hH => baseR_any w bi bt bc hbc true h) rfl rfl rfl) ?_; rintro ⟨⟩
  refine h_q hflS rfl ?_
  refine h_val rfl (.int .u64 bi) (fun b w hb hH => exec_load rfl rfl (reads_one ty_uint64 rfl) (hH.row 0 rfl) hb) ?_
  refine h_q hflS rfl ?_
  refine h_val rfl (.int .u64 bt) (fun b w hb hH => exec_load rfl rfl (reads_one ty_uint64 rfl) (hH.row 0 rfl) hb) ?_
  refine h_q hflS rfl ?_
  refine h_act (post := fun _ => [cell g2 28 #[.int .u64 bi, .int .u64 bt, .int .i64 bc], X]) rfl (a_does (os' := fun _ => [cell g2 28 #[.int .u64 bi, .int .u64 bt, .int .i64 bc], X]) [1] 0 (ent_of Try.func30 (by kernel_rfl) rfl) (follow_l X A c l hX hln bi bt hbi hbt true h2) rfl rfl rfl (fun _ => rfl) rfl rfl rfl) ?_; rintro ⟨⟩
  refine h_q hflS rfl ?_
  refine h_done (d_else rfl (d_skip (f_to (d_reg ?_))))
  refine h_q hflS rfl ?_
  refine h_val rfl (.agg #[.int .u64 bi, .int .u64 bt, .int .i64 bc]) (fun b w hb hH => exec_load rfl rfl (reads_agg (cs := [.int .u64 bi, .int .u64 bt, .int .i64 bc]) ty_api_Base rfl) (hH.row 0 rfl) hb) ?_
  refine h_val rfl (.agg #[.int .u64 bi, .int .u64 bt, .int .i64 bc, .slice none 0 0, .int .i64 0, .int .i64 0]) (fun b w hb hH => exec_build rfl rfl (by kernel_rfl) hb) ?_
  refine h_act (post := fun g => [cell g 67 #[.int .u64 bi, .int .u64 bt, .int .i64 bc, .slice none 0 0, .int .i64 0, .int .i64 0], cell g2 28 #[.int .u64 bi, .int .u64 bt, .int .i64 bc], X]) rfl (a_box (cs := #[.int .u64 bi, .int .u64 bt, .int .i64 bc, .slice none 0 0, .int .i64 0, .int .i64 0]) rfl rfl rfl) ?_; rintro g
  refine h_q hflS rfl ?_
  refine h_done ?_
  refine d_nilvec 32 5 encV ?_
  refine d_new (t := Each dat ([])) (each_nil) ?_
  refine d_close [2, 1, 0] rfl (LogD.mk (n := 0) rfl ring_none) rfl ?_
  refine WC2.keep (env' := [(0, .agg #[.int .u64 bi, .int .u64 bt, .int .i64 bc]), (1, .slice A l.length c), (2, .pointer (some ⟨g2, 0, none⟩)), (4, .pointer none), (5, .int .i64 0), (7, .agg #[.int .u64 bi, .int .u64 bt, .int .i64 bc]), (8, .bool true), (9, .bool false), (10, .bool false), (11, .pointer (some ⟨g2, 0, none⟩)), (12, .int .u64 bi), (13, .pointer (some ⟨g2, 1, none⟩)), (14, .int .u64 bt), (15, .slice A l.length c), (16, .bool true), (17, .bool false), (18, .bool false), (19, .agg #[.int .u64 bi, .int .u64 bt, .int .i64 bc]), (20, .agg #[.int .u64 bi, .int .u64 bt, .int .i64 bc, .slice none 0 0, .int .i64 0, .int .i64 0]), (21, .pointer (some ⟨g, 0, none⟩)), (6, .pointer (some ⟨g, 0, none⟩))]) ⟨rfl, rfl, rfl, rfl, rfl, rfl, rfl, rfl, rfl, rfl, rfl, rfl, rfl, rfl, rfl, rfl, rfl, rfl, rfl, rfl, rfl, trivial⟩ ?_
  refine WC2.mid [LogD g bi bt bc ([]), cell g2 28 #[.int .u64 bi, .int .u64 bt, .int .i64 bc], X] (.refl _) ?_
  refine d_reg ?_
  refine h_q hflS rfl ?_
  refine h_act (post := fun _ => [LogD g bi bt bc (([]) ++ l.map (·.e)), cell g2 28 #[.int .u64 bi, .int .u64 bt, .int .i64 bc], X]) rfl (a_does (os' := fun _ => [LogD g bi bt bc (([]) ++ l.map (·.e)), cell g2 28 #[.int .u64 bi, .int .u64 bt, .int .i64 bc], X]) [0, 2] 0 (ent_of Try.func31 (by kernel_rfl) rfl) (ladd_does g bi bt bc ([]) X A c l hX hln hd (by simpa using hs)) rfl rfl rfl (fun _ => rfl) rfl rfl rfl) ?_; rintro ⟨⟩
  refine h_done (d_reg ?_)
  refine h_q hflS rfl ?_
  refine h_done (d_ret ?_)
  exact f_fin2 (.tmp rfl) (.tmp rfl) (fun w h => tells g rfl [0, 2] rfl h same_parts) rfl

set_option maxRecDepth 100000 in
theorem new_no (bi bt bc : Int) (hbi : 0 ≤ bi ∧ bi ≤ 18446744073709551615) (hbt : 0 ≤ bt ∧ bt ≤ 18446744073709551615) (hbc : -9223372036854775808 ≤ bc ∧ bc ≤ 9223372036854775807) (X : Ass) (A : Option Addr) (c : Nat) (l : List EntV) (hX : RdEs X (.slice A l.length c) l) (hd : ∀ x, x ∈ l → x.e.d.length ≤ 140737488351232) (hs : l.length * 56 ≤ 140737488351232) (h : (baseR bi bt bc && folB bi bt (l.map (·.e))) = false) : Does Try.prog 8 #[.agg #[.int .u64 bi, .int .u64 bt, .int .i64 bc], .slice A l.length c] [X] (fun (_ : Unit) => .tuple #[.pointer none, .int .i64 1]) (fun (_ : Unit) => [X]) := by
  have hln : l.length ≤ 9223372036854775807 := by omega
  refine d_ins (args := [.agg #[.int .u64 bi, .int .u64 bt, .int .i64 bc], .slice A l.length c]) 26 Try.func8 rfl rfl rfl ?_; intro w rs
  refine d_reg ?_
  refine h_q hflS rfl ?_
  refine h_act (post := fun g2 => [cell g2 28 #[.int .u64 bi, .int .u64 bt, .int .i64 bc], X]) rfl (a_box (cs := #[.int .u64 bi, .int .u64 bt, .int .i64 bc]) rfl rfl rfl) ?_; rintro g2
  refine h_q hflS rfl ?_
  refine h_done (d_seq ?_)
  cases h1 : baseR bi bt bc
  · skip
    refine d_reg ?_
    refine h_q hflS rfl ?_
    refine h_val rfl (.agg #[.int .u64 bi, .int .u64 bt, .int .i64 bc]) (fun b w hb hH => exec_load rfl rfl (reads_agg (cs := [.int .u64 bi, .int .u64 bt, .int .i64 bc]) ty_api_Base rfl) (hH.row 0 rfl) hb) ?_
    refine h_act (post := fun _ => [cell g2 28 #[.int .u64 bi, .int .u64 bt, .int .i64 bc], X]) rfl (a_call (ent_of Try.func29 (by kernel_rfl) rfl) (fun w hH => baseR_any w bi bt bc hbc false h1) rfl rfl rfl) ?_; rintro ⟨⟩
    refine h_q hflS rfl ?_
    refine h_done (d_then rfl (d_reg ?_))
    refine h_q hflS rfl ?_
    refine h_done (d_ret (f_then_ret ?_))
    exact f_fin2 (.tmp rfl) (.tmp rfl) (fun w h => tells () rfl [1] rfl h same_parts) rfl
  · skip
    have h2 : folB bi bt (l.map (·.e)) = false := by rw [h1] at h; exact h
    refine d_reg ?_
    refine h_q hflS rfl ?_
    refine h_val rfl (.agg #[.int .u64 bi, .int .u64 bt, .int .i64 bc]) (fun b w hb hH => exec_load rfl rfl (reads_agg (cs := [.int .u64 bi, .int .u64 bt, .int .i64 bc]) ty_api_Base rfl) (hH.row 0 rfl) hb) ?_
    refine h_act (post := fun _ => [cell g2 28 #[.int .u64 bi, .int .u64 bt, .int .i64 bc], X]) rfl (a_call (ent_of Try.func29 (by kernel_rfl) rfl) (fun w hH => baseR_any w bi bt bc hbc true h1) rfl rfl rfl) ?_; rintro ⟨⟩
    refine h_q hflS rfl ?_
    refine h_val rfl (.int .u64 bi) (fun b w hb hH => exec_load rfl rfl (reads_one ty_uint64 rfl) (hH.row 0 rfl) hb) ?_
    refine h_q hflS rfl ?_
    refine h_val rfl (.int .u64 bt) (fun b w hb hH => exec_load rfl rfl (reads_one ty_uint64 rfl) (hH.row 0 rfl) hb) ?_
    refine h_q hflS rfl ?_
    refine h_act (post := fun _ => [cell g2 28 #[.int .u64 bi, .int .u64 bt, .int .i64 bc], X]) rfl (a_does (os' := fun _ => [cell g2 28 #[.int .u64 bi, .int .u64 bt, .int .i64 bc], X]) [1] 0 (ent_of Try.func30 (by kernel_rfl) rfl) (follow_l X A c l hX hln bi bt hbi hbt false h2) rfl rfl rfl (fun _ => rfl) rfl rfl rfl) ?_; rintro ⟨⟩
    refine h_q hflS rfl ?_
    refine h_done (d_then rfl (d_reg ?_))
    refine h_q hflS rfl ?_
    refine h_done (d_ret (f_then_ret ?_))
    exact f_fin2 (.tmp rfl) (.tmp rfl) (fun w h => tells () rfl [1] rfl h same_parts) rfl
end Go.Proofs.Ytnebloeideodmaa.Sep

namespace Go.Proofs.Ytnebloeideodmaa.Sep
open Go.RowKit
open Go.Proofs.Ytnebloeideodmaa.Mem (Dist Blk Chg below0)

end Go.Proofs.Ytnebloeideodmaa.Sep
