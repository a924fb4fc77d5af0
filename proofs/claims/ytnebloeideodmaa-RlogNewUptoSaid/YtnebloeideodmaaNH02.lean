/-
  RlD · RlE
-/
import Derived.Test.YtnebloeideodmaaNH01
set_option linter.unusedSimpArgs false
set_option linter.unusedVariables false

namespace Go.Proofs.Ytnebloeideodmaa.Sep
open Go.RowKit
open Go.Proofs.Ytnebloeideodmaa.Mem (Dist Blk Chg below0)

theorem add_mk {g : Nat} {bi bt bc : Int} {v : Value} {sl : List EntV} {f : Nat} {es : List EntD} {x : EntV} {j : Nat} (hj : j < sl.length) (h : RingD (sl.set j x) f (es ++ [x.e])) : ∀ rs, Parts [cell g 67 #[.int .u64 bi, .int .u64 bt, .int .i64 bc, v, .int .i64 (f : Int), .int .i64 ((es.length + 1 : Nat) : Int)], Vec 32 5 encV v (sl.set j x), Each dat (sl.take j), dat x, Each dat (sl.drop (j + 1))] rs → LogD g bi bt bc (es ++ [x.e]) rs := fun rs hr => by
  obtain ⟨a, b, e, h1, c, d, e2, h2, h3⟩ := hr
  exact LogD.mk (by simp) h _ ⟨a, b, e, h1, c, d, e2, h2, Parts.one (dat_in hj _ h3)⟩
set_option maxRecDepth 100000 in
theorem add_does (g : Nat) (bi bt bc : Int) (es : List EntD) (x : EntV) (hs : (es.length + 1) * 56 ≤ 140737488351232) : Does Try.prog 61 #[.pointer (some ⟨g, 3, none⟩), .agg #[.int .i64 x.e.k, .int .u64 x.e.t, .int .u64 x.e.i, x.v, .int .i64 x.e.c]] [LogD g bi bt bc es, dat x] (fun (_ : Unit) => .tuple #[]) (fun (_ : Unit) => [LogD g bi bt bc (es ++ [x.e])]) := by
  refine d_ins (args := [.pointer (some ⟨g, 3, none⟩), .agg #[.int .i64 x.e.k, .int .u64 x.e.t, .int .u64 x.e.i, x.v, .int .i64 x.e.c]]) 32 Try.func61 rfl rfl rfl ?_; intro w rs
  refine d_open 0 rfl LogD.open_ (fun _ => rfl) ?_; rintro ⟨v, sl, f⟩
  refine WC2.fact 3 rfl (fun _ h => h.2) ?_; rintro hR
  refine WC2.leave [3] rfl rfl ?_
  have hR : RingD sl f es := hR
  have hsz := hR.sz
  refine d_reg ?_
  refine h_q hflS rfl ?_
  refine h_act (post := fun gx => [cell gx 32 #[.int .i64 x.e.k, .int .u64 x.e.t, .int .u64 x.e.i, x.v, .int .i64 x.e.c], cell g 67 #[.int .u64 bi, .int .u64 bt, .int .i64 bc, v, .int .i64 (f : Int), .int .i64 (es.length : Int)], Vec 32 5 encV v sl, Each dat sl, dat x]) rfl (a_box (cs := #[.int .i64 x.e.k, .int .u64 x.e.t, .int .u64 x.e.i, x.v, .int .i64 x.e.c]) rfl rfl rfl) ?_; rintro gx
  refine h_done (d_seq ?_)
  by_cases hn : es.length = sl.length
  · skip
    refine d_seq ?_
    refine d_parS 10 0 [⟨.quiet, [], fun _ => .pointer (some ⟨g, 3, none⟩), []⟩, ⟨.quiet, [], fun _ => .pointer (some ⟨g, 3, none⟩), [0]⟩, ⟨.quiet, [], fun _ => .pointer (some ⟨g, 5, none⟩), [1]⟩, ⟨.quiet, [], fun _ => .int .i64 (es.length : Int), [2]⟩, ⟨.quiet, [], fun _ => .pointer (some ⟨g, 3, none⟩), []⟩, ⟨.quiet, [], fun _ => .pointer (some ⟨g, 3, none⟩), [4]⟩, ⟨.quiet, [], fun _ => .pointer (some ⟨g, 3, none⟩), [5]⟩, ⟨.quiet, [], fun _ => v, [6]⟩, ⟨.quiet, [], fun _ => .int .i64 (sl.length : Int), [7]⟩, ⟨.quiet, [], fun _ => .bool true, [3, 8]⟩] [(0, .pointer (some ⟨g, 3, none⟩)), (3, .pointer (some ⟨gx, 0, none⟩))] (fun _ => [cell gx 32 #[.int .i64 x.e.k, .int .u64 x.e.t, .int .u64 x.e.i, x.v, .int .i64 x.e.c], cell g 67 #[.int .u64 bi, .int .u64 bt, .int .i64 bc, v, .int .i64 (f : Int), .int .i64 (es.length : Int)], Vec 32 5 encV v sl, Each dat sl, dat x]) (by kernel_rfl) (by kernel_rfl) ⟨rfl, rfl, trivial⟩ rfl ?_ ?_
    · skip
      refine s_cons (by exact ⟨rfl, fun b w hH hb => exec_q1 hflS rfl hb⟩) ?_
      refine s_cons (by exact ⟨rfl, fun b w hH hb => by exact exec_nilCheck rfl rfl hb⟩) ?_
      refine s_cons (by exact ⟨rfl, fun b w hH hb => exec_q1 hflS rfl hb⟩) ?_
      refine s_cons (by exact ⟨rfl, fun b w hH hb => exec_load rfl rfl (reads_one ty_int rfl) (hH.row 1 rfl) hb⟩) ?_
      refine s_cons (by exact ⟨rfl, fun b w hH hb => exec_q1 hflS rfl hb⟩) ?_
      refine s_cons (by exact ⟨rfl, fun b w hH hb => by exact exec_nilCheck rfl rfl hb⟩) ?_
      refine s_cons (by exact ⟨rfl, fun b w hH hb => exec_q1 hflS rfl hb⟩) ?_
      refine s_cons (by exact ⟨rfl, fun b w hH hb => exec_load rfl rfl (reads_one ty_s_api_Entry rfl) (hH.row 1 rfl) hb⟩) ?_
      refine s_cons (by exact ⟨rfl, fun b w hH hb => e_vlen 2 Try.underlying34 rfl rfl rfl hH hb⟩) ?_
      refine s_cons (by exact ⟨rfl, fun b w hH hb => exec_cmp rfl rfl rfl (cmp_eql_t (by omega)) hb⟩) ?_
      exact s_nil
    refine WL2.keep (env' := [(0, .pointer (some ⟨g, 3, none⟩)), (3, .pointer (some ⟨gx, 0, none⟩)), (13, .bool true)]) ⟨rfl, rfl, rfl, trivial⟩ ?_
    refine h_nil (f_to (d_then rfl (d_reg1 ?_)))
    refine h_q hflS rfl ?_
    refine h_act (post := fun gt => [cell gx 32 #[.int .i64 x.e.k, .int .u64 x.e.t, .int .u64 x.e.i, x.v, .int .i64 x.e.c], cell g 67 #[.int .u64 bi, .int .u64 bt, .int .i64 bc, .slice (some ⟨gt, 0, none⟩) (sl.length + (sl.length + 1)) (sl.length + (sl.length + 1)), .int .i64 0, .int .i64 (es.length : Int)], Vec 32 5 encV (.slice (some ⟨gt, 0, none⟩) (sl.length + (sl.length + 1)) (sl.length + (sl.length + 1))) (rotL sl f ++ List.replicate (sl.length + 1) zeroV), Each dat sl, dat x]) rfl (a_does (os' := fun gt => [cell gx 32 #[.int .i64 x.e.k, .int .u64 x.e.t, .int .u64 x.e.i, x.v, .int .i64 x.e.c], cell g 67 #[.int .u64 bi, .int .u64 bt, .int .i64 bc, .slice (some ⟨gt, 0, none⟩) (sl.length + (sl.length + 1)) (sl.length + (sl.length + 1)), .int .i64 0, .int .i64 (es.length : Int)], Vec 32 5 encV (.slice (some ⟨gt, 0, none⟩) (sl.length + (sl.length + 1)) (sl.length + (sl.length + 1))) (rotL sl f ++ List.replicate (sl.length + 1) zeroV), Each dat sl, dat x]) [1, 2] 0 (ent_of Try.func72 (by kernel_rfl) rfl) (grow_does g bi bt bc v sl f es hR hn (sl.length + (sl.length + 1)) rfl ⟨by omega, by omega⟩) rfl rfl rfl (fun _ => rfl) rfl rfl rfl) ?_; rintro gt
    refine h_nil (f_to ?_)
    refine d_perm (t' := Each dat (rotL sl f ++ List.replicate (sl.length + 1) zeroV)) 3 rfl rot_zero ?_
    have hlt : es.length < (rotL sl f ++ List.replicate (sl.length + 1) zeroV).length := by rw [List.length_append, rotL_len, List.length_replicate]; omega
    have hRg : RingD (rotL sl f ++ List.replicate (sl.length + 1) zeroV) 0 es := hR.grow hn (by omega)
    have hf1 : 0 < (rotL sl f ++ List.replicate (sl.length + 1) zeroV).length := by rcases hRg.ff with h9 | h9 <;> omega
    have hz1 := hRg.sz
    obtain ⟨y, hy⟩ : ∃ y, (rotL sl f ++ List.replicate (sl.length + 1) zeroV)[slotI 0 (rotL sl f ++ List.replicate (sl.length + 1) zeroV).length es.length]? = some y := ⟨_, List.getElem?_eq_getElem (slotI_lt hf1 hlt)⟩
    have hj1 := (List.getElem?_eq_some_iff.1 hy).1
    have hRn := hRg.add hlt (x := x) rfl
    refine d_reg ?_
    refine h_q hflS rfl ?_
    refine h_val rfl (.pointer (some ⟨g, 3, none⟩)) (fun b w hb hH => by exact exec_nilCheck rfl rfl hb) ?_
    refine h_q hflS rfl ?_
    refine h_val rfl (.int .i64 (es.length : Int)) (fun b w hb hH => exec_load rfl rfl (reads_one ty_int rfl) (hH.row 1 rfl) hb) ?_
    refine h_val rfl (.int .i64 ((es.length + 1 : Nat) : Int)) (fun b w hb hH => exec_ar rfl rfl rfl rfl (by rw [IntWalk.i64_in _ (by omega)]; omega) hb) ?_
    refine h_val rfl (.pointer (some ⟨g, 3, none⟩)) (fun b w hb hH => by exact exec_nilCheck rfl rfl hb) ?_
    refine h_q hflS rfl ?_
    refine h_acts (post := fun _ => [cell gx 32 #[.int .i64 x.e.k, .int .u64 x.e.t, .int .u64 x.e.i, x.v, .int .i64 x.e.c], cell g 67 #[.int .u64 bi, .int .u64 bt, .int .i64 bc, .slice (some ⟨gt, 0, none⟩) (sl.length + (sl.length + 1)) (sl.length + (sl.length + 1)), .int .i64 0, .int .i64 ((es.length + 1 : Nat) : Int)], Vec 32 5 encV (.slice (some ⟨gt, 0, none⟩) (sl.length + (sl.length + 1)) (sl.length + (sl.length + 1))) (rotL sl f ++ List.replicate (sl.length + 1) zeroV), Each dat (rotL sl f ++ List.replicate (sl.length + 1) zeroV), dat x]) rfl rfl (a_store 1 (v := .int .i64 ((es.length + 1 : Nat) : Int)) #[.int .u64 bi, .int .u64 bt, .int .i64 bc, .slice (some ⟨gt, 0, none⟩) (sl.length + (sl.length + 1)) (sl.length + (sl.length + 1)), .int .i64 0, .int .i64 ((es.length + 1 : Nat) : Int)] ty_int.2 rfl rfl rfl rfl rfl rfl rfl rfl rfl) ?_; rintro ⟨⟩
    refine h_done ?_
    refine d_open 3 rfl (dat_out hy) (fun _ => rfl) ?_; rintro ⟨⟩
    refine WC2.leave [1] rfl rfl ?_
    refine d_parS 9 1 [⟨.quiet, [none], fun _ => .pointer (some ⟨g, 3, none⟩), []⟩, ⟨.quiet, [none], fun _ => .pointer (some ⟨g, 3, none⟩), []⟩, ⟨.quiet, [none], fun _ => .pointer (some ⟨g, 3, none⟩), [1]⟩, ⟨.quiet, [none], fun _ => .pointer (some ⟨g, 5, none⟩), [2]⟩, ⟨.quiet, [none], fun _ => .int .i64 ((es.length + 1 : Nat) : Int), [3]⟩, ⟨.quiet, [none], fun _ => .int .i64 (es.length : Int), [4]⟩, ⟨.actv 0, [some false], fun _ => elp (.slice (some ⟨gt, 0, none⟩) (sl.length + (sl.length + 1)) (sl.length + (sl.length + 1))) ((slotI 0 (rotL sl f ++ List.replicate (sl.length + 1) zeroV).length es.length) * 5), [0, 5]⟩, ⟨.quiet, [none], fun _ => .agg #[.int .i64 x.e.k, .int .u64 x.e.t, .int .u64 x.e.i, x.v, .int .i64 x.e.c], []⟩, ⟨.quiet, [some true], fun _ => elp (.slice (some ⟨gt, 0, none⟩) (sl.length + (sl.length + 1)) (sl.length + (sl.length + 1))) ((slotI 0 (rotL sl f ++ List.replicate (sl.length + 1) zeroV).length es.length) * 5), [6]⟩] [(0, .pointer (some ⟨g, 3, none⟩)), (3, .pointer (some ⟨gx, 0, none⟩))] (fun ρ => match ρ with | [rq0] => [Each dat ((rotL sl f ++ List.replicate (sl.length + 1) zeroV).take (slotI 0 (rotL sl f ++ List.replicate (sl.length + 1) zeroV).length es.length)), Each dat ((rotL sl f ++ List.replicate (sl.length + 1) zeroV).drop (slotI 0 (rotL sl f ++ List.replicate (sl.length + 1) zeroV).length es.length + 1)), cell gx 32 #[.int .i64 x.e.k, .int .u64 x.e.t, .int .u64 x.e.i, x.v, .int .i64 x.e.c], cell g 67 #[.int .u64 bi, .int .u64 bt, .int .i64 bc, .slice (some ⟨gt, 0, none⟩) (sl.length + (sl.length + 1)) (sl.length + (sl.length + 1)), .int .i64 0, .int .i64 ((es.length + 1 : Nat) : Int)], Vec 32 5 encV (.slice (some ⟨gt, 0, none⟩) (sl.length + (sl.length + 1)) (sl.length + (sl.length + 1))) (rotL sl f ++ List.replicate (sl.length + 1) zeroV), dat x] | _ => []) (by kernel_rfl) (by kernel_rfl) ⟨rfl, rfl, trivial⟩ rfl ?_ ?_
    · skip
      refine s_cons (by intro r0_; exact ⟨rfl, fun b w hH hb => exec_q1 hflS rfl hb⟩) ?_
      refine s_cons (by intro r0_; exact ⟨rfl, fun b w hH hb => exec_q1 hflS rfl hb⟩) ?_
      refine s_cons (by intro r0_; exact ⟨rfl, fun b w hH hb => by exact exec_nilCheck rfl rfl hb⟩) ?_
      refine s_cons (by intro r0_; exact ⟨rfl, fun b w hH hb => exec_q1 hflS rfl hb⟩) ?_
      refine s_cons (by intro r0_; exact ⟨rfl, fun b w hH hb => exec_load rfl rfl (reads_one ty_int rfl) (hH.row 3 rfl) hb⟩) ?_
      refine s_cons (by intro r0_; exact ⟨rfl, fun b w hH hb => exec_ar rfl rfl rfl rfl (by rw [IntWalk.i64_in _ (by omega)]; omega) hb⟩) ?_
      refine s_cons (by exact ⟨rfl, Acts.su (a_does (os' := fun _ => [Each dat ((rotL sl f ++ List.replicate (sl.length + 1) zeroV).take (slotI 0 (rotL sl f ++ List.replicate (sl.length + 1) zeroV).length es.length)), Each dat ((rotL sl f ++ List.replicate (sl.length + 1) zeroV).drop (slotI 0 (rotL sl f ++ List.replicate (sl.length + 1) zeroV).length es.length + 1)), cell gx 32 #[.int .i64 x.e.k, .int .u64 x.e.t, .int .u64 x.e.i, x.v, .int .i64 x.e.c], cell g 67 #[.int .u64 bi, .int .u64 bt, .int .i64 bc, .slice (some ⟨gt, 0, none⟩) (sl.length + (sl.length + 1)) (sl.length + (sl.length + 1)), .int .i64 0, .int .i64 ((es.length + 1 : Nat) : Int)], Vec 32 5 encV (.slice (some ⟨gt, 0, none⟩) (sl.length + (sl.length + 1)) (sl.length + (sl.length + 1))) (rotL sl f ++ List.replicate (sl.length + 1) zeroV), dat x]) [3, 4] 0 (ent_of Try.func73 (by kernel_rfl) rfl) (slot_does g bi bt bc (.slice (some ⟨gt, 0, none⟩) (sl.length + (sl.length + 1)) (sl.length + (sl.length + 1))) (rotL sl f ++ List.replicate (sl.length + 1) zeroV) 0 es.length ((es.length + 1 : Nat) : Int) hf1 hlt hz1) rfl rfl rfl (fun _ => rfl) rfl rfl rfl) rfl⟩) ?_
      refine s_cons (by intro r0_; exact ⟨rfl, fun b w hH hb => exec_load rfl rfl (reads_agg (cs := [.int .i64 x.e.k, .int .u64 x.e.t, .int .u64 x.e.i, x.v, .int .i64 x.e.c]) ty_api_Entry rfl) (hH.row 2 rfl) hb⟩) ?_
      refine s_cons (by intro v0_; exact ⟨rfl, fun b w hH hb => e_vnil 4 rfl (j := slotI 0 (rotL sl f ++ List.replicate (sl.length + 1) zeroV).length es.length) (List.getElem?_eq_some_iff.1 hy).1 rfl rfl hH hb⟩) ?_
      exact s_nil
    intro v0_
    refine WL2.keep (env' := [(30, .agg #[.int .i64 x.e.k, .int .u64 x.e.t, .int .u64 x.e.i, x.v, .int .i64 x.e.c]), (31, elp (.slice (some ⟨gt, 0, none⟩) (sl.length + (sl.length + 1)) (sl.length + (sl.length + 1))) ((slotI 0 (rotL sl f ++ List.replicate (sl.length + 1) zeroV).length es.length) * 5))]) ⟨rfl, rfl, trivial⟩ ?_
    refine h_q hflS rfl ?_
    refine h_acts (post := fun _ => [Each dat ((rotL sl f ++ List.replicate (sl.length + 1) zeroV).take (slotI 0 (rotL sl f ++ List.replicate (sl.length + 1) zeroV).length es.length)), Each dat ((rotL sl f ++ List.replicate (sl.length + 1) zeroV).drop (slotI 0 (rotL sl f ++ List.replicate (sl.length + 1) zeroV).length es.length + 1)), cell gx 32 #[.int .i64 x.e.k, .int .u64 x.e.t, .int .u64 x.e.i, x.v, .int .i64 x.e.c], cell g 67 #[.int .u64 bi, .int .u64 bt, .int .i64 bc, .slice (some ⟨gt, 0, none⟩) (sl.length + (sl.length + 1)) (sl.length + (sl.length + 1)), .int .i64 0, .int .i64 ((es.length + 1 : Nat) : Int)], Vec 32 5 encV (.slice (some ⟨gt, 0, none⟩) (sl.length + (sl.length + 1)) (sl.length + (sl.length + 1))) ((rotL sl f ++ List.replicate (sl.length + 1) zeroV).set (slotI 0 (rotL sl f ++ List.replicate (sl.length + 1) zeroV).length es.length) x), dat x]) rfl rfl (a_vstore 4 okV rfl (slotI 0 (rotL sl f ++ List.replicate (sl.length + 1) zeroV).length es.length) (a := y) (b := x) hy ty_api_Entry.2 (off := 0) (q := 5) rfl rfl (by decide) rfl rfl rfl rfl rfl) ?_; rintro ⟨⟩
    refine h_nil ?_
    exact f_fin0n  (fun w h => tells () rfl [3, 4, 0, 5, 1] rfl h (fun z hz => ⟨z, .refl _, Parts.one (add_mk hj1 hRn z hz)⟩)) rfl
  · skip
    have hlt : es.length < sl.length := by have := hR.le; omega
    have hRg : RingD sl f es := hR
    have hf1 : f < sl.length := by rcases hRg.ff with h9 | h9 <;> omega
    have hz1 := hRg.sz
    obtain ⟨y, hy⟩ : ∃ y, sl[slotI f sl.length es.length]? = some y := ⟨_, List.getElem?_eq_getElem (slotI_lt hf1 hlt)⟩
    have hj1 := (List.getElem?_eq_some_iff.1 hy).1
    have hRn := hRg.add hlt (x := x) rfl
    refine d_seq ?_
    refine d_parS 10 0 [⟨.quiet, [], fun _ => .pointer (some ⟨g, 3, none⟩), []⟩, ⟨.quiet, [], fun _ => .pointer (some ⟨g, 3, none⟩), [0]⟩, ⟨.quiet, [], fun _ => .pointer (some ⟨g, 5, none⟩), [1]⟩, ⟨.quiet, [], fun _ => .int .i64 (es.length : Int), [2]⟩, ⟨.quiet, [], fun _ => .pointer (some ⟨g, 3, none⟩), []⟩, ⟨.quiet, [], fun _ => .pointer (some ⟨g, 3, none⟩), [4]⟩, ⟨.quiet, [], fun _ => .pointer (some ⟨g, 3, none⟩), [5]⟩, ⟨.quiet, [], fun _ => v, [6]⟩, ⟨.quiet, [], fun _ => .int .i64 (sl.length : Int), [7]⟩, ⟨.quiet, [], fun _ => .bool false, [3, 8]⟩] [(0, .pointer (some ⟨g, 3, none⟩)), (3, .pointer (some ⟨gx, 0, none⟩))] (fun _ => [cell gx 32 #[.int .i64 x.e.k, .int .u64 x.e.t, .int .u64 x.e.i, x.v, .int .i64 x.e.c], cell g 67 #[.int .u64 bi, .int .u64 bt, .int .i64 bc, v, .int .i64 (f : Int), .int .i64 (es.length : Int)], Vec 32 5 encV v sl, Each dat sl, dat x]) (by kernel_rfl) (by kernel_rfl) ⟨rfl, rfl, trivial⟩ rfl ?_ ?_
    · skip
      refine s_cons (by exact ⟨rfl, fun b w hH hb => exec_q1 hflS rfl hb⟩) ?_
      refine s_cons (by exact ⟨rfl, fun b w hH hb => by exact exec_nilCheck rfl rfl hb⟩) ?_
      refine s_cons (by exact ⟨rfl, fun b w hH hb => exec_q1 hflS rfl hb⟩) ?_
      refine s_cons (by exact ⟨rfl, fun b w hH hb => exec_load rfl rfl (reads_one ty_int rfl) (hH.row 1 rfl) hb⟩) ?_
      refine s_cons (by exact ⟨rfl, fun b w hH hb => exec_q1 hflS rfl hb⟩) ?_
      refine s_cons (by exact ⟨rfl, fun b w hH hb => by exact exec_nilCheck rfl rfl hb⟩) ?_
      refine s_cons (by exact ⟨rfl, fun b w hH hb => exec_q1 hflS rfl hb⟩) ?_
      refine s_cons (by exact ⟨rfl, fun b w hH hb => exec_load rfl rfl (reads_one ty_s_api_Entry rfl) (hH.row 1 rfl) hb⟩) ?_
      refine s_cons (by exact ⟨rfl, fun b w hH hb => e_vlen 2 Try.underlying34 rfl rfl rfl hH hb⟩) ?_
      refine s_cons (by exact ⟨rfl, fun b w hH hb => exec_cmp rfl rfl rfl (cmp_eql_f (by omega)) hb⟩) ?_
      exact s_nil
    refine WL2.keep (env' := [(0, .pointer (some ⟨g, 3, none⟩)), (3, .pointer (some ⟨gx, 0, none⟩)), (13, .bool false)]) ⟨rfl, rfl, rfl, trivial⟩ ?_
    refine h_nil (f_to (d_else rfl (d_skip (f_to (d_reg ?_)))))
    refine h_q hflS rfl ?_
    refine h_val rfl (.pointer (some ⟨g, 3, none⟩)) (fun b w hb hH => by exact exec_nilCheck rfl rfl hb) ?_
    refine h_q hflS rfl ?_
    refine h_val rfl (.int .i64 (es.length : Int)) (fun b w hb hH => exec_load rfl rfl (reads_one ty_int rfl) (hH.row 1 rfl) hb) ?_
    refine h_val rfl (.int .i64 ((es.length + 1 : Nat) : Int)) (fun b w hb hH => exec_ar rfl rfl rfl rfl (by rw [IntWalk.i64_in _ (by omega)]; omega) hb) ?_
    refine h_val rfl (.pointer (some ⟨g, 3, none⟩)) (fun b w hb hH => by exact exec_nilCheck rfl rfl hb) ?_
    refine h_q hflS rfl ?_
    refine h_acts (post := fun _ => [cell gx 32 #[.int .i64 x.e.k, .int .u64 x.e.t, .int .u64 x.e.i, x.v, .int .i64 x.e.c], cell g 67 #[.int .u64 bi, .int .u64 bt, .int .i64 bc, v, .int .i64 (f : Int), .int .i64 ((es.length + 1 : Nat) : Int)], Vec 32 5 encV v sl, Each dat sl, dat x]) rfl rfl (a_store 1 (v := .int .i64 ((es.length + 1 : Nat) : Int)) #[.int .u64 bi, .int .u64 bt, .int .i64 bc, v, .int .i64 (f : Int), .int .i64 ((es.length + 1 : Nat) : Int)] ty_int.2 rfl rfl rfl rfl rfl rfl rfl rfl rfl) ?_; rintro ⟨⟩
    refine h_done ?_
    refine d_open 3 rfl (dat_out hy) (fun _ => rfl) ?_; rintro ⟨⟩
    refine WC2.leave [1] rfl rfl ?_
    refine d_parS 9 1 [⟨.quiet, [none], fun _ => .pointer (some ⟨g, 3, none⟩), []⟩, ⟨.quiet, [none], fun _ => .pointer (some ⟨g, 3, none⟩), []⟩, ⟨.quiet, [none], fun _ => .pointer (some ⟨g, 3, none⟩), [1]⟩, ⟨.quiet, [none], fun _ => .pointer (some ⟨g, 5, none⟩), [2]⟩, ⟨.quiet, [none], fun _ => .int .i64 ((es.length + 1 : Nat) : Int), [3]⟩, ⟨.quiet, [none], fun _ => .int .i64 (es.length : Int), [4]⟩, ⟨.actv 0, [some false], fun _ => elp v ((slotI f sl.length es.length) * 5), [0, 5]⟩, ⟨.quiet, [none], fun _ => .agg #[.int .i64 x.e.k, .int .u64 x.e.t, .int .u64 x.e.i, x.v, .int .i64 x.e.c], []⟩, ⟨.quiet, [some true], fun _ => elp v ((slotI f sl.length es.length) * 5), [6]⟩] [(0, .pointer (some ⟨g, 3, none⟩)), (3, .pointer (some ⟨gx, 0, none⟩))] (fun ρ => match ρ with | [rq0] => [Each dat (sl.take (slotI f sl.length es.length)), Each dat (sl.drop (slotI f sl.length es.length + 1)), cell gx 32 #[.int .i64 x.e.k, .int .u64 x.e.t, .int .u64 x.e.i, x.v, .int .i64 x.e.c], cell g 67 #[.int .u64 bi, .int .u64 bt, .int .i64 bc, v, .int .i64 (f : Int), .int .i64 ((es.length + 1 : Nat) : Int)], Vec 32 5 encV v sl, dat x] | _ => []) (by kernel_rfl) (by kernel_rfl) ⟨rfl, rfl, trivial⟩ rfl ?_ ?_
    · skip
      refine s_cons (by intro r0_; exact ⟨rfl, fun b w hH hb => exec_q1 hflS rfl hb⟩) ?_
      refine s_cons (by intro r0_; exact ⟨rfl, fun b w hH hb => exec_q1 hflS rfl hb⟩) ?_
      refine s_cons (by intro r0_; exact ⟨rfl, fun b w hH hb => by exact exec_nilCheck rfl rfl hb⟩) ?_
      refine s_cons (by intro r0_; exact ⟨rfl, fun b w hH hb => exec_q1 hflS rfl hb⟩) ?_
      refine s_cons (by intro r0_; exact ⟨rfl, fun b w hH hb => exec_load rfl rfl (reads_one ty_int rfl) (hH.row 3 rfl) hb⟩) ?_
      refine s_cons (by intro r0_; exact ⟨rfl, fun b w hH hb => exec_ar rfl rfl rfl rfl (by rw [IntWalk.i64_in _ (by omega)]; omega) hb⟩) ?_
      refine s_cons (by exact ⟨rfl, Acts.su (a_does (os' := fun _ => [Each dat (sl.take (slotI f sl.length es.length)), Each dat (sl.drop (slotI f sl.length es.length + 1)), cell gx 32 #[.int .i64 x.e.k, .int .u64 x.e.t, .int .u64 x.e.i, x.v, .int .i64 x.e.c], cell g 67 #[.int .u64 bi, .int .u64 bt, .int .i64 bc, v, .int .i64 (f : Int), .int .i64 ((es.length + 1 : Nat) : Int)], Vec 32 5 encV v sl, dat x]) [3, 4] 0 (ent_of Try.func73 (by kernel_rfl) rfl) (slot_does g bi bt bc v sl f es.length ((es.length + 1 : Nat) : Int) hf1 hlt hz1) rfl rfl rfl (fun _ => rfl) rfl rfl rfl) rfl⟩) ?_
      refine s_cons (by intro r0_; exact ⟨rfl, fun b w hH hb => exec_load rfl rfl (reads_agg (cs := [.int .i64 x.e.k, .int .u64 x.e.t, .int .u64 x.e.i, x.v, .int .i64 x.e.c]) ty_api_Entry rfl) (hH.row 2 rfl) hb⟩) ?_
      refine s_cons (by intro v0_; exact ⟨rfl, fun b w hH hb => e_vnil 4 rfl (j := slotI f sl.length es.length) (List.getElem?_eq_some_iff.1 hy).1 rfl rfl hH hb⟩) ?_
      exact s_nil
    intro v0_
    refine WL2.keep (env' := [(30, .agg #[.int .i64 x.e.k, .int .u64 x.e.t, .int .u64 x.e.i, x.v, .int .i64 x.e.c]), (31, elp v ((slotI f sl.length es.length) * 5))]) ⟨rfl, rfl, trivial⟩ ?_
    refine h_q hflS rfl ?_
    refine h_acts (post := fun _ => [Each dat (sl.take (slotI f sl.length es.length)), Each dat (sl.drop (slotI f sl.length es.length + 1)), cell gx 32 #[.int .i64 x.e.k, .int .u64 x.e.t, .int .u64 x.e.i, x.v, .int .i64 x.e.c], cell g 67 #[.int .u64 bi, .int .u64 bt, .int .i64 bc, v, .int .i64 (f : Int), .int .i64 ((es.length + 1 : Nat) : Int)], Vec 32 5 encV v (sl.set (slotI f sl.length es.length) x), dat x]) rfl rfl (a_vstore 4 okV rfl (slotI f sl.length es.length) (a := y) (b := x) hy ty_api_Entry.2 (off := 0) (q := 5) rfl rfl (by decide) rfl rfl rfl rfl rfl) ?_; rintro ⟨⟩
    refine h_nil ?_
    exact f_fin0n  (fun w h => tells () rfl [3, 4, 0, 5, 1] rfl h (fun z hz => ⟨z, .refl _, Parts.one (add_mk hj1 hRn z hz)⟩)) rfl
end Go.Proofs.Ytnebloeideodmaa.Sep

namespace Go.Proofs.Ytnebloeideodmaa.Sep
open Go.RowKit
open Go.Proofs.Ytnebloeideodmaa.Mem (Dist Blk Chg below0)

end Go.Proofs.Ytnebloeideodmaa.Sep
