/-
  RlS · RlT · RlU
-/
import Derived.Test.YtnebloeideodmaaLK01
set_option linter.unusedSimpArgs false
set_option linter.unusedVariables false

namespace Go.Proofs.Ytnebloeideodmaa.Sep
open Go.RowKit
open Go.Proofs.Ytnebloeideodmaa.Mem (Dist Blk Chg below0)

end Go.Proofs.Ytnebloeideodmaa.Sep

namespace Go.Proofs.Ytnebloeideodmaa.Sep
open Go.RowKit
open Go.Proofs.Ytnebloeideodmaa.Mem (Dist Blk Chg below0)

theorem app_done {g : Nat} {bi bt bc : Int} {v : Value} {sl : List EntV} {f : Nat} {es : List EntD} {X : Ass} (h : RingD sl f es) {z : List RowT} (hz : Parts [cell g 67 #[.int .u64 bi, .int .u64 bt, .int .i64 bc, v, .int .i64 (f : Int), .int .i64 (es.length : Int)], Vec 32 5 encV v (sl), Each dat sl, X] z) : Parts [LogD g bi bt bc es, X] z := by
  obtain ⟨a, b, e, h1, c, d, e2, h2, p, q, e3, h3, h4⟩ := hz
  exact ⟨a ++ (c ++ p), q, by rw [e, e2, e3]; simp, LogD.mk rfl h _ ⟨a, c ++ p, rfl, h1, c, p, rfl, h2, Parts.one h3⟩, h4⟩

set_option maxRecDepth 100000 in
theorem new_ok (bi bt bc : Int) (hbi : 0 ≤ bi ∧ bi ≤ 18446744073709551615) (hbt : 0 ≤ bt ∧ bt ≤ 18446744073709551615) (hbc : -9223372036854775808 ≤ bc ∧ bc ≤ 9223372036854775807) (X : Ass) (A : Option Addr) (c : Nat) (l : List EntV) (hX : RdEs X (.slice A l.length c) l) (hd : ∀ x, x ∈ l → x.e.d.length ≤ 140737488351232) (hs : l.length * 56 ≤ 140737488351232) (h : baseR bi bt bc = true) (h2 : folB bi bt (l.map (·.e)) = true) : Does Try.prog 8 #[.agg #[.int .u64 bi, .int .u64 bt, .int .i64 bc], .slice A l.length c] [X] (fun (g : Nat) => .tuple #[.pointer (some ⟨g, 0, none⟩), .int .i64 0]) (fun (g : Nat) => [LogD g bi bt bc (l.map (·.e)), X]) := by
  have hln : l.length ≤ 9223372036854775807 := by omega
  refine d_ins (args := [.agg #[.int .u64 bi, .int .u64 bt, .int .i64 bc], .slice A l.length c]) 26 Try.func8 rfl rfl rfl ?_; intro w rs
  refine d_reg ?_
  refine h_q hflS rfl ?_
  refine h_act (post := fun g2 => [cell g2 28 #[.int .u64 bi, .int .u64 bt, .int .i64 bc], X]) rfl (a_box (cs := #[.int .u64 bi, .int .u64 bt, .int .i64 bc]) rfl rfl rfl) ?_; rintro g2
  refine h_q hflS rfl ?_
  refine h_done (d_seq (d_reg ?_))
  refine h_q hflS rfl ?_
  refine h_val rfl (.agg #[.int .u64 bi, .int .u64 bt, .int .i64 bc]) (fun b w hb hH => exec_load rfl rfl (reads_agg (cs := [.int .u64 bi, .int .u64 bt, .int .i64 bc]) ty_api_Base rfl) (hH.row 0 rfl) hb) ?_
  refine h_act (post := fun _ => [cell g2 28 #[.int .u64 bi, .int .u64 bt, .int .i64 bc], X]) rfl (a_call (ent_of Try.func29 (by kernel_rfl) rfl) (fun w hH => baseR_any w bi bt bc hbc true h) rfl rfl rfl) ?_; rintro ⟨⟩
  refine h_q hflS rfl ?_
  refine h_val rfl (.int .u64 bi) (fun b w hb hH => exec_load rfl rfl (reads_one ty_uint64 rfl) (hH.row 0 rfl) hb) ?_
  refine h_q hflS rfl ?_
  refine h_val rfl (.int .u64 bt) (fun b w hb hH => exec_load rfl rfl (reads_one ty_uint64 rfl) (hH.row 0 rfl) hb) ?_
  refine h_q hflS rfl ?_
  refine h_act (post := fun _ => [cell g2 28 #[.int .u64 bi, .int .u64 bt, .int .i64 bc], X]) rfl (a_does (os' := fun _ => [cell g2 28 #[.int .u64 bi, .int .u64 bt, .int .i64 bc], X]) [1] 0 (ent_of Try.func30 (by kernel_rfl) rfl) (follow_l X A c l hX hln bi bt hbi hbt true h2) rfl rfl rfl (fun _ => rfl) rfl rfl rfl) ?_; rintro ⟨⟩
  refine h_q hflS rfl ?_
  refine h_done (d_else rfl (d_skip (f_to (d_reg ?_))))
  refine h_q hflS rfl ?_
  refine h_val rfl (.agg #[.int .u64 bi, .int .u64 bt, .int .i64 bc]) (fun b w hb hH => exec_load rfl rfl (reads_agg (cs := [.int .u64 bi, .int .u64 bt, .int .i64 bc]) ty_api_Base rfl) (hH.row 0 rfl) hb) ?_
  refine h_val rfl (.agg #[.int .u64 bi, .int .u64 bt, .int .i64 bc, .slice none 0 0, .int .i64 0, .int .i64 0]) (fun b w hb hH => exec_build rfl rfl (by kernel_rfl) hb) ?_
  refine h_act (post := fun g => [cell g 67 #[.int .u64 bi, .int .u64 bt, .int .i64 bc, .slice none 0 0, .int .i64 0, .int .i64 0], cell g2 28 #[.int .u64 bi, .int .u64 bt, .int .i64 bc], X]) rfl (a_box (cs := #[.int .u64 bi, .int .u64 bt, .int .i64 bc, .slice none 0 0, .int .i64 0, .int .i64 0]) rfl rfl rfl) ?_; rintro g
  refine h_q hflS rfl ?_
  refine h_done ?_
  refine d_nilvec 32 5 encV ?_
  refine d_new (t := Each dat ([])) (each_nil) ?_
  refine d_close [2, 1, 0] rfl (LogD.mk (n := 0) rfl ring_none) rfl ?_
  refine WC2.keep (env' := [(0, .agg #[.int .u64 bi, .int .u64 bt, .int .i64 bc]), (1, .slice A l.length c), (2, .pointer (some ⟨g2, 0, none⟩)), (4, .pointer none), (5, .int .i64 0), (7, .agg #[.int .u64 bi, .int .u64 bt, .int .i64 bc]), (8, .bool true), (9, .bool false), (10, .bool false), (11, .pointer (some ⟨g2, 0, none⟩)), (12, .int .u64 bi), (13, .pointer (some ⟨g2, 1, none⟩)), (14, .int .u64 bt), (15, .slice A l.length c), (16, .bool true), (17, .bool false), (18, .bool false), (19, .agg #[.int .u64 bi, .int .u64 bt, .int .i64 bc]), (20, .agg #[.int .u64 bi, .int .u64 bt, .int .i64 bc, .slice none 0 0, .int .i64 0, .int .i64 0]), (21, .pointer (some ⟨g, 0, none⟩)), (6, .pointer (some ⟨g, 0, none⟩))]) ⟨rfl, rfl, rfl, rfl, rfl, rfl, rfl, rfl, rfl, rfl, rfl, rfl, rfl, rfl, rfl, rfl, rfl, rfl, rfl, rfl, rfl, trivial⟩ ?_
  refine WC2.mid [LogD g bi bt bc ([]), cell g2 28 #[.int .u64 bi, .int .u64 bt, .int .i64 bc], X] (.refl _) ?_
  refine d_reg ?_
  refine h_q hflS rfl ?_
  refine h_act (post := fun _ => [LogD g bi bt bc (([]) ++ l.map (·.e)), cell g2 28 #[.int .u64 bi, .int .u64 bt, .int .i64 bc], X]) rfl (a_does (os' := fun _ => [LogD g bi bt bc (([]) ++ l.map (·.e)), cell g2 28 #[.int .u64 bi, .int .u64 bt, .int .i64 bc], X]) [0, 2] 0 (ent_of Try.func31 (by kernel_rfl) rfl) (ladd_does g bi bt bc ([]) X A c l hX hln hd (by simpa using hs)) rfl rfl rfl (fun _ => rfl) rfl rfl rfl) ?_; rintro ⟨⟩
  refine h_done (d_reg ?_)
  refine h_q hflS rfl ?_
  refine h_done (d_ret ?_)
  exact f_fin2 (.tmp rfl) (.tmp rfl) (fun w h => tells g rfl [0, 2] rfl h same_parts) rfl

end Go.Proofs.Ytnebloeideodmaa.Sep

namespace Go.Proofs.Ytnebloeideodmaa.Sep
open Go.RowKit
open Go.Proofs.Ytnebloeideodmaa.Mem (Dist Blk Chg below0)

set_option maxRecDepth 100000 in
theorem put_no (g : Nat) (bi bt bc : Int) (es : List EntD) (hI : InvL bi bt es) (X : Ass) (A : Option Addr) (c : Nat) (l : List EntV) (hX : RdEs X (.slice A l.length c) l) (hd : ∀ x, x ∈ l → x.e.d.length ≤ 140737488351232) (hs : (es.length + l.length) * 56 ≤ 140737488351232) (x y : Int) (hx : 0 ≤ x ∧ x ≤ 18446744073709551615) (hy : 0 ≤ y ∧ y ≤ 18446744073709551615) (h : (hasM bi bt es x y && folB x y (l.map (·.e))) = false) : Does Try.prog 13 #[.pointer (some ⟨g, 0, none⟩), .int .u64 x, .int .u64 y, .slice A l.length c] [LogD g bi bt bc es, X] (fun (_ : Unit) => .tuple #[.int .u64 0, .bool false]) (fun (_ : Unit) => [LogD g bi bt bc es, X]) := by
  have hln : l.length ≤ 9223372036854775807 := by omega
  refine d_ins (args := [.pointer (some ⟨g, 0, none⟩), .int .u64 x, .int .u64 y, .slice A l.length c]) 55 Try.func13 rfl rfl rfl ?_; intro w rs
  refine d_reg ?_
  refine h_q hflS rfl ?_
  refine h_done (d_seq ?_)
  cases h1 : hasM bi bt es x y
  · skip
    refine d_reg ?_
    refine h_q hflS rfl ?_
    refine h_act (post := fun _ => [LogD g bi bt bc es, X]) rfl (a_does (os' := fun _ => [LogD g bi bt bc es, X]) [0] 0 (ent_of Try.func34 (by kernel_rfl) rfl) (has_D g bi bt bc es hI x y hx false h1) rfl rfl rfl (fun _ => rfl) rfl rfl rfl) ?_; rintro ⟨⟩
    refine h_q hflS rfl ?_
    refine h_done (d_then rfl (d_reg ?_))
    refine h_q hflS rfl ?_
    refine h_done (d_ret (f_then_ret ?_))
    exact f_fin2 (.tmp rfl) (.tmp rfl) (fun w h => tells () rfl [0, 1] rfl h same_parts) rfl
  · skip
    have h2 : folB x y (l.map (·.e)) = false := by rw [h1] at h; exact h
    refine d_reg ?_
    refine h_q hflS rfl ?_
    refine h_act (post := fun _ => [LogD g bi bt bc es, X]) rfl (a_does (os' := fun _ => [LogD g bi bt bc es, X]) [0] 0 (ent_of Try.func34 (by kernel_rfl) rfl) (has_D g bi bt bc es hI x y hx true h1) rfl rfl rfl (fun _ => rfl) rfl rfl rfl) ?_; rintro ⟨⟩
    refine h_q hflS rfl ?_
    refine h_act (post := fun _ => [LogD g bi bt bc es, X]) rfl (a_does (os' := fun _ => [LogD g bi bt bc es, X]) [1] 0 (ent_of Try.func30 (by kernel_rfl) rfl) (follow_l X A c l hX hln x y hx hy false h2) rfl rfl rfl (fun _ => rfl) rfl rfl rfl) ?_; rintro ⟨⟩
    refine h_q hflS rfl ?_
    refine h_done (d_then rfl (d_reg ?_))
    refine h_q hflS rfl ?_
    refine h_done (d_ret (f_then_ret ?_))
    exact f_fin2 (.tmp rfl) (.tmp rfl) (fun w h => tells () rfl [0, 1] rfl h same_parts) rfl

set_option maxRecDepth 100000 in
theorem put_ok (g : Nat) (bi bt bc : Int) (es : List EntD) (hI : InvL bi bt es) (X : Ass) (A : Option Addr) (c : Nat) (l : List EntV) (hX : RdEs X (.slice A l.length c) l) (hd : ∀ x, x ∈ l → x.e.d.length ≤ 140737488351232) (hs : (es.length + l.length) * 56 ≤ 140737488351232) (hcp : l.length ≤ c) (x y : Int) (hx : 0 ≤ x ∧ x ≤ 18446744073709551615) (hy : 0 ≤ y ∧ y ≤ 18446744073709551615) (h1 : hasM bi bt es x y = true) (h2 : folB x y (l.map (·.e)) = true) (es2 : List EntD) (fr : Int) (h3 : putL bi bt es (l.map (·.e)) = (es2, fr)) : Does Try.prog 13 #[.pointer (some ⟨g, 0, none⟩), .int .u64 x, .int .u64 y, .slice A l.length c] [LogD g bi bt bc es, X] (fun (_ : Unit) => .tuple #[.int .u64 fr, .bool true]) (fun (_ : Unit) => [LogD g bi bt bc es2, X]) := by
  have hb0 := hI.hi
  have ht0 := hI.ht
  have hle0 := hI.len
  have hm0 : (es.length : Int) ≤ 72057594037927935 := by omega
  have hls : 0 ≤ bi ∧ 0 ≤ (es.length : Int) ∧ bi + (es.length : Int) ≤ 9223372036854775807 := by omega
  have hln : l.length ≤ 9223372036854775807 := by omega
  refine d_ins (args := [.pointer (some ⟨g, 0, none⟩), .int .u64 x, .int .u64 y, .slice A l.length c]) 55 Try.func13 rfl rfl rfl ?_; intro w rs
  refine d_reg ?_
  refine h_q hflS rfl ?_
  refine h_done (d_seq (d_reg ?_))
  refine h_q hflS rfl ?_
  refine h_act (post := fun _ => [LogD g bi bt bc es, X]) rfl (a_does (os' := fun _ => [LogD g bi bt bc es, X]) [0] 0 (ent_of Try.func34 (by kernel_rfl) rfl) (has_D g bi bt bc es hI x y hx true h1) rfl rfl rfl (fun _ => rfl) rfl rfl rfl) ?_; rintro ⟨⟩
  refine h_q hflS rfl ?_
  refine h_act (post := fun _ => [LogD g bi bt bc es, X]) rfl (a_does (os' := fun _ => [LogD g bi bt bc es, X]) [1] 0 (ent_of Try.func30 (by kernel_rfl) rfl) (follow_l X A c l hX hln x y hx hy true h2) rfl rfl rfl (fun _ => rfl) rfl rfl rfl) ?_; rintro ⟨⟩
  refine h_q hflS rfl ?_
  refine h_done (d_else rfl (d_skip (f_to (d_seq (d_reg ?_)))))
  refine h_q hflS rfl ?_
  refine h_val rfl (.int .i64 (l.length : Int)) (fun b w hb hH => e_slen (((hH.rdEs 1 rfl hX).1)) Try.underlying34 rfl rfl hb) ?_
  refine h_q hflS rfl ?_
  refine h_done (d_block ?_)
  refine d_loop (α := Nat) (fun j => [(0, .pointer (some ⟨g, 0, none⟩)), (3, .slice A l.length c), (8, .int .u64 0), (9, .bool false), (24, .slice A l.length c), (25, .int .i64 (l.length : Int)), (26, .int .i64 (j : Int))]) (fun j => [LogD g bi bt bc es, X]) (fun j => j ≤ l.length ∧ putL bi bt es ((l.drop j).map (·.e)) = (es2, fr)) (fun j => l.length - j) 0 ⟨Nat.zero_le _, h3⟩ ⟨rfl, rfl, rfl, rfl, rfl, rfl, rfl, trivial⟩ rfl ?_
  rintro j hI8
  refine WC2.at_ (env' := [(0, .pointer (some ⟨g, 0, none⟩)), (3, .slice A l.length c), (8, .int .u64 0), (9, .bool false), (24, .slice A l.length c), (25, .int .i64 (l.length : Int)), (26, .int .i64 (j : Int))]) (rs' := [LogD g bi bt bc es, X]) ⟨rfl, rfl, rfl, rfl, rfl, rfl, rfl, trivial⟩ rfl ?_
  have hj1 : j ≤ l.length := hI8.1
  have hj2 : putL bi bt es ((l.drop j).map (·.e)) = (es2, fr) := hI8.2
  rcases Nat.lt_or_ge j l.length with hn | hn
  · skip
    obtain ⟨z, hz⟩ : ∃ z, l[j]? = some z := ⟨_, List.getElem?_eq_getElem hn⟩
    have hm := List.mem_of_getElem? hz
    have hdr : (l.drop j).map (·.e) = z.e :: (l.drop (j + 1)).map (·.e) := by rw [List.drop_eq_getElem_cons hn, (List.getElem?_eq_some_iff.1 hz).2]; rfl
    have hfz := fol_at h2 (k := j) (e := z.e) (by rw [List.getElem?_map, hz]; rfl)
    have hri := (rightE_iff hfz.2.1).2.1
    have hx9 : 0 ≤ z.e.i ∧ z.e.i ≤ 18446744073709551615 := by omega
    refine d_reg ?_
    refine h_q hflS rfl ?_
    refine h_val rfl (.bool true) (fun b w hb hH => exec_cmp rfl rfl rfl (cmp_lss_t (by omega)) hb) ?_
    refine h_done (d_seq (d_then rfl (d_skip (f_to (d_seq (d_block (d_reg ?_)))))))
    refine h_q hflS rfl ?_
    refine h_val rfl (elp (.slice A l.length c) (j * 5)) (fun b w hb hH => e_sidx okV (((hH.rdEs 1 rfl hX).1)) sl_api_Entry (j := j) hz rfl rfl rfl hb) ?_
    refine h_val rfl (.agg (encV z).toArray) (fun b w hb hH => e_sagg okV (by decide) (((hH.rdEs 1 rfl hX).1)) (j := j) hz ty_api_Entry rfl rfl hb) ?_
    refine h_act (post := fun g11 => [cell g11 32 #[.int .i64 0, .int .u64 0, .int .u64 0, .slice none 0 0, .int .i64 0], LogD g bi bt bc es, X]) rfl (a_alloc ze_api_Entry rfl) ?_; rintro g11
    refine h_q hflS rfl ?_
    refine h_acts (post := fun _ => [cell g11 32 #[.int .i64 z.e.k, .int .u64 z.e.t, .int .u64 z.e.i, z.v, .int .i64 z.e.c], LogD g bi bt bc es, X]) rfl rfl (a_store 0 (v := .agg (encV z).toArray) #[.int .i64 z.e.k, .int .u64 z.e.t, .int .u64 z.e.i, z.v, .int .i64 z.e.c] ty_api_Entry.2 rfl rfl rfl rfl rfl rfl rfl rfl rfl) ?_; rintro ⟨⟩
    refine h_done ?_
    cases hh : hasM bi bt es z.e.i z.e.t
    · skip
      obtain ⟨u, hu⟩ : ∃ u, upM bi es.length (z.e.i - 1) = u := ⟨_, rfl⟩
      have hul : u ≤ es.length := by rw [← hu]; exact upM_le
      obtain ⟨rfl, rfl⟩ : es.take u ++ (l.drop j).map (·.e) = es2 ∧ z.e.i = fr := by rw [hdr] at hj2 ⊢; unfold putL at hj2; rw [hh, hu] at hj2; exact ⟨congrArg Prod.fst hj2, congrArg Prod.snd hj2⟩
      refine d_reg ?_
      refine h_q hflS rfl ?_
      refine h_val rfl (.int .u64 z.e.i) (fun b w hb hH => exec_load rfl rfl (reads_one ty_uint64 rfl) (hH.row 0 rfl) hb) ?_
      refine h_q hflS rfl ?_
      refine h_val rfl (.int .u64 z.e.t) (fun b w hb hH => exec_load rfl rfl (reads_one ty_uint64 rfl) (hH.row 0 rfl) hb) ?_
      refine h_act (post := fun _ => [cell g11 32 #[.int .i64 z.e.k, .int .u64 z.e.t, .int .u64 z.e.i, z.v, .int .i64 z.e.c], LogD g bi bt bc es, X]) rfl (a_does (os' := fun _ => [cell g11 32 #[.int .i64 z.e.k, .int .u64 z.e.t, .int .u64 z.e.i, z.v, .int .i64 z.e.c], LogD g bi bt bc es, X]) [1] 0 (ent_of Try.func34 (by kernel_rfl) rfl) (has_D g bi bt bc es hI z.e.i z.e.t hx9 false hh) rfl rfl rfl (fun _ => rfl) rfl rfl rfl) ?_; rintro ⟨⟩
      refine h_q hflS rfl ?_
      refine h_done (d_then rfl (d_seq ?_))
      refine d_parS 9 2 [⟨.quiet, [none, none], fun _ => .pointer (some ⟨g, 0, none⟩), []⟩, ⟨.quiet, [none, none], fun _ => .pointer (some ⟨g, 0, none⟩), [0]⟩, ⟨.quiet, [none, none], fun _ => .pointer (some ⟨g, 3, none⟩), [1]⟩, ⟨.quiet, [none, none], fun _ => .pointer (some ⟨g, 0, none⟩), []⟩, ⟨.quiet, [none, none], fun _ => .pointer (some ⟨g11, 2, none⟩), []⟩, ⟨.quiet, [none, none], fun _ => .int .u64 z.e.i, [4]⟩, ⟨.quiet, [none, none], fun _ => .int .u64 (z.e.i - 1), [5]⟩, ⟨.actv 0, [some false, some false], fun _ => .int .i64 (u : Int), [3, 6]⟩, ⟨.actv 1, [some true, some false], fun _ => .tuple #[], [2, 7]⟩] [(0, .pointer (some ⟨g, 0, none⟩)), (3, .slice A l.length c), (8, .int .u64 0), (9, .bool false), (24, .slice A l.length c), (25, .int .i64 (l.length : Int)), (26, .int .i64 (j : Int)), (27, .bool true), (28, .int .i64 (j : Int)), (29, elp (.slice A l.length c) (j * 5)), (30, .agg (encV z).toArray), (11, .pointer (some ⟨g11, 0, none⟩)), (10, .int .i64 (j : Int)), (31, .pointer (some ⟨g, 0, none⟩)), (32, .pointer (some ⟨g11, 2, none⟩)), (33, .int .u64 z.e.i), (34, .pointer (some ⟨g11, 1, none⟩)), (35, .int .u64 z.e.t), (36, .bool false), (37, .bool true)] (fun ρ => match ρ with | [rq0, rq1] => [cell g11 32 #[.int .i64 z.e.k, .int .u64 z.e.t, .int .u64 z.e.i, z.v, .int .i64 z.e.c], selS rq1 (fun _ => LogD g bi bt bc (es.take u)) (LogD g bi bt bc es), X] | _ => []) (by kernel_rfl) (by kernel_rfl) ⟨rfl, rfl, rfl, rfl, rfl, rfl, rfl, rfl, rfl, rfl, rfl, rfl, rfl, rfl, rfl, rfl, rfl, rfl, rfl, rfl, trivial⟩ rfl ?_ ?_
      · skip
        refine s_cons (by intro r0_ r1_; exact ⟨rfl, fun b w hH hb => exec_q1 hflS rfl hb⟩) ?_
        refine s_cons (by intro r0_ r1_; exact ⟨rfl, fun b w hH hb => by exact exec_nilCheck rfl rfl hb⟩) ?_
        refine s_cons (by intro r0_ r1_; exact ⟨rfl, fun b w hH hb => exec_q1 hflS rfl hb⟩) ?_
        refine s_cons (by intro r0_ r1_; exact ⟨rfl, fun b w hH hb => exec_q1 hflS rfl hb⟩) ?_
        refine s_cons (by intro r0_ r1_; exact ⟨rfl, fun b w hH hb => exec_q1 hflS rfl hb⟩) ?_
        refine s_cons (by intro r0_ r1_; exact ⟨rfl, fun b w hH hb => exec_load rfl rfl (reads_one ty_uint64 rfl) (hH.row 0 rfl) hb⟩) ?_
        refine s_cons (by intro r0_ r1_; exact ⟨rfl, fun b w hH hb => exec_ar rfl rfl rfl rfl (IntWalk.u64_in _ (by omega)) hb⟩) ?_
        refine s_cons (by exact ⟨rfl, Acts.su (a_does (os' := fun _ => [cell g11 32 #[.int .i64 z.e.k, .int .u64 z.e.t, .int .u64 z.e.i, z.v, .int .i64 z.e.c], LogD g bi bt bc es, X]) [1] 0 (ent_of Try.func36 (by kernel_rfl) rfl) (upTo_D g bi bt bc es hI (z.e.i - 1) (by omega) u hu) rfl rfl rfl (fun _ => rfl) rfl rfl rfl) rfl⟩) ?_
        refine s_cons (by intro v0_; exact ⟨rfl, Acts.su (a_does (os' := fun _ => [cell g11 32 #[.int .i64 z.e.k, .int .u64 z.e.t, .int .u64 z.e.i, z.v, .int .i64 z.e.c], LogD g bi bt bc (es.take u), X]) [1] 0 (ent_of Try.func35 (by kernel_rfl) rfl) (cut_does g bi bt bc es u (by omega)) rfl rfl rfl (fun _ => rfl) rfl rfl rfl) rfl⟩) ?_
        exact s_nil
      intro v0_ v1_
      refine WL2.keep (env' := [(0, .pointer (some ⟨g, 0, none⟩)), (3, .slice A l.length c), (8, .int .u64 0), (9, .bool false), (24, .slice A l.length c), (25, .int .i64 (l.length : Int)), (26, .int .i64 (j : Int)), (27, .bool true), (28, .int .i64 (j : Int)), (29, elp (.slice A l.length c) (j * 5)), (30, .agg (encV z).toArray), (11, .pointer (some ⟨g11, 0, none⟩)), (10, .int .i64 (j : Int)), (31, .pointer (some ⟨g, 0, none⟩)), (32, .pointer (some ⟨g11, 2, none⟩)), (33, .int .u64 z.e.i), (34, .pointer (some ⟨g11, 1, none⟩)), (35, .int .u64 z.e.t), (36, .bool false), (37, .bool true), (38, .pointer (some ⟨g, 0, none⟩)), (39, .pointer (some ⟨g, 0, none⟩)), (40, .pointer (some ⟨g, 3, none⟩)), (41, .pointer (some ⟨g, 0, none⟩)), (42, .pointer (some ⟨g11, 2, none⟩)), (43, .int .u64 z.e.i), (44, .int .u64 (z.e.i - 1)), (45, .int .i64 (u : Int))]) ⟨rfl, rfl, rfl, rfl, rfl, rfl, rfl, rfl, rfl, rfl, rfl, rfl, rfl, rfl, rfl, rfl, rfl, rfl, rfl, rfl, rfl, rfl, rfl, rfl, rfl, rfl, rfl, rfl, trivial⟩ ?_
      refine h_nil (f_to (d_reg ?_))
      refine h_q hflS rfl ?_
      refine h_val rfl (.slice (lowA A c j) (l.drop j).length (c - j)) (fun b w hb hH => e_sub_lo (i := j) sl_api_Entry sub_lo5 hj1 rfl rfl rfl hH hb) ?_
      refine h_act (post := fun _ => [cell g11 32 #[.int .i64 z.e.k, .int .u64 z.e.t, .int .u64 z.e.i, z.v, .int .i64 z.e.c], LogD g bi bt bc ((es.take u) ++ (l.drop j).map (·.e)), X]) rfl (a_does (os' := fun _ => [cell g11 32 #[.int .i64 z.e.k, .int .u64 z.e.t, .int .u64 z.e.i, z.v, .int .i64 z.e.c], LogD g bi bt bc ((es.take u) ++ (l.drop j).map (·.e)), X]) [1, 2] 0 (ent_of Try.func31 (by kernel_rfl) rfl) (ladd_does g bi bt bc (es.take u) X (lowA A c j) (c - j) (l.drop j) (rdEs_lo hX hj1 hcp) (by rw [List.length_drop]; omega) (fun x hx => hd x (List.mem_of_mem_drop hx)) (by rw [List.length_drop, List.length_take]; omega)) rfl rfl rfl (fun _ => rfl) rfl rfl rfl) ?_; rintro ⟨⟩
      refine h_done (d_reg ?_)
      refine h_q hflS rfl ?_
      refine h_val rfl (.int .u64 z.e.i) (fun b w hb hH => exec_load rfl rfl (reads_one ty_uint64 rfl) (hH.row 0 rfl) hb) ?_
      refine h_q hflS rfl ?_
      refine h_done (d_ret (f_block_ret (f_then_ret (f_then_ret (f_block_ret (f_then_ret ?_))))))
      exact f_fin2 (.tmp rfl) (.tmp rfl) (fun w h => tells () rfl [1, 2] rfl h same_parts) rfl
    · skip
      refine d_reg ?_
      refine h_q hflS rfl ?_
      refine h_val rfl (.int .u64 z.e.i) (fun b w hb hH => exec_load rfl rfl (reads_one ty_uint64 rfl) (hH.row 0 rfl) hb) ?_
      refine h_q hflS rfl ?_
      refine h_val rfl (.int .u64 z.e.t) (fun b w hb hH => exec_load rfl rfl (reads_one ty_uint64 rfl) (hH.row 0 rfl) hb) ?_
      refine h_act (post := fun _ => [cell g11 32 #[.int .i64 z.e.k, .int .u64 z.e.t, .int .u64 z.e.i, z.v, .int .i64 z.e.c], LogD g bi bt bc es, X]) rfl (a_does (os' := fun _ => [cell g11 32 #[.int .i64 z.e.k, .int .u64 z.e.t, .int .u64 z.e.i, z.v, .int .i64 z.e.c], LogD g bi bt bc es, X]) [1] 0 (ent_of Try.func34 (by kernel_rfl) rfl) (has_D g bi bt bc es hI z.e.i z.e.t hx9 true hh) rfl rfl rfl (fun _ => rfl) rfl rfl rfl) ?_; rintro ⟨⟩
      refine h_q hflS rfl ?_
      refine h_done (d_else rfl (d_skip (f_block (f_to (d_reg1 ?_)))))
      refine h_q hflS rfl ?_
      refine h_val rfl (.int .i64 ((j + 1 : Nat) : Int)) (fun b w hb hH => exec_ar rfl rfl rfl rfl (by rw [IntWalk.i64_in _ (by omega)]; omega) hb) ?_
      refine h_q hflS rfl ?_
      refine h_nil ?_
      exact f_again (j + 1) 1 ⟨hn, by rw [hdr] at hj2; unfold putL at hj2; rw [hh] at hj2; exact hj2⟩ (show l.length - (j + 1) < l.length - j by omega) ⟨rfl, rfl, rfl, rfl, rfl, rfl, rfl, trivial⟩ rfl
  · skip
    obtain ⟨rfl, rfl⟩ : es = es2 ∧ 0 = fr := by rw [List.drop_of_length_le hn] at hj2; exact ⟨congrArg Prod.fst hj2, congrArg Prod.snd hj2⟩
    refine d_reg ?_
    refine h_q hflS rfl ?_
    refine h_val rfl (.bool false) (fun b w hb hH => exec_cmp rfl rfl rfl (cmp_lss_f (by omega)) hb) ?_
    refine h_done (d_seq (d_else rfl (d_exit (f_then_exit (f_then_exit (f_block_exit (f_to (d_reg ?_))))))))
    refine h_q hflS rfl ?_
    refine h_done (d_ret ?_)
    exact f_fin2 (.tmp rfl) (.tmp rfl) (fun w h => tells () rfl [0, 1] rfl h same_parts) rfl
end Go.Proofs.Ytnebloeideodmaa.Sep
