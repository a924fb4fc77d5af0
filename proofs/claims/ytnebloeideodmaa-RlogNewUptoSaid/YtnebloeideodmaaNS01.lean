/-
  RlAg
-/
import Derived.Test.YtnebloeideodmaaNR01
set_option linter.unusedSimpArgs false
set_option linter.unusedVariables false

namespace Go.Proofs.Ytnebloeideodmaa.Sep
open Go.RowKit
open Go.Proofs.Ytnebloeideodmaa.Mem (Dist Blk Chg below0)

theorem same_done {gq : Nat} {bi bt bc : Int} {A : Option Addr} {c : Nat} {L : List EntV} {es : List EntD} {X : Ass} (hL : L.map (·.e) = es) (hc : L.length ≤ c) {z : List RowT} (hz : Parts [X, cell gq 74 #[.int .u64 bi, .int .u64 bt, .int .i64 bc, .slice A L.length c], Vec 32 5 encV (.slice A L.length c) L, Each dat L] z) : Parts [X, RfT gq bi bt bc es] z := by
  obtain ⟨a, b, e, h1, h2⟩ := hz
  exact ⟨a, b, e, h1, Parts.one (RfT.back hL hc _ h2)⟩

theorem partM_len {bi : Int} {es : List EntD} {x most : Int} : (partM bi es x most).length ≤ es.length := by
  unfold partM
  split
  · simp
  · rw [List.length_take, List.length_drop]; omega

set_option maxRecDepth 100000 in
set_option maxHeartbeats 1000000 in
theorem same_log (gp gq : Nat) (bi bt bc : Int) (hbc : -9223372036854775808 ≤ bc ∧ bc ≤ 9223372036854775807) (es : List EntD) (hI : InvL bi bt es) (hes : es.length ≤ 1073741824) (what x2 x3 : Int) (hx2 : 0 ≤ x2 ∧ x2 ≤ 18446744073709551615) (hx3 : 0 ≤ x3 ∧ x3 ≤ 18446744073709551615) (A3 : Option Addr) (n3 c3 : Nat) (b1 b2 b3 : Int) (nr : Bool) (off : Int) (hoff : -9223372036854775808 ≤ off ∧ off ≤ 9223372036854775807) : Does Try.prog 23 #[.pointer (some ⟨gp, 0, none⟩), .pointer (some ⟨gq, 0, none⟩), .agg #[.int .i64 what, .int .u64 x2, .int .u64 x3, .slice A3 n3 c3, .int .u64 b1, .int .u64 b2, .int .i64 b3, .bool nr, .int .i64 off]] [LogD gp bi bt bc es, RfT gq bi bt bc es] (fun (_ : Unit) => .bool true) (fun (_ : Unit) => [LogD gp bi bt bc es, RfT gq bi bt bc es]) := by
  have hb0 := hI.hi
  have ht0 := hI.ht
  have hle0 := hI.len
  have hm0 : (es.length : Int) ≤ 72057594037927935 := by omega
  have hls : 0 ≤ bi ∧ 0 ≤ (es.length : Int) ∧ bi + (es.length : Int) ≤ 9223372036854775807 := by omega
  obtain ⟨⟨p1, q1⟩, hcf⟩ : ∃ r, cfL (bc, bi) es = r := ⟨_, rfl⟩
  obtain ⟨r9, hr9⟩ : ∃ r, off % 9 = r := ⟨_, rfl⟩
  have hr90 := Int.emod_nonneg off (show (9 : Int) ≠ 0 by decide)
  have hr91 := Int.emod_lt_of_pos off (show (0 : Int) < 9 by decide)
  rw [hr9] at hr90 hr91
  obtain ⟨q3, hq3⟩ : ∃ r, x3 % ((es.length + 3 : Nat) : Int) = r := ⟨_, rfl⟩
  have hq30 := Int.emod_nonneg x3 (show ((es.length + 3 : Nat) : Int) ≠ 0 by omega)
  have hq31 := Int.emod_lt_of_pos x3 (show (0 : Int) < ((es.length + 3 : Nat) : Int) by omega)
  rw [hq3] at hq30 hq31
  obtain ⟨z5, hz5⟩ : ∃ r, x3 % 5 = r := ⟨_, rfl⟩
  obtain ⟨k2, hk2⟩ : ∃ k, bi + q3 = k := ⟨_, rfl⟩
  refine d_ins (args := [.pointer (some ⟨gp, 0, none⟩), .pointer (some ⟨gq, 0, none⟩), .agg #[.int .i64 what, .int .u64 x2, .int .u64 x3, .slice A3 n3 c3, .int .u64 b1, .int .u64 b2, .int .i64 b3, .bool nr, .int .i64 off]]) 185 Try.func23 rfl rfl rfl ?_; intro w rs
  refine d_open 1 rfl RfT.open_ (fun _ => rfl) ?_; rintro ⟨⟨A1, c1, L⟩, hL, hcp⟩
  have hL : L.map (·.e) = es := hL
  have hcp : L.length ≤ c1 := hcp
  have hLl : L.length = es.length := by rw [← hL, List.length_map]
  have hdL : ∀ x, x ∈ L → x.e.d.length ≤ 140737488351232 := fun x hx => by obtain ⟨k, hk⟩ := List.getElem?_of_mem hx; have := dat_len (hI.at_ (map_at hL hk)).2.1; omega
  refine d_reg ?_
  refine h_q hflS rfl ?_
  refine h_act (post := fun g5 => [cell g5 51 #[.int .i64 what, .int .u64 x2, .int .u64 x3, .slice A3 n3 c3, .int .u64 b1, .int .u64 b2, .int .i64 b3, .bool nr, .int .i64 off], cell gq 74 #[.int .u64 bi, .int .u64 bt, .int .i64 bc, .slice A1 L.length c1], Vec 32 5 encV (.slice A1 L.length c1) L, Each dat L, LogD gp bi bt bc es]) rfl (a_box (cs := #[.int .i64 what, .int .u64 x2, .int .u64 x3, .slice A3 n3 c3, .int .u64 b1, .int .u64 b2, .int .i64 b3, .bool nr, .int .i64 off]) rfl rfl rfl) ?_; rintro g5
  refine h_q hflS rfl ?_
  refine h_done (d_seq (d_seq ?_))
  refine d_parS 24 4 [⟨.quiet, [none, none, none, none], fun _ => .pointer (some ⟨gp, 0, none⟩), []⟩, ⟨.actv 0, [some false, some false, some false, some false], fun _ => .agg #[.int .u64 bi, .int .u64 bt, .int .i64 bc], [0]⟩, ⟨.quiet, [none, none, none, none], fun _ => .pointer (some ⟨gq, 0, none⟩), []⟩, ⟨.quiet, [none, none, none, none], fun _ => .pointer (some ⟨gq, 0, none⟩), [2]⟩, ⟨.quiet, [none, none, none, none], fun _ => .pointer (some ⟨gq, 0, none⟩), [3]⟩, ⟨.quiet, [none, none, none, none], fun _ => .agg #[.int .u64 bi, .int .u64 bt, .int .i64 bc], [4]⟩, ⟨.quiet, [some true, none, none, none], fun _ => .bool false, [1, 5]⟩, ⟨.quiet, [some true, none, none, none], fun _ => .bool false, [6]⟩, ⟨.quiet, [some true, none, none, none], fun _ => .pointer (some ⟨gp, 0, none⟩), [7]⟩, ⟨.actv 1, [some true, some false, some false, some false], fun _ => .int .u64 (bi + (es.length : Int)), [8, 7]⟩, ⟨.quiet, [some true, none, none, none], fun _ => .pointer (some ⟨gq, 0, none⟩), [7]⟩, ⟨.actv 2, [some true, some true, some false, some false], fun _ => .int .u64 (bi + (es.length : Int)), [10, 7]⟩, ⟨.quiet, [some true, some true, some true, none], fun _ => .bool false, [9, 11, 7]⟩, ⟨.quiet, [some true, some true, some true, none], fun _ => .bool false, [7, 12]⟩, ⟨.quiet, [some true, some true, some true, none], fun _ => .bool false, [13]⟩, ⟨.quiet, [some true, some true, some true, none], fun _ => .pointer (some ⟨gp, 0, none⟩), [14]⟩, ⟨.actv 3, [some true, some true, some true, some false], fun _ => .int .i64 (es.length : Int), [15, 14]⟩, ⟨.quiet, [some true, some true, some true, none], fun _ => .pointer (some ⟨gq, 0, none⟩), [14]⟩, ⟨.quiet, [some true, some true, some true, none], fun _ => .pointer (some ⟨gq, 0, none⟩), [17, 14]⟩, ⟨.quiet, [some true, some true, some true, none], fun _ => .pointer (some ⟨gq, 3, none⟩), [18, 14]⟩, ⟨.quiet, [some true, some true, some true, none], fun _ => .slice A1 L.length c1, [19, 14]⟩, ⟨.quiet, [some true, some true, some true, none], fun _ => .int .i64 (L.length : Int), [20, 14]⟩, ⟨.quiet, [some true, some true, some true, some true], fun _ => .bool false, [16, 21, 14]⟩, ⟨.quiet, [some true, some true, some true, some true], fun _ => .bool false, [14, 22]⟩] [(0, .pointer (some ⟨gp, 0, none⟩)), (1, .pointer (some ⟨gq, 0, none⟩)), (5, .pointer (some ⟨g5, 0, none⟩)), (6, .bool false)] (fun ρ => match ρ with | [rq0, rq1, rq2, rq3] => [cell g5 51 #[.int .i64 what, .int .u64 x2, .int .u64 x3, .slice A3 n3 c3, .int .u64 b1, .int .u64 b2, .int .i64 b3, .bool nr, .int .i64 off], cell gq 74 #[.int .u64 bi, .int .u64 bt, .int .i64 bc, .slice A1 L.length c1], Vec 32 5 encV (.slice A1 L.length c1) L, Each dat L, LogD gp bi bt bc es] | _ => []) (by kernel_rfl) (by kernel_rfl) ⟨rfl, rfl, rfl, rfl, trivial⟩ rfl ?_ ?_
  · skip
    refine s_cons (by intro r0_ r1_ r2_ r3_; exact ⟨rfl, fun b w hH hb => exec_q1 hflS rfl hb⟩) ?_
    refine s_cons (by exact ⟨rfl, Acts.su (a_does (os' := fun _ => [cell g5 51 #[.int .i64 what, .int .u64 x2, .int .u64 x3, .slice A3 n3 c3, .int .u64 b1, .int .u64 b2, .int .i64 b3, .bool nr, .int .i64 off], cell gq 74 #[.int .u64 bi, .int .u64 bt, .int .i64 bc, .slice A1 L.length c1], Vec 32 5 encV (.slice A1 L.length c1) L, Each dat L, LogD gp bi bt bc es]) [4] 0 (ent_of Try.func15 (by kernel_rfl) rfl) (base_D gp bi bt bc es hI ) rfl rfl rfl (fun _ => rfl) rfl rfl rfl) rfl⟩) ?_
    refine s_cons (by intro r0_ r1_ r2_ r3_; exact ⟨rfl, fun b w hH hb => exec_q1 hflS rfl hb⟩) ?_
    refine s_cons (by intro r0_ r1_ r2_ r3_; exact ⟨rfl, fun b w hH hb => by exact exec_nilCheck rfl rfl hb⟩) ?_
    refine s_cons (by intro r0_ r1_ r2_ r3_; exact ⟨rfl, fun b w hH hb => exec_q1 hflS rfl hb⟩) ?_
    refine s_cons (by intro r0_ r1_ r2_ r3_; exact ⟨rfl, fun b w hH hb => exec_load rfl rfl (reads_agg (cs := [.int .u64 bi, .int .u64 bt, .int .i64 bc, .slice A1 L.length c1]) ty_api_Base rfl) (hH.row 1 rfl) hb⟩) ?_
    refine s_cons (by intro v0_ r1_ r2_ r3_; exact ⟨rfl, fun b w hH hb => exec_nes (neBase bi bt bc bi bt bc false (by simp)) rfl rfl rfl hb⟩) ?_
    refine s_cons (by intro v0_ r1_ r2_ r3_; exact ⟨rfl, fun b w hH hb => exec_q1 hflS rfl hb⟩) ?_
    refine s_cons (by intro v0_ r1_ r2_ r3_; exact ⟨rfl, fun b w hH hb => exec_q1 hflS rfl hb⟩) ?_
    refine s_cons (by intro v0_; exact ⟨rfl, Acts.su (a_does (os' := fun _ => [cell g5 51 #[.int .i64 what, .int .u64 x2, .int .u64 x3, .slice A3 n3 c3, .int .u64 b1, .int .u64 b2, .int .i64 b3, .bool nr, .int .i64 off], cell gq 74 #[.int .u64 bi, .int .u64 bt, .int .i64 bc, .slice A1 L.length c1], Vec 32 5 encV (.slice A1 L.length c1) L, Each dat L, LogD gp bi bt bc es]) [4] 0 (ent_of Try.func17 (by kernel_rfl) rfl) (last_D gp bi bt bc es hI ) rfl rfl rfl (fun _ => rfl) rfl rfl rfl) rfl⟩) ?_
    refine s_cons (by intro v0_ r1_ r2_ r3_; exact ⟨rfl, fun b w hH hb => exec_q1 hflS rfl hb⟩) ?_
    refine s_cons (by intro v0_ v1_; exact ⟨rfl, Acts.su (a_does (os' := fun _ => [cell g5 51 #[.int .i64 what, .int .u64 x2, .int .u64 x3, .slice A3 n3 c3, .int .u64 b1, .int .u64 b2, .int .i64 b3, .bool nr, .int .i64 off], cell gq 74 #[.int .u64 bi, .int .u64 bt, .int .i64 bc, .slice A1 L.length c1], Vec 32 5 encV (.slice A1 L.length c1) L, Each dat L, LogD gp bi bt bc es]) [1, 2] 0 (ent_of Try.func42 (by kernel_rfl) rfl) (r_last gq bi bt bc es hI A1 c1 L hL ) rfl rfl rfl (fun _ => rfl) rfl rfl rfl) rfl⟩) ?_
    refine s_cons (by intro v0_ v1_ v2_ r3_; exact ⟨rfl, fun b w hH hb => exec_cmp rfl rfl rfl (cmp_neq_f (by omega)) hb⟩) ?_
    refine s_cons (by intro v0_ v1_ v2_ r3_; exact ⟨rfl, fun b w hH hb => exec_q1 hflS rfl hb⟩) ?_
    refine s_cons (by intro v0_ v1_ v2_ r3_; exact ⟨rfl, fun b w hH hb => exec_q1 hflS rfl hb⟩) ?_
    refine s_cons (by intro v0_ v1_ v2_ r3_; exact ⟨rfl, fun b w hH hb => exec_q1 hflS rfl hb⟩) ?_
    refine s_cons (by intro v0_ v1_ v2_; exact ⟨rfl, Acts.su (a_does (os' := fun _ => [cell g5 51 #[.int .i64 what, .int .u64 x2, .int .u64 x3, .slice A3 n3 c3, .int .u64 b1, .int .u64 b2, .int .i64 b3, .bool nr, .int .i64 off], cell gq 74 #[.int .u64 bi, .int .u64 bt, .int .i64 bc, .slice A1 L.length c1], Vec 32 5 encV (.slice A1 L.length c1) L, Each dat L, LogD gp bi bt bc es]) [4] 0 (ent_of Try.func18 (by kernel_rfl) rfl) (len_D gp bi bt bc es hI ) rfl rfl rfl (fun _ => rfl) rfl rfl rfl) rfl⟩) ?_
    refine s_cons (by intro v0_ v1_ v2_ r3_; exact ⟨rfl, fun b w hH hb => exec_q1 hflS rfl hb⟩) ?_
    refine s_cons (by intro v0_ v1_ v2_ r3_; exact ⟨rfl, fun b w hH hb => by exact exec_nilCheck rfl rfl hb⟩) ?_
    refine s_cons (by intro v0_ v1_ v2_ r3_; exact ⟨rfl, fun b w hH hb => exec_q1 hflS rfl hb⟩) ?_
    refine s_cons (by intro v0_ v1_ v2_ r3_; exact ⟨rfl, fun b w hH hb => exec_load rfl rfl (reads_one ty_s_api_Entry rfl) (hH.row 1 rfl) hb⟩) ?_
    refine s_cons (by intro v0_ v1_ v2_ r3_; exact ⟨rfl, fun b w hH hb => e_len sl_api_Entry rfl rfl hH hb⟩) ?_
    refine s_cons (by intro v0_ v1_ v2_ v3_; exact ⟨rfl, fun b w hH hb => exec_cmp rfl rfl rfl (cmp_neq_f (by omega)) hb⟩) ?_
    refine s_cons (by intro v0_ v1_ v2_ v3_; exact ⟨rfl, fun b w hH hb => exec_q1 hflS rfl hb⟩) ?_
    exact s_nil
  intro v0_ v1_ v2_ v3_
  refine WL2.keep (env' := [(0, .pointer (some ⟨gp, 0, none⟩)), (1, .pointer (some ⟨gq, 0, none⟩)), (5, .pointer (some ⟨g5, 0, none⟩)), (6, .bool false), (44, .bool false)]) ⟨rfl, rfl, rfl, rfl, rfl, trivial⟩ ?_
  refine h_nil (f_to (d_else rfl (d_skip (f_to (d_reg ?_)))))
  refine h_q hflS rfl ?_
  refine h_act (post := fun _ => [cell g5 51 #[.int .i64 what, .int .u64 x2, .int .u64 x3, .slice A3 n3 c3, .int .u64 b1, .int .u64 b2, .int .i64 b3, .bool nr, .int .i64 off], cell gq 74 #[.int .u64 bi, .int .u64 bt, .int .i64 bc, .slice A1 L.length c1], Vec 32 5 encV (.slice A1 L.length c1) L, Each dat L, LogD gp bi bt bc es]) rfl (a_does (os' := fun _ => [cell g5 51 #[.int .i64 what, .int .u64 x2, .int .u64 x3, .slice A3 n3 c3, .int .u64 b1, .int .u64 b2, .int .i64 b3, .bool nr, .int .i64 off], cell gq 74 #[.int .u64 bi, .int .u64 bt, .int .i64 bc, .slice A1 L.length c1], Vec 32 5 encV (.slice A1 L.length c1) L, Each dat L, LogD gp bi bt bc es]) [4] 0 (ent_of Try.func43 (by kernel_rfl) rfl) (conf_D gp bi bt bc es hI p1 q1 hcf) rfl rfl rfl (fun _ => rfl) rfl rfl rfl) ?_; rintro ⟨⟩
  refine h_q hflS rfl ?_
  refine h_done (d_reg ?_)
  refine h_q hflS rfl ?_
  refine h_act (post := fun _ => [cell g5 51 #[.int .i64 what, .int .u64 x2, .int .u64 x3, .slice A3 n3 c3, .int .u64 b1, .int .u64 b2, .int .i64 b3, .bool nr, .int .i64 off], cell gq 74 #[.int .u64 bi, .int .u64 bt, .int .i64 bc, .slice A1 L.length c1], Vec 32 5 encV (.slice A1 L.length c1) L, Each dat L, LogD gp bi bt bc es]) rfl (a_does (os' := fun _ => [cell g5 51 #[.int .i64 what, .int .u64 x2, .int .u64 x3, .slice A3 n3 c3, .int .u64 b1, .int .u64 b2, .int .i64 b3, .bool nr, .int .i64 off], cell gq 74 #[.int .u64 bi, .int .u64 bt, .int .i64 bc, .slice A1 L.length c1], Vec 32 5 encV (.slice A1 L.length c1) L, Each dat L, LogD gp bi bt bc es]) [1, 2] 0 (ent_of Try.func44 (by kernel_rfl) rfl) (r_conf gq bi bt bc es hI A1 c1 L hL p1 q1 hcf) rfl rfl rfl (fun _ => rfl) rfl rfl rfl) ?_; rintro ⟨⟩
  refine h_q hflS rfl ?_
  refine h_done (d_seq (d_reg ?_))
  refine h_q hflS rfl ?_
  refine h_val rfl (.bool false) (fun b w hb hH => exec_cmp rfl rfl rfl (cmp_neq_f (by omega)) hb) ?_
  refine h_q hflS rfl ?_
  refine h_val rfl (.bool false) (fun b w hb hH => exec_cmp rfl rfl rfl (cmp_neq_f (by omega)) hb) ?_
  refine h_q hflS rfl ?_
  refine h_done (d_else rfl (d_skip (f_to (d_seq (d_reg ?_)))))
  refine h_q hflS rfl ?_
  refine h_done (d_block ?_)
  refine d_loop (α := Nat) (fun i => [(0, .pointer (some ⟨gp, 0, none⟩)), (1, .pointer (some ⟨gq, 0, none⟩)), (5, .pointer (some ⟨g5, 0, none⟩)), (6, .bool false), (11, .int .u64 (i : Int))]) (fun i => [cell g5 51 #[.int .i64 what, .int .u64 x2, .int .u64 x3, .slice A3 n3 c3, .int .u64 b1, .int .u64 b2, .int .i64 b3, .bool nr, .int .i64 off], cell gq 74 #[.int .u64 bi, .int .u64 bt, .int .i64 bc, .slice A1 L.length c1], Vec 32 5 encV (.slice A1 L.length c1) L, Each dat L, LogD gp bi bt bc es]) (fun i => i ≤ 3) (fun i => 3 - i) 0 (by decide) ⟨rfl, rfl, rfl, rfl, rfl, trivial⟩ rfl ?_
  rintro i hI8
  refine WC2.at_ (env' := [(0, .pointer (some ⟨gp, 0, none⟩)), (1, .pointer (some ⟨gq, 0, none⟩)), (5, .pointer (some ⟨g5, 0, none⟩)), (6, .bool false), (11, .int .u64 (i : Int))]) (rs' := [cell g5 51 #[.int .i64 what, .int .u64 x2, .int .u64 x3, .slice A3 n3 c3, .int .u64 b1, .int .u64 b2, .int .i64 b3, .bool nr, .int .i64 off], cell gq 74 #[.int .u64 bi, .int .u64 bt, .int .i64 bc, .slice A1 L.length c1], Vec 32 5 encV (.slice A1 L.length c1) L, Each dat L, LogD gp bi bt bc es]) ⟨rfl, rfl, rfl, rfl, rfl, trivial⟩ rfl ?_
  refine d_seq ?_
  rcases Nat.lt_or_ge i 3 with hn | hn
  · skip
    obtain ⟨m, hm, hm2⟩ := wrap_u64 (z := (i : Int) * x2)
    obtain ⟨q0, hq0⟩ : ∃ r, m % ((es.length + 4 : Nat) : Int) = r := ⟨_, rfl⟩
    have hq00 := Int.emod_nonneg m (show ((es.length + 4 : Nat) : Int) ≠ 0 by omega)
    have hq01 := Int.emod_lt_of_pos m (show (0 : Int) < ((es.length + 4 : Nat) : Int) by omega)
    rw [hq0] at hq00 hq01
    obtain ⟨k, hk⟩ : ∃ k, bi + q0 - min bi (i : Int) = k := ⟨_, rfl⟩
    have hku : 0 ≤ k ∧ k ≤ 18446744073709551615 := by omega
    obtain ⟨⟨a, ok⟩, ht⟩ : ∃ r, termM bi bt es k = r := ⟨_, rfl⟩
    obtain ⟨⟨p2, q2⟩, hc2⟩ : ∃ r, cfL (bc, bi) (es.take (upM bi es.length k)) = r := ⟨_, rfl⟩
    obtain ⟨gb, hgb⟩ : ∃ b, (decide (ltm bt es < z5) || (decide (z5 = ltm bt es) && decide (bi + (es.length : Int) ≤ k))) = b := ⟨_, rfl⟩
    refine d_reg ?_
    refine h_q hflS rfl ?_
    refine h_val rfl (.bool true) (fun b w hb hH => exec_cmp rfl rfl rfl (cmp_lss_t (by omega)) hb) ?_
    refine h_done (d_then rfl (d_skip (f_to (d_seq (d_block (d_seq ?_))))))
    refine d_parS 26 0 [⟨.quiet, [], fun _ => .pointer (some ⟨gq, 0, none⟩), []⟩, ⟨.quiet, [], fun _ => .pointer (some ⟨gq, 0, none⟩), [0]⟩, ⟨.quiet, [], fun _ => .pointer (some ⟨gq, 0, none⟩), [1]⟩, ⟨.quiet, [], fun _ => .pointer (some ⟨gq, 0, none⟩), [2]⟩, ⟨.quiet, [], fun _ => .int .u64 bi, [3]⟩, ⟨.quiet, [], fun _ => .int .u64 (i : Int), []⟩, ⟨.quiet, [], fun _ => .pointer (some ⟨g5, 1, none⟩), []⟩, ⟨.quiet, [], fun _ => .int .u64 x2, [6]⟩, ⟨.quiet, [], fun _ => .int .u64 m, [5, 7]⟩, ⟨.quiet, [], fun _ => .pointer (some ⟨gq, 0, none⟩), []⟩, ⟨.quiet, [], fun _ => .pointer (some ⟨gq, 0, none⟩), [9]⟩, ⟨.quiet, [], fun _ => .pointer (some ⟨gq, 3, none⟩), [10]⟩, ⟨.quiet, [], fun _ => .slice A1 L.length c1, [11]⟩, ⟨.quiet, [], fun _ => .int .i64 (L.length : Int), [12]⟩, ⟨.quiet, [], fun _ => .int .i64 ((es.length + 4 : Nat) : Int), [13]⟩, ⟨.quiet, [], fun _ => .int .u64 ((es.length + 4 : Nat) : Int), [14]⟩, ⟨.quiet, [], fun _ => .int .u64 q0, [8, 15]⟩, ⟨.quiet, [], fun _ => .int .u64 (bi + q0), [4, 16]⟩, ⟨.quiet, [], fun _ => .pointer (some ⟨gq, 0, none⟩), []⟩, ⟨.quiet, [], fun _ => .pointer (some ⟨gq, 0, none⟩), [18]⟩, ⟨.quiet, [], fun _ => .pointer (some ⟨gq, 0, none⟩), [19]⟩, ⟨.quiet, [], fun _ => .pointer (some ⟨gq, 0, none⟩), [20]⟩, ⟨.quiet, [], fun _ => .int .u64 bi, [21]⟩, ⟨.quiet, [], fun _ => .int .u64 (i : Int), []⟩, ⟨.quiet, [], fun _ => .int .u64 (min bi (i : Int)), [22, 23]⟩, ⟨.quiet, [], fun _ => .int .u64 k, [17, 24]⟩] [(0, .pointer (some ⟨gp, 0, none⟩)), (1, .pointer (some ⟨gq, 0, none⟩)), (5, .pointer (some ⟨g5, 0, none⟩)), (6, .bool false), (11, .int .u64 (i : Int)), (63, .int .u64 (i : Int)), (64, .bool true)] (fun _ => [cell g5 51 #[.int .i64 what, .int .u64 x2, .int .u64 x3, .slice A3 n3 c3, .int .u64 b1, .int .u64 b2, .int .i64 b3, .bool nr, .int .i64 off], cell gq 74 #[.int .u64 bi, .int .u64 bt, .int .i64 bc, .slice A1 L.length c1], Vec 32 5 encV (.slice A1 L.length c1) L, Each dat L, LogD gp bi bt bc es]) (by kernel_rfl) (by kernel_rfl) ⟨rfl, rfl, rfl, rfl, rfl, rfl, rfl, trivial⟩ rfl ?_ ?_
    · skip
      refine s_cons (by exact ⟨rfl, fun b w hH hb => exec_q1 hflS rfl hb⟩) ?_
      refine s_cons (by exact ⟨rfl, fun b w hH hb => by exact exec_nilCheck rfl rfl hb⟩) ?_
      refine s_cons (by exact ⟨rfl, fun b w hH hb => exec_q1 hflS rfl hb⟩) ?_
      refine s_cons (by exact ⟨rfl, fun b w hH hb => exec_q1 hflS rfl hb⟩) ?_
      refine s_cons (by exact ⟨rfl, fun b w hH hb => exec_load rfl rfl (reads_one ty_uint64 rfl) (hH.row 1 rfl) hb⟩) ?_
      refine s_cons (by exact ⟨rfl, fun b w hH hb => exec_q1 hflS rfl hb⟩) ?_
      refine s_cons (by exact ⟨rfl, fun b w hH hb => exec_q1 hflS rfl hb⟩) ?_
      refine s_cons (by exact ⟨rfl, fun b w hH hb => exec_load rfl rfl (reads_one ty_uint64 rfl) (hH.row 0 rfl) hb⟩) ?_
      refine s_cons (by exact ⟨rfl, fun b w hH hb => exec_ar rfl rfl rfl rfl hm hb⟩) ?_
      refine s_cons (by exact ⟨rfl, fun b w hH hb => exec_q1 hflS rfl hb⟩) ?_
      refine s_cons (by exact ⟨rfl, fun b w hH hb => by exact exec_nilCheck rfl rfl hb⟩) ?_
      refine s_cons (by exact ⟨rfl, fun b w hH hb => exec_q1 hflS rfl hb⟩) ?_
      refine s_cons (by exact ⟨rfl, fun b w hH hb => exec_load rfl rfl (reads_one ty_s_api_Entry rfl) (hH.row 1 rfl) hb⟩) ?_
      refine s_cons (by exact ⟨rfl, fun b w hH hb => e_len sl_api_Entry rfl rfl hH hb⟩) ?_
      refine s_cons (by exact ⟨rfl, fun b w hH hb => exec_ar rfl rfl rfl rfl (by rw [IntWalk.i64_in _ (by omega)]; omega) hb⟩) ?_
      refine s_cons (by exact ⟨rfl, fun b w hH hb => exec_conv Try.underlying3 Try.underlying26 (by rw [IntWalk.u64_in _ (by omega)]) rfl rfl hb⟩) ?_
      refine s_cons (by exact ⟨rfl, fun b w hH hb => exec_remI rfl rfl rfl (by omega) ((Int.tmod_eq_emod_of_nonneg (by omega)).trans hq0) hb⟩) ?_
      refine s_cons (by exact ⟨rfl, fun b w hH hb => exec_ar rfl rfl rfl rfl (by rw [IntWalk.u64_in _ (by omega)]) hb⟩) ?_
      refine s_cons (by exact ⟨rfl, fun b w hH hb => exec_q1 hflS rfl hb⟩) ?_
      refine s_cons (by exact ⟨rfl, fun b w hH hb => by exact exec_nilCheck rfl rfl hb⟩) ?_
      refine s_cons (by exact ⟨rfl, fun b w hH hb => exec_q1 hflS rfl hb⟩) ?_
      refine s_cons (by exact ⟨rfl, fun b w hH hb => exec_q1 hflS rfl hb⟩) ?_
      refine s_cons (by exact ⟨rfl, fun b w hH hb => exec_load rfl rfl (reads_one ty_uint64 rfl) (hH.row 1 rfl) hb⟩) ?_
      refine s_cons (by exact ⟨rfl, fun b w hH hb => exec_q1 hflS rfl hb⟩) ?_
      refine s_cons (by exact ⟨rfl, fun b w hH hb => exec_builtin2 rfl rfl (fun cs => (fun w cs => run_min2 (by omega) _ _ w cs) w cs) hb⟩) ?_
      refine s_cons (by exact ⟨rfl, fun b w hH hb => exec_ar rfl rfl rfl rfl (by rw [IntWalk.u64_in _ (by omega)]; omega) hb⟩) ?_
      exact s_nil
    refine WL2.keep (env' := [(0, .pointer (some ⟨gp, 0, none⟩)), (1, .pointer (some ⟨gq, 0, none⟩)), (5, .pointer (some ⟨g5, 0, none⟩)), (6, .bool false), (11, .int .u64 (i : Int)), (63, .int .u64 (i : Int)), (64, .bool true), (67, .pointer (some ⟨gq, 0, none⟩)), (68, .pointer (some ⟨gq, 0, none⟩)), (69, .pointer (some ⟨gq, 0, none⟩)), (70, .pointer (some ⟨gq, 0, none⟩)), (71, .int .u64 bi), (72, .int .u64 (i : Int)), (73, .pointer (some ⟨g5, 1, none⟩)), (74, .int .u64 x2), (75, .int .u64 m), (76, .pointer (some ⟨gq, 0, none⟩)), (77, .pointer (some ⟨gq, 0, none⟩)), (78, .pointer (some ⟨gq, 3, none⟩)), (79, .slice A1 L.length c1), (80, .int .i64 (L.length : Int)), (81, .int .i64 ((es.length + 4 : Nat) : Int)), (82, .int .u64 ((es.length + 4 : Nat) : Int)), (83, .int .u64 q0), (84, .int .u64 (bi + q0)), (85, .pointer (some ⟨gq, 0, none⟩)), (86, .pointer (some ⟨gq, 0, none⟩)), (87, .pointer (some ⟨gq, 0, none⟩)), (88, .pointer (some ⟨gq, 0, none⟩)), (89, .int .u64 bi), (90, .int .u64 (i : Int)), (91, .int .u64 (min bi (i : Int))), (92, .int .u64 k)]) ⟨rfl, rfl, rfl, rfl, rfl, rfl, rfl, rfl, rfl, rfl, rfl, rfl, rfl, rfl, rfl, rfl, rfl, rfl, rfl, rfl, rfl, rfl, rfl, rfl, rfl, rfl, rfl, rfl, rfl, rfl, rfl, rfl, rfl, trivial⟩ ?_
    refine h_q hflS rfl ?_
    refine h_nil (f_to (d_reg ?_))
    refine h_q hflS rfl ?_
    refine h_act (post := fun _ => [cell g5 51 #[.int .i64 what, .int .u64 x2, .int .u64 x3, .slice A3 n3 c3, .int .u64 b1, .int .u64 b2, .int .i64 b3, .bool nr, .int .i64 off], cell gq 74 #[.int .u64 bi, .int .u64 bt, .int .i64 bc, .slice A1 L.length c1], Vec 32 5 encV (.slice A1 L.length c1) L, Each dat L, LogD gp bi bt bc es]) rfl (a_does (os' := fun _ => [cell g5 51 #[.int .i64 what, .int .u64 x2, .int .u64 x3, .slice A3 n3 c3, .int .u64 b1, .int .u64 b2, .int .i64 b3, .bool nr, .int .i64 off], cell gq 74 #[.int .u64 bi, .int .u64 bt, .int .i64 bc, .slice A1 L.length c1], Vec 32 5 encV (.slice A1 L.length c1) L, Each dat L, LogD gp bi bt bc es]) [4] 0 (ent_of Try.func32 (by kernel_rfl) rfl) (term_D gp bi bt bc es hI k hku a ok ht) rfl rfl rfl (fun _ => rfl) rfl rfl rfl) ?_; rintro ⟨⟩
    refine h_q hflS rfl ?_
    refine h_done (d_reg ?_)
    refine h_q hflS rfl ?_
    refine h_act (post := fun _ => [cell g5 51 #[.int .i64 what, .int .u64 x2, .int .u64 x3, .slice A3 n3 c3, .int .u64 b1, .int .u64 b2, .int .i64 b3, .bool nr, .int .i64 off], cell gq 74 #[.int .u64 bi, .int .u64 bt, .int .i64 bc, .slice A1 L.length c1], Vec 32 5 encV (.slice A1 L.length c1) L, Each dat L, LogD gp bi bt bc es]) rfl (a_does (os' := fun _ => [cell g5 51 #[.int .i64 what, .int .u64 x2, .int .u64 x3, .slice A3 n3 c3, .int .u64 b1, .int .u64 b2, .int .i64 b3, .bool nr, .int .i64 off], cell gq 74 #[.int .u64 bi, .int .u64 bt, .int .i64 bc, .slice A1 L.length c1], Vec 32 5 encV (.slice A1 L.length c1) L, Each dat L, LogD gp bi bt bc es]) [1, 2] 0 (ent_of Try.func45 (by kernel_rfl) rfl) (r_term gq bi bt bc es hI A1 c1 L hL k hku a ok ht) rfl rfl rfl (fun _ => rfl) rfl rfl rfl) ?_; rintro ⟨⟩
    refine h_q hflS rfl ?_
    refine h_done (d_reg ?_)
    refine h_q hflS rfl ?_
    refine h_act (post := fun _ => [cell g5 51 #[.int .i64 what, .int .u64 x2, .int .u64 x3, .slice A3 n3 c3, .int .u64 b1, .int .u64 b2, .int .i64 b3, .bool nr, .int .i64 off], cell gq 74 #[.int .u64 bi, .int .u64 bt, .int .i64 bc, .slice A1 L.length c1], Vec 32 5 encV (.slice A1 L.length c1) L, Each dat L, LogD gp bi bt bc es]) rfl (a_does (os' := fun _ => [cell g5 51 #[.int .i64 what, .int .u64 x2, .int .u64 x3, .slice A3 n3 c3, .int .u64 b1, .int .u64 b2, .int .i64 b3, .bool nr, .int .i64 off], cell gq 74 #[.int .u64 bi, .int .u64 bt, .int .i64 bc, .slice A1 L.length c1], Vec 32 5 encV (.slice A1 L.length c1) L, Each dat L, LogD gp bi bt bc es]) [1, 2] 0 (ent_of Try.func46 (by kernel_rfl) rfl) (r_confAt gq bi bt bc es hI A1 c1 L hL k hku p2 q2 hc2) rfl rfl rfl (fun _ => rfl) rfl rfl rfl) ?_; rintro ⟨⟩
    refine h_q hflS rfl ?_
    refine h_done ?_
    refine WC2.keep (env' := [(0, .pointer (some ⟨gp, 0, none⟩)), (1, .pointer (some ⟨gq, 0, none⟩)), (5, .pointer (some ⟨g5, 0, none⟩)), (6, .bool false), (11, .int .u64 (i : Int)), (63, .int .u64 (i : Int)), (64, .bool true), (67, .pointer (some ⟨gq, 0, none⟩)), (68, .pointer (some ⟨gq, 0, none⟩)), (69, .pointer (some ⟨gq, 0, none⟩)), (70, .pointer (some ⟨gq, 0, none⟩)), (71, .int .u64 bi), (72, .int .u64 (i : Int)), (73, .pointer (some ⟨g5, 1, none⟩)), (74, .int .u64 x2), (75, .int .u64 m), (76, .pointer (some ⟨gq, 0, none⟩)), (77, .pointer (some ⟨gq, 0, none⟩)), (78, .pointer (some ⟨gq, 3, none⟩)), (79, .slice A1 L.length c1), (80, .int .i64 (L.length : Int)), (81, .int .i64 ((es.length + 4 : Nat) : Int)), (82, .int .u64 ((es.length + 4 : Nat) : Int)), (83, .int .u64 q0), (84, .int .u64 (bi + q0)), (85, .pointer (some ⟨gq, 0, none⟩)), (86, .pointer (some ⟨gq, 0, none⟩)), (87, .pointer (some ⟨gq, 0, none⟩)), (88, .pointer (some ⟨gq, 0, none⟩)), (89, .int .u64 bi), (90, .int .u64 (i : Int)), (91, .int .u64 (min bi (i : Int))), (92, .int .u64 k), (12, .int .u64 k), (94, .pointer (some ⟨gp, 0, none⟩)), (95, .int .u64 k), (96, .tuple #[.int .u64 a, .bool ok]), (93, .tuple #[.int .u64 a, .bool ok]), (97, .int .u64 a), (98, .bool ok), (13, .int .u64 a), (14, .bool ok), (100, .pointer (some ⟨gq, 0, none⟩)), (101, .int .u64 k), (102, .tuple #[.int .u64 a, .bool ok]), (99, .tuple #[.int .u64 a, .bool ok]), (103, .int .u64 a), (104, .bool ok), (15, .int .u64 a), (16, .bool ok), (106, .pointer (some ⟨gq, 0, none⟩)), (107, .int .u64 k), (108, .tuple #[.int .i64 p2, .int .u64 q2]), (105, .tuple #[.int .i64 p2, .int .u64 q2]), (109, .int .i64 p2), (110, .int .u64 q2), (17, .int .i64 p2)]) ⟨rfl, rfl, rfl, rfl, rfl, rfl, rfl, rfl, rfl, rfl, rfl, rfl, rfl, rfl, rfl, rfl, rfl, rfl, rfl, rfl, rfl, rfl, rfl, rfl, rfl, rfl, rfl, rfl, rfl, rfl, rfl, rfl, rfl, rfl, rfl, rfl, rfl, rfl, rfl, rfl, rfl, rfl, rfl, rfl, rfl, rfl, rfl, rfl, rfl, rfl, rfl, rfl, rfl, rfl, rfl, rfl, rfl, trivial⟩ ?_
    refine d_seq ?_
    refine d_parS 30 3 [⟨.quiet, [none, none, none], fun _ => .int .u64 a, []⟩, ⟨.quiet, [none, none, none], fun _ => .int .u64 a, []⟩, ⟨.quiet, [none, none, none], fun _ => .bool false, [0, 1]⟩, ⟨.quiet, [none, none, none], fun _ => .bool false, [2]⟩, ⟨.quiet, [none, none, none], fun _ => .bool ok, [3]⟩, ⟨.quiet, [none, none, none], fun _ => .bool ok, [3]⟩, ⟨.quiet, [none, none, none], fun _ => .bool false, [4, 5, 3]⟩, ⟨.quiet, [none, none, none], fun _ => .bool false, [3, 6]⟩, ⟨.quiet, [none, none, none], fun _ => .bool false, [7]⟩, ⟨.quiet, [none, none, none], fun _ => .pointer (some ⟨gp, 0, none⟩), [8]⟩, ⟨.quiet, [none, none, none], fun _ => .int .u64 k, [8]⟩, ⟨.actv 0, [some false, some false, some false], fun _ => .int .i64 p2, [9, 10, 8]⟩, ⟨.quiet, [none, none, none], fun _ => .int .i64 p2, [8]⟩, ⟨.quiet, [some true, none, none], fun _ => .bool false, [11, 12, 8]⟩, ⟨.quiet, [some true, none, none], fun _ => .bool false, [8, 13]⟩, ⟨.quiet, [some true, none, none], fun _ => .bool false, [14]⟩, ⟨.quiet, [some true, none, none], fun _ => .pointer (some ⟨gp, 0, none⟩), [15]⟩, ⟨.quiet, [some true, none, none], fun _ => .int .u64 k, [15]⟩, ⟨.quiet, [some true, none, none], fun _ => .pointer (some ⟨g5, 2, none⟩), [15]⟩, ⟨.quiet, [some true, none, none], fun _ => .int .u64 x3, [18, 15]⟩, ⟨.quiet, [some true, none, none], fun _ => .int .u64 z5, [19, 15]⟩, ⟨.actv 1, [some true, some false, some false], fun _ => .bool gb, [16, 17, 20, 15]⟩, ⟨.quiet, [some true, none, none], fun _ => .pointer (some ⟨gq, 0, none⟩), [15]⟩, ⟨.quiet, [some true, none, none], fun _ => .int .u64 k, [15]⟩, ⟨.quiet, [some true, none, none], fun _ => .pointer (some ⟨g5, 2, none⟩), [15]⟩, ⟨.quiet, [some true, none, none], fun _ => .int .u64 x3, [24, 15]⟩, ⟨.quiet, [some true, none, none], fun _ => .int .u64 z5, [25, 15]⟩, ⟨.actv 2, [some true, some true, some false], fun _ => .bool gb, [22, 23, 26, 15]⟩, ⟨.quiet, [some true, some true, some true], fun _ => .bool false, [21, 27, 15]⟩, ⟨.quiet, [some true, some true, some true], fun _ => .bool false, [15, 28]⟩] [(0, .pointer (some ⟨gp, 0, none⟩)), (1, .pointer (some ⟨gq, 0, none⟩)), (5, .pointer (some ⟨g5, 0, none⟩)), (6, .bool false), (11, .int .u64 (i : Int)), (63, .int .u64 (i : Int)), (64, .bool true), (67, .pointer (some ⟨gq, 0, none⟩)), (68, .pointer (some ⟨gq, 0, none⟩)), (69, .pointer (some ⟨gq, 0, none⟩)), (70, .pointer (some ⟨gq, 0, none⟩)), (71, .int .u64 bi), (72, .int .u64 (i : Int)), (73, .pointer (some ⟨g5, 1, none⟩)), (74, .int .u64 x2), (75, .int .u64 m), (76, .pointer (some ⟨gq, 0, none⟩)), (77, .pointer (some ⟨gq, 0, none⟩)), (78, .pointer (some ⟨gq, 3, none⟩)), (79, .slice A1 L.length c1), (80, .int .i64 (L.length : Int)), (81, .int .i64 ((es.length + 4 : Nat) : Int)), (82, .int .u64 ((es.length + 4 : Nat) : Int)), (83, .int .u64 q0), (84, .int .u64 (bi + q0)), (85, .pointer (some ⟨gq, 0, none⟩)), (86, .pointer (some ⟨gq, 0, none⟩)), (87, .pointer (some ⟨gq, 0, none⟩)), (88, .pointer (some ⟨gq, 0, none⟩)), (89, .int .u64 bi), (90, .int .u64 (i : Int)), (91, .int .u64 (min bi (i : Int))), (92, .int .u64 k), (12, .int .u64 k), (94, .pointer (some ⟨gp, 0, none⟩)), (95, .int .u64 k), (96, .tuple #[.int .u64 a, .bool ok]), (93, .tuple #[.int .u64 a, .bool ok]), (97, .int .u64 a), (98, .bool ok), (13, .int .u64 a), (14, .bool ok), (100, .pointer (some ⟨gq, 0, none⟩)), (101, .int .u64 k), (102, .tuple #[.int .u64 a, .bool ok]), (99, .tuple #[.int .u64 a, .bool ok]), (103, .int .u64 a), (104, .bool ok), (15, .int .u64 a), (16, .bool ok), (106, .pointer (some ⟨gq, 0, none⟩)), (107, .int .u64 k), (108, .tuple #[.int .i64 p2, .int .u64 q2]), (105, .tuple #[.int .i64 p2, .int .u64 q2]), (109, .int .i64 p2), (110, .int .u64 q2), (17, .int .i64 p2)] (fun ρ => match ρ with | [rq0, rq1, rq2] => [cell g5 51 #[.int .i64 what, .int .u64 x2, .int .u64 x3, .slice A3 n3 c3, .int .u64 b1, .int .u64 b2, .int .i64 b3, .bool nr, .int .i64 off], cell gq 74 #[.int .u64 bi, .int .u64 bt, .int .i64 bc, .slice A1 L.length c1], Vec 32 5 encV (.slice A1 L.length c1) L, Each dat L, LogD gp bi bt bc es] | _ => []) (by kernel_rfl) (by kernel_rfl) ⟨rfl, rfl, rfl, rfl, rfl, rfl, rfl, rfl, rfl, rfl, rfl, rfl, rfl, rfl, rfl, rfl, rfl, rfl, rfl, rfl, rfl, rfl, rfl, rfl, rfl, rfl, rfl, rfl, rfl, rfl, rfl, rfl, rfl, rfl, rfl, rfl, rfl, rfl, rfl, rfl, rfl, rfl, rfl, rfl, rfl, rfl, rfl, rfl, rfl, rfl, rfl, rfl, rfl, rfl, rfl, rfl, rfl, trivial⟩ rfl ?_ ?_
    · skip
      refine s_cons (by intro r0_ r1_ r2_; exact ⟨rfl, fun b w hH hb => exec_q1 hflS rfl hb⟩) ?_
      refine s_cons (by intro r0_ r1_ r2_; exact ⟨rfl, fun b w hH hb => exec_q1 hflS rfl hb⟩) ?_
      refine s_cons (by intro r0_ r1_ r2_; exact ⟨rfl, fun b w hH hb => exec_cmp rfl rfl rfl (cmp_neq_f (by omega)) hb⟩) ?_
      refine s_cons (by intro r0_ r1_ r2_; exact ⟨rfl, fun b w hH hb => exec_q1 hflS rfl hb⟩) ?_
      refine s_cons (by intro r0_ r1_ r2_; exact ⟨rfl, fun b w hH hb => exec_q1 hflS rfl hb⟩) ?_
      refine s_cons (by intro r0_ r1_ r2_; exact ⟨rfl, fun b w hH hb => exec_q1 hflS rfl hb⟩) ?_
      refine s_cons (by intro r0_ r1_ r2_; exact ⟨rfl, fun b w hH hb => exec_nes (neB_same ok) rfl rfl rfl hb⟩) ?_
      refine s_cons (by intro r0_ r1_ r2_; exact ⟨rfl, fun b w hH hb => exec_q1 hflS rfl hb⟩) ?_
      refine s_cons (by intro r0_ r1_ r2_; exact ⟨rfl, fun b w hH hb => exec_q1 hflS rfl hb⟩) ?_
      refine s_cons (by intro r0_ r1_ r2_; exact ⟨rfl, fun b w hH hb => exec_q1 hflS rfl hb⟩) ?_
      refine s_cons (by intro r0_ r1_ r2_; exact ⟨rfl, fun b w hH hb => exec_q1 hflS rfl hb⟩) ?_
      refine s_cons (by exact ⟨rfl, Acts.su (a_does (os' := fun _ => [cell g5 51 #[.int .i64 what, .int .u64 x2, .int .u64 x3, .slice A3 n3 c3, .int .u64 b1, .int .u64 b2, .int .i64 b3, .bool nr, .int .i64 off], cell gq 74 #[.int .u64 bi, .int .u64 bt, .int .i64 bc, .slice A1 L.length c1], Vec 32 5 encV (.slice A1 L.length c1) L, Each dat L, LogD gp bi bt bc es]) [4] 0 (ent_of Try.func38 (by kernel_rfl) rfl) (confAt_D gp bi bt bc es hI k hku p2 q2 hc2) rfl rfl rfl (fun _ => rfl) rfl rfl rfl) rfl⟩) ?_
      refine s_cons (by intro r0_ r1_ r2_; exact ⟨rfl, fun b w hH hb => exec_q1 hflS rfl hb⟩) ?_
      refine s_cons (by intro v0_ r1_ r2_; exact ⟨rfl, fun b w hH hb => exec_cmp rfl rfl rfl (cmp_neq_f (by omega)) hb⟩) ?_
      refine s_cons (by intro v0_ r1_ r2_; exact ⟨rfl, fun b w hH hb => exec_q1 hflS rfl hb⟩) ?_
      refine s_cons (by intro v0_ r1_ r2_; exact ⟨rfl, fun b w hH hb => exec_q1 hflS rfl hb⟩) ?_
      refine s_cons (by intro v0_ r1_ r2_; exact ⟨rfl, fun b w hH hb => exec_q1 hflS rfl hb⟩) ?_
      refine s_cons (by intro v0_ r1_ r2_; exact ⟨rfl, fun b w hH hb => exec_q1 hflS rfl hb⟩) ?_
      refine s_cons (by intro v0_ r1_ r2_; exact ⟨rfl, fun b w hH hb => exec_q1 hflS rfl hb⟩) ?_
      refine s_cons (by intro v0_ r1_ r2_; exact ⟨rfl, fun b w hH hb => exec_load rfl rfl (reads_one ty_uint64 rfl) (hH.row 0 rfl) hb⟩) ?_
      refine s_cons (by intro v0_ r1_ r2_; exact ⟨rfl, fun b w hH hb => exec_remI rfl rfl rfl (by omega) ((Int.tmod_eq_emod_of_nonneg hx3.1).trans hz5) hb⟩) ?_
      refine s_cons (by intro v0_; exact ⟨rfl, Acts.su (a_does (os' := fun _ => [cell g5 51 #[.int .i64 what, .int .u64 x2, .int .u64 x3, .slice A3 n3 c3, .int .u64 b1, .int .u64 b2, .int .i64 b3, .bool nr, .int .i64 off], cell gq 74 #[.int .u64 bi, .int .u64 bt, .int .i64 bc, .slice A1 L.length c1], Vec 32 5 encV (.slice A1 L.length c1) L, Each dat L, LogD gp bi bt bc es]) [4] 0 (ent_of Try.func12 (by kernel_rfl) rfl) (good_D gp bi bt bc es hI k z5 hku gb hgb) rfl rfl rfl (fun _ => rfl) rfl rfl rfl) rfl⟩) ?_
      refine s_cons (by intro v0_ r1_ r2_; exact ⟨rfl, fun b w hH hb => exec_q1 hflS rfl hb⟩) ?_
      refine s_cons (by intro v0_ r1_ r2_; exact ⟨rfl, fun b w hH hb => exec_q1 hflS rfl hb⟩) ?_
      refine s_cons (by intro v0_ r1_ r2_; exact ⟨rfl, fun b w hH hb => exec_q1 hflS rfl hb⟩) ?_
      refine s_cons (by intro v0_ r1_ r2_; exact ⟨rfl, fun b w hH hb => exec_load rfl rfl (reads_one ty_uint64 rfl) (hH.row 0 rfl) hb⟩) ?_
      refine s_cons (by intro v0_ r1_ r2_; exact ⟨rfl, fun b w hH hb => exec_remI rfl rfl rfl (by omega) ((Int.tmod_eq_emod_of_nonneg hx3.1).trans hz5) hb⟩) ?_
      refine s_cons (by intro v0_ v1_; exact ⟨rfl, Acts.su (a_does (os' := fun _ => [cell g5 51 #[.int .i64 what, .int .u64 x2, .int .u64 x3, .slice A3 n3 c3, .int .u64 b1, .int .u64 b2, .int .i64 b3, .bool nr, .int .i64 off], cell gq 74 #[.int .u64 bi, .int .u64 bt, .int .i64 bc, .slice A1 L.length c1], Vec 32 5 encV (.slice A1 L.length c1) L, Each dat L, LogD gp bi bt bc es]) [1, 2] 0 (ent_of Try.func47 (by kernel_rfl) rfl) (r_good gq bi bt bc es hI A1 c1 L hL k z5 hku gb hgb) rfl rfl rfl (fun _ => rfl) rfl rfl rfl) rfl⟩) ?_
      refine s_cons (by intro v0_ v1_ v2_; exact ⟨rfl, fun b w hH hb => exec_nes (neB_same gb) rfl rfl rfl hb⟩) ?_
      refine s_cons (by intro v0_ v1_ v2_; exact ⟨rfl, fun b w hH hb => exec_q1 hflS rfl hb⟩) ?_
      exact s_nil
    intro v0_ v1_ v2_
    refine WL2.keep (env' := [(0, .pointer (some ⟨gp, 0, none⟩)), (1, .pointer (some ⟨gq, 0, none⟩)), (5, .pointer (some ⟨g5, 0, none⟩)), (6, .bool false), (11, .int .u64 (i : Int)), (63, .int .u64 (i : Int)), (64, .bool true), (67, .pointer (some ⟨gq, 0, none⟩)), (68, .pointer (some ⟨gq, 0, none⟩)), (69, .pointer (some ⟨gq, 0, none⟩)), (70, .pointer (some ⟨gq, 0, none⟩)), (71, .int .u64 bi), (72, .int .u64 (i : Int)), (73, .pointer (some ⟨g5, 1, none⟩)), (74, .int .u64 x2), (75, .int .u64 m), (76, .pointer (some ⟨gq, 0, none⟩)), (77, .pointer (some ⟨gq, 0, none⟩)), (78, .pointer (some ⟨gq, 3, none⟩)), (79, .slice A1 L.length c1), (80, .int .i64 (L.length : Int)), (81, .int .i64 ((es.length + 4 : Nat) : Int)), (82, .int .u64 ((es.length + 4 : Nat) : Int)), (83, .int .u64 q0), (84, .int .u64 (bi + q0)), (85, .pointer (some ⟨gq, 0, none⟩)), (86, .pointer (some ⟨gq, 0, none⟩)), (87, .pointer (some ⟨gq, 0, none⟩)), (88, .pointer (some ⟨gq, 0, none⟩)), (89, .int .u64 bi), (90, .int .u64 (i : Int)), (91, .int .u64 (min bi (i : Int))), (92, .int .u64 k), (12, .int .u64 k), (94, .pointer (some ⟨gp, 0, none⟩)), (95, .int .u64 k), (96, .tuple #[.int .u64 a, .bool ok]), (93, .tuple #[.int .u64 a, .bool ok]), (97, .int .u64 a), (98, .bool ok), (13, .int .u64 a), (14, .bool ok), (100, .pointer (some ⟨gq, 0, none⟩)), (101, .int .u64 k), (102, .tuple #[.int .u64 a, .bool ok]), (99, .tuple #[.int .u64 a, .bool ok]), (103, .int .u64 a), (104, .bool ok), (15, .int .u64 a), (16, .bool ok), (106, .pointer (some ⟨gq, 0, none⟩)), (107, .int .u64 k), (108, .tuple #[.int .i64 p2, .int .u64 q2]), (105, .tuple #[.int .i64 p2, .int .u64 q2]), (109, .int .i64 p2), (110, .int .u64 q2), (17, .int .i64 p2), (111, .int .u64 a), (112, .int .u64 a), (113, .bool false), (114, .bool false), (115, .bool ok), (116, .bool ok), (117, .bool false), (118, .bool false), (119, .bool false), (120, .pointer (some ⟨gp, 0, none⟩)), (121, .int .u64 k), (122, .int .i64 p2), (123, .int .i64 p2), (124, .bool false), (125, .bool false), (126, .bool false), (127, .pointer (some ⟨gp, 0, none⟩)), (128, .int .u64 k), (129, .pointer (some ⟨g5, 2, none⟩)), (130, .int .u64 x3), (131, .int .u64 z5), (132, .bool gb), (133, .pointer (some ⟨gq, 0, none⟩)), (134, .int .u64 k), (135, .pointer (some ⟨g5, 2, none⟩)), (136, .int .u64 x3), (137, .int .u64 z5), (138, .bool gb), (139, .bool false), (140, .bool false)]) ⟨rfl, rfl, rfl, rfl, rfl, rfl, rfl, rfl, rfl, rfl, rfl, rfl, rfl, rfl, rfl, rfl, rfl, rfl, rfl, rfl, rfl, rfl, rfl, rfl, rfl, rfl, rfl, rfl, rfl, rfl, rfl, rfl, rfl, rfl, rfl, rfl, rfl, rfl, rfl, rfl, rfl, rfl, rfl, rfl, rfl, rfl, rfl, rfl, rfl, rfl, rfl, rfl, rfl, rfl, rfl, rfl, rfl, rfl, rfl, rfl, rfl, rfl, rfl, rfl, rfl, rfl, rfl, rfl, rfl, rfl, rfl, rfl, rfl, rfl, rfl, rfl, rfl, rfl, rfl, rfl, rfl, rfl, rfl, rfl, rfl, rfl, rfl, trivial⟩ ?_
    refine h_nil (f_to (d_else rfl (d_skip (f_block (f_to (d_reg1 ?_))))))
    refine h_q hflS rfl ?_
    refine h_val rfl (.int .u64 ((i + 1 : Nat) : Int)) (fun b w hb hH => exec_ar rfl rfl rfl rfl (by rw [IntWalk.u64_in _ (by omega)]; omega) hb) ?_
    refine h_q hflS rfl ?_
    refine h_nil ?_
    exact f_again (i + 1) 0 hn (show 3 - (i + 1) < 3 - i by omega) ⟨rfl, rfl, rfl, rfl, rfl, trivial⟩ rfl
  · skip
    have hk2u : 0 ≤ k2 ∧ k2 ≤ 18446744073709551615 := by omega
    have hl9 := partM_len (bi := bi) (es := es) (x := k2) (most := r9 - 1)
    refine d_reg ?_
    refine h_q hflS rfl ?_
    refine h_val rfl (.bool false) (fun b w hb hH => exec_cmp rfl rfl rfl (cmp_lss_f (by omega)) hb) ?_
    refine h_done (d_else rfl (d_exit (f_then_exit (f_then_exit (f_block_exit (f_to (d_reg ?_)))))))
    refine h_q hflS rfl ?_
    refine h_val rfl (.int .i64 off) (fun b w hb hH => exec_load rfl rfl (reads_one ty_int rfl) (hH.row 0 rfl) hb) ?_
    refine h_act (post := fun _ => [cell g5 51 #[.int .i64 what, .int .u64 x2, .int .u64 x3, .slice A3 n3 c3, .int .u64 b1, .int .u64 b2, .int .i64 b3, .bool nr, .int .i64 off], cell gq 74 #[.int .u64 bi, .int .u64 bt, .int .i64 bc, .slice A1 L.length c1], Vec 32 5 encV (.slice A1 L.length c1) L, Each dat L, LogD gp bi bt bc es]) rfl (a_call (ent_of Try.func19 (by kernel_rfl) rfl) (fun w hH => pick w off 9 hoff (by decide) hr9) rfl rfl rfl) ?_; rintro ⟨⟩
    refine h_val rfl (.int .i64 (r9 - 1)) (fun b w hb hH => exec_ar rfl rfl rfl rfl (IntWalk.i64_in _ (by omega)) hb) ?_
    refine h_q hflS rfl ?_
    refine h_done (d_seq ?_)
    refine d_parS 16 0 [⟨.quiet, [], fun _ => .pointer (some ⟨gq, 0, none⟩), []⟩, ⟨.quiet, [], fun _ => .pointer (some ⟨gq, 0, none⟩), [0]⟩, ⟨.quiet, [], fun _ => .pointer (some ⟨gq, 0, none⟩), [1]⟩, ⟨.quiet, [], fun _ => .pointer (some ⟨gq, 0, none⟩), [2]⟩, ⟨.quiet, [], fun _ => .int .u64 bi, [3]⟩, ⟨.quiet, [], fun _ => .pointer (some ⟨g5, 2, none⟩), []⟩, ⟨.quiet, [], fun _ => .int .u64 x3, [5]⟩, ⟨.quiet, [], fun _ => .pointer (some ⟨gq, 0, none⟩), []⟩, ⟨.quiet, [], fun _ => .pointer (some ⟨gq, 0, none⟩), [7]⟩, ⟨.quiet, [], fun _ => .pointer (some ⟨gq, 3, none⟩), [8]⟩, ⟨.quiet, [], fun _ => .slice A1 L.length c1, [9]⟩, ⟨.quiet, [], fun _ => .int .i64 (L.length : Int), [10]⟩, ⟨.quiet, [], fun _ => .int .i64 ((es.length + 3 : Nat) : Int), [11]⟩, ⟨.quiet, [], fun _ => .int .u64 ((es.length + 3 : Nat) : Int), [12]⟩, ⟨.quiet, [], fun _ => .int .u64 q3, [6, 13]⟩, ⟨.quiet, [], fun _ => .int .u64 k2, [4, 14]⟩] [(0, .pointer (some ⟨gp, 0, none⟩)), (1, .pointer (some ⟨gq, 0, none⟩)), (5, .pointer (some ⟨g5, 0, none⟩)), (6, .bool false), (19, .int .i64 (r9 - 1))] (fun _ => [cell g5 51 #[.int .i64 what, .int .u64 x2, .int .u64 x3, .slice A3 n3 c3, .int .u64 b1, .int .u64 b2, .int .i64 b3, .bool nr, .int .i64 off], cell gq 74 #[.int .u64 bi, .int .u64 bt, .int .i64 bc, .slice A1 L.length c1], Vec 32 5 encV (.slice A1 L.length c1) L, Each dat L, LogD gp bi bt bc es]) (by kernel_rfl) (by kernel_rfl) ⟨rfl, rfl, rfl, rfl, rfl, trivial⟩ rfl ?_ ?_
    · skip
      refine s_cons (by exact ⟨rfl, fun b w hH hb => exec_q1 hflS rfl hb⟩) ?_
      refine s_cons (by exact ⟨rfl, fun b w hH hb => by exact exec_nilCheck rfl rfl hb⟩) ?_
      refine s_cons (by exact ⟨rfl, fun b w hH hb => exec_q1 hflS rfl hb⟩) ?_
      refine s_cons (by exact ⟨rfl, fun b w hH hb => exec_q1 hflS rfl hb⟩) ?_
      refine s_cons (by exact ⟨rfl, fun b w hH hb => exec_load rfl rfl (reads_one ty_uint64 rfl) (hH.row 1 rfl) hb⟩) ?_
      refine s_cons (by exact ⟨rfl, fun b w hH hb => exec_q1 hflS rfl hb⟩) ?_
      refine s_cons (by exact ⟨rfl, fun b w hH hb => exec_load rfl rfl (reads_one ty_uint64 rfl) (hH.row 0 rfl) hb⟩) ?_
      refine s_cons (by exact ⟨rfl, fun b w hH hb => exec_q1 hflS rfl hb⟩) ?_
      refine s_cons (by exact ⟨rfl, fun b w hH hb => by exact exec_nilCheck rfl rfl hb⟩) ?_
      refine s_cons (by exact ⟨rfl, fun b w hH hb => exec_q1 hflS rfl hb⟩) ?_
      refine s_cons (by exact ⟨rfl, fun b w hH hb => exec_load rfl rfl (reads_one ty_s_api_Entry rfl) (hH.row 1 rfl) hb⟩) ?_
      refine s_cons (by exact ⟨rfl, fun b w hH hb => e_len sl_api_Entry rfl rfl hH hb⟩) ?_
      refine s_cons (by exact ⟨rfl, fun b w hH hb => exec_ar rfl rfl rfl rfl (by rw [IntWalk.i64_in _ (by omega)]; omega) hb⟩) ?_
      refine s_cons (by exact ⟨rfl, fun b w hH hb => exec_conv Try.underlying3 Try.underlying26 (by rw [IntWalk.u64_in _ (by omega)]) rfl rfl hb⟩) ?_
      refine s_cons (by exact ⟨rfl, fun b w hH hb => exec_remI rfl rfl rfl (by omega) ((Int.tmod_eq_emod_of_nonneg hx3.1).trans hq3) hb⟩) ?_
      refine s_cons (by exact ⟨rfl, fun b w hH hb => exec_ar rfl rfl rfl rfl (by rw [IntWalk.u64_in _ (by omega)]; omega) hb⟩) ?_
      exact s_nil
    refine WL2.keep (env' := [(0, .pointer (some ⟨gp, 0, none⟩)), (1, .pointer (some ⟨gq, 0, none⟩)), (6, .bool false), (19, .int .i64 (r9 - 1)), (160, .int .u64 k2)]) ⟨rfl, rfl, rfl, rfl, rfl, trivial⟩ ?_
    refine h_q hflS rfl ?_
    refine h_nil (f_to (d_seq ?_))
    refine d_emps 3 rfl ?_
    refine d_parS 24 5 [⟨.quiet, [none, none, none, none, none], fun _ => .pointer (some ⟨gp, 0, none⟩), []⟩, ⟨.quiet, [none, none, none, none, none], fun _ => .int .u64 k2, []⟩, ⟨.quiet, [none, none, none, none, none], fun _ => .int .i64 (r9 - 1), []⟩, ⟨.act 0, [some false, some false, some false, some false, some false], fun _ => undef, [0, 1, 2]⟩, ⟨.quiet, [none, none, none, none, none], fun _ => .pointer (some ⟨gq, 0, none⟩), []⟩, ⟨.quiet, [none, none, none, none, none], fun _ => .int .u64 k2, []⟩, ⟨.quiet, [none, none, none, none, none], fun _ => .int .i64 (r9 - 1), []⟩, ⟨.act 1, [some true, some false, some false, some false, some false], fun _ => undef, [4, 5, 6]⟩, ⟨.actv 2, [some true, some true, some false, some false, some false], fun _ => .bool true, [3, 7]⟩, ⟨.quiet, [some true, some true, some true, none, none], fun _ => .bool true, [8]⟩, ⟨.quiet, [some true, some true, some true, none, none], fun _ => .pointer (some ⟨gp, 0, none⟩), [9]⟩, ⟨.quiet, [some true, some true, some true, none, none], fun _ => .pointer (some ⟨gq, 0, none⟩), [9]⟩, ⟨.quiet, [some true, some true, some true, none, none], fun _ => .pointer (some ⟨gq, 0, none⟩), [11, 9]⟩, ⟨.quiet, [some true, some true, some true, none, none], fun _ => .pointer (some ⟨gq, 0, none⟩), [12, 9]⟩, ⟨.quiet, [some true, some true, some true, none, none], fun _ => .pointer (some ⟨gq, 0, none⟩), [13, 9]⟩, ⟨.quiet, [some true, some true, some true, none, none], fun _ => .int .u64 bi, [14, 9]⟩, ⟨.quiet, [some true, some true, some true, none, none], fun _ => .int .u64 (bi + 1), [15, 9]⟩, ⟨.act 3, [some true, some true, some true, some false, some false], fun _ => undef, [10, 16, 9]⟩, ⟨.quiet, [some true, some true, some true, none, none], fun _ => .pointer (some ⟨gq, 0, none⟩), [9]⟩, ⟨.quiet, [some true, some true, some true, none, none], fun _ => .pointer (some ⟨gq, 0, none⟩), [18, 9]⟩, ⟨.quiet, [some true, some true, some true, none, none], fun _ => .pointer (some ⟨gq, 3, none⟩), [19, 9]⟩, ⟨.quiet, [some true, some true, some true, none, none], fun _ => .slice A1 L.length c1, [20, 9]⟩, ⟨.actv 4, [some true, some true, some true, some true, some false], fun _ => .bool true, [17, 21, 9]⟩, ⟨.quiet, [some true, some true, some true, some true, some true], fun _ => .bool true, [9, 22]⟩] [(0, .pointer (some ⟨gp, 0, none⟩)), (1, .pointer (some ⟨gq, 0, none⟩)), (6, .bool false), (19, .int .i64 (r9 - 1)), (20, .int .u64 k2)] (fun ρ => match ρ with | [rq0, rq1, rq2, rq3, rq4] => [selS rq3 (fun ev3 => EnT ev3 es) (emp), selS rq1 (fun ev2 => EnT ev2 (partM bi es k2 (r9 - 1))) (emp), selS rq0 (fun ev1 => EnT ev1 (partM bi es k2 (r9 - 1))) (emp), cell g5 51 #[.int .i64 what, .int .u64 x2, .int .u64 x3, .slice A3 n3 c3, .int .u64 b1, .int .u64 b2, .int .i64 b3, .bool nr, .int .i64 off], cell gq 74 #[.int .u64 bi, .int .u64 bt, .int .i64 bc, .slice A1 L.length c1], Vec 32 5 encV (.slice A1 L.length c1) L, Each dat L, LogD gp bi bt bc es] | _ => []) (by kernel_rfl) (by kernel_rfl) ⟨rfl, rfl, rfl, rfl, rfl, trivial⟩ rfl ?_ ?_
    · skip
      refine s_cons (by intro r0_ r1_ r2_ r3_ r4_; exact ⟨rfl, fun b w hH hb => exec_q1 hflS rfl hb⟩) ?_
      refine s_cons (by intro r0_ r1_ r2_ r3_ r4_; exact ⟨rfl, fun b w hH hb => exec_q1 hflS rfl hb⟩) ?_
      refine s_cons (by intro r0_ r1_ r2_ r3_ r4_; exact ⟨rfl, fun b w hH hb => exec_q1 hflS rfl hb⟩) ?_
      refine s_cons (by exact ⟨rfl, Acts.s (a_does (os' := fun ev1 => [emp, emp, EnT ev1 (partM bi es k2 (r9 - 1)), cell g5 51 #[.int .i64 what, .int .u64 x2, .int .u64 x3, .slice A3 n3 c3, .int .u64 b1, .int .u64 b2, .int .i64 b3, .bool nr, .int .i64 off], cell gq 74 #[.int .u64 bi, .int .u64 bt, .int .i64 bc, .slice A1 L.length c1], Vec 32 5 encV (.slice A1 L.length c1) L, Each dat L, LogD gp bi bt bc es]) [7, 2] 1 (ent_of Try.func26 (by kernel_rfl) rfl) (entries_D gp bi bt bc es hI k2 (r9 - 1) hk2u (by omega) (by omega) (partM bi es k2 (r9 - 1)) rfl) rfl rfl rfl (fun _ => rfl) rfl rfl rfl) (fun _ => rfl)⟩) ?_
      refine s_cons (by intro r0_ r1_ r2_ r3_ r4_; exact ⟨rfl, fun b w hH hb => exec_q1 hflS rfl hb⟩) ?_
      refine s_cons (by intro r0_ r1_ r2_ r3_ r4_; exact ⟨rfl, fun b w hH hb => exec_q1 hflS rfl hb⟩) ?_
      refine s_cons (by intro r0_ r1_ r2_ r3_ r4_; exact ⟨rfl, fun b w hH hb => exec_q1 hflS rfl hb⟩) ?_
      refine s_cons (by intro ev1; exact ⟨rfl, Acts.s (a_does (os' := fun ev2 => [emp, EnT ev2 (partM bi es k2 (r9 - 1)), EnT ev1 (partM bi es k2 (r9 - 1)), cell g5 51 #[.int .i64 what, .int .u64 x2, .int .u64 x3, .slice A3 n3 c3, .int .u64 b1, .int .u64 b2, .int .i64 b3, .bool nr, .int .i64 off], cell gq 74 #[.int .u64 bi, .int .u64 bt, .int .i64 bc, .slice A1 L.length c1], Vec 32 5 encV (.slice A1 L.length c1) L, Each dat L, LogD gp bi bt bc es]) [4, 5, 6, 1] 1 (ent_of Try.func48 (by kernel_rfl) rfl) (r_entries gq bi bt bc es hI A1 c1 L hL hdL hcp (by omega) k2 (r9 - 1) hk2u (by omega) (partM bi es k2 (r9 - 1)) rfl) rfl rfl rfl (fun _ => rfl) rfl rfl rfl) (fun _ => rfl)⟩) ?_
      refine s_cons (by intro ev1 ev2; exact ⟨rfl, Acts.su (a_call (ent_of Try.func25 (by kernel_rfl) rfl) (fun w hH => same_v w ev1 ev2 (partM bi es k2 (r9 - 1)) (partM bi es k2 (r9 - 1)) (EnT.rd 2 rfl hH) (EnT.rd 1 rfl hH) rfl (by omega)) rfl rfl rfl) rfl⟩) ?_
      refine s_cons (by intro ev1 ev2 v2_ r3_ r4_; exact ⟨rfl, fun b w hH hb => exec_q1 hflS rfl hb⟩) ?_
      refine s_cons (by intro ev1 ev2 v2_ r3_ r4_; exact ⟨rfl, fun b w hH hb => exec_q1 hflS rfl hb⟩) ?_
      refine s_cons (by intro ev1 ev2 v2_ r3_ r4_; exact ⟨rfl, fun b w hH hb => exec_q1 hflS rfl hb⟩) ?_
      refine s_cons (by intro ev1 ev2 v2_ r3_ r4_; exact ⟨rfl, fun b w hH hb => by exact exec_nilCheck rfl rfl hb⟩) ?_
      refine s_cons (by intro ev1 ev2 v2_ r3_ r4_; exact ⟨rfl, fun b w hH hb => exec_q1 hflS rfl hb⟩) ?_
      refine s_cons (by intro ev1 ev2 v2_ r3_ r4_; exact ⟨rfl, fun b w hH hb => exec_q1 hflS rfl hb⟩) ?_
      refine s_cons (by intro ev1 ev2 v2_ r3_ r4_; exact ⟨rfl, fun b w hH hb => exec_load rfl rfl (reads_one ty_uint64 rfl) (hH.row 4 rfl) hb⟩) ?_
      refine s_cons (by intro ev1 ev2 v2_ r3_ r4_; exact ⟨rfl, fun b w hH hb => exec_ar rfl rfl rfl rfl (IntWalk.u64_in _ (by omega)) hb⟩) ?_
      refine s_cons (by intro ev1 ev2 v2_; exact ⟨rfl, Acts.s (a_does (os' := fun ev3 => [EnT ev3 es, EnT ev2 (partM bi es k2 (r9 - 1)), EnT ev1 (partM bi es k2 (r9 - 1)), cell g5 51 #[.int .i64 what, .int .u64 x2, .int .u64 x3, .slice A3 n3 c3, .int .u64 b1, .int .u64 b2, .int .i64 b3, .bool nr, .int .i64 off], cell gq 74 #[.int .u64 bi, .int .u64 bt, .int .i64 bc, .slice A1 L.length c1], Vec 32 5 encV (.slice A1 L.length c1) L, Each dat L, LogD gp bi bt bc es]) [7, 0] 1 (ent_of Try.func26 (by kernel_rfl) rfl) (entries_D gp bi bt bc es hI (bi + 1) 1073741824 (by omega) (by omega) (by omega) es (partM_all (by omega))) rfl rfl rfl (fun _ => rfl) rfl rfl rfl) (fun _ => rfl)⟩) ?_
      refine s_cons (by intro ev1 ev2 v2_ r3_ r4_; exact ⟨rfl, fun b w hH hb => exec_q1 hflS rfl hb⟩) ?_
      refine s_cons (by intro ev1 ev2 v2_ r3_ r4_; exact ⟨rfl, fun b w hH hb => by exact exec_nilCheck rfl rfl hb⟩) ?_
      refine s_cons (by intro ev1 ev2 v2_ r3_ r4_; exact ⟨rfl, fun b w hH hb => exec_q1 hflS rfl hb⟩) ?_
      refine s_cons (by intro ev1 ev2 v2_ r3_ r4_; exact ⟨rfl, fun b w hH hb => exec_load rfl rfl (reads_one ty_s_api_Entry rfl) (hH.row 4 rfl) hb⟩) ?_
      refine s_cons (by intro ev1 ev2 v2_ ev3; exact ⟨rfl, Acts.su (a_call (ent_of Try.func25 (by kernel_rfl) rfl) (fun w hH => same_v w ev3 (.slice A1 L.length c1) es es (EnT.rd 0 rfl hH) ⟨L, hL, (own_rd 5 6 rfl rfl hH)⟩ rfl (by omega)) rfl rfl rfl) rfl⟩) ?_
      refine s_cons (by intro ev1 ev2 v2_ ev3 v4_; exact ⟨rfl, fun b w hH hb => exec_q1 hflS rfl hb⟩) ?_
      exact s_nil
    intro ev1 ev2 v2_ ev3 v4_
    refine WL2.keep (env' := [(6, .bool false), (184, .bool true)]) ⟨rfl, rfl, trivial⟩ ?_
    refine h_q hflS rfl ?_
    refine h_nil (f_to (d_ret ?_))
    exact f_fin1 (.tmp rfl) (fun w h => tells () rfl [7, 4, 5, 6] rfl h (fun z hz => ⟨z, .refl _, same_done hL hcp hz⟩)) rfl
end Go.Proofs.Ytnebloeideodmaa.Sep
