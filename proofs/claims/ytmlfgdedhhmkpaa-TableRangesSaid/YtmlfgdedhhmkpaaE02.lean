/-
  TabQ
-/
import Derived.Test.YtmlfgdedhhmkpaaE01
set_option linter.unusedSimpArgs false
set_option linter.unusedVariables false

namespace Go.Proofs.Ytmlfgdedhhmkpaa.Sep
open Go.RowKit
open Go.Proofs.Ytmlfgdedhhmkpaa.Mem (Dist Blk Chg below0)

set_option maxRecDepth 100000 in
theorem run_far (p r : Nat) (m : Int) (K V : List Int) (what k v : Int) (h1 : -9223372036854775808 ≤ what ∧ what ≤ 9223372036854775807) : Does Try.prog 18 #[.pointer (some ⟨p, 0, none⟩), .pointer (some ⟨r, 0, none⟩), .agg #[.int .i64 what, .int .u64 k, .int .i64 v, .bool false]] [Tab 85 42 3 encU encI ltI p m K V, Tab 47 42 3 encU encI ltI r m K V] (fun (y : List Int × List Int) => .bool true) (fun (y : List Int × List Int) => [Tab 85 42 3 encU encI ltI p m y.1 y.2, Tab 47 42 3 encU encI ltI r m y.1 y.2]) := by
  obtain ⟨r0, hr0⟩ : ∃ r0, what % 6 = r0 := ⟨_, rfl⟩
  refine d_ins (args := [.pointer (some ⟨p, 0, none⟩), .pointer (some ⟨r, 0, none⟩), .agg #[.int .i64 what, .int .u64 k, .int .i64 v, .bool false]]) 68 Try.func18 rfl rfl rfl ?_; intro w rs
  refine d_reg ?_
  refine h_q hflS rfl ?_
  refine h_act (post := fun g1 => [cell g1 50 #[.int .i64 what, .int .u64 k, .int .i64 v, .bool false], Tab 85 42 3 encU encI ltI p m K V, Tab 47 42 3 encU encI ltI r m K V]) rfl (a_box (cs := #[.int .i64 what, .int .u64 k, .int .i64 v, .bool false]) rfl rfl rfl) ?_; rintro g1
  refine h_q hflS rfl ?_
  refine h_done (d_seq (d_reg ?_))
  refine h_q hflS rfl ?_
  refine h_val rfl (.bool false) (fun b w hb hH => exec_load rfl rfl (reads_one ty_bool rfl) (hH.row 0 rfl) hb) ?_
  refine h_done (d_else rfl (d_skip (f_to (d_seq (d_reg ?_)))))
  refine h_q hflS rfl ?_
  refine h_val rfl (.int .i64 what) (fun b w hb hH => exec_load rfl rfl (reads_one ty_int rfl) (hH.row 0 rfl) hb) ?_
  refine h_act (post := fun _ => [cell g1 50 #[.int .i64 what, .int .u64 k, .int .i64 v, .bool false], Tab 85 42 3 encU encI ltI p m K V, Tab 47 42 3 encU encI ltI r m K V]) rfl (a_call (ent_of Try.func23 (by kernel_rfl) rfl) (fun w hH => pick w what 6 h1 (by decide) hr0) rfl rfl rfl) ?_; rintro ⟨⟩
  refine h_done (d_block ?_)
  have h3 : r0 = 4 ∨ (r0 ≠ 4 ∧ r0 = 5) ∨ (r0 ≠ 4 ∧ r0 ≠ 5) := by omega
  rcases h3 with h4 | ⟨h4, h5⟩ | ⟨h4, h5⟩
  · skip
    obtain ⟨⟨a, c⟩, hg⟩ : ∃ R, getT ltI K V k 0 = R := ⟨_, rfl⟩
    refine d_reg ?_
    refine h_q hflS rfl ?_
    refine h_val rfl (.bool true) (fun b w hb hH => exec_cmp rfl rfl rfl (cmp_eql_t h4) hb) ?_
    refine h_q hflS rfl ?_
    refine h_done (d_then rfl (d_reg ?_))
    refine h_q hflS rfl ?_
    refine h_val rfl (.int .u64 k) (fun b w hb hH => exec_load rfl rfl (reads_one ty_uint64 rfl) (hH.row 0 rfl) hb) ?_
    refine h_act (post := fun _ => [cell g1 50 #[.int .i64 what, .int .u64 k, .int .i64 v, .bool false], Tab 85 42 3 encU encI ltI p m K V, Tab 47 42 3 encU encI ltI r m K V]) rfl (a_does (os' := fun _ => [cell g1 50 #[.int .i64 what, .int .u64 k, .int .i64 v, .bool false], Tab 85 42 3 encU encI ltI p m K V, Tab 47 42 3 encU encI ltI r m K V]) [1] 0 (ent_of Try.func30 (by kernel_rfl) rfl) (get_uint64_int p m K V k (a, c) hg) rfl rfl rfl (fun _ => rfl) rfl rfl rfl) ?_; rintro ⟨⟩
    refine h_q hflS rfl ?_
    refine h_done (d_reg ?_)
    refine h_q hflS rfl ?_
    refine h_val rfl (.int .u64 k) (fun b w hb hH => exec_load rfl rfl (reads_one ty_uint64 rfl) (hH.row 0 rfl) hb) ?_
    refine h_act (post := fun _ => [cell g1 50 #[.int .i64 what, .int .u64 k, .int .i64 v, .bool false], Tab 85 42 3 encU encI ltI p m K V, Tab 47 42 3 encU encI ltI r m K V]) rfl (a_does (os' := fun _ => [cell g1 50 #[.int .i64 what, .int .u64 k, .int .i64 v, .bool false], Tab 85 42 3 encU encI ltI p m K V, Tab 47 42 3 encU encI ltI r m K V]) [2] 0 (ent_of Try.func42 (by kernel_rfl) rfl) (get_ref r m K V k (a, c) hg) rfl rfl rfl (fun _ => rfl) rfl rfl rfl) ?_; rintro ⟨⟩
    refine h_q hflS rfl ?_
    refine h_done (d_reg ?_)
    refine h_q hflS rfl ?_
    refine h_val rfl (.bool true) (fun b w hb hH => exec_cmp rfl rfl rfl (cmp_eql_t rfl) hb) ?_
    refine h_q hflS rfl ?_
    refine h_val rfl (.bool true) (fun b w hb hH => exec_eqs (eqB_same _) rfl rfl rfl hb) ?_
    refine h_q hflS rfl ?_
    refine h_done (d_ret (f_block_ret (f_then_ret ?_)))
    exact f_fin1 (.tmp rfl) (fun w h => tells (K, V) rfl [1, 2] rfl h same_parts) rfl
  · skip
    obtain ⟨⟨K1, V1, c⟩, hd⟩ : ∃ R, dropT ltI K V k = R := ⟨_, rfl⟩
    refine d_reg ?_
    refine h_q hflS rfl ?_
    refine h_val rfl (.bool false) (fun b w hb hH => exec_cmp rfl rfl rfl (cmp_eql_f (by omega)) hb) ?_
    refine h_q hflS rfl ?_
    refine h_done (d_else rfl (d_reg ?_))
    refine h_q hflS rfl ?_
    refine h_val rfl (.bool true) (fun b w hb hH => exec_cmp rfl rfl rfl (cmp_eql_t h5) hb) ?_
    refine h_q hflS rfl ?_
    refine h_done (d_then rfl (d_seq ?_))
    refine d_parS 9 2 [⟨.quiet, [none, none], fun _ => .pointer (some ⟨p, 0, none⟩), []⟩, ⟨.quiet, [none, none], fun _ => .pointer (some ⟨g1, 1, none⟩), []⟩, ⟨.quiet, [none, none], fun _ => .int .u64 k, [1]⟩, ⟨.actv 0, [some false, some false], fun _ => .bool c, [0, 2]⟩, ⟨.quiet, [none, none], fun _ => .pointer (some ⟨r, 0, none⟩), []⟩, ⟨.quiet, [none, none], fun _ => .pointer (some ⟨g1, 1, none⟩), []⟩, ⟨.quiet, [none, none], fun _ => .int .u64 k, [5]⟩, ⟨.actv 1, [some true, some false], fun _ => .bool c, [4, 6]⟩, ⟨.quiet, [some true, some true], fun _ => .bool true, [3, 7]⟩] [(0, .pointer (some ⟨p, 0, none⟩)), (1, .pointer (some ⟨r, 0, none⟩)), (5, .pointer (some ⟨g1, 0, none⟩)), (6, .bool false)] (fun ρ => match ρ with | [r0, r1] => [cell g1 50 #[.int .i64 what, .int .u64 k, .int .i64 v, .bool false], selS r0 (fun _ => Tab 85 42 3 encU encI ltI p m K1 V1) (Tab 85 42 3 encU encI ltI p m K V), selS r1 (fun _ => Tab 47 42 3 encU encI ltI r m K1 V1) (Tab 47 42 3 encU encI ltI r m K V)] | _ => []) (by kernel_rfl) (by kernel_rfl) ⟨rfl, rfl, rfl, rfl, trivial⟩ rfl ?_ ?_
    · skip
      refine s_cons (by intro r0_ r1_; exact ⟨rfl, fun b w hH hb => exec_q1 hflS rfl hb⟩) ?_
      refine s_cons (by intro r0_ r1_; exact ⟨rfl, fun b w hH hb => exec_q1 hflS rfl hb⟩) ?_
      refine s_cons (by intro r0_ r1_; exact ⟨rfl, fun b w hH hb => exec_load rfl rfl (reads_one ty_uint64 rfl) (hH.row 0 rfl) hb⟩) ?_
      refine s_cons (by exact ⟨rfl, Acts.su (a_does (os' := fun _ => [cell g1 50 #[.int .i64 what, .int .u64 k, .int .i64 v, .bool false], Tab 85 42 3 encU encI ltI p m K1 V1, Tab 47 42 3 encU encI ltI r m K V]) [1] 0 (ent_of Try.func28 (by kernel_rfl) rfl) (drop_uint64_int p m K V k (K1, V1, c) hd) rfl rfl rfl (fun _ => rfl) rfl rfl rfl) rfl⟩) ?_
      refine s_cons (by intro r0_ r1_; exact ⟨rfl, fun b w hH hb => exec_q1 hflS rfl hb⟩) ?_
      refine s_cons (by intro r0_ r1_; exact ⟨rfl, fun b w hH hb => exec_q1 hflS rfl hb⟩) ?_
      refine s_cons (by intro r0_ r1_; exact ⟨rfl, fun b w hH hb => exec_load rfl rfl (reads_one ty_uint64 rfl) (hH.row 0 rfl) hb⟩) ?_
      refine s_cons (by intro v0_; exact ⟨rfl, Acts.su (a_does (os' := fun _ => [cell g1 50 #[.int .i64 what, .int .u64 k, .int .i64 v, .bool false], Tab 85 42 3 encU encI ltI p m K1 V1, Tab 47 42 3 encU encI ltI r m K1 V1]) [2] 0 (ent_of Try.func43 (by kernel_rfl) rfl) (drop_ref r m K V k (K1, V1, c) hd) rfl rfl rfl (fun _ => rfl) rfl rfl rfl) rfl⟩) ?_
      refine s_cons (by intro v0_ v1_; exact ⟨rfl, fun b w hH hb => exec_eqs (eqB_same _) rfl rfl rfl hb⟩) ?_
      exact s_nil
    intro v0_ v1_
    refine WL2.keep (env' := [(0, .pointer (some ⟨p, 0, none⟩)), (1, .pointer (some ⟨r, 0, none⟩)), (5, .pointer (some ⟨g1, 0, none⟩)), (6, .bool false), (54, .bool true)]) ⟨rfl, rfl, rfl, rfl, rfl, trivial⟩ ?_
    refine h_q hflS rfl ?_
    refine h_nil (f_to (d_ret (f_block_ret (f_then_ret ?_))))
    exact f_fin1 (.tmp rfl) (fun w h => tells (K1, V1) rfl [1, 2] rfl h same_parts) rfl
  · skip
    obtain ⟨⟨K1, V1, c⟩, hp⟩ : ∃ R, putT ltI m K V k v = R := ⟨_, rfl⟩
    refine d_reg ?_
    refine h_q hflS rfl ?_
    refine h_val rfl (.bool false) (fun b w hb hH => exec_cmp rfl rfl rfl (cmp_eql_f (by omega)) hb) ?_
    refine h_q hflS rfl ?_
    refine h_done (d_else rfl (d_reg ?_))
    refine h_q hflS rfl ?_
    refine h_val rfl (.bool false) (fun b w hb hH => exec_cmp rfl rfl rfl (cmp_eql_f (by omega)) hb) ?_
    refine h_q hflS rfl ?_
    refine h_done (d_else rfl (d_skip (f_block (f_to (d_seq ?_)))))
    refine d_parS 13 2 [⟨.quiet, [none, none], fun _ => .pointer (some ⟨p, 0, none⟩), []⟩, ⟨.quiet, [none, none], fun _ => .pointer (some ⟨g1, 1, none⟩), []⟩, ⟨.quiet, [none, none], fun _ => .int .u64 k, [1]⟩, ⟨.quiet, [none, none], fun _ => .pointer (some ⟨g1, 2, none⟩), []⟩, ⟨.quiet, [none, none], fun _ => .int .i64 v, [3]⟩, ⟨.actv 0, [some false, some false], fun _ => .bool c, [0, 2, 4]⟩, ⟨.quiet, [none, none], fun _ => .pointer (some ⟨r, 0, none⟩), []⟩, ⟨.quiet, [none, none], fun _ => .pointer (some ⟨g1, 1, none⟩), []⟩, ⟨.quiet, [none, none], fun _ => .int .u64 k, [7]⟩, ⟨.quiet, [none, none], fun _ => .pointer (some ⟨g1, 2, none⟩), []⟩, ⟨.quiet, [none, none], fun _ => .int .i64 v, [9]⟩, ⟨.actv 1, [some true, some false], fun _ => .bool c, [6, 8, 10]⟩, ⟨.quiet, [some true, some true], fun _ => .bool true, [5, 11]⟩] [(0, .pointer (some ⟨p, 0, none⟩)), (1, .pointer (some ⟨r, 0, none⟩)), (5, .pointer (some ⟨g1, 0, none⟩)), (6, .bool false)] (fun ρ => match ρ with | [r0, r1] => [cell g1 50 #[.int .i64 what, .int .u64 k, .int .i64 v, .bool false], selS r0 (fun _ => Tab 85 42 3 encU encI ltI p m K1 V1) (Tab 85 42 3 encU encI ltI p m K V), selS r1 (fun _ => Tab 47 42 3 encU encI ltI r m K1 V1) (Tab 47 42 3 encU encI ltI r m K V)] | _ => []) (by kernel_rfl) (by kernel_rfl) ⟨rfl, rfl, rfl, rfl, trivial⟩ rfl ?_ ?_
    · skip
      refine s_cons (by intro r0_ r1_; exact ⟨rfl, fun b w hH hb => exec_q1 hflS rfl hb⟩) ?_
      refine s_cons (by intro r0_ r1_; exact ⟨rfl, fun b w hH hb => exec_q1 hflS rfl hb⟩) ?_
      refine s_cons (by intro r0_ r1_; exact ⟨rfl, fun b w hH hb => exec_load rfl rfl (reads_one ty_uint64 rfl) (hH.row 0 rfl) hb⟩) ?_
      refine s_cons (by intro r0_ r1_; exact ⟨rfl, fun b w hH hb => exec_q1 hflS rfl hb⟩) ?_
      refine s_cons (by intro r0_ r1_; exact ⟨rfl, fun b w hH hb => exec_load rfl rfl (reads_one ty_int rfl) (hH.row 0 rfl) hb⟩) ?_
      refine s_cons (by exact ⟨rfl, Acts.su (a_does (os' := fun _ => [cell g1 50 #[.int .i64 what, .int .u64 k, .int .i64 v, .bool false], Tab 85 42 3 encU encI ltI p m K1 V1, Tab 47 42 3 encU encI ltI r m K V]) [1] 0 (ent_of Try.func25 (by kernel_rfl) rfl) (put_uint64_int p m K V k v (K1, V1, c) hp) rfl rfl rfl (fun _ => rfl) rfl rfl rfl) rfl⟩) ?_
      refine s_cons (by intro r0_ r1_; exact ⟨rfl, fun b w hH hb => exec_q1 hflS rfl hb⟩) ?_
      refine s_cons (by intro r0_ r1_; exact ⟨rfl, fun b w hH hb => exec_q1 hflS rfl hb⟩) ?_
      refine s_cons (by intro r0_ r1_; exact ⟨rfl, fun b w hH hb => exec_load rfl rfl (reads_one ty_uint64 rfl) (hH.row 0 rfl) hb⟩) ?_
      refine s_cons (by intro r0_ r1_; exact ⟨rfl, fun b w hH hb => exec_q1 hflS rfl hb⟩) ?_
      refine s_cons (by intro r0_ r1_; exact ⟨rfl, fun b w hH hb => exec_load rfl rfl (reads_one ty_int rfl) (hH.row 0 rfl) hb⟩) ?_
      refine s_cons (by intro v0_; exact ⟨rfl, Acts.su (a_does (os' := fun _ => [cell g1 50 #[.int .i64 what, .int .u64 k, .int .i64 v, .bool false], Tab 85 42 3 encU encI ltI p m K1 V1, Tab 47 42 3 encU encI ltI r m K1 V1]) [2] 0 (ent_of Try.func44 (by kernel_rfl) rfl) (put_ref r m K V k v (K1, V1, c) hp) rfl rfl rfl (fun _ => rfl) rfl rfl rfl) rfl⟩) ?_
      refine s_cons (by intro v0_ v1_; exact ⟨rfl, fun b w hH hb => exec_eqs (eqB_same _) rfl rfl rfl hb⟩) ?_
      exact s_nil
    intro v0_ v1_
    refine WL2.keep (env' := [(6, .bool false), (67, .bool true)]) ⟨rfl, rfl, trivial⟩ ?_
    refine h_q hflS rfl ?_
    refine h_nil (f_to (d_ret ?_))
    exact f_fin1 (.tmp rfl) (fun w h => tells (K1, V1) rfl [1, 2] rfl h same_parts) rfl

set_option maxRecDepth 100000 in
theorem run_near (p r : Nat) (m : Int) (K V : List Int) (what k v : Int) (h1 : -9223372036854775808 ≤ what ∧ what ≤ 9223372036854775807) (k2 : Int) (hk2 : k.tmod 12 = k2) : Does Try.prog 18 #[.pointer (some ⟨p, 0, none⟩), .pointer (some ⟨r, 0, none⟩), .agg #[.int .i64 what, .int .u64 k, .int .i64 v, .bool true]] [Tab 85 42 3 encU encI ltI p m K V, Tab 47 42 3 encU encI ltI r m K V] (fun (y : List Int × List Int) => .bool true) (fun (y : List Int × List Int) => [Tab 85 42 3 encU encI ltI p m y.1 y.2, Tab 47 42 3 encU encI ltI r m y.1 y.2]) := by
  obtain ⟨r0, hr0⟩ : ∃ r0, what % 6 = r0 := ⟨_, rfl⟩
  refine d_ins (args := [.pointer (some ⟨p, 0, none⟩), .pointer (some ⟨r, 0, none⟩), .agg #[.int .i64 what, .int .u64 k, .int .i64 v, .bool true]]) 68 Try.func18 rfl rfl rfl ?_; intro w rs
  refine d_reg ?_
  refine h_q hflS rfl ?_
  refine h_act (post := fun g1 => [cell g1 50 #[.int .i64 what, .int .u64 k, .int .i64 v, .bool true], Tab 85 42 3 encU encI ltI p m K V, Tab 47 42 3 encU encI ltI r m K V]) rfl (a_box (cs := #[.int .i64 what, .int .u64 k, .int .i64 v, .bool true]) rfl rfl rfl) ?_; rintro g1
  refine h_q hflS rfl ?_
  refine h_done (d_seq (d_reg ?_))
  refine h_q hflS rfl ?_
  refine h_val rfl (.bool true) (fun b w hb hH => exec_load rfl rfl (reads_one ty_bool rfl) (hH.row 0 rfl) hb) ?_
  refine h_done (d_then rfl (d_reg1 ?_))
  refine h_q hflS rfl ?_
  refine h_val rfl (.int .u64 k) (fun b w hb hH => exec_load rfl rfl (reads_one ty_uint64 rfl) (hH.row 0 rfl) hb) ?_
  refine h_val rfl (.int .u64 k2) (fun b w hb hH => exec_remI rfl rfl rfl (by decide) hk2 hb) ?_
  refine h_q hflS rfl ?_
  refine h_acts (post := fun _ => [cell g1 50 #[.int .i64 what, .int .u64 k2, .int .i64 v, .bool true], Tab 85 42 3 encU encI ltI p m K V, Tab 47 42 3 encU encI ltI r m K V]) rfl rfl (a_store 0 (v := .int .u64 k2) #[.int .i64 what, .int .u64 k2, .int .i64 v, .bool true] ty_uint64.2 rfl rfl rfl rfl rfl rfl rfl rfl rfl) ?_; rintro ⟨⟩
  refine h_nil (f_to (d_seq (d_reg ?_)))
  refine h_q hflS rfl ?_
  refine h_val rfl (.int .i64 what) (fun b w hb hH => exec_load rfl rfl (reads_one ty_int rfl) (hH.row 0 rfl) hb) ?_
  refine h_act (post := fun _ => [cell g1 50 #[.int .i64 what, .int .u64 k2, .int .i64 v, .bool true], Tab 85 42 3 encU encI ltI p m K V, Tab 47 42 3 encU encI ltI r m K V]) rfl (a_call (ent_of Try.func23 (by kernel_rfl) rfl) (fun w hH => pick w what 6 h1 (by decide) hr0) rfl rfl rfl) ?_; rintro ⟨⟩
  refine h_done (d_block ?_)
  have h3 : r0 = 4 ∨ (r0 ≠ 4 ∧ r0 = 5) ∨ (r0 ≠ 4 ∧ r0 ≠ 5) := by omega
  rcases h3 with h4 | ⟨h4, h5⟩ | ⟨h4, h5⟩
  · skip
    obtain ⟨⟨a, c⟩, hg⟩ : ∃ R, getT ltI K V k2 0 = R := ⟨_, rfl⟩
    refine d_reg ?_
    refine h_q hflS rfl ?_
    refine h_val rfl (.bool true) (fun b w hb hH => exec_cmp rfl rfl rfl (cmp_eql_t h4) hb) ?_
    refine h_q hflS rfl ?_
    refine h_done (d_then rfl (d_reg ?_))
    refine h_q hflS rfl ?_
    refine h_val rfl (.int .u64 k2) (fun b w hb hH => exec_load rfl rfl (reads_one ty_uint64 rfl) (hH.row 0 rfl) hb) ?_
    refine h_act (post := fun _ => [cell g1 50 #[.int .i64 what, .int .u64 k2, .int .i64 v, .bool true], Tab 85 42 3 encU encI ltI p m K V, Tab 47 42 3 encU encI ltI r m K V]) rfl (a_does (os' := fun _ => [cell g1 50 #[.int .i64 what, .int .u64 k2, .int .i64 v, .bool true], Tab 85 42 3 encU encI ltI p m K V, Tab 47 42 3 encU encI ltI r m K V]) [1] 0 (ent_of Try.func30 (by kernel_rfl) rfl) (get_uint64_int p m K V k2 (a, c) hg) rfl rfl rfl (fun _ => rfl) rfl rfl rfl) ?_; rintro ⟨⟩
    refine h_q hflS rfl ?_
    refine h_done (d_reg ?_)
    refine h_q hflS rfl ?_
    refine h_val rfl (.int .u64 k2) (fun b w hb hH => exec_load rfl rfl (reads_one ty_uint64 rfl) (hH.row 0 rfl) hb) ?_
    refine h_act (post := fun _ => [cell g1 50 #[.int .i64 what, .int .u64 k2, .int .i64 v, .bool true], Tab 85 42 3 encU encI ltI p m K V, Tab 47 42 3 encU encI ltI r m K V]) rfl (a_does (os' := fun _ => [cell g1 50 #[.int .i64 what, .int .u64 k2, .int .i64 v, .bool true], Tab 85 42 3 encU encI ltI p m K V, Tab 47 42 3 encU encI ltI r m K V]) [2] 0 (ent_of Try.func42 (by kernel_rfl) rfl) (get_ref r m K V k2 (a, c) hg) rfl rfl rfl (fun _ => rfl) rfl rfl rfl) ?_; rintro ⟨⟩
    refine h_q hflS rfl ?_
    refine h_done (d_reg ?_)
    refine h_q hflS rfl ?_
    refine h_val rfl (.bool true) (fun b w hb hH => exec_cmp rfl rfl rfl (cmp_eql_t rfl) hb) ?_
    refine h_q hflS rfl ?_
    refine h_val rfl (.bool true) (fun b w hb hH => exec_eqs (eqB_same _) rfl rfl rfl hb) ?_
    refine h_q hflS rfl ?_
    refine h_done (d_ret (f_block_ret (f_then_ret ?_)))
    exact f_fin1 (.tmp rfl) (fun w h => tells (K, V) rfl [1, 2] rfl h same_parts) rfl
  · skip
    obtain ⟨⟨K1, V1, c⟩, hd⟩ : ∃ R, dropT ltI K V k2 = R := ⟨_, rfl⟩
    refine d_reg ?_
    refine h_q hflS rfl ?_
    refine h_val rfl (.bool false) (fun b w hb hH => exec_cmp rfl rfl rfl (cmp_eql_f (by omega)) hb) ?_
    refine h_q hflS rfl ?_
    refine h_done (d_else rfl (d_reg ?_))
    refine h_q hflS rfl ?_
    refine h_val rfl (.bool true) (fun b w hb hH => exec_cmp rfl rfl rfl (cmp_eql_t h5) hb) ?_
    refine h_q hflS rfl ?_
    refine h_done (d_then rfl (d_seq ?_))
    refine d_parS 9 2 [⟨.quiet, [none, none], fun _ => .pointer (some ⟨p, 0, none⟩), []⟩, ⟨.quiet, [none, none], fun _ => .pointer (some ⟨g1, 1, none⟩), []⟩, ⟨.quiet, [none, none], fun _ => .int .u64 k2, [1]⟩, ⟨.actv 0, [some false, some false], fun _ => .bool c, [0, 2]⟩, ⟨.quiet, [none, none], fun _ => .pointer (some ⟨r, 0, none⟩), []⟩, ⟨.quiet, [none, none], fun _ => .pointer (some ⟨g1, 1, none⟩), []⟩, ⟨.quiet, [none, none], fun _ => .int .u64 k2, [5]⟩, ⟨.actv 1, [some true, some false], fun _ => .bool c, [4, 6]⟩, ⟨.quiet, [some true, some true], fun _ => .bool true, [3, 7]⟩] [(0, .pointer (some ⟨p, 0, none⟩)), (1, .pointer (some ⟨r, 0, none⟩)), (5, .pointer (some ⟨g1, 0, none⟩)), (6, .bool false)] (fun ρ => match ρ with | [r0, r1] => [cell g1 50 #[.int .i64 what, .int .u64 k2, .int .i64 v, .bool true], selS r0 (fun _ => Tab 85 42 3 encU encI ltI p m K1 V1) (Tab 85 42 3 encU encI ltI p m K V), selS r1 (fun _ => Tab 47 42 3 encU encI ltI r m K1 V1) (Tab 47 42 3 encU encI ltI r m K V)] | _ => []) (by kernel_rfl) (by kernel_rfl) ⟨rfl, rfl, rfl, rfl, trivial⟩ rfl ?_ ?_
    · skip
      refine s_cons (by intro r0_ r1_; exact ⟨rfl, fun b w hH hb => exec_q1 hflS rfl hb⟩) ?_
      refine s_cons (by intro r0_ r1_; exact ⟨rfl, fun b w hH hb => exec_q1 hflS rfl hb⟩) ?_
      refine s_cons (by intro r0_ r1_; exact ⟨rfl, fun b w hH hb => exec_load rfl rfl (reads_one ty_uint64 rfl) (hH.row 0 rfl) hb⟩) ?_
      refine s_cons (by exact ⟨rfl, Acts.su (a_does (os' := fun _ => [cell g1 50 #[.int .i64 what, .int .u64 k2, .int .i64 v, .bool true], Tab 85 42 3 encU encI ltI p m K1 V1, Tab 47 42 3 encU encI ltI r m K V]) [1] 0 (ent_of Try.func28 (by kernel_rfl) rfl) (drop_uint64_int p m K V k2 (K1, V1, c) hd) rfl rfl rfl (fun _ => rfl) rfl rfl rfl) rfl⟩) ?_
      refine s_cons (by intro r0_ r1_; exact ⟨rfl, fun b w hH hb => exec_q1 hflS rfl hb⟩) ?_
      refine s_cons (by intro r0_ r1_; exact ⟨rfl, fun b w hH hb => exec_q1 hflS rfl hb⟩) ?_
      refine s_cons (by intro r0_ r1_; exact ⟨rfl, fun b w hH hb => exec_load rfl rfl (reads_one ty_uint64 rfl) (hH.row 0 rfl) hb⟩) ?_
      refine s_cons (by intro v0_; exact ⟨rfl, Acts.su (a_does (os' := fun _ => [cell g1 50 #[.int .i64 what, .int .u64 k2, .int .i64 v, .bool true], Tab 85 42 3 encU encI ltI p m K1 V1, Tab 47 42 3 encU encI ltI r m K1 V1]) [2] 0 (ent_of Try.func43 (by kernel_rfl) rfl) (drop_ref r m K V k2 (K1, V1, c) hd) rfl rfl rfl (fun _ => rfl) rfl rfl rfl) rfl⟩) ?_
      refine s_cons (by intro v0_ v1_; exact ⟨rfl, fun b w hH hb => exec_eqs (eqB_same _) rfl rfl rfl hb⟩) ?_
      exact s_nil
    intro v0_ v1_
    refine WL2.keep (env' := [(0, .pointer (some ⟨p, 0, none⟩)), (1, .pointer (some ⟨r, 0, none⟩)), (5, .pointer (some ⟨g1, 0, none⟩)), (6, .bool false), (54, .bool true)]) ⟨rfl, rfl, rfl, rfl, rfl, trivial⟩ ?_
    refine h_q hflS rfl ?_
    refine h_nil (f_to (d_ret (f_block_ret (f_then_ret ?_))))
    exact f_fin1 (.tmp rfl) (fun w h => tells (K1, V1) rfl [1, 2] rfl h same_parts) rfl
  · skip
    obtain ⟨⟨K1, V1, c⟩, hp⟩ : ∃ R, putT ltI m K V k2 v = R := ⟨_, rfl⟩
    refine d_reg ?_
    refine h_q hflS rfl ?_
    refine h_val rfl (.bool false) (fun b w hb hH => exec_cmp rfl rfl rfl (cmp_eql_f (by omega)) hb) ?_
    refine h_q hflS rfl ?_
    refine h_done (d_else rfl (d_reg ?_))
    refine h_q hflS rfl ?_
    refine h_val rfl (.bool false) (fun b w hb hH => exec_cmp rfl rfl rfl (cmp_eql_f (by omega)) hb) ?_
    refine h_q hflS rfl ?_
    refine h_done (d_else rfl (d_skip (f_block (f_to (d_seq ?_)))))
    refine d_parS 13 2 [⟨.quiet, [none, none], fun _ => .pointer (some ⟨p, 0, none⟩), []⟩, ⟨.quiet, [none, none], fun _ => .pointer (some ⟨g1, 1, none⟩), []⟩, ⟨.quiet, [none, none], fun _ => .int .u64 k2, [1]⟩, ⟨.quiet, [none, none], fun _ => .pointer (some ⟨g1, 2, none⟩), []⟩, ⟨.quiet, [none, none], fun _ => .int .i64 v, [3]⟩, ⟨.actv 0, [some false, some false], fun _ => .bool c, [0, 2, 4]⟩, ⟨.quiet, [none, none], fun _ => .pointer (some ⟨r, 0, none⟩), []⟩, ⟨.quiet, [none, none], fun _ => .pointer (some ⟨g1, 1, none⟩), []⟩, ⟨.quiet, [none, none], fun _ => .int .u64 k2, [7]⟩, ⟨.quiet, [none, none], fun _ => .pointer (some ⟨g1, 2, none⟩), []⟩, ⟨.quiet, [none, none], fun _ => .int .i64 v, [9]⟩, ⟨.actv 1, [some true, some false], fun _ => .bool c, [6, 8, 10]⟩, ⟨.quiet, [some true, some true], fun _ => .bool true, [5, 11]⟩] [(0, .pointer (some ⟨p, 0, none⟩)), (1, .pointer (some ⟨r, 0, none⟩)), (5, .pointer (some ⟨g1, 0, none⟩)), (6, .bool false)] (fun ρ => match ρ with | [r0, r1] => [cell g1 50 #[.int .i64 what, .int .u64 k2, .int .i64 v, .bool true], selS r0 (fun _ => Tab 85 42 3 encU encI ltI p m K1 V1) (Tab 85 42 3 encU encI ltI p m K V), selS r1 (fun _ => Tab 47 42 3 encU encI ltI r m K1 V1) (Tab 47 42 3 encU encI ltI r m K V)] | _ => []) (by kernel_rfl) (by kernel_rfl) ⟨rfl, rfl, rfl, rfl, trivial⟩ rfl ?_ ?_
    · skip
      refine s_cons (by intro r0_ r1_; exact ⟨rfl, fun b w hH hb => exec_q1 hflS rfl hb⟩) ?_
      refine s_cons (by intro r0_ r1_; exact ⟨rfl, fun b w hH hb => exec_q1 hflS rfl hb⟩) ?_
      refine s_cons (by intro r0_ r1_; exact ⟨rfl, fun b w hH hb => exec_load rfl rfl (reads_one ty_uint64 rfl) (hH.row 0 rfl) hb⟩) ?_
      refine s_cons (by intro r0_ r1_; exact ⟨rfl, fun b w hH hb => exec_q1 hflS rfl hb⟩) ?_
      refine s_cons (by intro r0_ r1_; exact ⟨rfl, fun b w hH hb => exec_load rfl rfl (reads_one ty_int rfl) (hH.row 0 rfl) hb⟩) ?_
      refine s_cons (by exact ⟨rfl, Acts.su (a_does (os' := fun _ => [cell g1 50 #[.int .i64 what, .int .u64 k2, .int .i64 v, .bool true], Tab 85 42 3 encU encI ltI p m K1 V1, Tab 47 42 3 encU encI ltI r m K V]) [1] 0 (ent_of Try.func25 (by kernel_rfl) rfl) (put_uint64_int p m K V k2 v (K1, V1, c) hp) rfl rfl rfl (fun _ => rfl) rfl rfl rfl) rfl⟩) ?_
      refine s_cons (by intro r0_ r1_; exact ⟨rfl, fun b w hH hb => exec_q1 hflS rfl hb⟩) ?_
      refine s_cons (by intro r0_ r1_; exact ⟨rfl, fun b w hH hb => exec_q1 hflS rfl hb⟩) ?_
      refine s_cons (by intro r0_ r1_; exact ⟨rfl, fun b w hH hb => exec_load rfl rfl (reads_one ty_uint64 rfl) (hH.row 0 rfl) hb⟩) ?_
      refine s_cons (by intro r0_ r1_; exact ⟨rfl, fun b w hH hb => exec_q1 hflS rfl hb⟩) ?_
      refine s_cons (by intro r0_ r1_; exact ⟨rfl, fun b w hH hb => exec_load rfl rfl (reads_one ty_int rfl) (hH.row 0 rfl) hb⟩) ?_
      refine s_cons (by intro v0_; exact ⟨rfl, Acts.su (a_does (os' := fun _ => [cell g1 50 #[.int .i64 what, .int .u64 k2, .int .i64 v, .bool true], Tab 85 42 3 encU encI ltI p m K1 V1, Tab 47 42 3 encU encI ltI r m K1 V1]) [2] 0 (ent_of Try.func44 (by kernel_rfl) rfl) (put_ref r m K V k2 v (K1, V1, c) hp) rfl rfl rfl (fun _ => rfl) rfl rfl rfl) rfl⟩) ?_
      refine s_cons (by intro v0_ v1_; exact ⟨rfl, fun b w hH hb => exec_eqs (eqB_same _) rfl rfl rfl hb⟩) ?_
      exact s_nil
    intro v0_ v1_
    refine WL2.keep (env' := [(6, .bool false), (67, .bool true)]) ⟨rfl, rfl, trivial⟩ ?_
    refine h_q hflS rfl ?_
    refine h_nil (f_to (d_ret ?_))
    exact f_fin1 (.tmp rfl) (fun w h => tells (K1, V1) rfl [1, 2] rfl h same_parts) rfl

theorem run_any (p r : Nat) (m : Int) (K V : List Int) (x : StepD) (h1 : -9223372036854775808 ≤ x.what ∧ x.what ≤ 9223372036854775807) : Does Try.prog 18 #[.pointer (some ⟨p, 0, none⟩), .pointer (some ⟨r, 0, none⟩), .agg (encT x).toArray] [Tab 85 42 3 encU encI ltI p m K V, Tab 47 42 3 encU encI ltI r m K V] (fun (y : List Int × List Int) => .bool true) (fun (y : List Int × List Int) => [Tab 85 42 3 encU encI ltI p m y.1 y.2, Tab 47 42 3 encU encI ltI r m y.1 y.2]) := by
  obtain ⟨what, k, v, near⟩ := x
  cases near with
  | false => exact run_far p r m K V what k v h1
  | true => exact run_near p r m K V what k v h1 _ rfl
/-- what a step has found, as a value -/
def codeY (x : List Int × List Int × Value × Value) : Value := .tuple #[.tuple (x.1.map fun z => Value.int .i64 z).toArray, .tuple (x.2.1.map fun z => Value.int .i64 z).toArray, x.2.2.1, x.2.2.2]
def intOf (v : Value) : Option Int := match v with | .int _ z => some z | _ => none
def intsY (v : Value) : List Int := match v with | .tuple l => l.toList.filterMap intOf | _ => []
def decL (l : List Value) : List Int × List Int × Value × Value := match l with | [a, b, c, d] => (intsY a, intsY b, c, d) | _ => ([], [], undef, undef)
def decY (v : Value) : List Int × List Int × Value × Value := match v with | .tuple l => decL l.toList | _ => ([], [], undef, undef)
theorem ints_map : ∀ l : List Int, (l.map fun z => Value.int .i64 z).filterMap intOf = l
  | [] => rfl
  | x :: r => by
    have h : intOf (.int .i64 x) = some x := rfl
    rw [List.map_cons, List.filterMap_cons_some h, ints_map r]
theorem decY_code (x : List Int × List Int × Value × Value) : decY (codeY x) = x := by
  obtain ⟨a, b, c, d⟩ := x
  show (List.filterMap intOf (a.map fun z => Value.int .i64 z), List.filterMap intOf (b.map fun z => Value.int .i64 z), c, d) = (a, b, c, d)
  rw [ints_map, ints_map]
theorem run_open (p r : Nat) (m : Int) (K V : List Int) (kv vv : Value) (x : StepD) (h1 : -9223372036854775808 ≤ x.what ∧ x.what ≤ 9223372036854775807) : Does Try.prog 18 #[.pointer (some ⟨p, 0, none⟩), .pointer (some ⟨r, 0, none⟩), .agg (encT x).toArray] [Tab 85 42 3 encU encI ltI p m K V, cell r 47 #[.int .i64 m, kv, vv], Vec 42 1 encU kv K, Vec 3 1 encI vv V] (fun (_ : Value) => .bool true) (fun (y : Value) => [Tab 85 42 3 encU encI ltI p m ((decY y).1) ((decY y).2.1), cell r 47 #[.int .i64 m, (decY y).2.2.1, (decY y).2.2.2], Vec 42 1 encU ((decY y).2.2.1) ((decY y).1), Vec 3 1 encI ((decY y).2.2.2) ((decY y).2.1)]) := by
  have h2 := (run_any p r m K V x h1).imp (pre' := [Tab 85 42 3 encU encI ltI p m K V, cell r 47 #[.int .i64 m, kv, vv], Vec 42 1 encU kv K, Vec 3 1 encI vv V]) (fun rs hz => by
    obtain ⟨a, b, e, hT, c, d, e2, hc, f, g, e3, hk, hv⟩ := hz
    exact ⟨rs, .refl _, ⟨a, b, e, hT, Parts.one (Tab.mk_ (Tab.ok _ hT) ⟨c, d, e2, hc, f, g, e3, hk, hv⟩)⟩⟩)
  intro w rs hz hr hd
  refine (h2 w rs hz hr hd).mono ?_
  rintro e w' ⟨⟨K1, V1⟩, he, y, ⟨a, b, e1, hT, hR⟩, hc⟩
  obtain ⟨kv1, vv1, hz1, hk⟩ := hR.one'
  refine ⟨codeY (K1, V1, kv1, vv1), he, y, ?_, hc⟩
  dsimp only
  rw [decY_code]
  exact ⟨a, b, e1, hT, hz1⟩
end Go.Proofs.Ytmlfgdedhhmkpaa.Sep
