/-
  TabV
-/
import Derived.Test.YtmlfgdedhhmkpaaE01
set_option linter.unusedSimpArgs false
set_option linter.unusedVariables false

namespace Go.Proofs.Ytmlfgdedhhmkpaa.Sep
open Go.RowKit
open Go.Proofs.Ytmlfgdedhhmkpaa.Mem (Dist Blk Chg below0)

set_option maxRecDepth 100000 in
theorem plays_true (w : World) (most : Int) (sl : Value) (l : List StepD) (h1 : -9223372036854775808 ≤ most ∧ most ≤ 9223372036854775807) (hl : SlRd w 4 sl l.length (flat encT l)) (hll : l.length ≤ 9223372036854775807) (hlo : ∀ y ∈ l, y.ok) : Calls Try.prog 4 #[.int .i64 most, sl] w fun e w' => e = .returned (.bool true) ∧ Below w.heap.size w w' := by
  refine d_in (args := [.int .i64 most, sl]) 112 Try.func4 rfl rfl rfl ?_
  refine d_reg ?_
  refine h_q hflS rfl ?_
  refine h_done ?_
  by_cases hm : 1 ≤ most ∧ most ≤ 4096
  · skip
    refine d_reg ?_
    refine h_q hflS rfl ?_
    refine h_act (post := fun g => [Tab 85 42 3 encU encI ltI g most ([]) ([])]) rfl (a_does (os' := fun g => [Tab 85 42 3 encU encI ltI g most ([]) ([])]) [] 0 (ent_of Try.func17 (by kernel_rfl) rfl) (new_uint64_int most hm) rfl rfl rfl (fun _ => rfl) rfl rfl rfl) ?_; rintro g
    refine h_q hflS rfl ?_
    refine h_done (d_seq (d_reg ?_))
    refine h_q hflS rfl ?_
    refine h_act (post := fun _ => [Tab 85 42 3 encU encI ltI g most ([]) ([])]) rfl (a_call (ent_of Try.func11 (by kernel_rfl) rfl) (fun w hH => known_true w) rfl rfl rfl) ?_; rintro ⟨⟩
    refine h_q hflS rfl ?_
    refine h_done (d_else rfl (d_skip (f_to (d_seq (d_reg ?_)))))
    refine h_q hflS rfl ?_
    refine h_val rfl (.bool false) (fun b w hb hH => exec_cmp rfl rfl rfl (cmp_lss_f (by omega)) hb) ?_
    refine h_q hflS rfl ?_
    refine h_val rfl (.bool false) (fun b w hb hH => exec_cmp rfl rfl rfl (cmp_gtr_f (by omega)) hb) ?_
    refine h_q hflS rfl ?_
    refine h_done (d_else rfl (d_skip (f_to (d_seq (d_reg ?_)))))
    refine h_q hflS rfl ?_
    refine h_val rfl (.bool false) (fun b w hb hH => exec_cmp rfl rfl rfl (cmp_neq_f (by decide)) hb) ?_
    refine h_q hflS rfl ?_
    refine h_val rfl (.bool false) (fun b w hb hH => exec_pnil_eql (by kernel_rfl) rfl rfl rfl hb) ?_
    refine h_q hflS rfl ?_
    refine h_done (d_else rfl (d_skip (f_to (d_reg ?_))))
    refine h_q hflS rfl ?_
    refine h_val rfl (.agg #[.int .i64 most, .slice none 0 0, .slice none 0 0]) (fun b w hb hH => exec_build rfl rfl (by kernel_rfl) hb) ?_
    refine h_act (post := fun gr => [cell gr 47 #[.int .i64 most, .slice none 0 0, .slice none 0 0], Tab 85 42 3 encU encI ltI g most ([]) ([])]) rfl (a_box (cs := #[.int .i64 most, .slice none 0 0, .slice none 0 0]) rfl rfl rfl) ?_; rintro gr
    refine h_q hflS rfl ?_
    refine h_done (d_seq ?_)
    refine d_nilvec 3 1 encI ?_
    refine d_nilvec 42 1 encU ?_
    refine d_reg ?_
    refine h_q hflS rfl ?_
    refine h_done (d_block ?_)
    refine d_loop (α := Nat × List Int × List Int × Value × Value) (fun ⟨i, K, V, kv, vv⟩ => [(1, sl), (4, .bool false), (5, .pointer (some ⟨g, 0, none⟩)), (7, .pointer (some ⟨gr, 0, none⟩)), (8, .int .i64 ((i : Nat) : Int))]) (fun ⟨i, K, V, kv, vv⟩ => [Vec 42 1 encU kv K, Vec 3 1 encI vv V, cell gr 47 #[.int .i64 most, kv, vv], Tab 85 42 3 encU encI ltI g most K V]) (fun ⟨i, K, V, kv, vv⟩ => i ≤ 600) (fun ⟨i, K, V, kv, vv⟩ => 601 - i) (0, [], [], .slice none 0 0, .slice none 0 0) (show 0 ≤ 600 by decide) ⟨rfl, rfl, rfl, rfl, rfl, trivial⟩ rfl ?_
    rintro ⟨i, K, V, kv, vv⟩ hI
    refine WC2.at_ (env' := [(1, sl), (4, .bool false), (5, .pointer (some ⟨g, 0, none⟩)), (7, .pointer (some ⟨gr, 0, none⟩)), (8, .int .i64 ((i : Nat) : Int))]) (rs' := [Vec 42 1 encU kv K, Vec 3 1 encI vv V, cell gr 47 #[.int .i64 most, kv, vv], Tab 85 42 3 encU encI ltI g most K V]) ⟨rfl, rfl, rfl, rfl, rfl, trivial⟩ rfl ?_
    have hI1 : i ≤ 600 := hI
    refine d_seq ?_
    have h3 : (i < l.length ∧ i < 600) ∨ ¬ i < l.length ∨ (i < l.length ∧ ¬ i < 600) := by omega
    rcases h3 with ⟨h4, h5⟩ | h4 | ⟨h4, h5⟩
    · skip
      obtain ⟨x, hx⟩ : ∃ x, l[i]? = some x := ⟨_, List.getElem?_eq_getElem h4⟩
      have hxo := (hlo x (List.mem_of_getElem? hx)).1
      refine d_reg ?_
      refine h_q hflS rfl ?_
      refine h_val rfl (.int .i64 (l.length : Int)) (fun b w hb hH => e_slen (arg_rd hl hH) Try.underlying38 rfl rfl hb) ?_
      refine h_val rfl (.bool true) (fun b w hb hH => exec_cmp rfl rfl rfl (cmp_lss_t (by omega)) hb) ?_
      refine h_q hflS rfl ?_
      refine h_val rfl (.bool true) (fun b w hb hH => exec_cmp rfl rfl rfl (cmp_lss_t (by omega)) hb) ?_
      refine h_q hflS rfl ?_
      refine h_done (d_then rfl (d_skip (f_to (d_seq (d_block (d_seq ?_))))))
      refine d_parS 18 2 [⟨.quiet, [none, none], fun _ => .pointer (some ⟨g, 0, none⟩), []⟩, ⟨.quiet, [none, none], fun _ => .pointer (some ⟨gr, 0, none⟩), []⟩, ⟨.quiet, [none, none], fun _ => sl, []⟩, ⟨.quiet, [none, none], fun _ => .int .i64 ((i : Nat) : Int), []⟩, ⟨.quiet, [none, none], fun _ => elp sl (i * 4), [2, 3]⟩, ⟨.quiet, [none, none], fun _ => .agg (encT x).toArray, [4]⟩, ⟨.actv 0, [some false, some false], fun _ => .bool true, [0, 1, 5]⟩, ⟨.quiet, [some true, none], fun _ => .bool false, [6]⟩, ⟨.quiet, [some true, none], fun _ => .bool false, [7]⟩, ⟨.quiet, [some true, none], fun _ => .pointer (some ⟨g, 0, none⟩), [8]⟩, ⟨.actv 1, [some true, some false], fun ρ => match ρ with | [some y, _] => .int .i64 (((decY y).1).length : Int) | _ => undef, [9, 8]⟩, ⟨.quiet, [some true, none], fun _ => .pointer (some ⟨gr, 0, none⟩), [8]⟩, ⟨.quiet, [some true, none], fun _ => .pointer (some ⟨gr, 0, none⟩), [11, 8]⟩, ⟨.quiet, [some true, none], fun _ => .pointer (some ⟨gr, 1, none⟩), [12, 8]⟩, ⟨.quiet, [some true, none], fun ρ => match ρ with | [some y, _] => (decY y).2.2.1 | _ => undef, [13, 8]⟩, ⟨.quiet, [some true, none], fun ρ => match ρ with | [some y, _] => .int .i64 (((decY y).1).length : Int) | _ => undef, [14, 8]⟩, ⟨.quiet, [some true, some true], fun _ => .bool false, [10, 15, 8]⟩, ⟨.quiet, [some true, some true], fun _ => .bool false, [8, 16]⟩] [(1, sl), (4, .bool false), (5, .pointer (some ⟨g, 0, none⟩)), (7, .pointer (some ⟨gr, 0, none⟩)), (8, .int .i64 ((i : Nat) : Int)), (41, .int .i64 ((i : Nat) : Int)), (42, sl), (43, .int .i64 (l.length : Int)), (44, .bool true), (45, .bool true), (46, .int .i64 ((i : Nat) : Int)), (47, .bool true), (48, .bool true)] (fun ρ => match ρ with | [r0, r1] => [selS r0 (fun y => Vec 42 1 encU ((decY y).2.2.1) ((decY y).1)) (Vec 42 1 encU kv K), selS r0 (fun y => Vec 3 1 encI ((decY y).2.2.2) ((decY y).2.1)) (Vec 3 1 encI vv V), selS r0 (fun y => cell gr 47 #[.int .i64 most, (decY y).2.2.1, (decY y).2.2.2]) (cell gr 47 #[.int .i64 most, kv, vv]), selS r0 (fun y => Tab 85 42 3 encU encI ltI g most ((decY y).1) ((decY y).2.1)) (Tab 85 42 3 encU encI ltI g most K V)] | _ => []) (by kernel_rfl) (by kernel_rfl) ⟨rfl, rfl, rfl, rfl, rfl, rfl, rfl, rfl, rfl, rfl, rfl, rfl, rfl, trivial⟩ rfl ?_ ?_
      · skip
        refine s_cons (by intro r0_ r1_; exact ⟨rfl, fun b w hH hb => exec_q1 hflS rfl hb⟩) ?_
        refine s_cons (by intro r0_ r1_; exact ⟨rfl, fun b w hH hb => exec_q1 hflS rfl hb⟩) ?_
        refine s_cons (by intro r0_ r1_; exact ⟨rfl, fun b w hH hb => exec_q1 hflS rfl hb⟩) ?_
        refine s_cons (by intro r0_ r1_; exact ⟨rfl, fun b w hH hb => exec_q1 hflS rfl hb⟩) ?_
        refine s_cons (by intro r0_ r1_; exact ⟨rfl, fun b w hH hb => e_sidx okT (arg_rd hl hH) sl_bursarlaw4_Step (j := i) hx rfl rfl rfl hb⟩) ?_
        refine s_cons (by intro r0_ r1_; exact ⟨rfl, fun b w hH hb => e_sagg okT (by decide) (arg_rd hl hH) (j := i) hx ty_bursarlaw4_Step rfl rfl hb⟩) ?_
        refine s_cons (by exact ⟨rfl, Acts.sw (a_does (os' := fun y => [Vec 42 1 encU ((decY y).2.2.1) ((decY y).1), Vec 3 1 encI ((decY y).2.2.2) ((decY y).2.1), cell gr 47 #[.int .i64 most, (decY y).2.2.1, (decY y).2.2.2], Tab 85 42 3 encU encI ltI g most ((decY y).1) ((decY y).2.1)]) [3, 2, 0, 1] 0 (ent_of Try.func18 (by kernel_rfl) rfl) (run_open g gr most K V kv vv x hxo) rfl rfl rfl (fun _ => rfl) rfl rfl rfl) (fun _ => rfl)⟩) ?_
        refine s_cons (by intro y r1_; exact ⟨rfl, fun b w hH hb => exec_q1 hflS rfl hb⟩) ?_
        refine s_cons (by intro y r1_; exact ⟨rfl, fun b w hH hb => exec_q1 hflS rfl hb⟩) ?_
        refine s_cons (by intro y r1_; exact ⟨rfl, fun b w hH hb => exec_q1 hflS rfl hb⟩) ?_
        refine s_cons (by intro y; exact ⟨rfl, Acts.su (a_does (os' := fun _ => [Vec 42 1 encU ((decY y).2.2.1) ((decY y).1), Vec 3 1 encI ((decY y).2.2.2) ((decY y).2.1), cell gr 47 #[.int .i64 most, (decY y).2.2.1, (decY y).2.2.2], Tab 85 42 3 encU encI ltI g most ((decY y).1) ((decY y).2.1)]) [3] 0 (ent_of Try.func19 (by kernel_rfl) rfl) (len_uint64_int g most ((decY y).1) ((decY y).2.1)) rfl rfl rfl (fun _ => rfl) rfl rfl rfl) rfl⟩) ?_
        refine s_cons (by intro y r1_; exact ⟨rfl, fun b w hH hb => exec_q1 hflS rfl hb⟩) ?_
        refine s_cons (by intro y r1_; exact ⟨rfl, fun b w hH hb => by exact exec_nilCheck rfl rfl hb⟩) ?_
        refine s_cons (by intro y r1_; exact ⟨rfl, fun b w hH hb => exec_q1 hflS rfl hb⟩) ?_
        refine s_cons (by intro y r1_; exact ⟨rfl, fun b w hH hb => exec_load rfl rfl (reads_one ty_s_uint64 rfl) (hH.row 2 rfl) hb⟩) ?_
        refine s_cons (by intro y r1_; exact ⟨rfl, fun b w hH hb => e_vlen 0 Try.underlying44 rfl rfl rfl hH hb⟩) ?_
        refine s_cons (by intro y v1_; exact ⟨rfl, fun b w hH hb => exec_cmp rfl rfl rfl (cmp_neq_f (by simp)) hb⟩) ?_
        refine s_cons (by intro y v1_; exact ⟨rfl, fun b w hH hb => exec_q1 hflS rfl hb⟩) ?_
        exact s_nil
      intro y v1_
      refine WL2.keep (env' := [(1, sl), (4, .bool false), (5, .pointer (some ⟨g, 0, none⟩)), (7, .pointer (some ⟨gr, 0, none⟩)), (8, .int .i64 ((i : Nat) : Int)), (41, .int .i64 ((i : Nat) : Int)), (42, sl), (43, .int .i64 (l.length : Int)), (44, .bool true), (45, .bool true), (46, .int .i64 ((i : Nat) : Int)), (47, .bool true), (48, .bool true), (51, .pointer (some ⟨g, 0, none⟩)), (52, .pointer (some ⟨gr, 0, none⟩)), (53, sl), (54, .int .i64 ((i : Nat) : Int)), (55, elp sl (i * 4)), (56, .agg (encT x).toArray), (57, .bool true), (58, .bool false), (59, .bool false), (60, .pointer (some ⟨g, 0, none⟩)), (61, .int .i64 (((decY y).1).length : Int)), (62, .pointer (some ⟨gr, 0, none⟩)), (63, .pointer (some ⟨gr, 0, none⟩)), (64, .pointer (some ⟨gr, 1, none⟩)), (65, (decY y).2.2.1), (66, .int .i64 (((decY y).1).length : Int)), (67, .bool false), (68, .bool false)]) ⟨rfl, rfl, rfl, rfl, rfl, rfl, rfl, rfl, rfl, rfl, rfl, rfl, rfl, rfl, rfl, rfl, rfl, rfl, rfl, rfl, rfl, rfl, rfl, rfl, rfl, rfl, rfl, rfl, rfl, rfl, rfl, trivial⟩ ?_
      refine h_nil (f_to (d_else rfl (d_skip (f_block (f_to (d_reg1 ?_))))))
      refine h_q hflS rfl ?_
      refine h_val rfl (.int .i64 ((i + 1 : Nat) : Int)) (fun b w hb hH => exec_ar rfl rfl rfl rfl (by rw [IntWalk.i64_in _ (by omega)]; omega) hb) ?_
      refine h_q hflS rfl ?_
      refine h_nil ?_
      exact f_again (i + 1, (decY y).1, (decY y).2.1, (decY y).2.2.1, (decY y).2.2.2) 0 (show i + 1 ≤ 600 by omega) (show 601 - (i + 1) < 601 - i by omega) ⟨rfl, rfl, rfl, rfl, rfl, trivial⟩ rfl
    · skip
      refine WC2.fact 3 rfl Tab.ok ?_; rintro hT
      have hVK := hT.len
      have hKm := hT.le
      have hK40 : K.length ≤ 1099511627776 := by omega
      refine d_reg ?_
      refine h_q hflS rfl ?_
      refine h_val rfl (.int .i64 (l.length : Int)) (fun b w hb hH => e_slen (arg_rd hl hH) Try.underlying38 rfl rfl hb) ?_
      refine h_val rfl (.bool false) (fun b w hb hH => exec_cmp rfl rfl rfl (cmp_lss_f (by omega)) hb) ?_
      refine h_q hflS rfl ?_
      refine h_done (d_else rfl (d_exit (f_then_exit (f_then_exit (f_block_exit (f_to (d_reg ?_)))))))
      refine h_q hflS rfl ?_
      refine h_act (post := fun uk => [Vec 42 1 encU uk K, Vec 42 1 encU kv K, Vec 3 1 encI vv V, cell gr 47 #[.int .i64 most, kv, vv], Tab 85 42 3 encU encI ltI g most K V]) rfl (a_does (os' := fun uk => [Vec 42 1 encU uk K, Vec 42 1 encU kv K, Vec 3 1 encI vv V, cell gr 47 #[.int .i64 most, kv, vv], Tab 85 42 3 encU encI ltI g most K V]) [3] 0 (ent_of Try.func20 (by kernel_rfl) rfl) (keys_uint64_int g most K V) rfl rfl rfl (fun _ => rfl) rfl rfl rfl) ?_; rintro uk
      refine h_q hflS rfl ?_
      refine h_done (d_reg ?_)
      refine h_q hflS rfl ?_
      refine h_act (post := fun uv => [Vec 3 1 encI uv V, Vec 42 1 encU uk K, Vec 42 1 encU kv K, Vec 3 1 encI vv V, cell gr 47 #[.int .i64 most, kv, vv], Tab 85 42 3 encU encI ltI g most K V]) rfl (a_does (os' := fun uv => [Vec 3 1 encI uv V, Vec 42 1 encU uk K, Vec 42 1 encU kv K, Vec 3 1 encI vv V, cell gr 47 #[.int .i64 most, kv, vv], Tab 85 42 3 encU encI ltI g most K V]) [4] 0 (ent_of Try.func21 (by kernel_rfl) rfl) (values_uint64_int g most K V) rfl rfl rfl (fun _ => rfl) rfl rfl rfl) ?_; rintro uv
      refine h_q hflS rfl ?_
      refine h_done (d_seq ?_)
      refine d_parS 11 1 [⟨.quiet, [none], fun _ => uk, []⟩, ⟨.quiet, [none], fun _ => uv, []⟩, ⟨.quiet, [none], fun _ => .pointer (some ⟨gr, 0, none⟩), []⟩, ⟨.quiet, [none], fun _ => .pointer (some ⟨gr, 0, none⟩), [2]⟩, ⟨.quiet, [none], fun _ => .pointer (some ⟨gr, 1, none⟩), [3]⟩, ⟨.quiet, [none], fun _ => kv, [4]⟩, ⟨.quiet, [none], fun _ => .pointer (some ⟨gr, 0, none⟩), []⟩, ⟨.quiet, [none], fun _ => .pointer (some ⟨gr, 0, none⟩), [6]⟩, ⟨.quiet, [none], fun _ => .pointer (some ⟨gr, 2, none⟩), [7]⟩, ⟨.quiet, [none], fun _ => vv, [8]⟩, ⟨.actv 0, [some false], fun _ => .bool true, [0, 1, 5, 9]⟩] [(4, .bool false), (5, .pointer (some ⟨g, 0, none⟩)), (7, .pointer (some ⟨gr, 0, none⟩)), (9, uk), (10, uv)] (fun ρ => match ρ with | [r0] => [Vec 3 1 encI uv V, Vec 42 1 encU uk K, Vec 42 1 encU kv K, Vec 3 1 encI vv V, cell gr 47 #[.int .i64 most, kv, vv], Tab 85 42 3 encU encI ltI g most K V] | _ => []) (by kernel_rfl) (by kernel_rfl) ⟨rfl, rfl, rfl, rfl, rfl, trivial⟩ rfl ?_ ?_
      · skip
        refine s_cons (by intro r0_; exact ⟨rfl, fun b w hH hb => exec_q1 hflS rfl hb⟩) ?_
        refine s_cons (by intro r0_; exact ⟨rfl, fun b w hH hb => exec_q1 hflS rfl hb⟩) ?_
        refine s_cons (by intro r0_; exact ⟨rfl, fun b w hH hb => exec_q1 hflS rfl hb⟩) ?_
        refine s_cons (by intro r0_; exact ⟨rfl, fun b w hH hb => by exact exec_nilCheck rfl rfl hb⟩) ?_
        refine s_cons (by intro r0_; exact ⟨rfl, fun b w hH hb => exec_q1 hflS rfl hb⟩) ?_
        refine s_cons (by intro r0_; exact ⟨rfl, fun b w hH hb => exec_load rfl rfl (reads_one ty_s_uint64 rfl) (hH.row 4 rfl) hb⟩) ?_
        refine s_cons (by intro r0_; exact ⟨rfl, fun b w hH hb => exec_q1 hflS rfl hb⟩) ?_
        refine s_cons (by intro r0_; exact ⟨rfl, fun b w hH hb => by exact exec_nilCheck rfl rfl hb⟩) ?_
        refine s_cons (by intro r0_; exact ⟨rfl, fun b w hH hb => exec_q1 hflS rfl hb⟩) ?_
        refine s_cons (by intro r0_; exact ⟨rfl, fun b w hH hb => exec_load rfl rfl (reads_one ty_s_int rfl) (hH.row 4 rfl) hb⟩) ?_
        refine s_cons (by exact ⟨rfl, Acts.su (a_does (os' := fun _ => [Vec 3 1 encI uv V, Vec 42 1 encU uk K, Vec 42 1 encU kv K, Vec 3 1 encI vv V, cell gr 47 #[.int .i64 most, kv, vv], Tab 85 42 3 encU encI ltI g most K V]) [1, 0, 2, 3] 0 (ent_of Try.func22 (by kernel_rfl) rfl) (same_true (Vec 42 1 encU uk K) (Vec 3 1 encI uv V) (Vec 42 1 encU kv K) (Vec 3 1 encI vv V) uk uv kv vv K V (fun rs w h1 h2 => h1.all okU h2) (fun rs w h1 h2 => h1.all okI h2) (fun rs w h1 h2 => h1.all okU h2) (fun rs w h1 h2 => h1.all okI h2) hVK hK40) rfl rfl rfl (fun _ => rfl) rfl rfl rfl) rfl⟩) ?_
        exact s_nil
      intro v0_
      refine WL2.keep (env' := [(4, .bool false), (5, .pointer (some ⟨g, 0, none⟩)), (7, .pointer (some ⟨gr, 0, none⟩)), (9, uk), (10, uv), (83, .bool true)]) ⟨rfl, rfl, rfl, rfl, rfl, rfl, trivial⟩ ?_
      refine h_q hflS rfl ?_
      refine h_nil (f_to (d_seq (d_reg ?_)))
      refine h_q hflS rfl ?_
      refine h_done (d_block ?_)
      refine d_loop (α := Nat × List Int × List Int) (fun ⟨j, A, C⟩ => [(4, .bool false), (5, .pointer (some ⟨g, 0, none⟩)), (7, .pointer (some ⟨gr, 0, none⟩)), (9, uk), (10, uv), (11, .bool true), (12, .int .i64 ((j : Nat) : Int))]) (fun ⟨j, A, C⟩ => [Vec 3 1 encI uv C, Vec 42 1 encU uk A, Vec 42 1 encU kv K, Vec 3 1 encI vv V, cell gr 47 #[.int .i64 most, kv, vv], Tab 85 42 3 encU encI ltI g most K V]) (fun ⟨j, A, C⟩ => A.length = K.length ∧ C.length = K.length) (fun ⟨j, A, C⟩ => K.length - j) (0, K, V) ⟨rfl, hVK⟩ ⟨rfl, rfl, rfl, rfl, rfl, rfl, rfl, trivial⟩ rfl ?_
      rintro ⟨j, A, C⟩ hJ
      refine WC2.at_ (env' := [(4, .bool false), (5, .pointer (some ⟨g, 0, none⟩)), (7, .pointer (some ⟨gr, 0, none⟩)), (9, uk), (10, uv), (11, .bool true), (12, .int .i64 ((j : Nat) : Int))]) (rs' := [Vec 3 1 encI uv C, Vec 42 1 encU uk A, Vec 42 1 encU kv K, Vec 3 1 encI vv V, cell gr 47 #[.int .i64 most, kv, vv], Tab 85 42 3 encU encI ltI g most K V]) ⟨rfl, rfl, rfl, rfl, rfl, rfl, rfl, trivial⟩ rfl ?_
      have hJ1 : A.length = K.length := hJ.1
      have hJ2 : C.length = K.length := hJ.2
      refine d_seq ?_
      rcases Nat.lt_or_ge j K.length with h6 | h6
      · skip
        refine d_reg ?_
        refine h_q hflS rfl ?_
        refine h_val rfl (.int .i64 (A.length : Int)) (fun b w hb hH => e_vlen 1 Try.underlying44 rfl rfl rfl hH hb) ?_
        refine h_val rfl (.bool true) (fun b w hb hH => exec_cmp rfl rfl rfl (cmp_lss_t (by omega)) hb) ?_
        refine h_done (d_then rfl (d_skip (f_to (d_seq (d_block (d_reg ?_))))))
        refine h_q hflS rfl ?_
        refine h_val rfl (elp uk (j * 1)) (fun b w hb hH => e_vidx 1 sl_uint64 okU rfl j (by omega) rfl rfl rfl hH hb) ?_
        refine h_acts (post := fun _ => [Vec 3 1 encI uv C, Vec 42 1 encU uk (A.set j 9223372036854775808), Vec 42 1 encU kv K, Vec 3 1 encI vv V, cell gr 47 #[.int .i64 most, kv, vv], Tab 85 42 3 encU encI ltI g most K V]) rfl rfl (a_vstore1 1 ty_uint64 okU rfl j (by omega) 9223372036854775808 rfl rfl rfl rfl rfl) ?_; rintro ⟨⟩
        refine h_done (d_reg1 ?_)
        refine h_q hflS rfl ?_
        refine h_val rfl (elp uv (j * 1)) (fun b w hb hH => e_vidx 0 sl_int okI rfl j (by omega) rfl rfl rfl hH hb) ?_
        refine h_acts (post := fun _ => [Vec 3 1 encI uv (C.set j (-77)), Vec 42 1 encU uk (A.set j 9223372036854775808), Vec 42 1 encU kv K, Vec 3 1 encI vv V, cell gr 47 #[.int .i64 most, kv, vv], Tab 85 42 3 encU encI ltI g most K V]) rfl rfl (a_vstore1 0 ty_int okI rfl j (by omega) (-77) rfl rfl rfl rfl rfl) ?_; rintro ⟨⟩
        refine h_nil (f_block (f_to (d_reg1 ?_)))
        refine h_q hflS rfl ?_
        refine h_val rfl (.int .i64 ((j + 1 : Nat) : Int)) (fun b w hb hH => exec_ar rfl rfl rfl rfl (by rw [IntWalk.i64_in _ (by omega)]; omega) hb) ?_
        refine h_q hflS rfl ?_
        refine h_nil ?_
        exact f_again (j + 1, A.set j 9223372036854775808, C.set j (-77)) 0 ⟨by rw [List.length_set]; exact hJ1, by rw [List.length_set]; exact hJ2⟩ (show K.length - (j + 1) < K.length - j by omega) ⟨rfl, rfl, rfl, rfl, rfl, rfl, rfl, trivial⟩ rfl
      · skip
        refine d_reg ?_
        refine h_q hflS rfl ?_
        refine h_val rfl (.int .i64 (A.length : Int)) (fun b w hb hH => e_vlen 1 Try.underlying44 rfl rfl rfl hH hb) ?_
        refine h_val rfl (.bool false) (fun b w hb hH => exec_cmp rfl rfl rfl (cmp_lss_f (by omega)) hb) ?_
        refine h_done (d_else rfl (d_exit (f_then_exit (f_then_exit (f_block_exit (f_to (d_seq ?_)))))))
        refine d_emps 2 rfl ?_
        refine d_parS 16 3 [⟨.quiet, [none, none, none], fun _ => .bool true, []⟩, ⟨.quiet, [none, none, none], fun _ => .bool true, [0]⟩, ⟨.quiet, [none, none, none], fun _ => .pointer (some ⟨g, 0, none⟩), [1]⟩, ⟨.act 0, [some false, some false, some false], fun _ => undef, [2, 1]⟩, ⟨.quiet, [none, none, none], fun _ => .pointer (some ⟨g, 0, none⟩), [1]⟩, ⟨.act 1, [some true, some false, some false], fun _ => undef, [4, 1]⟩, ⟨.quiet, [none, none, none], fun _ => .pointer (some ⟨gr, 0, none⟩), [1]⟩, ⟨.quiet, [none, none, none], fun _ => .pointer (some ⟨gr, 0, none⟩), [6, 1]⟩, ⟨.quiet, [none, none, none], fun _ => .pointer (some ⟨gr, 1, none⟩), [7, 1]⟩, ⟨.quiet, [none, none, none], fun _ => kv, [8, 1]⟩, ⟨.quiet, [none, none, none], fun _ => .pointer (some ⟨gr, 0, none⟩), [1]⟩, ⟨.quiet, [none, none, none], fun _ => .pointer (some ⟨gr, 0, none⟩), [10, 1]⟩, ⟨.quiet, [none, none, none], fun _ => .pointer (some ⟨gr, 2, none⟩), [11, 1]⟩, ⟨.quiet, [none, none, none], fun _ => vv, [12, 1]⟩, ⟨.actv 2, [some true, some true, some false], fun _ => .bool true, [3, 5, 9, 13, 1]⟩, ⟨.quiet, [some true, some true, some true], fun _ => .bool true, [1, 14]⟩] [(4, .bool false), (5, .pointer (some ⟨g, 0, none⟩)), (7, .pointer (some ⟨gr, 0, none⟩)), (11, .bool true)] (fun ρ => match ρ with | [r0, r1, r2] => [selS r1 (fun wv => Vec 3 1 encI wv V) (emp), selS r0 (fun wk => Vec 42 1 encU wk K) (emp), Vec 3 1 encI uv C, Vec 42 1 encU uk A, Vec 42 1 encU kv K, Vec 3 1 encI vv V, cell gr 47 #[.int .i64 most, kv, vv], Tab 85 42 3 encU encI ltI g most K V] | _ => []) (by kernel_rfl) (by kernel_rfl) ⟨rfl, rfl, rfl, rfl, trivial⟩ rfl ?_ ?_
        · skip
          refine s_cons (by intro r0_ r1_ r2_; exact ⟨rfl, fun b w hH hb => exec_q1 hflS rfl hb⟩) ?_
          refine s_cons (by intro r0_ r1_ r2_; exact ⟨rfl, fun b w hH hb => exec_q1 hflS rfl hb⟩) ?_
          refine s_cons (by intro r0_ r1_ r2_; exact ⟨rfl, fun b w hH hb => exec_q1 hflS rfl hb⟩) ?_
          refine s_cons (by exact ⟨rfl, Acts.s (a_does (os' := fun wk => [emp, Vec 42 1 encU wk K, Vec 3 1 encI uv C, Vec 42 1 encU uk A, Vec 42 1 encU kv K, Vec 3 1 encI vv V, cell gr 47 #[.int .i64 most, kv, vv], Tab 85 42 3 encU encI ltI g most K V]) [7, 1] 1 (ent_of Try.func20 (by kernel_rfl) rfl) (keys_uint64_int g most K V) rfl rfl rfl (fun _ => rfl) rfl rfl rfl) (fun _ => rfl)⟩) ?_
          refine s_cons (by intro r0_ r1_ r2_; exact ⟨rfl, fun b w hH hb => exec_q1 hflS rfl hb⟩) ?_
          refine s_cons (by intro wk; exact ⟨rfl, Acts.s (a_does (os' := fun wv => [Vec 3 1 encI wv V, Vec 42 1 encU wk K, Vec 3 1 encI uv C, Vec 42 1 encU uk A, Vec 42 1 encU kv K, Vec 3 1 encI vv V, cell gr 47 #[.int .i64 most, kv, vv], Tab 85 42 3 encU encI ltI g most K V]) [7, 0] 1 (ent_of Try.func21 (by kernel_rfl) rfl) (values_uint64_int g most K V) rfl rfl rfl (fun _ => rfl) rfl rfl rfl) (fun _ => rfl)⟩) ?_
          refine s_cons (by intro r0_ r1_ r2_; exact ⟨rfl, fun b w hH hb => exec_q1 hflS rfl hb⟩) ?_
          refine s_cons (by intro r0_ r1_ r2_; exact ⟨rfl, fun b w hH hb => by exact exec_nilCheck rfl rfl hb⟩) ?_
          refine s_cons (by intro r0_ r1_ r2_; exact ⟨rfl, fun b w hH hb => exec_q1 hflS rfl hb⟩) ?_
          refine s_cons (by intro r0_ r1_ r2_; exact ⟨rfl, fun b w hH hb => exec_load rfl rfl (reads_one ty_s_uint64 rfl) (hH.row 6 rfl) hb⟩) ?_
          refine s_cons (by intro r0_ r1_ r2_; exact ⟨rfl, fun b w hH hb => exec_q1 hflS rfl hb⟩) ?_
          refine s_cons (by intro r0_ r1_ r2_; exact ⟨rfl, fun b w hH hb => by exact exec_nilCheck rfl rfl hb⟩) ?_
          refine s_cons (by intro r0_ r1_ r2_; exact ⟨rfl, fun b w hH hb => exec_q1 hflS rfl hb⟩) ?_
          refine s_cons (by intro r0_ r1_ r2_; exact ⟨rfl, fun b w hH hb => exec_load rfl rfl (reads_one ty_s_int rfl) (hH.row 6 rfl) hb⟩) ?_
          refine s_cons (by intro wk wv; exact ⟨rfl, Acts.su (a_does (os' := fun _ => [Vec 3 1 encI wv V, Vec 42 1 encU wk K, Vec 3 1 encI uv C, Vec 42 1 encU uk A, Vec 42 1 encU kv K, Vec 3 1 encI vv V, cell gr 47 #[.int .i64 most, kv, vv], Tab 85 42 3 encU encI ltI g most K V]) [1, 0, 4, 5] 0 (ent_of Try.func22 (by kernel_rfl) rfl) (same_true (Vec 42 1 encU wk K) (Vec 3 1 encI wv V) (Vec 42 1 encU kv K) (Vec 3 1 encI vv V) wk wv kv vv K V (fun rs w h1 h2 => h1.all okU h2) (fun rs w h1 h2 => h1.all okI h2) (fun rs w h1 h2 => h1.all okU h2) (fun rs w h1 h2 => h1.all okI h2) hVK hK40) rfl rfl rfl (fun _ => rfl) rfl rfl rfl) rfl⟩) ?_
          refine s_cons (by intro wk wv v2_; exact ⟨rfl, fun b w hH hb => exec_q1 hflS rfl hb⟩) ?_
          exact s_nil
        intro wk wv v2_
        refine WL2.keep (env' := [(4, .bool false), (111, .bool true)]) ⟨rfl, rfl, trivial⟩ ?_
        refine h_q hflS rfl ?_
        refine h_nil (f_to (d_ret ?_))
        exact f_fin1 (.tmp rfl) (fun w h => ⟨rfl, below0 h.up⟩) rfl
    · skip
      refine WC2.fact 3 rfl Tab.ok ?_; rintro hT
      have hVK := hT.len
      have hKm := hT.le
      have hK40 : K.length ≤ 1099511627776 := by omega
      refine d_reg ?_
      refine h_q hflS rfl ?_
      refine h_val rfl (.int .i64 (l.length : Int)) (fun b w hb hH => e_slen (arg_rd hl hH) Try.underlying38 rfl rfl hb) ?_
      refine h_val rfl (.bool true) (fun b w hb hH => exec_cmp rfl rfl rfl (cmp_lss_t (by omega)) hb) ?_
      refine h_q hflS rfl ?_
      refine h_val rfl (.bool false) (fun b w hb hH => exec_cmp rfl rfl rfl (cmp_lss_f (by omega)) hb) ?_
      refine h_q hflS rfl ?_
      refine h_done (d_else rfl (d_exit (f_then_exit (f_then_exit (f_block_exit (f_to (d_reg ?_)))))))
      refine h_q hflS rfl ?_
      refine h_act (post := fun uk => [Vec 42 1 encU uk K, Vec 42 1 encU kv K, Vec 3 1 encI vv V, cell gr 47 #[.int .i64 most, kv, vv], Tab 85 42 3 encU encI ltI g most K V]) rfl (a_does (os' := fun uk => [Vec 42 1 encU uk K, Vec 42 1 encU kv K, Vec 3 1 encI vv V, cell gr 47 #[.int .i64 most, kv, vv], Tab 85 42 3 encU encI ltI g most K V]) [3] 0 (ent_of Try.func20 (by kernel_rfl) rfl) (keys_uint64_int g most K V) rfl rfl rfl (fun _ => rfl) rfl rfl rfl) ?_; rintro uk
      refine h_q hflS rfl ?_
      refine h_done (d_reg ?_)
      refine h_q hflS rfl ?_
      refine h_act (post := fun uv => [Vec 3 1 encI uv V, Vec 42 1 encU uk K, Vec 42 1 encU kv K, Vec 3 1 encI vv V, cell gr 47 #[.int .i64 most, kv, vv], Tab 85 42 3 encU encI ltI g most K V]) rfl (a_does (os' := fun uv => [Vec 3 1 encI uv V, Vec 42 1 encU uk K, Vec 42 1 encU kv K, Vec 3 1 encI vv V, cell gr 47 #[.int .i64 most, kv, vv], Tab 85 42 3 encU encI ltI g most K V]) [4] 0 (ent_of Try.func21 (by kernel_rfl) rfl) (values_uint64_int g most K V) rfl rfl rfl (fun _ => rfl) rfl rfl rfl) ?_; rintro uv
      refine h_q hflS rfl ?_
      refine h_done (d_seq ?_)
      refine d_parS 11 1 [⟨.quiet, [none], fun _ => uk, []⟩, ⟨.quiet, [none], fun _ => uv, []⟩, ⟨.quiet, [none], fun _ => .pointer (some ⟨gr, 0, none⟩), []⟩, ⟨.quiet, [none], fun _ => .pointer (some ⟨gr, 0, none⟩), [2]⟩, ⟨.quiet, [none], fun _ => .pointer (some ⟨gr, 1, none⟩), [3]⟩, ⟨.quiet, [none], fun _ => kv, [4]⟩, ⟨.quiet, [none], fun _ => .pointer (some ⟨gr, 0, none⟩), []⟩, ⟨.quiet, [none], fun _ => .pointer (some ⟨gr, 0, none⟩), [6]⟩, ⟨.quiet, [none], fun _ => .pointer (some ⟨gr, 2, none⟩), [7]⟩, ⟨.quiet, [none], fun _ => vv, [8]⟩, ⟨.actv 0, [some false], fun _ => .bool true, [0, 1, 5, 9]⟩] [(4, .bool false), (5, .pointer (some ⟨g, 0, none⟩)), (7, .pointer (some ⟨gr, 0, none⟩)), (9, uk), (10, uv)] (fun ρ => match ρ with | [r0] => [Vec 3 1 encI uv V, Vec 42 1 encU uk K, Vec 42 1 encU kv K, Vec 3 1 encI vv V, cell gr 47 #[.int .i64 most, kv, vv], Tab 85 42 3 encU encI ltI g most K V] | _ => []) (by kernel_rfl) (by kernel_rfl) ⟨rfl, rfl, rfl, rfl, rfl, trivial⟩ rfl ?_ ?_
      · skip
        refine s_cons (by intro r0_; exact ⟨rfl, fun b w hH hb => exec_q1 hflS rfl hb⟩) ?_
        refine s_cons (by intro r0_; exact ⟨rfl, fun b w hH hb => exec_q1 hflS rfl hb⟩) ?_
        refine s_cons (by intro r0_; exact ⟨rfl, fun b w hH hb => exec_q1 hflS rfl hb⟩) ?_
        refine s_cons (by intro r0_; exact ⟨rfl, fun b w hH hb => by exact exec_nilCheck rfl rfl hb⟩) ?_
        refine s_cons (by intro r0_; exact ⟨rfl, fun b w hH hb => exec_q1 hflS rfl hb⟩) ?_
        refine s_cons (by intro r0_; exact ⟨rfl, fun b w hH hb => exec_load rfl rfl (reads_one ty_s_uint64 rfl) (hH.row 4 rfl) hb⟩) ?_
        refine s_cons (by intro r0_; exact ⟨rfl, fun b w hH hb => exec_q1 hflS rfl hb⟩) ?_
        refine s_cons (by intro r0_; exact ⟨rfl, fun b w hH hb => by exact exec_nilCheck rfl rfl hb⟩) ?_
        refine s_cons (by intro r0_; exact ⟨rfl, fun b w hH hb => exec_q1 hflS rfl hb⟩) ?_
        refine s_cons (by intro r0_; exact ⟨rfl, fun b w hH hb => exec_load rfl rfl (reads_one ty_s_int rfl) (hH.row 4 rfl) hb⟩) ?_
        refine s_cons (by exact ⟨rfl, Acts.su (a_does (os' := fun _ => [Vec 3 1 encI uv V, Vec 42 1 encU uk K, Vec 42 1 encU kv K, Vec 3 1 encI vv V, cell gr 47 #[.int .i64 most, kv, vv], Tab 85 42 3 encU encI ltI g most K V]) [1, 0, 2, 3] 0 (ent_of Try.func22 (by kernel_rfl) rfl) (same_true (Vec 42 1 encU uk K) (Vec 3 1 encI uv V) (Vec 42 1 encU kv K) (Vec 3 1 encI vv V) uk uv kv vv K V (fun rs w h1 h2 => h1.all okU h2) (fun rs w h1 h2 => h1.all okI h2) (fun rs w h1 h2 => h1.all okU h2) (fun rs w h1 h2 => h1.all okI h2) hVK hK40) rfl rfl rfl (fun _ => rfl) rfl rfl rfl) rfl⟩) ?_
        exact s_nil
      intro v0_
      refine WL2.keep (env' := [(4, .bool false), (5, .pointer (some ⟨g, 0, none⟩)), (7, .pointer (some ⟨gr, 0, none⟩)), (9, uk), (10, uv), (83, .bool true)]) ⟨rfl, rfl, rfl, rfl, rfl, rfl, trivial⟩ ?_
      refine h_q hflS rfl ?_
      refine h_nil (f_to (d_seq (d_reg ?_)))
      refine h_q hflS rfl ?_
      refine h_done (d_block ?_)
      refine d_loop (α := Nat × List Int × List Int) (fun ⟨j, A, C⟩ => [(4, .bool false), (5, .pointer (some ⟨g, 0, none⟩)), (7, .pointer (some ⟨gr, 0, none⟩)), (9, uk), (10, uv), (11, .bool true), (12, .int .i64 ((j : Nat) : Int))]) (fun ⟨j, A, C⟩ => [Vec 3 1 encI uv C, Vec 42 1 encU uk A, Vec 42 1 encU kv K, Vec 3 1 encI vv V, cell gr 47 #[.int .i64 most, kv, vv], Tab 85 42 3 encU encI ltI g most K V]) (fun ⟨j, A, C⟩ => A.length = K.length ∧ C.length = K.length) (fun ⟨j, A, C⟩ => K.length - j) (0, K, V) ⟨rfl, hVK⟩ ⟨rfl, rfl, rfl, rfl, rfl, rfl, rfl, trivial⟩ rfl ?_
      rintro ⟨j, A, C⟩ hJ
      refine WC2.at_ (env' := [(4, .bool false), (5, .pointer (some ⟨g, 0, none⟩)), (7, .pointer (some ⟨gr, 0, none⟩)), (9, uk), (10, uv), (11, .bool true), (12, .int .i64 ((j : Nat) : Int))]) (rs' := [Vec 3 1 encI uv C, Vec 42 1 encU uk A, Vec 42 1 encU kv K, Vec 3 1 encI vv V, cell gr 47 #[.int .i64 most, kv, vv], Tab 85 42 3 encU encI ltI g most K V]) ⟨rfl, rfl, rfl, rfl, rfl, rfl, rfl, trivial⟩ rfl ?_
      have hJ1 : A.length = K.length := hJ.1
      have hJ2 : C.length = K.length := hJ.2
      refine d_seq ?_
      rcases Nat.lt_or_ge j K.length with h6 | h6
      · skip
        refine d_reg ?_
        refine h_q hflS rfl ?_
        refine h_val rfl (.int .i64 (A.length : Int)) (fun b w hb hH => e_vlen 1 Try.underlying44 rfl rfl rfl hH hb) ?_
        refine h_val rfl (.bool true) (fun b w hb hH => exec_cmp rfl rfl rfl (cmp_lss_t (by omega)) hb) ?_
        refine h_done (d_then rfl (d_skip (f_to (d_seq (d_block (d_reg ?_))))))
        refine h_q hflS rfl ?_
        refine h_val rfl (elp uk (j * 1)) (fun b w hb hH => e_vidx 1 sl_uint64 okU rfl j (by omega) rfl rfl rfl hH hb) ?_
        refine h_acts (post := fun _ => [Vec 3 1 encI uv C, Vec 42 1 encU uk (A.set j 9223372036854775808), Vec 42 1 encU kv K, Vec 3 1 encI vv V, cell gr 47 #[.int .i64 most, kv, vv], Tab 85 42 3 encU encI ltI g most K V]) rfl rfl (a_vstore1 1 ty_uint64 okU rfl j (by omega) 9223372036854775808 rfl rfl rfl rfl rfl) ?_; rintro ⟨⟩
        refine h_done (d_reg1 ?_)
        refine h_q hflS rfl ?_
        refine h_val rfl (elp uv (j * 1)) (fun b w hb hH => e_vidx 0 sl_int okI rfl j (by omega) rfl rfl rfl hH hb) ?_
        refine h_acts (post := fun _ => [Vec 3 1 encI uv (C.set j (-77)), Vec 42 1 encU uk (A.set j 9223372036854775808), Vec 42 1 encU kv K, Vec 3 1 encI vv V, cell gr 47 #[.int .i64 most, kv, vv], Tab 85 42 3 encU encI ltI g most K V]) rfl rfl (a_vstore1 0 ty_int okI rfl j (by omega) (-77) rfl rfl rfl rfl rfl) ?_; rintro ⟨⟩
        refine h_nil (f_block (f_to (d_reg1 ?_)))
        refine h_q hflS rfl ?_
        refine h_val rfl (.int .i64 ((j + 1 : Nat) : Int)) (fun b w hb hH => exec_ar rfl rfl rfl rfl (by rw [IntWalk.i64_in _ (by omega)]; omega) hb) ?_
        refine h_q hflS rfl ?_
        refine h_nil ?_
        exact f_again (j + 1, A.set j 9223372036854775808, C.set j (-77)) 0 ⟨by rw [List.length_set]; exact hJ1, by rw [List.length_set]; exact hJ2⟩ (show K.length - (j + 1) < K.length - j by omega) ⟨rfl, rfl, rfl, rfl, rfl, rfl, rfl, trivial⟩ rfl
      · skip
        refine d_reg ?_
        refine h_q hflS rfl ?_
        refine h_val rfl (.int .i64 (A.length : Int)) (fun b w hb hH => e_vlen 1 Try.underlying44 rfl rfl rfl hH hb) ?_
        refine h_val rfl (.bool false) (fun b w hb hH => exec_cmp rfl rfl rfl (cmp_lss_f (by omega)) hb) ?_
        refine h_done (d_else rfl (d_exit (f_then_exit (f_then_exit (f_block_exit (f_to (d_seq ?_)))))))
        refine d_emps 2 rfl ?_
        refine d_parS 16 3 [⟨.quiet, [none, none, none], fun _ => .bool true, []⟩, ⟨.quiet, [none, none, none], fun _ => .bool true, [0]⟩, ⟨.quiet, [none, none, none], fun _ => .pointer (some ⟨g, 0, none⟩), [1]⟩, ⟨.act 0, [some false, some false, some false], fun _ => undef, [2, 1]⟩, ⟨.quiet, [none, none, none], fun _ => .pointer (some ⟨g, 0, none⟩), [1]⟩, ⟨.act 1, [some true, some false, some false], fun _ => undef, [4, 1]⟩, ⟨.quiet, [none, none, none], fun _ => .pointer (some ⟨gr, 0, none⟩), [1]⟩, ⟨.quiet, [none, none, none], fun _ => .pointer (some ⟨gr, 0, none⟩), [6, 1]⟩, ⟨.quiet, [none, none, none], fun _ => .pointer (some ⟨gr, 1, none⟩), [7, 1]⟩, ⟨.quiet, [none, none, none], fun _ => kv, [8, 1]⟩, ⟨.quiet, [none, none, none], fun _ => .pointer (some ⟨gr, 0, none⟩), [1]⟩, ⟨.quiet, [none, none, none], fun _ => .pointer (some ⟨gr, 0, none⟩), [10, 1]⟩, ⟨.quiet, [none, none, none], fun _ => .pointer (some ⟨gr, 2, none⟩), [11, 1]⟩, ⟨.quiet, [none, none, none], fun _ => vv, [12, 1]⟩, ⟨.actv 2, [some true, some true, some false], fun _ => .bool true, [3, 5, 9, 13, 1]⟩, ⟨.quiet, [some true, some true, some true], fun _ => .bool true, [1, 14]⟩] [(4, .bool false), (5, .pointer (some ⟨g, 0, none⟩)), (7, .pointer (some ⟨gr, 0, none⟩)), (11, .bool true)] (fun ρ => match ρ with | [r0, r1, r2] => [selS r1 (fun wv => Vec 3 1 encI wv V) (emp), selS r0 (fun wk => Vec 42 1 encU wk K) (emp), Vec 3 1 encI uv C, Vec 42 1 encU uk A, Vec 42 1 encU kv K, Vec 3 1 encI vv V, cell gr 47 #[.int .i64 most, kv, vv], Tab 85 42 3 encU encI ltI g most K V] | _ => []) (by kernel_rfl) (by kernel_rfl) ⟨rfl, rfl, rfl, rfl, trivial⟩ rfl ?_ ?_
        · skip
          refine s_cons (by intro r0_ r1_ r2_; exact ⟨rfl, fun b w hH hb => exec_q1 hflS rfl hb⟩) ?_
          refine s_cons (by intro r0_ r1_ r2_; exact ⟨rfl, fun b w hH hb => exec_q1 hflS rfl hb⟩) ?_
          refine s_cons (by intro r0_ r1_ r2_; exact ⟨rfl, fun b w hH hb => exec_q1 hflS rfl hb⟩) ?_
          refine s_cons (by exact ⟨rfl, Acts.s (a_does (os' := fun wk => [emp, Vec 42 1 encU wk K, Vec 3 1 encI uv C, Vec 42 1 encU uk A, Vec 42 1 encU kv K, Vec 3 1 encI vv V, cell gr 47 #[.int .i64 most, kv, vv], Tab 85 42 3 encU encI ltI g most K V]) [7, 1] 1 (ent_of Try.func20 (by kernel_rfl) rfl) (keys_uint64_int g most K V) rfl rfl rfl (fun _ => rfl) rfl rfl rfl) (fun _ => rfl)⟩) ?_
          refine s_cons (by intro r0_ r1_ r2_; exact ⟨rfl, fun b w hH hb => exec_q1 hflS rfl hb⟩) ?_
          refine s_cons (by intro wk; exact ⟨rfl, Acts.s (a_does (os' := fun wv => [Vec 3 1 encI wv V, Vec 42 1 encU wk K, Vec 3 1 encI uv C, Vec 42 1 encU uk A, Vec 42 1 encU kv K, Vec 3 1 encI vv V, cell gr 47 #[.int .i64 most, kv, vv], Tab 85 42 3 encU encI ltI g most K V]) [7, 0] 1 (ent_of Try.func21 (by kernel_rfl) rfl) (values_uint64_int g most K V) rfl rfl rfl (fun _ => rfl) rfl rfl rfl) (fun _ => rfl)⟩) ?_
          refine s_cons (by intro r0_ r1_ r2_; exact ⟨rfl, fun b w hH hb => exec_q1 hflS rfl hb⟩) ?_
          refine s_cons (by intro r0_ r1_ r2_; exact ⟨rfl, fun b w hH hb => by exact exec_nilCheck rfl rfl hb⟩) ?_
          refine s_cons (by intro r0_ r1_ r2_; exact ⟨rfl, fun b w hH hb => exec_q1 hflS rfl hb⟩) ?_
          refine s_cons (by intro r0_ r1_ r2_; exact ⟨rfl, fun b w hH hb => exec_load rfl rfl (reads_one ty_s_uint64 rfl) (hH.row 6 rfl) hb⟩) ?_
          refine s_cons (by intro r0_ r1_ r2_; exact ⟨rfl, fun b w hH hb => exec_q1 hflS rfl hb⟩) ?_
          refine s_cons (by intro r0_ r1_ r2_; exact ⟨rfl, fun b w hH hb => by exact exec_nilCheck rfl rfl hb⟩) ?_
          refine s_cons (by intro r0_ r1_ r2_; exact ⟨rfl, fun b w hH hb => exec_q1 hflS rfl hb⟩) ?_
          refine s_cons (by intro r0_ r1_ r2_; exact ⟨rfl, fun b w hH hb => exec_load rfl rfl (reads_one ty_s_int rfl) (hH.row 6 rfl) hb⟩) ?_
          refine s_cons (by intro wk wv; exact ⟨rfl, Acts.su (a_does (os' := fun _ => [Vec 3 1 encI wv V, Vec 42 1 encU wk K, Vec 3 1 encI uv C, Vec 42 1 encU uk A, Vec 42 1 encU kv K, Vec 3 1 encI vv V, cell gr 47 #[.int .i64 most, kv, vv], Tab 85 42 3 encU encI ltI g most K V]) [1, 0, 4, 5] 0 (ent_of Try.func22 (by kernel_rfl) rfl) (same_true (Vec 42 1 encU wk K) (Vec 3 1 encI wv V) (Vec 42 1 encU kv K) (Vec 3 1 encI vv V) wk wv kv vv K V (fun rs w h1 h2 => h1.all okU h2) (fun rs w h1 h2 => h1.all okI h2) (fun rs w h1 h2 => h1.all okU h2) (fun rs w h1 h2 => h1.all okI h2) hVK hK40) rfl rfl rfl (fun _ => rfl) rfl rfl rfl) rfl⟩) ?_
          refine s_cons (by intro wk wv v2_; exact ⟨rfl, fun b w hH hb => exec_q1 hflS rfl hb⟩) ?_
          exact s_nil
        intro wk wv v2_
        refine WL2.keep (env' := [(4, .bool false), (111, .bool true)]) ⟨rfl, rfl, trivial⟩ ?_
        refine h_q hflS rfl ?_
        refine h_nil (f_to (d_ret ?_))
        exact f_fin1 (.tmp rfl) (fun w h => ⟨rfl, below0 h.up⟩) rfl
  · skip
    refine d_reg ?_
    refine h_q hflS rfl ?_
    refine h_act (post := fun _ => []) rfl (a_call (ent_of Try.func17 (by kernel_rfl) rfl) (fun w hH => new_err_uint64_int w most hm) rfl rfl rfl) ?_; rintro ⟨⟩
    refine h_q hflS rfl ?_
    refine h_done (d_seq (d_reg ?_))
    refine h_q hflS rfl ?_
    refine h_act (post := fun _ => []) rfl (a_call (ent_of Try.func11 (by kernel_rfl) rfl) (fun w hH => known_true w) rfl rfl rfl) ?_; rintro ⟨⟩
    refine h_q hflS rfl ?_
    refine h_done (d_else rfl (d_skip (f_to (d_seq ?_))))
    by_cases h1 : most < 1
    · skip
      refine d_reg ?_
      refine h_q hflS rfl ?_
      refine h_val rfl (.bool true) (fun b w hb hH => exec_cmp rfl rfl rfl (cmp_lss_t h1) hb) ?_
      refine h_q hflS rfl ?_
      refine h_done (d_then rfl (d_reg ?_))
      refine h_q hflS rfl ?_
      refine h_val rfl (.bool true) (fun b w hb hH => exec_cmp rfl rfl rfl (cmp_eql_t (by decide)) hb) ?_
      refine h_q hflS rfl ?_
      refine h_val rfl (.bool true) (fun b w hb hH => exec_pnil2_eql (by kernel_rfl) rfl rfl rfl hb) ?_
      refine h_q hflS rfl ?_
      refine h_done (d_ret (f_then_ret ?_))
      exact f_fin1 (.tmp rfl) (fun w h => ⟨rfl, below0 h.up⟩) rfl
    · skip
      refine d_reg ?_
      refine h_q hflS rfl ?_
      refine h_val rfl (.bool false) (fun b w hb hH => exec_cmp rfl rfl rfl (cmp_lss_f (by omega)) hb) ?_
      refine h_q hflS rfl ?_
      refine h_val rfl (.bool true) (fun b w hb hH => exec_cmp rfl rfl rfl (cmp_gtr_t (by omega)) hb) ?_
      refine h_q hflS rfl ?_
      refine h_done (d_then rfl (d_reg ?_))
      refine h_q hflS rfl ?_
      refine h_val rfl (.bool true) (fun b w hb hH => exec_cmp rfl rfl rfl (cmp_eql_t (by decide)) hb) ?_
      refine h_q hflS rfl ?_
      refine h_val rfl (.bool true) (fun b w hb hH => exec_pnil2_eql (by kernel_rfl) rfl rfl rfl hb) ?_
      refine h_q hflS rfl ?_
      refine h_done (d_ret (f_then_ret ?_))
      exact f_fin1 (.tmp rfl) (fun w h => ⟨rfl, below0 h.up⟩) rfl
end Go.Proofs.Ytmlfgdedhhmkpaa.Sep
