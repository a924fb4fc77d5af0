/-
  TabG
-/
import Derived.Test.YtmlfgdedhhmkpaaF01
set_option linter.unusedSimpArgs false
set_option linter.unusedVariables false

namespace Go.Proofs.Ytmlfgdedhhmkpaa.Sep
open Go.RowKit
open Go.Proofs.Ytmlfgdedhhmkpaa.Mem (Dist Blk Chg below0)

set_option maxRecDepth 100000 in
theorem ranges_far (w : World) (sl : Value) (l : List StepD) (f most : Int) (h1 : -9223372036854775808 ≤ most ∧ most ≤ 9223372036854775807) (hl : SlRd w 4 sl l.length (flat encT l)) (hll : l.length ≤ 9223372036854775807) (hlo : ∀ y ∈ l, y.ok) : Calls Try.prog 5 #[sl, .int .u64 f, .bool false, .int .i64 most] w fun e w' => e = .returned (.bool true) ∧ Below w.heap.size w w' := by
  obtain ⟨mo, hmo⟩ : ∃ mo : Int, mo = 1 + most % 20 := ⟨_, rfl⟩
  have hmo1 : 1 ≤ mo ∧ mo ≤ 20 := by omega
  refine d_in (args := [sl, .int .u64 f, .bool false, .int .i64 most]) 142 Try.func5 rfl rfl rfl ?_
  refine d_reg ?_
  refine h_q hflS rfl ?_
  refine h_done (d_reg ?_)
  refine h_q hflS rfl ?_
  refine h_act (post := fun g => [Tab 85 42 3 encU encI ltI g 100 ([]) ([])]) rfl (a_does (os' := fun g => [Tab 85 42 3 encU encI ltI g 100 ([]) ([])]) [] 0 (ent_of Try.func17 (by kernel_rfl) rfl) (new_uint64_int 100 (by decide)) rfl rfl rfl (fun _ => rfl) rfl rfl rfl) ?_; rintro g
  refine h_q hflS rfl ?_
  refine h_done (d_seq (d_reg ?_))
  refine h_q hflS rfl ?_
  refine h_act (post := fun _ => [Tab 85 42 3 encU encI ltI g 100 ([]) ([])]) rfl (a_call (ent_of Try.func11 (by kernel_rfl) rfl) (fun w hH => known_true w) rfl rfl rfl) ?_; rintro ⟨⟩
  refine h_q hflS rfl ?_
  refine h_val rfl (.bool false) (fun b w hb hH => exec_cmp rfl rfl rfl (cmp_neq_f (by decide)) hb) ?_
  refine h_q hflS rfl ?_
  refine h_val rfl (.bool false) (fun b w hb hH => exec_pnil_eql (by kernel_rfl) rfl rfl rfl hb) ?_
  refine h_q hflS rfl ?_
  refine h_done (d_else rfl (d_skip (f_to (d_reg ?_))))
  refine h_q hflS rfl ?_
  refine h_val rfl (.agg #[.int .i64 100, .slice none 0 0, .slice none 0 0]) (fun b w hb hH => exec_build rfl rfl (by kernel_rfl) hb) ?_
  refine h_act (post := fun gr => [cell gr 47 #[.int .i64 100, .slice none 0 0, .slice none 0 0], Tab 85 42 3 encU encI ltI g 100 ([]) ([])]) rfl (a_box (cs := #[.int .i64 100, .slice none 0 0, .slice none 0 0]) rfl rfl rfl) ?_; rintro gr
  refine h_q hflS rfl ?_
  refine h_done (d_seq ?_)
  refine d_nilvec 3 1 encI ?_
  refine d_nilvec 42 1 encU ?_
  refine d_reg ?_
  refine h_q hflS rfl ?_
  refine h_done (d_block ?_)
  refine d_loop (α := Nat × List Int × List Int × Value × Value) (fun ⟨i, K, V, kv, vv⟩ => [(0, sl), (1, .int .u64 f), (2, .bool false), (3, .int .i64 most), (8, .bool false), (9, .pointer (some ⟨g, 0, none⟩)), (11, .pointer (some ⟨gr, 0, none⟩)), (12, .int .i64 ((i : Nat) : Int))]) (fun ⟨i, K, V, kv, vv⟩ => [Vec 42 1 encU kv K, Vec 3 1 encI vv V, cell gr 47 #[.int .i64 100, kv, vv], Tab 85 42 3 encU encI ltI g 100 K V]) (fun ⟨i, K, V, kv, vv⟩ => i ≤ 200) (fun ⟨i, K, V, kv, vv⟩ => 201 - i) (0, [], [], .slice none 0 0, .slice none 0 0) (show 0 ≤ 200 by decide) ⟨rfl, rfl, rfl, rfl, rfl, rfl, rfl, rfl, trivial⟩ rfl ?_
  rintro ⟨i, K, V, kv, vv⟩ hI
  refine WC2.at_ (env' := [(0, sl), (1, .int .u64 f), (2, .bool false), (3, .int .i64 most), (8, .bool false), (9, .pointer (some ⟨g, 0, none⟩)), (11, .pointer (some ⟨gr, 0, none⟩)), (12, .int .i64 ((i : Nat) : Int))]) (rs' := [Vec 42 1 encU kv K, Vec 3 1 encI vv V, cell gr 47 #[.int .i64 100, kv, vv], Tab 85 42 3 encU encI ltI g 100 K V]) ⟨rfl, rfl, rfl, rfl, rfl, rfl, rfl, rfl, trivial⟩ rfl ?_
  have hI1 : i ≤ 200 := hI
  refine d_seq ?_
  have h3 : (i < l.length ∧ i < 200) ∨ ¬ i < l.length ∨ (i < l.length ∧ ¬ i < 200) := by omega
  rcases h3 with ⟨h4, h5⟩ | h4 | ⟨h4, h5⟩
  · skip
    obtain ⟨x, hx⟩ : ∃ x, l[i]? = some x := ⟨_, List.getElem?_eq_getElem h4⟩
    have hxo := (hlo x (List.mem_of_getElem? hx)).1
    refine d_reg ?_
    refine h_q hflS rfl ?_
    refine h_val rfl (.int .i64 (l.length : Int)) (fun b w hb hH => e_slen (arg_rd hl hH) Try.underlying38 rfl rfl hb) ?_
    refine h_val rfl (.bool true) (fun b w hb hH => exec_cmp rfl rfl rfl (cmp_lss_t (by omega)) hb) ?_
    refine h_q hflS rfl ?_
    refine h_val rfl (.bool true) (fun b w hb hH => exec_cmp rfl rfl rfl (cmp_lss_t (by omega)) hb) ?_
    refine h_q hflS rfl ?_
    refine h_done (d_then rfl (d_skip (f_to (d_seq (d_block (d_reg1 ?_))))))
    refine h_q hflS rfl ?_
    refine h_val rfl (elp sl (i * 4)) (fun b w hb hH => e_sidx okT (arg_rd hl hH) sl_bursarlaw4_Step (j := i) hx rfl rfl rfl hb) ?_
    refine h_val rfl (.agg (encT x).toArray) (fun b w hb hH => e_sagg okT (by decide) (arg_rd hl hH) (j := i) hx ty_bursarlaw4_Step rfl rfl hb) ?_
    refine h_act (post := fun y => [Vec 42 1 encU ((decY y).2.2.1) ((decY y).1), Vec 3 1 encI ((decY y).2.2.2) ((decY y).2.1), cell gr 47 #[.int .i64 100, (decY y).2.2.1, (decY y).2.2.2], Tab 85 42 3 encU encI ltI g 100 ((decY y).1) ((decY y).2.1)]) rfl (a_does (os' := fun y => [Vec 42 1 encU ((decY y).2.2.1) ((decY y).1), Vec 3 1 encI ((decY y).2.2.2) ((decY y).2.1), cell gr 47 #[.int .i64 100, (decY y).2.2.1, (decY y).2.2.2], Tab 85 42 3 encU encI ltI g 100 ((decY y).1) ((decY y).2.1)]) [3, 2, 0, 1] 0 (ent_of Try.func18 (by kernel_rfl) rfl) (run_open g gr 100 K V kv vv x hxo) rfl rfl rfl (fun _ => rfl) rfl rfl rfl) ?_; rintro y
    refine h_nil (f_block (f_to (d_reg1 ?_)))
    refine h_q hflS rfl ?_
    refine h_val rfl (.int .i64 ((i + 1 : Nat) : Int)) (fun b w hb hH => exec_ar rfl rfl rfl rfl (by rw [IntWalk.i64_in _ (by omega)]; omega) hb) ?_
    refine h_q hflS rfl ?_
    refine h_nil ?_
    exact f_again (i + 1, (decY y).1, (decY y).2.1, (decY y).2.2.1, (decY y).2.2.2) 0 (show i + 1 ≤ 200 by omega) (show 201 - (i + 1) < 201 - i by omega) ⟨rfl, rfl, rfl, rfl, rfl, rfl, rfl, rfl, trivial⟩ rfl
  · skip
    refine d_reg ?_
    refine h_q hflS rfl ?_
    refine h_val rfl (.int .i64 (l.length : Int)) (fun b w hb hH => e_slen (arg_rd hl hH) Try.underlying38 rfl rfl hb) ?_
    refine h_val rfl (.bool false) (fun b w hb hH => exec_cmp rfl rfl rfl (cmp_lss_f (by omega)) hb) ?_
    refine h_q hflS rfl ?_
    refine h_done (d_else rfl (d_exit (f_then_exit (f_then_exit (f_block_exit (f_to (d_seq ?_)))))))
    refine WC2.fact 3 rfl Tab.ok ?_; rintro hT
    have hVK := hT.len
    have hKm := hT.le
    obtain ⟨N0, hN0⟩ : ∃ N0 : Nat, (N0 : Int) = min mo ((K.length : Int) - ((0 : Nat) : Int)) := ⟨(min mo ((K.length : Int) - ((0 : Nat) : Int))).toNat, by omega⟩
    refine d_reg ?_
    refine h_q hflS rfl ?_
    refine h_done (d_else rfl (d_skip (f_to (d_reg ?_))))
    refine h_q hflS rfl ?_
    refine h_act (post := fun _ => [Vec 42 1 encU kv K, Vec 3 1 encI vv V, cell gr 47 #[.int .i64 100, kv, vv], Tab 85 42 3 encU encI ltI g 100 K V]) rfl (a_call (ent_of Try.func23 (by kernel_rfl) rfl) (fun w hH => pick w most 20 h1 (by decide) rfl) rfl rfl rfl) ?_; rintro ⟨⟩
    refine h_val rfl (.int .i64 mo) (fun b w hb hH => exec_ar rfl rfl rfl rfl (by rw [IntWalk.i64_in _ (by omega)]; omega) hb) ?_
    refine h_q hflS rfl ?_
    refine h_done (d_reg ?_)
    refine h_q hflS rfl ?_
    refine h_val rfl (.pointer (some ⟨gr, 0, none⟩)) (fun b w hb hH => by exact exec_nilCheck rfl rfl hb) ?_
    refine h_q hflS rfl ?_
    refine h_val rfl (kv) (fun b w hb hH => exec_load rfl rfl (reads_one ty_s_uint64 rfl) (hH.row 2 rfl) hb) ?_
    refine h_val rfl (.int .i64 (K.length : Int)) (fun b w hb hH => e_vlen 0 Try.underlying44 rfl rfl rfl hH hb) ?_
    refine h_val rfl (.int .i64 (N0 : Int)) (fun b w hb hH => exec_builtin2 rfl rfl (fun cs => (fun w cs => run_min2 (by split <;> omega) _ _ w cs) w cs) hb) ?_
    refine h_q hflS rfl ?_
    refine h_done (d_reg ?_)
    refine h_q hflS rfl ?_
    refine h_act rfl (a_does  [3] 0 (ent_of Try.func24 (by kernel_rfl) rfl) (told_all g 100 K V 0 mo (by omega) hN0) rfl rfl rfl (fun _ => rfl) rfl rfl rfl) ?_; rintro ⟨uk, uv⟩
    refine WL2.keep (env' := [(0, sl), (1, .int .u64 f), (2, .bool false), (8, .bool false), (9, .pointer (some ⟨g, 0, none⟩)), (11, .pointer (some ⟨gr, 0, none⟩)), (12, .int .i64 ((i : Nat) : Int)), (33, .int .i64 ((i : Nat) : Int)), (34, sl), (35, .int .i64 (l.length : Int)), (36, .bool false), (37, .bool false), (38, undef), (39, undef), (40, .bool false), (50, .bool false), (53, .int .i64 most), (54, .int .i64 (most % 20)), (55, .int .i64 mo), (3, .int .i64 mo), (56, .int .i64 mo), (57, .pointer (some ⟨gr, 0, none⟩)), (58, .pointer (some ⟨gr, 0, none⟩)), (59, .pointer (some ⟨gr, 1, none⟩)), (60, kv), (61, .int .i64 (K.length : Int)), (62, .int .i64 (N0 : Int)), (13, .int .i64 (N0 : Int)), (64, .pointer (some ⟨g, 0, none⟩)), (65, .int .i64 mo), (66, .tuple #[uk, uv])]) ⟨rfl, rfl, rfl, rfl, rfl, rfl, rfl, rfl, rfl, rfl, rfl, rfl, rfl, rfl, rfl, rfl, rfl, rfl, rfl, rfl, rfl, rfl, rfl, rfl, rfl, rfl, rfl, rfl, rfl, rfl, rfl, trivial⟩ ?_
    refine WL2.mid [Vec 42 1 encU uk ((K.drop 0).take N0), Vec 3 1 encI uv ((V.drop 0).take N0), Vec 42 1 encU kv K, Vec 3 1 encI vv V, cell gr 47 #[.int .i64 100, kv, vv], Tab 85 42 3 encU encI ltI g 100 K V] (.refl _) ?_
    refine h_q hflS rfl ?_
    refine h_done (d_seq (d_seq ?_))
    refine d_parS 16 1 [⟨.quiet, [none], fun _ => uk, []⟩, ⟨.quiet, [none], fun _ => uv, []⟩, ⟨.quiet, [none], fun _ => .pointer (some ⟨gr, 0, none⟩), []⟩, ⟨.quiet, [none], fun _ => .pointer (some ⟨gr, 0, none⟩), [2]⟩, ⟨.quiet, [none], fun _ => .pointer (some ⟨gr, 1, none⟩), [3]⟩, ⟨.quiet, [none], fun _ => kv, [4]⟩, ⟨.quiet, [none], fun _ => .int .i64 (N0 : Int), []⟩, ⟨.quiet, [none], fun _ => subv 1 kv 0 N0, [5, 6]⟩, ⟨.quiet, [none], fun _ => .pointer (some ⟨gr, 0, none⟩), []⟩, ⟨.quiet, [none], fun _ => .pointer (some ⟨gr, 0, none⟩), [8]⟩, ⟨.quiet, [none], fun _ => .pointer (some ⟨gr, 2, none⟩), [9]⟩, ⟨.quiet, [none], fun _ => vv, [10]⟩, ⟨.quiet, [none], fun _ => .int .i64 (N0 : Int), []⟩, ⟨.quiet, [none], fun _ => subv 1 vv 0 N0, [11, 12]⟩, ⟨.actv 0, [some false], fun _ => .bool true, [0, 1, 7, 13]⟩, ⟨.quiet, [some true], fun _ => .bool false, [14]⟩] [(1, .int .u64 f), (8, .bool false), (9, .pointer (some ⟨g, 0, none⟩)), (11, .pointer (some ⟨gr, 0, none⟩)), (3, .int .i64 mo), (13, .int .i64 (N0 : Int)), (14, uk), (15, uv)] (fun ρ => match ρ with | [r0] => [Vec 42 1 encU uk ((K.drop 0).take N0), Vec 3 1 encI uv ((V.drop 0).take N0), Vec 42 1 encU kv K, Vec 3 1 encI vv V, cell gr 47 #[.int .i64 100, kv, vv], Tab 85 42 3 encU encI ltI g 100 K V] | _ => []) (by kernel_rfl) (by kernel_rfl) ⟨rfl, rfl, rfl, rfl, rfl, rfl, rfl, rfl, trivial⟩ rfl ?_ ?_
    · skip
      refine s_cons (by intro r0_; exact ⟨rfl, fun b w hH hb => exec_q1 hflS rfl hb⟩) ?_
      refine s_cons (by intro r0_; exact ⟨rfl, fun b w hH hb => exec_q1 hflS rfl hb⟩) ?_
      refine s_cons (by intro r0_; exact ⟨rfl, fun b w hH hb => exec_q1 hflS rfl hb⟩) ?_
      refine s_cons (by intro r0_; exact ⟨rfl, fun b w hH hb => by exact exec_nilCheck rfl rfl hb⟩) ?_
      refine s_cons (by intro r0_; exact ⟨rfl, fun b w hH hb => exec_q1 hflS rfl hb⟩) ?_
      refine s_cons (by intro r0_; exact ⟨rfl, fun b w hH hb => exec_load rfl rfl (reads_one ty_s_uint64 rfl) (hH.row 4 rfl) hb⟩) ?_
      refine s_cons (by intro r0_; exact ⟨rfl, fun b w hH hb => exec_q1 hflS rfl hb⟩) ?_
      refine s_cons (by intro r0_; exact ⟨rfl, fun b w hH hb => e_vsub_hi 2 (b := N0) sl_uint64 rfl (by omega) rfl rfl rfl hH hb⟩) ?_
      refine s_cons (by intro r0_; exact ⟨rfl, fun b w hH hb => exec_q1 hflS rfl hb⟩) ?_
      refine s_cons (by intro r0_; exact ⟨rfl, fun b w hH hb => by exact exec_nilCheck rfl rfl hb⟩) ?_
      refine s_cons (by intro r0_; exact ⟨rfl, fun b w hH hb => exec_q1 hflS rfl hb⟩) ?_
      refine s_cons (by intro r0_; exact ⟨rfl, fun b w hH hb => exec_load rfl rfl (reads_one ty_s_int rfl) (hH.row 4 rfl) hb⟩) ?_
      refine s_cons (by intro r0_; exact ⟨rfl, fun b w hH hb => exec_q1 hflS rfl hb⟩) ?_
      refine s_cons (by intro r0_; exact ⟨rfl, fun b w hH hb => e_vsub_hi 3 (b := N0) sl_int rfl (by omega) rfl rfl rfl hH hb⟩) ?_
      refine s_cons (by exact ⟨rfl, Acts.su (a_does (os' := fun _ => [Vec 42 1 encU uk ((K.drop 0).take N0), Vec 3 1 encI uv ((V.drop 0).take N0), Vec 42 1 encU kv K, Vec 3 1 encI vv V, cell gr 47 #[.int .i64 100, kv, vv], Tab 85 42 3 encU encI ltI g 100 K V]) [0, 1, 2, 3] 0 (ent_of Try.func22 (by kernel_rfl) rfl) (same_true (Vec 42 1 encU uk ((K.drop 0).take N0)) (Vec 3 1 encI uv ((V.drop 0).take N0)) (Vec 42 1 encU kv K) (Vec 3 1 encI vv V) uk uv (subv 1 kv 0 N0) (subv 1 vv 0 N0) ((K.drop 0).take N0) ((V.drop 0).take N0) (fun rs w h1 h2 => h1.all okU h2) (fun rs w h1 h2 => h1.all okI h2) (rd_sub okU (a := 0) (b := N0) (by omega) (by omega) (r := (K.drop 0).take N0) (by simp)) (rd_sub okI (a := 0) (b := N0) (by omega) (by omega) (r := (V.drop 0).take N0) (by simp)) (by simp [hVK]) (by simp; omega)) rfl rfl rfl (fun _ => rfl) rfl rfl rfl) rfl⟩) ?_
      refine s_cons (by intro v0_; exact ⟨rfl, fun b w hH hb => exec_q1 hflS rfl hb⟩) ?_
      exact s_nil
    intro v0_
    refine WL2.keep (env' := [(1, .int .u64 f), (8, .bool false), (9, .pointer (some ⟨g, 0, none⟩)), (11, .pointer (some ⟨gr, 0, none⟩)), (3, .int .i64 mo), (13, .int .i64 (N0 : Int)), (14, uk), (15, uv), (84, .bool false)]) ⟨rfl, rfl, rfl, rfl, rfl, rfl, rfl, rfl, rfl, trivial⟩ ?_
    refine h_nil (f_to (d_else rfl (d_skip (f_to (d_reg ?_)))))
    refine h_q hflS rfl ?_
    refine h_done (d_seq (d_block ?_))
    refine d_loop (α := Nat) (fun j => [(1, .int .u64 f), (8, .bool false), (9, .pointer (some ⟨g, 0, none⟩)), (11, .pointer (some ⟨gr, 0, none⟩)), (3, .int .i64 mo), (13, .int .i64 (N0 : Int)), (14, uk), (15, uv), (16, .int .i64 ((j : Nat) : Int))]) (fun j => [Vec 42 1 encU uk ((K.drop 0).take N0), Vec 3 1 encI uv ((V.drop 0).take N0), Vec 42 1 encU kv K, Vec 3 1 encI vv V, cell gr 47 #[.int .i64 100, kv, vv], Tab 85 42 3 encU encI ltI g 100 K V]) (fun j => j ≤ K.length ∧ ∀ q x, q < j → K[q]? = some x → ltI x f = true) (fun j => K.length - j) 0 ⟨Nat.zero_le _, fun q x hq => absurd hq (Nat.not_lt_zero _)⟩ ⟨rfl, rfl, rfl, rfl, rfl, rfl, rfl, rfl, rfl, trivial⟩ rfl ?_
    rintro j hJ
    refine WC2.at_ (env' := [(1, .int .u64 f), (8, .bool false), (9, .pointer (some ⟨g, 0, none⟩)), (11, .pointer (some ⟨gr, 0, none⟩)), (3, .int .i64 mo), (13, .int .i64 (N0 : Int)), (14, uk), (15, uv), (16, .int .i64 ((j : Nat) : Int))]) (rs' := [Vec 42 1 encU uk ((K.drop 0).take N0), Vec 3 1 encI uv ((V.drop 0).take N0), Vec 42 1 encU kv K, Vec 3 1 encI vv V, cell gr 47 #[.int .i64 100, kv, vv], Tab 85 42 3 encU encI ltI g 100 K V]) ⟨rfl, rfl, rfl, rfl, rfl, rfl, rfl, rfl, rfl, trivial⟩ rfl ?_
    have hJ1 := hJ.1
    refine d_seq ?_
    rcases Nat.lt_or_ge j K.length with h6 | h6
    · skip
      obtain ⟨x, hx⟩ : ∃ x, K[j]? = some x := ⟨_, List.getElem?_eq_getElem h6⟩
      by_cases hL : x < f
      · skip
        refine d_reg ?_
        refine h_q hflS rfl ?_
        refine h_val rfl (.pointer (some ⟨gr, 0, none⟩)) (fun b w hb hH => by exact exec_nilCheck rfl rfl hb) ?_
        refine h_q hflS rfl ?_
        refine h_val rfl (kv) (fun b w hb hH => exec_load rfl rfl (reads_one ty_s_uint64 rfl) (hH.row 4 rfl) hb) ?_
        refine h_val rfl (.int .i64 (K.length : Int)) (fun b w hb hH => e_vlen 2 Try.underlying44 rfl rfl rfl hH hb) ?_
        refine h_val rfl (.bool true) (fun b w hb hH => exec_cmp rfl rfl rfl (cmp_lss_t (by omega)) hb) ?_
        refine h_q hflS rfl ?_
        refine h_val rfl (.pointer (some ⟨gr, 0, none⟩)) (fun b w hb hH => by exact exec_nilCheck rfl rfl hb) ?_
        refine h_q hflS rfl ?_
        refine h_val rfl (kv) (fun b w hb hH => exec_load rfl rfl (reads_one ty_s_uint64 rfl) (hH.row 4 rfl) hb) ?_
        refine h_q hflS rfl ?_
        refine h_val rfl (elp kv (j * 1)) (fun b w hb hH => e_vidx 2 sl_uint64 okU rfl j h6 rfl rfl rfl hH hb) ?_
        refine h_val rfl (.int .u64 x) (fun b w hb hH => e_vload1 2 ty_uint64 okU rfl j (a := x) hx rfl rfl rfl hH hb) ?_
        refine h_q hflS rfl ?_
        refine h_val rfl (.bool true) (fun b w hb hH => exec_cmp rfl rfl rfl (cmp_lss_t hL) hb) ?_
        refine h_q hflS rfl ?_
        refine h_done (d_then rfl (d_skip (f_to (d_block (d_reg1 ?_)))))
        refine h_q hflS rfl ?_
        refine h_val rfl (.int .i64 ((j + 1 : Nat) : Int)) (fun b w hb hH => exec_ar rfl rfl rfl rfl (by rw [IntWalk.i64_in _ (by omega)]; omega) hb) ?_
        refine h_q hflS rfl ?_
        refine h_nil (f_block ?_)
        exact f_again (j + 1) 0 ⟨h6, hT.srt.below ordI hx (by simp [ltI, hL])⟩ (show K.length - (j + 1) < K.length - j by omega) ⟨rfl, rfl, rfl, rfl, rfl, rfl, rfl, rfl, rfl, trivial⟩ rfl
      · skip
        have hp := pos_eq hJ1 hJ.2 (fun y hy => by rw [hx] at hy; cases hy; simp only [ltI, decide_eq_false_iff_not]; exact hL)
        obtain ⟨N1, hN1⟩ : ∃ N1 : Nat, (N1 : Int) = min mo ((K.length : Int) - (j : Int)) := ⟨(min mo ((K.length : Int) - (j : Int))).toNat, by omega⟩
        refine d_reg ?_
        refine h_q hflS rfl ?_
        refine h_val rfl (.pointer (some ⟨gr, 0, none⟩)) (fun b w hb hH => by exact exec_nilCheck rfl rfl hb) ?_
        refine h_q hflS rfl ?_
        refine h_val rfl (kv) (fun b w hb hH => exec_load rfl rfl (reads_one ty_s_uint64 rfl) (hH.row 4 rfl) hb) ?_
        refine h_val rfl (.int .i64 (K.length : Int)) (fun b w hb hH => e_vlen 2 Try.underlying44 rfl rfl rfl hH hb) ?_
        refine h_val rfl (.bool true) (fun b w hb hH => exec_cmp rfl rfl rfl (cmp_lss_t (by omega)) hb) ?_
        refine h_q hflS rfl ?_
        refine h_val rfl (.pointer (some ⟨gr, 0, none⟩)) (fun b w hb hH => by exact exec_nilCheck rfl rfl hb) ?_
        refine h_q hflS rfl ?_
        refine h_val rfl (kv) (fun b w hb hH => exec_load rfl rfl (reads_one ty_s_uint64 rfl) (hH.row 4 rfl) hb) ?_
        refine h_q hflS rfl ?_
        refine h_val rfl (elp kv (j * 1)) (fun b w hb hH => e_vidx 2 sl_uint64 okU rfl j h6 rfl rfl rfl hH hb) ?_
        refine h_val rfl (.int .u64 x) (fun b w hb hH => e_vload1 2 ty_uint64 okU rfl j (a := x) hx rfl rfl rfl hH hb) ?_
        refine h_q hflS rfl ?_
        refine h_val rfl (.bool false) (fun b w hb hH => exec_cmp rfl rfl rfl (cmp_lss_f hL) hb) ?_
        refine h_q hflS rfl ?_
        refine h_done (d_else rfl (d_exit (f_then_exit (f_then_exit (f_block_exit (f_to (d_reg ?_)))))))
        refine h_q hflS rfl ?_
        refine h_val rfl (.pointer (some ⟨gr, 0, none⟩)) (fun b w hb hH => by exact exec_nilCheck rfl rfl hb) ?_
        refine h_q hflS rfl ?_
        refine h_val rfl (kv) (fun b w hb hH => exec_load rfl rfl (reads_one ty_s_uint64 rfl) (hH.row 4 rfl) hb) ?_
        refine h_val rfl (.int .i64 (K.length : Int)) (fun b w hb hH => e_vlen 2 Try.underlying44 rfl rfl rfl hH hb) ?_
        refine h_q hflS rfl ?_
        refine h_val rfl (.int .i64 ((K.length : Int) - ((j : Nat) : Int))) (fun b w hb hH => exec_ar rfl rfl rfl rfl (IntWalk.i64_in _ (by omega)) hb) ?_
        refine h_val rfl (.int .i64 (N1 : Int)) (fun b w hb hH => exec_builtin2 rfl rfl (fun cs => (fun w cs => run_min2 (by split <;> omega) _ _ w cs) w cs) hb) ?_
        refine h_q hflS rfl ?_
        refine h_done (d_reg ?_)
        refine h_q hflS rfl ?_
        refine h_act rfl (a_does  [5] 0 (ent_of Try.func24 (by kernel_rfl) rfl) (told_from g 100 K V f mo (by omega) hp hN1) rfl rfl rfl (fun _ => rfl) rfl rfl rfl) ?_; rintro ⟨wk, wv⟩
        refine WL2.keep (env' := [(1, .int .u64 f), (8, .bool false), (9, .pointer (some ⟨g, 0, none⟩)), (11, .pointer (some ⟨gr, 0, none⟩)), (3, .int .i64 mo), (14, uk), (15, uv), (16, .int .i64 ((j : Nat) : Int)), (85, .int .i64 ((j : Nat) : Int)), (86, .pointer (some ⟨gr, 0, none⟩)), (87, .pointer (some ⟨gr, 0, none⟩)), (88, .pointer (some ⟨gr, 1, none⟩)), (89, kv), (90, .int .i64 (K.length : Int)), (91, .bool true), (92, .bool true), (93, .pointer (some ⟨gr, 0, none⟩)), (94, .pointer (some ⟨gr, 0, none⟩)), (95, .pointer (some ⟨gr, 1, none⟩)), (96, kv), (97, .int .i64 ((j : Nat) : Int)), (98, elp kv (j * 1)), (99, .int .u64 x), (100, .int .u64 f), (101, .bool false), (102, .bool false), (105, .int .i64 mo), (106, .pointer (some ⟨gr, 0, none⟩)), (107, .pointer (some ⟨gr, 0, none⟩)), (108, .pointer (some ⟨gr, 1, none⟩)), (109, kv), (110, .int .i64 (K.length : Int)), (111, .int .i64 ((j : Nat) : Int)), (112, .int .i64 ((K.length : Int) - ((j : Nat) : Int))), (113, .int .i64 (N1 : Int)), (13, .int .i64 (N1 : Int)), (115, .pointer (some ⟨g, 0, none⟩)), (116, .int .u64 f), (117, .int .i64 mo), (118, .tuple #[wk, wv])]) ⟨rfl, rfl, rfl, rfl, rfl, rfl, rfl, rfl, rfl, rfl, rfl, rfl, rfl, rfl, rfl, rfl, rfl, rfl, rfl, rfl, rfl, rfl, rfl, rfl, rfl, rfl, rfl, rfl, rfl, rfl, rfl, rfl, rfl, rfl, rfl, rfl, rfl, rfl, rfl, rfl, trivial⟩ ?_
        refine WL2.mid [Vec 42 1 encU wk ((K.drop j).take N1), Vec 3 1 encI wv ((V.drop j).take N1), Vec 42 1 encU uk ((K.drop 0).take N0), Vec 3 1 encI uv ((V.drop 0).take N0), Vec 42 1 encU kv K, Vec 3 1 encI vv V, cell gr 47 #[.int .i64 100, kv, vv], Tab 85 42 3 encU encI ltI g 100 K V] (.refl _) ?_
        refine h_q hflS rfl ?_
        refine h_done (d_seq ?_)
        refine d_parS 21 1 [⟨.quiet, [none], fun _ => wk, []⟩, ⟨.quiet, [none], fun _ => wv, []⟩, ⟨.quiet, [none], fun _ => .pointer (some ⟨gr, 0, none⟩), []⟩, ⟨.quiet, [none], fun _ => .pointer (some ⟨gr, 0, none⟩), [2]⟩, ⟨.quiet, [none], fun _ => .pointer (some ⟨gr, 1, none⟩), [3]⟩, ⟨.quiet, [none], fun _ => kv, [4]⟩, ⟨.quiet, [none], fun _ => .int .i64 ((j : Nat) : Int), []⟩, ⟨.quiet, [none], fun _ => .int .i64 ((j : Nat) : Int), []⟩, ⟨.quiet, [none], fun _ => .int .i64 (N1 : Int), []⟩, ⟨.quiet, [none], fun _ => .int .i64 ((j + N1 : Nat) : Int), [7, 8]⟩, ⟨.quiet, [none], fun _ => subv 1 kv j (j + N1), [5, 6, 9]⟩, ⟨.quiet, [none], fun _ => .pointer (some ⟨gr, 0, none⟩), []⟩, ⟨.quiet, [none], fun _ => .pointer (some ⟨gr, 0, none⟩), [11]⟩, ⟨.quiet, [none], fun _ => .pointer (some ⟨gr, 2, none⟩), [12]⟩, ⟨.quiet, [none], fun _ => vv, [13]⟩, ⟨.quiet, [none], fun _ => .int .i64 ((j : Nat) : Int), []⟩, ⟨.quiet, [none], fun _ => .int .i64 ((j : Nat) : Int), []⟩, ⟨.quiet, [none], fun _ => .int .i64 (N1 : Int), []⟩, ⟨.quiet, [none], fun _ => .int .i64 ((j + N1 : Nat) : Int), [16, 17]⟩, ⟨.quiet, [none], fun _ => subv 1 vv j (j + N1), [14, 15, 18]⟩, ⟨.actv 0, [some false], fun _ => .bool true, [0, 1, 10, 19]⟩] [(8, .bool false), (11, .pointer (some ⟨gr, 0, none⟩)), (16, .int .i64 ((j : Nat) : Int)), (13, .int .i64 (N1 : Int)), (14, wk), (15, wv)] (fun ρ => match ρ with | [r0] => [Vec 42 1 encU wk ((K.drop j).take N1), Vec 3 1 encI wv ((V.drop j).take N1), Vec 42 1 encU uk ((K.drop 0).take N0), Vec 3 1 encI uv ((V.drop 0).take N0), Vec 42 1 encU kv K, Vec 3 1 encI vv V, cell gr 47 #[.int .i64 100, kv, vv], Tab 85 42 3 encU encI ltI g 100 K V] | _ => []) (by kernel_rfl) (by kernel_rfl) ⟨rfl, rfl, rfl, rfl, rfl, rfl, trivial⟩ rfl ?_ ?_
        · skip
          refine s_cons (by intro r0_; exact ⟨rfl, fun b w hH hb => exec_q1 hflS rfl hb⟩) ?_
          refine s_cons (by intro r0_; exact ⟨rfl, fun b w hH hb => exec_q1 hflS rfl hb⟩) ?_
          refine s_cons (by intro r0_; exact ⟨rfl, fun b w hH hb => exec_q1 hflS rfl hb⟩) ?_
          refine s_cons (by intro r0_; exact ⟨rfl, fun b w hH hb => by exact exec_nilCheck rfl rfl hb⟩) ?_
          refine s_cons (by intro r0_; exact ⟨rfl, fun b w hH hb => exec_q1 hflS rfl hb⟩) ?_
          refine s_cons (by intro r0_; exact ⟨rfl, fun b w hH hb => exec_load rfl rfl (reads_one ty_s_uint64 rfl) (hH.row 6 rfl) hb⟩) ?_
          refine s_cons (by intro r0_; exact ⟨rfl, fun b w hH hb => exec_q1 hflS rfl hb⟩) ?_
          refine s_cons (by intro r0_; exact ⟨rfl, fun b w hH hb => exec_q1 hflS rfl hb⟩) ?_
          refine s_cons (by intro r0_; exact ⟨rfl, fun b w hH hb => exec_q1 hflS rfl hb⟩) ?_
          refine s_cons (by intro r0_; exact ⟨rfl, fun b w hH hb => exec_ar rfl rfl rfl rfl (by rw [IntWalk.i64_in _ (by omega)]; omega) hb⟩) ?_
          refine s_cons (by intro r0_; exact ⟨rfl, fun b w hH hb => e_vsub 4 (a := j) (b := (j + N1)) sl_uint64 rfl (by omega) (by omega) rfl rfl rfl rfl hH hb⟩) ?_
          refine s_cons (by intro r0_; exact ⟨rfl, fun b w hH hb => exec_q1 hflS rfl hb⟩) ?_
          refine s_cons (by intro r0_; exact ⟨rfl, fun b w hH hb => by exact exec_nilCheck rfl rfl hb⟩) ?_
          refine s_cons (by intro r0_; exact ⟨rfl, fun b w hH hb => exec_q1 hflS rfl hb⟩) ?_
          refine s_cons (by intro r0_; exact ⟨rfl, fun b w hH hb => exec_load rfl rfl (reads_one ty_s_int rfl) (hH.row 6 rfl) hb⟩) ?_
          refine s_cons (by intro r0_; exact ⟨rfl, fun b w hH hb => exec_q1 hflS rfl hb⟩) ?_
          refine s_cons (by intro r0_; exact ⟨rfl, fun b w hH hb => exec_q1 hflS rfl hb⟩) ?_
          refine s_cons (by intro r0_; exact ⟨rfl, fun b w hH hb => exec_q1 hflS rfl hb⟩) ?_
          refine s_cons (by intro r0_; exact ⟨rfl, fun b w hH hb => exec_ar rfl rfl rfl rfl (by rw [IntWalk.i64_in _ (by omega)]; omega) hb⟩) ?_
          refine s_cons (by intro r0_; exact ⟨rfl, fun b w hH hb => e_vsub 5 (a := j) (b := (j + N1)) sl_int rfl (by omega) (by omega) rfl rfl rfl rfl hH hb⟩) ?_
          refine s_cons (by exact ⟨rfl, Acts.su (a_does (os' := fun _ => [Vec 42 1 encU wk ((K.drop j).take N1), Vec 3 1 encI wv ((V.drop j).take N1), Vec 42 1 encU uk ((K.drop 0).take N0), Vec 3 1 encI uv ((V.drop 0).take N0), Vec 42 1 encU kv K, Vec 3 1 encI vv V, cell gr 47 #[.int .i64 100, kv, vv], Tab 85 42 3 encU encI ltI g 100 K V]) [0, 1, 4, 5] 0 (ent_of Try.func22 (by kernel_rfl) rfl) (same_true (Vec 42 1 encU wk ((K.drop j).take N1)) (Vec 3 1 encI wv ((V.drop j).take N1)) (Vec 42 1 encU kv K) (Vec 3 1 encI vv V) wk wv (subv 1 kv j (j + N1)) (subv 1 vv j (j + N1)) ((K.drop j).take N1) ((V.drop j).take N1) (fun rs w h1 h2 => h1.all okU h2) (fun rs w h1 h2 => h1.all okI h2) (rd_sub okU (a := j) (b := (j + N1)) (by omega) (by omega) (r := (K.drop j).take N1) (by rw [List.drop_take, Nat.add_sub_cancel_left])) (rd_sub okI (a := j) (b := (j + N1)) (by omega) (by omega) (r := (V.drop j).take N1) (by rw [List.drop_take, Nat.add_sub_cancel_left])) (by simp [hVK]) (by simp; omega)) rfl rfl rfl (fun _ => rfl) rfl rfl rfl) rfl⟩) ?_
          exact s_nil
        intro v0_
        refine WL2.keep (env' := [(8, .bool false), (141, .bool true)]) ⟨rfl, rfl, trivial⟩ ?_
        refine h_q hflS rfl ?_
        refine h_nil (f_to (d_ret ?_))
        exact f_fin1 (.tmp rfl) (fun w h => ⟨rfl, below0 h.up⟩) rfl
    · skip
      have hp := pos_eq hJ1 hJ.2 (fun y hy => by rw [List.getElem?_eq_none h6] at hy; cases hy)
      obtain ⟨N1, hN1⟩ : ∃ N1 : Nat, (N1 : Int) = min mo ((K.length : Int) - (j : Int)) := ⟨(min mo ((K.length : Int) - (j : Int))).toNat, by omega⟩
      refine d_reg ?_
      refine h_q hflS rfl ?_
      refine h_val rfl (.pointer (some ⟨gr, 0, none⟩)) (fun b w hb hH => by exact exec_nilCheck rfl rfl hb) ?_
      refine h_q hflS rfl ?_
      refine h_val rfl (kv) (fun b w hb hH => exec_load rfl rfl (reads_one ty_s_uint64 rfl) (hH.row 4 rfl) hb) ?_
      refine h_val rfl (.int .i64 (K.length : Int)) (fun b w hb hH => e_vlen 2 Try.underlying44 rfl rfl rfl hH hb) ?_
      refine h_val rfl (.bool false) (fun b w hb hH => exec_cmp rfl rfl rfl (cmp_lss_f (by omega)) hb) ?_
      refine h_q hflS rfl ?_
      refine h_done (d_else rfl (d_exit (f_then_exit (f_then_exit (f_block_exit (f_to (d_reg ?_)))))))
      refine h_q hflS rfl ?_
      refine h_val rfl (.pointer (some ⟨gr, 0, none⟩)) (fun b w hb hH => by exact exec_nilCheck rfl rfl hb) ?_
      refine h_q hflS rfl ?_
      refine h_val rfl (kv) (fun b w hb hH => exec_load rfl rfl (reads_one ty_s_uint64 rfl) (hH.row 4 rfl) hb) ?_
      refine h_val rfl (.int .i64 (K.length : Int)) (fun b w hb hH => e_vlen 2 Try.underlying44 rfl rfl rfl hH hb) ?_
      refine h_q hflS rfl ?_
      refine h_val rfl (.int .i64 ((K.length : Int) - ((j : Nat) : Int))) (fun b w hb hH => exec_ar rfl rfl rfl rfl (IntWalk.i64_in _ (by omega)) hb) ?_
      refine h_val rfl (.int .i64 (N1 : Int)) (fun b w hb hH => exec_builtin2 rfl rfl (fun cs => (fun w cs => run_min2 (by split <;> omega) _ _ w cs) w cs) hb) ?_
      refine h_q hflS rfl ?_
      refine h_done (d_reg ?_)
      refine h_q hflS rfl ?_
      refine h_act rfl (a_does  [5] 0 (ent_of Try.func24 (by kernel_rfl) rfl) (told_from g 100 K V f mo (by omega) hp hN1) rfl rfl rfl (fun _ => rfl) rfl rfl rfl) ?_; rintro ⟨wk, wv⟩
      refine WL2.keep (env' := [(1, .int .u64 f), (8, .bool false), (9, .pointer (some ⟨g, 0, none⟩)), (11, .pointer (some ⟨gr, 0, none⟩)), (3, .int .i64 mo), (14, uk), (15, uv), (16, .int .i64 ((j : Nat) : Int)), (85, .int .i64 ((j : Nat) : Int)), (86, .pointer (some ⟨gr, 0, none⟩)), (87, .pointer (some ⟨gr, 0, none⟩)), (88, .pointer (some ⟨gr, 1, none⟩)), (89, kv), (90, .int .i64 (K.length : Int)), (91, .bool false), (92, .bool false), (93, undef), (94, undef), (95, undef), (96, undef), (97, undef), (98, undef), (99, undef), (100, undef), (101, undef), (102, .bool false), (105, .int .i64 mo), (106, .pointer (some ⟨gr, 0, none⟩)), (107, .pointer (some ⟨gr, 0, none⟩)), (108, .pointer (some ⟨gr, 1, none⟩)), (109, kv), (110, .int .i64 (K.length : Int)), (111, .int .i64 ((j : Nat) : Int)), (112, .int .i64 ((K.length : Int) - ((j : Nat) : Int))), (113, .int .i64 (N1 : Int)), (13, .int .i64 (N1 : Int)), (115, .pointer (some ⟨g, 0, none⟩)), (116, .int .u64 f), (117, .int .i64 mo), (118, .tuple #[wk, wv])]) ⟨rfl, rfl, rfl, rfl, rfl, rfl, rfl, rfl, rfl, rfl, rfl, rfl, rfl, rfl, rfl, rfl, rfl, rfl, rfl, rfl, rfl, rfl, rfl, rfl, rfl, rfl, rfl, rfl, rfl, rfl, rfl, rfl, rfl, rfl, rfl, rfl, rfl, rfl, rfl, rfl, trivial⟩ ?_
      refine WL2.mid [Vec 42 1 encU wk ((K.drop j).take N1), Vec 3 1 encI wv ((V.drop j).take N1), Vec 42 1 encU uk ((K.drop 0).take N0), Vec 3 1 encI uv ((V.drop 0).take N0), Vec 42 1 encU kv K, Vec 3 1 encI vv V, cell gr 47 #[.int .i64 100, kv, vv], Tab 85 42 3 encU encI ltI g 100 K V] (.refl _) ?_
      refine h_q hflS rfl ?_
      refine h_done (d_seq ?_)
      refine d_parS 21 1 [⟨.quiet, [none], fun _ => wk, []⟩, ⟨.quiet, [none], fun _ => wv, []⟩, ⟨.quiet, [none], fun _ => .pointer (some ⟨gr, 0, none⟩), []⟩, ⟨.quiet, [none], fun _ => .pointer (some ⟨gr, 0, none⟩), [2]⟩, ⟨.quiet, [none], fun _ => .pointer (some ⟨gr, 1, none⟩), [3]⟩, ⟨.quiet, [none], fun _ => kv, [4]⟩, ⟨.quiet, [none], fun _ => .int .i64 ((j : Nat) : Int), []⟩, ⟨.quiet, [none], fun _ => .int .i64 ((j : Nat) : Int), []⟩, ⟨.quiet, [none], fun _ => .int .i64 (N1 : Int), []⟩, ⟨.quiet, [none], fun _ => .int .i64 ((j + N1 : Nat) : Int), [7, 8]⟩, ⟨.quiet, [none], fun _ => subv 1 kv j (j + N1), [5, 6, 9]⟩, ⟨.quiet, [none], fun _ => .pointer (some ⟨gr, 0, none⟩), []⟩, ⟨.quiet, [none], fun _ => .pointer (some ⟨gr, 0, none⟩), [11]⟩, ⟨.quiet, [none], fun _ => .pointer (some ⟨gr, 2, none⟩), [12]⟩, ⟨.quiet, [none], fun _ => vv, [13]⟩, ⟨.quiet, [none], fun _ => .int .i64 ((j : Nat) : Int), []⟩, ⟨.quiet, [none], fun _ => .int .i64 ((j : Nat) : Int), []⟩, ⟨.quiet, [none], fun _ => .int .i64 (N1 : Int), []⟩, ⟨.quiet, [none], fun _ => .int .i64 ((j + N1 : Nat) : Int), [16, 17]⟩, ⟨.quiet, [none], fun _ => subv 1 vv j (j + N1), [14, 15, 18]⟩, ⟨.actv 0, [some false], fun _ => .bool true, [0, 1, 10, 19]⟩] [(8, .bool false), (11, .pointer (some ⟨gr, 0, none⟩)), (16, .int .i64 ((j : Nat) : Int)), (13, .int .i64 (N1 : Int)), (14, wk), (15, wv)] (fun ρ => match ρ with | [r0] => [Vec 42 1 encU wk ((K.drop j).take N1), Vec 3 1 encI wv ((V.drop j).take N1), Vec 42 1 encU uk ((K.drop 0).take N0), Vec 3 1 encI uv ((V.drop 0).take N0), Vec 42 1 encU kv K, Vec 3 1 encI vv V, cell gr 47 #[.int .i64 100, kv, vv], Tab 85 42 3 encU encI ltI g 100 K V] | _ => []) (by kernel_rfl) (by kernel_rfl) ⟨rfl, rfl, rfl, rfl, rfl, rfl, trivial⟩ rfl ?_ ?_
      · skip
        refine s_cons (by intro r0_; exact ⟨rfl, fun b w hH hb => exec_q1 hflS rfl hb⟩) ?_
        refine s_cons (by intro r0_; exact ⟨rfl, fun b w hH hb => exec_q1 hflS rfl hb⟩) ?_
        refine s_cons (by intro r0_; exact ⟨rfl, fun b w hH hb => exec_q1 hflS rfl hb⟩) ?_
        refine s_cons (by intro r0_; exact ⟨rfl, fun b w hH hb => by exact exec_nilCheck rfl rfl hb⟩) ?_
        refine s_cons (by intro r0_; exact ⟨rfl, fun b w hH hb => exec_q1 hflS rfl hb⟩) ?_
        refine s_cons (by intro r0_; exact ⟨rfl, fun b w hH hb => exec_load rfl rfl (reads_one ty_s_uint64 rfl) (hH.row 6 rfl) hb⟩) ?_
        refine s_cons (by intro r0_; exact ⟨rfl, fun b w hH hb => exec_q1 hflS rfl hb⟩) ?_
        refine s_cons (by intro r0_; exact ⟨rfl, fun b w hH hb => exec_q1 hflS rfl hb⟩) ?_
        refine s_cons (by intro r0_; exact ⟨rfl, fun b w hH hb => exec_q1 hflS rfl hb⟩) ?_
        refine s_cons (by intro r0_; exact ⟨rfl, fun b w hH hb => exec_ar rfl rfl rfl rfl (by rw [IntWalk.i64_in _ (by omega)]; omega) hb⟩) ?_
        refine s_cons (by intro r0_; exact ⟨rfl, fun b w hH hb => e_vsub 4 (a := j) (b := (j + N1)) sl_uint64 rfl (by omega) (by omega) rfl rfl rfl rfl hH hb⟩) ?_
        refine s_cons (by intro r0_; exact ⟨rfl, fun b w hH hb => exec_q1 hflS rfl hb⟩) ?_
        refine s_cons (by intro r0_; exact ⟨rfl, fun b w hH hb => by exact exec_nilCheck rfl rfl hb⟩) ?_
        refine s_cons (by intro r0_; exact ⟨rfl, fun b w hH hb => exec_q1 hflS rfl hb⟩) ?_
        refine s_cons (by intro r0_; exact ⟨rfl, fun b w hH hb => exec_load rfl rfl (reads_one ty_s_int rfl) (hH.row 6 rfl) hb⟩) ?_
        refine s_cons (by intro r0_; exact ⟨rfl, fun b w hH hb => exec_q1 hflS rfl hb⟩) ?_
        refine s_cons (by intro r0_; exact ⟨rfl, fun b w hH hb => exec_q1 hflS rfl hb⟩) ?_
        refine s_cons (by intro r0_; exact ⟨rfl, fun b w hH hb => exec_q1 hflS rfl hb⟩) ?_
        refine s_cons (by intro r0_; exact ⟨rfl, fun b w hH hb => exec_ar rfl rfl rfl rfl (by rw [IntWalk.i64_in _ (by omega)]; omega) hb⟩) ?_
        refine s_cons (by intro r0_; exact ⟨rfl, fun b w hH hb => e_vsub 5 (a := j) (b := (j + N1)) sl_int rfl (by omega) (by omega) rfl rfl rfl rfl hH hb⟩) ?_
        refine s_cons (by exact ⟨rfl, Acts.su (a_does (os' := fun _ => [Vec 42 1 encU wk ((K.drop j).take N1), Vec 3 1 encI wv ((V.drop j).take N1), Vec 42 1 encU uk ((K.drop 0).take N0), Vec 3 1 encI uv ((V.drop 0).take N0), Vec 42 1 encU kv K, Vec 3 1 encI vv V, cell gr 47 #[.int .i64 100, kv, vv], Tab 85 42 3 encU encI ltI g 100 K V]) [0, 1, 4, 5] 0 (ent_of Try.func22 (by kernel_rfl) rfl) (same_true (Vec 42 1 encU wk ((K.drop j).take N1)) (Vec 3 1 encI wv ((V.drop j).take N1)) (Vec 42 1 encU kv K) (Vec 3 1 encI vv V) wk wv (subv 1 kv j (j + N1)) (subv 1 vv j (j + N1)) ((K.drop j).take N1) ((V.drop j).take N1) (fun rs w h1 h2 => h1.all okU h2) (fun rs w h1 h2 => h1.all okI h2) (rd_sub okU (a := j) (b := (j + N1)) (by omega) (by omega) (r := (K.drop j).take N1) (by rw [List.drop_take, Nat.add_sub_cancel_left])) (rd_sub okI (a := j) (b := (j + N1)) (by omega) (by omega) (r := (V.drop j).take N1) (by rw [List.drop_take, Nat.add_sub_cancel_left])) (by simp [hVK]) (by simp; omega)) rfl rfl rfl (fun _ => rfl) rfl rfl rfl) rfl⟩) ?_
        exact s_nil
      intro v0_
      refine WL2.keep (env' := [(8, .bool false), (141, .bool true)]) ⟨rfl, rfl, trivial⟩ ?_
      refine h_q hflS rfl ?_
      refine h_nil (f_to (d_ret ?_))
      exact f_fin1 (.tmp rfl) (fun w h => ⟨rfl, below0 h.up⟩) rfl
  · skip
    refine d_reg ?_
    refine h_q hflS rfl ?_
    refine h_val rfl (.int .i64 (l.length : Int)) (fun b w hb hH => e_slen (arg_rd hl hH) Try.underlying38 rfl rfl hb) ?_
    refine h_val rfl (.bool true) (fun b w hb hH => exec_cmp rfl rfl rfl (cmp_lss_t (by omega)) hb) ?_
    refine h_q hflS rfl ?_
    refine h_val rfl (.bool false) (fun b w hb hH => exec_cmp rfl rfl rfl (cmp_lss_f (by omega)) hb) ?_
    refine h_q hflS rfl ?_
    refine h_done (d_else rfl (d_exit (f_then_exit (f_then_exit (f_block_exit (f_to (d_seq ?_)))))))
    refine WC2.fact 3 rfl Tab.ok ?_; rintro hT
    have hVK := hT.len
    have hKm := hT.le
    obtain ⟨N0, hN0⟩ : ∃ N0 : Nat, (N0 : Int) = min mo ((K.length : Int) - ((0 : Nat) : Int)) := ⟨(min mo ((K.length : Int) - ((0 : Nat) : Int))).toNat, by omega⟩
    refine d_reg ?_
    refine h_q hflS rfl ?_
    refine h_done (d_else rfl (d_skip (f_to (d_reg ?_))))
    refine h_q hflS rfl ?_
    refine h_act (post := fun _ => [Vec 42 1 encU kv K, Vec 3 1 encI vv V, cell gr 47 #[.int .i64 100, kv, vv], Tab 85 42 3 encU encI ltI g 100 K V]) rfl (a_call (ent_of Try.func23 (by kernel_rfl) rfl) (fun w hH => pick w most 20 h1 (by decide) rfl) rfl rfl rfl) ?_; rintro ⟨⟩
    refine h_val rfl (.int .i64 mo) (fun b w hb hH => exec_ar rfl rfl rfl rfl (by rw [IntWalk.i64_in _ (by omega)]; omega) hb) ?_
    refine h_q hflS rfl ?_
    refine h_done (d_reg ?_)
    refine h_q hflS rfl ?_
    refine h_val rfl (.pointer (some ⟨gr, 0, none⟩)) (fun b w hb hH => by exact exec_nilCheck rfl rfl hb) ?_
    refine h_q hflS rfl ?_
    refine h_val rfl (kv) (fun b w hb hH => exec_load rfl rfl (reads_one ty_s_uint64 rfl) (hH.row 2 rfl) hb) ?_
    refine h_val rfl (.int .i64 (K.length : Int)) (fun b w hb hH => e_vlen 0 Try.underlying44 rfl rfl rfl hH hb) ?_
    refine h_val rfl (.int .i64 (N0 : Int)) (fun b w hb hH => exec_builtin2 rfl rfl (fun cs => (fun w cs => run_min2 (by split <;> omega) _ _ w cs) w cs) hb) ?_
    refine h_q hflS rfl ?_
    refine h_done (d_reg ?_)
    refine h_q hflS rfl ?_
    refine h_act rfl (a_does  [3] 0 (ent_of Try.func24 (by kernel_rfl) rfl) (told_all g 100 K V 0 mo (by omega) hN0) rfl rfl rfl (fun _ => rfl) rfl rfl rfl) ?_; rintro ⟨uk, uv⟩
    refine WL2.keep (env' := [(0, sl), (1, .int .u64 f), (2, .bool false), (8, .bool false), (9, .pointer (some ⟨g, 0, none⟩)), (11, .pointer (some ⟨gr, 0, none⟩)), (12, .int .i64 ((i : Nat) : Int)), (33, .int .i64 ((i : Nat) : Int)), (34, sl), (35, .int .i64 (l.length : Int)), (36, .bool true), (37, .bool true), (38, .int .i64 ((i : Nat) : Int)), (39, .bool false), (40, .bool false), (50, .bool false), (53, .int .i64 most), (54, .int .i64 (most % 20)), (55, .int .i64 mo), (3, .int .i64 mo), (56, .int .i64 mo), (57, .pointer (some ⟨gr, 0, none⟩)), (58, .pointer (some ⟨gr, 0, none⟩)), (59, .pointer (some ⟨gr, 1, none⟩)), (60, kv), (61, .int .i64 (K.length : Int)), (62, .int .i64 (N0 : Int)), (13, .int .i64 (N0 : Int)), (64, .pointer (some ⟨g, 0, none⟩)), (65, .int .i64 mo), (66, .tuple #[uk, uv])]) ⟨rfl, rfl, rfl, rfl, rfl, rfl, rfl, rfl, rfl, rfl, rfl, rfl, rfl, rfl, rfl, rfl, rfl, rfl, rfl, rfl, rfl, rfl, rfl, rfl, rfl, rfl, rfl, rfl, rfl, rfl, rfl, trivial⟩ ?_
    refine WL2.mid [Vec 42 1 encU uk ((K.drop 0).take N0), Vec 3 1 encI uv ((V.drop 0).take N0), Vec 42 1 encU kv K, Vec 3 1 encI vv V, cell gr 47 #[.int .i64 100, kv, vv], Tab 85 42 3 encU encI ltI g 100 K V] (.refl _) ?_
    refine h_q hflS rfl ?_
    refine h_done (d_seq (d_seq ?_))
    refine d_parS 16 1 [⟨.quiet, [none], fun _ => uk, []⟩, ⟨.quiet, [none], fun _ => uv, []⟩, ⟨.quiet, [none], fun _ => .pointer (some ⟨gr, 0, none⟩), []⟩, ⟨.quiet, [none], fun _ => .pointer (some ⟨gr, 0, none⟩), [2]⟩, ⟨.quiet, [none], fun _ => .pointer (some ⟨gr, 1, none⟩), [3]⟩, ⟨.quiet, [none], fun _ => kv, [4]⟩, ⟨.quiet, [none], fun _ => .int .i64 (N0 : Int), []⟩, ⟨.quiet, [none], fun _ => subv 1 kv 0 N0, [5, 6]⟩, ⟨.quiet, [none], fun _ => .pointer (some ⟨gr, 0, none⟩), []⟩, ⟨.quiet, [none], fun _ => .pointer (some ⟨gr, 0, none⟩), [8]⟩, ⟨.quiet, [none], fun _ => .pointer (some ⟨gr, 2, none⟩), [9]⟩, ⟨.quiet, [none], fun _ => vv, [10]⟩, ⟨.quiet, [none], fun _ => .int .i64 (N0 : Int), []⟩, ⟨.quiet, [none], fun _ => subv 1 vv 0 N0, [11, 12]⟩, ⟨.actv 0, [some false], fun _ => .bool true, [0, 1, 7, 13]⟩, ⟨.quiet, [some true], fun _ => .bool false, [14]⟩] [(1, .int .u64 f), (8, .bool false), (9, .pointer (some ⟨g, 0, none⟩)), (11, .pointer (some ⟨gr, 0, none⟩)), (3, .int .i64 mo), (13, .int .i64 (N0 : Int)), (14, uk), (15, uv)] (fun ρ => match ρ with | [r0] => [Vec 42 1 encU uk ((K.drop 0).take N0), Vec 3 1 encI uv ((V.drop 0).take N0), Vec 42 1 encU kv K, Vec 3 1 encI vv V, cell gr 47 #[.int .i64 100, kv, vv], Tab 85 42 3 encU encI ltI g 100 K V] | _ => []) (by kernel_rfl) (by kernel_rfl) ⟨rfl, rfl, rfl, rfl, rfl, rfl, rfl, rfl, trivial⟩ rfl ?_ ?_
    · skip
      refine s_cons (by intro r0_; exact ⟨rfl, fun b w hH hb => exec_q1 hflS rfl hb⟩) ?_
      refine s_cons (by intro r0_; exact ⟨rfl, fun b w hH hb => exec_q1 hflS rfl hb⟩) ?_
      refine s_cons (by intro r0_; exact ⟨rfl, fun b w hH hb => exec_q1 hflS rfl hb⟩) ?_
      refine s_cons (by intro r0_; exact ⟨rfl, fun b w hH hb => by exact exec_nilCheck rfl rfl hb⟩) ?_
      refine s_cons (by intro r0_; exact ⟨rfl, fun b w hH hb => exec_q1 hflS rfl hb⟩) ?_
      refine s_cons (by intro r0_; exact ⟨rfl, fun b w hH hb => exec_load rfl rfl (reads_one ty_s_uint64 rfl) (hH.row 4 rfl) hb⟩) ?_
      refine s_cons (by intro r0_; exact ⟨rfl, fun b w hH hb => exec_q1 hflS rfl hb⟩) ?_
      refine s_cons (by intro r0_; exact ⟨rfl, fun b w hH hb => e_vsub_hi 2 (b := N0) sl_uint64 rfl (by omega) rfl rfl rfl hH hb⟩) ?_
      refine s_cons (by intro r0_; exact ⟨rfl, fun b w hH hb => exec_q1 hflS rfl hb⟩) ?_
      refine s_cons (by intro r0_; exact ⟨rfl, fun b w hH hb => by exact exec_nilCheck rfl rfl hb⟩) ?_
      refine s_cons (by intro r0_; exact ⟨rfl, fun b w hH hb => exec_q1 hflS rfl hb⟩) ?_
      refine s_cons (by intro r0_; exact ⟨rfl, fun b w hH hb => exec_load rfl rfl (reads_one ty_s_int rfl) (hH.row 4 rfl) hb⟩) ?_
      refine s_cons (by intro r0_; exact ⟨rfl, fun b w hH hb => exec_q1 hflS rfl hb⟩) ?_
      refine s_cons (by intro r0_; exact ⟨rfl, fun b w hH hb => e_vsub_hi 3 (b := N0) sl_int rfl (by omega) rfl rfl rfl hH hb⟩) ?_
      refine s_cons (by exact ⟨rfl, Acts.su (a_does (os' := fun _ => [Vec 42 1 encU uk ((K.drop 0).take N0), Vec 3 1 encI uv ((V.drop 0).take N0), Vec 42 1 encU kv K, Vec 3 1 encI vv V, cell gr 47 #[.int .i64 100, kv, vv], Tab 85 42 3 encU encI ltI g 100 K V]) [0, 1, 2, 3] 0 (ent_of Try.func22 (by kernel_rfl) rfl) (same_true (Vec 42 1 encU uk ((K.drop 0).take N0)) (Vec 3 1 encI uv ((V.drop 0).take N0)) (Vec 42 1 encU kv K) (Vec 3 1 encI vv V) uk uv (subv 1 kv 0 N0) (subv 1 vv 0 N0) ((K.drop 0).take N0) ((V.drop 0).take N0) (fun rs w h1 h2 => h1.all okU h2) (fun rs w h1 h2 => h1.all okI h2) (rd_sub okU (a := 0) (b := N0) (by omega) (by omega) (r := (K.drop 0).take N0) (by simp)) (rd_sub okI (a := 0) (b := N0) (by omega) (by omega) (r := (V.drop 0).take N0) (by simp)) (by simp [hVK]) (by simp; omega)) rfl rfl rfl (fun _ => rfl) rfl rfl rfl) rfl⟩) ?_
      refine s_cons (by intro v0_; exact ⟨rfl, fun b w hH hb => exec_q1 hflS rfl hb⟩) ?_
      exact s_nil
    intro v0_
    refine WL2.keep (env' := [(1, .int .u64 f), (8, .bool false), (9, .pointer (some ⟨g, 0, none⟩)), (11, .pointer (some ⟨gr, 0, none⟩)), (3, .int .i64 mo), (13, .int .i64 (N0 : Int)), (14, uk), (15, uv), (84, .bool false)]) ⟨rfl, rfl, rfl, rfl, rfl, rfl, rfl, rfl, rfl, trivial⟩ ?_
    refine h_nil (f_to (d_else rfl (d_skip (f_to (d_reg ?_)))))
    refine h_q hflS rfl ?_
    refine h_done (d_seq (d_block ?_))
    refine d_loop (α := Nat) (fun j => [(1, .int .u64 f), (8, .bool false), (9, .pointer (some ⟨g, 0, none⟩)), (11, .pointer (some ⟨gr, 0, none⟩)), (3, .int .i64 mo), (13, .int .i64 (N0 : Int)), (14, uk), (15, uv), (16, .int .i64 ((j : Nat) : Int))]) (fun j => [Vec 42 1 encU uk ((K.drop 0).take N0), Vec 3 1 encI uv ((V.drop 0).take N0), Vec 42 1 encU kv K, Vec 3 1 encI vv V, cell gr 47 #[.int .i64 100, kv, vv], Tab 85 42 3 encU encI ltI g 100 K V]) (fun j => j ≤ K.length ∧ ∀ q x, q < j → K[q]? = some x → ltI x f = true) (fun j => K.length - j) 0 ⟨Nat.zero_le _, fun q x hq => absurd hq (Nat.not_lt_zero _)⟩ ⟨rfl, rfl, rfl, rfl, rfl, rfl, rfl, rfl, rfl, trivial⟩ rfl ?_
    rintro j hJ
    refine WC2.at_ (env' := [(1, .int .u64 f), (8, .bool false), (9, .pointer (some ⟨g, 0, none⟩)), (11, .pointer (some ⟨gr, 0, none⟩)), (3, .int .i64 mo), (13, .int .i64 (N0 : Int)), (14, uk), (15, uv), (16, .int .i64 ((j : Nat) : Int))]) (rs' := [Vec 42 1 encU uk ((K.drop 0).take N0), Vec 3 1 encI uv ((V.drop 0).take N0), Vec 42 1 encU kv K, Vec 3 1 encI vv V, cell gr 47 #[.int .i64 100, kv, vv], Tab 85 42 3 encU encI ltI g 100 K V]) ⟨rfl, rfl, rfl, rfl, rfl, rfl, rfl, rfl, rfl, trivial⟩ rfl ?_
    have hJ1 := hJ.1
    refine d_seq ?_
    rcases Nat.lt_or_ge j K.length with h6 | h6
    · skip
      obtain ⟨x, hx⟩ : ∃ x, K[j]? = some x := ⟨_, List.getElem?_eq_getElem h6⟩
      by_cases hL : x < f
      · skip
        refine d_reg ?_
        refine h_q hflS rfl ?_
        refine h_val rfl (.pointer (some ⟨gr, 0, none⟩)) (fun b w hb hH => by exact exec_nilCheck rfl rfl hb) ?_
        refine h_q hflS rfl ?_
        refine h_val rfl (kv) (fun b w hb hH => exec_load rfl rfl (reads_one ty_s_uint64 rfl) (hH.row 4 rfl) hb) ?_
        refine h_val rfl (.int .i64 (K.length : Int)) (fun b w hb hH => e_vlen 2 Try.underlying44 rfl rfl rfl hH hb) ?_
        refine h_val rfl (.bool true) (fun b w hb hH => exec_cmp rfl rfl rfl (cmp_lss_t (by omega)) hb) ?_
        refine h_q hflS rfl ?_
        refine h_val rfl (.pointer (some ⟨gr, 0, none⟩)) (fun b w hb hH => by exact exec_nilCheck rfl rfl hb) ?_
        refine h_q hflS rfl ?_
        refine h_val rfl (kv) (fun b w hb hH => exec_load rfl rfl (reads_one ty_s_uint64 rfl) (hH.row 4 rfl) hb) ?_
        refine h_q hflS rfl ?_
        refine h_val rfl (elp kv (j * 1)) (fun b w hb hH => e_vidx 2 sl_uint64 okU rfl j h6 rfl rfl rfl hH hb) ?_
        refine h_val rfl (.int .u64 x) (fun b w hb hH => e_vload1 2 ty_uint64 okU rfl j (a := x) hx rfl rfl rfl hH hb) ?_
        refine h_q hflS rfl ?_
        refine h_val rfl (.bool true) (fun b w hb hH => exec_cmp rfl rfl rfl (cmp_lss_t hL) hb) ?_
        refine h_q hflS rfl ?_
        refine h_done (d_then rfl (d_skip (f_to (d_block (d_reg1 ?_)))))
        refine h_q hflS rfl ?_
        refine h_val rfl (.int .i64 ((j + 1 : Nat) : Int)) (fun b w hb hH => exec_ar rfl rfl rfl rfl (by rw [IntWalk.i64_in _ (by omega)]; omega) hb) ?_
        refine h_q hflS rfl ?_
        refine h_nil (f_block ?_)
        exact f_again (j + 1) 0 ⟨h6, hT.srt.below ordI hx (by simp [ltI, hL])⟩ (show K.length - (j + 1) < K.length - j by omega) ⟨rfl, rfl, rfl, rfl, rfl, rfl, rfl, rfl, rfl, trivial⟩ rfl
      · skip
        have hp := pos_eq hJ1 hJ.2 (fun y hy => by rw [hx] at hy; cases hy; simp only [ltI, decide_eq_false_iff_not]; exact hL)
        obtain ⟨N1, hN1⟩ : ∃ N1 : Nat, (N1 : Int) = min mo ((K.length : Int) - (j : Int)) := ⟨(min mo ((K.length : Int) - (j : Int))).toNat, by omega⟩
        refine d_reg ?_
        refine h_q hflS rfl ?_
        refine h_val rfl (.pointer (some ⟨gr, 0, none⟩)) (fun b w hb hH => by exact exec_nilCheck rfl rfl hb) ?_
        refine h_q hflS rfl ?_
        refine h_val rfl (kv) (fun b w hb hH => exec_load rfl rfl (reads_one ty_s_uint64 rfl) (hH.row 4 rfl) hb) ?_
        refine h_val rfl (.int .i64 (K.length : Int)) (fun b w hb hH => e_vlen 2 Try.underlying44 rfl rfl rfl hH hb) ?_
        refine h_val rfl (.bool true) (fun b w hb hH => exec_cmp rfl rfl rfl (cmp_lss_t (by omega)) hb) ?_
        refine h_q hflS rfl ?_
        refine h_val rfl (.pointer (some ⟨gr, 0, none⟩)) (fun b w hb hH => by exact exec_nilCheck rfl rfl hb) ?_
        refine h_q hflS rfl ?_
        refine h_val rfl (kv) (fun b w hb hH => exec_load rfl rfl (reads_one ty_s_uint64 rfl) (hH.row 4 rfl) hb) ?_
        refine h_q hflS rfl ?_
        refine h_val rfl (elp kv (j * 1)) (fun b w hb hH => e_vidx 2 sl_uint64 okU rfl j h6 rfl rfl rfl hH hb) ?_
        refine h_val rfl (.int .u64 x) (fun b w hb hH => e_vload1 2 ty_uint64 okU rfl j (a := x) hx rfl rfl rfl hH hb) ?_
        refine h_q hflS rfl ?_
        refine h_val rfl (.bool false) (fun b w hb hH => exec_cmp rfl rfl rfl (cmp_lss_f hL) hb) ?_
        refine h_q hflS rfl ?_
        refine h_done (d_else rfl (d_exit (f_then_exit (f_then_exit (f_block_exit (f_to (d_reg ?_)))))))
        refine h_q hflS rfl ?_
        refine h_val rfl (.pointer (some ⟨gr, 0, none⟩)) (fun b w hb hH => by exact exec_nilCheck rfl rfl hb) ?_
        refine h_q hflS rfl ?_
        refine h_val rfl (kv) (fun b w hb hH => exec_load rfl rfl (reads_one ty_s_uint64 rfl) (hH.row 4 rfl) hb) ?_
        refine h_val rfl (.int .i64 (K.length : Int)) (fun b w hb hH => e_vlen 2 Try.underlying44 rfl rfl rfl hH hb) ?_
        refine h_q hflS rfl ?_
        refine h_val rfl (.int .i64 ((K.length : Int) - ((j : Nat) : Int))) (fun b w hb hH => exec_ar rfl rfl rfl rfl (IntWalk.i64_in _ (by omega)) hb) ?_
        refine h_val rfl (.int .i64 (N1 : Int)) (fun b w hb hH => exec_builtin2 rfl rfl (fun cs => (fun w cs => run_min2 (by split <;> omega) _ _ w cs) w cs) hb) ?_
        refine h_q hflS rfl ?_
        refine h_done (d_reg ?_)
        refine h_q hflS rfl ?_
        refine h_act rfl (a_does  [5] 0 (ent_of Try.func24 (by kernel_rfl) rfl) (told_from g 100 K V f mo (by omega) hp hN1) rfl rfl rfl (fun _ => rfl) rfl rfl rfl) ?_; rintro ⟨wk, wv⟩
        refine WL2.keep (env' := [(1, .int .u64 f), (8, .bool false), (9, .pointer (some ⟨g, 0, none⟩)), (11, .pointer (some ⟨gr, 0, none⟩)), (3, .int .i64 mo), (14, uk), (15, uv), (16, .int .i64 ((j : Nat) : Int)), (85, .int .i64 ((j : Nat) : Int)), (86, .pointer (some ⟨gr, 0, none⟩)), (87, .pointer (some ⟨gr, 0, none⟩)), (88, .pointer (some ⟨gr, 1, none⟩)), (89, kv), (90, .int .i64 (K.length : Int)), (91, .bool true), (92, .bool true), (93, .pointer (some ⟨gr, 0, none⟩)), (94, .pointer (some ⟨gr, 0, none⟩)), (95, .pointer (some ⟨gr, 1, none⟩)), (96, kv), (97, .int .i64 ((j : Nat) : Int)), (98, elp kv (j * 1)), (99, .int .u64 x), (100, .int .u64 f), (101, .bool false), (102, .bool false), (105, .int .i64 mo), (106, .pointer (some ⟨gr, 0, none⟩)), (107, .pointer (some ⟨gr, 0, none⟩)), (108, .pointer (some ⟨gr, 1, none⟩)), (109, kv), (110, .int .i64 (K.length : Int)), (111, .int .i64 ((j : Nat) : Int)), (112, .int .i64 ((K.length : Int) - ((j : Nat) : Int))), (113, .int .i64 (N1 : Int)), (13, .int .i64 (N1 : Int)), (115, .pointer (some ⟨g, 0, none⟩)), (116, .int .u64 f), (117, .int .i64 mo), (118, .tuple #[wk, wv])]) ⟨rfl, rfl, rfl, rfl, rfl, rfl, rfl, rfl, rfl, rfl, rfl, rfl, rfl, rfl, rfl, rfl, rfl, rfl, rfl, rfl, rfl, rfl, rfl, rfl, rfl, rfl, rfl, rfl, rfl, rfl, rfl, rfl, rfl, rfl, rfl, rfl, rfl, rfl, rfl, rfl, trivial⟩ ?_
        refine WL2.mid [Vec 42 1 encU wk ((K.drop j).take N1), Vec 3 1 encI wv ((V.drop j).take N1), Vec 42 1 encU uk ((K.drop 0).take N0), Vec 3 1 encI uv ((V.drop 0).take N0), Vec 42 1 encU kv K, Vec 3 1 encI vv V, cell gr 47 #[.int .i64 100, kv, vv], Tab 85 42 3 encU encI ltI g 100 K V] (.refl _) ?_
        refine h_q hflS rfl ?_
        refine h_done (d_seq ?_)
        refine d_parS 21 1 [⟨.quiet, [none], fun _ => wk, []⟩, ⟨.quiet, [none], fun _ => wv, []⟩, ⟨.quiet, [none], fun _ => .pointer (some ⟨gr, 0, none⟩), []⟩, ⟨.quiet, [none], fun _ => .pointer (some ⟨gr, 0, none⟩), [2]⟩, ⟨.quiet, [none], fun _ => .pointer (some ⟨gr, 1, none⟩), [3]⟩, ⟨.quiet, [none], fun _ => kv, [4]⟩, ⟨.quiet, [none], fun _ => .int .i64 ((j : Nat) : Int), []⟩, ⟨.quiet, [none], fun _ => .int .i64 ((j : Nat) : Int), []⟩, ⟨.quiet, [none], fun _ => .int .i64 (N1 : Int), []⟩, ⟨.quiet, [none], fun _ => .int .i64 ((j + N1 : Nat) : Int), [7, 8]⟩, ⟨.quiet, [none], fun _ => subv 1 kv j (j + N1), [5, 6, 9]⟩, ⟨.quiet, [none], fun _ => .pointer (some ⟨gr, 0, none⟩), []⟩, ⟨.quiet, [none], fun _ => .pointer (some ⟨gr, 0, none⟩), [11]⟩, ⟨.quiet, [none], fun _ => .pointer (some ⟨gr, 2, none⟩), [12]⟩, ⟨.quiet, [none], fun _ => vv, [13]⟩, ⟨.quiet, [none], fun _ => .int .i64 ((j : Nat) : Int), []⟩, ⟨.quiet, [none], fun _ => .int .i64 ((j : Nat) : Int), []⟩, ⟨.quiet, [none], fun _ => .int .i64 (N1 : Int), []⟩, ⟨.quiet, [none], fun _ => .int .i64 ((j + N1 : Nat) : Int), [16, 17]⟩, ⟨.quiet, [none], fun _ => subv 1 vv j (j + N1), [14, 15, 18]⟩, ⟨.actv 0, [some false], fun _ => .bool true, [0, 1, 10, 19]⟩] [(8, .bool false), (11, .pointer (some ⟨gr, 0, none⟩)), (16, .int .i64 ((j : Nat) : Int)), (13, .int .i64 (N1 : Int)), (14, wk), (15, wv)] (fun ρ => match ρ with | [r0] => [Vec 42 1 encU wk ((K.drop j).take N1), Vec 3 1 encI wv ((V.drop j).take N1), Vec 42 1 encU uk ((K.drop 0).take N0), Vec 3 1 encI uv ((V.drop 0).take N0), Vec 42 1 encU kv K, Vec 3 1 encI vv V, cell gr 47 #[.int .i64 100, kv, vv], Tab 85 42 3 encU encI ltI g 100 K V] | _ => []) (by kernel_rfl) (by kernel_rfl) ⟨rfl, rfl, rfl, rfl, rfl, rfl, trivial⟩ rfl ?_ ?_
        · skip
          refine s_cons (by intro r0_; exact ⟨rfl, fun b w hH hb => exec_q1 hflS rfl hb⟩) ?_
          refine s_cons (by intro r0_; exact ⟨rfl, fun b w hH hb => exec_q1 hflS rfl hb⟩) ?_
          refine s_cons (by intro r0_; exact ⟨rfl, fun b w hH hb => exec_q1 hflS rfl hb⟩) ?_
          refine s_cons (by intro r0_; exact ⟨rfl, fun b w hH hb => by exact exec_nilCheck rfl rfl hb⟩) ?_
          refine s_cons (by intro r0_; exact ⟨rfl, fun b w hH hb => exec_q1 hflS rfl hb⟩) ?_
          refine s_cons (by intro r0_; exact ⟨rfl, fun b w hH hb => exec_load rfl rfl (reads_one ty_s_uint64 rfl) (hH.row 6 rfl) hb⟩) ?_
          refine s_cons (by intro r0_; exact ⟨rfl, fun b w hH hb => exec_q1 hflS rfl hb⟩) ?_
          refine s_cons (by intro r0_; exact ⟨rfl, fun b w hH hb => exec_q1 hflS rfl hb⟩) ?_
          refine s_cons (by intro r0_; exact ⟨rfl, fun b w hH hb => exec_q1 hflS rfl hb⟩) ?_
          refine s_cons (by intro r0_; exact ⟨rfl, fun b w hH hb => exec_ar rfl rfl rfl rfl (by rw [IntWalk.i64_in _ (by omega)]; omega) hb⟩) ?_
          refine s_cons (by intro r0_; exact ⟨rfl, fun b w hH hb => e_vsub 4 (a := j) (b := (j + N1)) sl_uint64 rfl (by omega) (by omega) rfl rfl rfl rfl hH hb⟩) ?_
          refine s_cons (by intro r0_; exact ⟨rfl, fun b w hH hb => exec_q1 hflS rfl hb⟩) ?_
          refine s_cons (by intro r0_; exact ⟨rfl, fun b w hH hb => by exact exec_nilCheck rfl rfl hb⟩) ?_
          refine s_cons (by intro r0_; exact ⟨rfl, fun b w hH hb => exec_q1 hflS rfl hb⟩) ?_
          refine s_cons (by intro r0_; exact ⟨rfl, fun b w hH hb => exec_load rfl rfl (reads_one ty_s_int rfl) (hH.row 6 rfl) hb⟩) ?_
          refine s_cons (by intro r0_; exact ⟨rfl, fun b w hH hb => exec_q1 hflS rfl hb⟩) ?_
          refine s_cons (by intro r0_; exact ⟨rfl, fun b w hH hb => exec_q1 hflS rfl hb⟩) ?_
          refine s_cons (by intro r0_; exact ⟨rfl, fun b w hH hb => exec_q1 hflS rfl hb⟩) ?_
          refine s_cons (by intro r0_; exact ⟨rfl, fun b w hH hb => exec_ar rfl rfl rfl rfl (by rw [IntWalk.i64_in _ (by omega)]; omega) hb⟩) ?_
          refine s_cons (by intro r0_; exact ⟨rfl, fun b w hH hb => e_vsub 5 (a := j) (b := (j + N1)) sl_int rfl (by omega) (by omega) rfl rfl rfl rfl hH hb⟩) ?_
          refine s_cons (by exact ⟨rfl, Acts.su (a_does (os' := fun _ => [Vec 42 1 encU wk ((K.drop j).take N1), Vec 3 1 encI wv ((V.drop j).take N1), Vec 42 1 encU uk ((K.drop 0).take N0), Vec 3 1 encI uv ((V.drop 0).take N0), Vec 42 1 encU kv K, Vec 3 1 encI vv V, cell gr 47 #[.int .i64 100, kv, vv], Tab 85 42 3 encU encI ltI g 100 K V]) [0, 1, 4, 5] 0 (ent_of Try.func22 (by kernel_rfl) rfl) (same_true (Vec 42 1 encU wk ((K.drop j).take N1)) (Vec 3 1 encI wv ((V.drop j).take N1)) (Vec 42 1 encU kv K) (Vec 3 1 encI vv V) wk wv (subv 1 kv j (j + N1)) (subv 1 vv j (j + N1)) ((K.drop j).take N1) ((V.drop j).take N1) (fun rs w h1 h2 => h1.all okU h2) (fun rs w h1 h2 => h1.all okI h2) (rd_sub okU (a := j) (b := (j + N1)) (by omega) (by omega) (r := (K.drop j).take N1) (by rw [List.drop_take, Nat.add_sub_cancel_left])) (rd_sub okI (a := j) (b := (j + N1)) (by omega) (by omega) (r := (V.drop j).take N1) (by rw [List.drop_take, Nat.add_sub_cancel_left])) (by simp [hVK]) (by simp; omega)) rfl rfl rfl (fun _ => rfl) rfl rfl rfl) rfl⟩) ?_
          exact s_nil
        intro v0_
        refine WL2.keep (env' := [(8, .bool false), (141, .bool true)]) ⟨rfl, rfl, trivial⟩ ?_
        refine h_q hflS rfl ?_
        refine h_nil (f_to (d_ret ?_))
        exact f_fin1 (.tmp rfl) (fun w h => ⟨rfl, below0 h.up⟩) rfl
    · skip
      have hp := pos_eq hJ1 hJ.2 (fun y hy => by rw [List.getElem?_eq_none h6] at hy; cases hy)
      obtain ⟨N1, hN1⟩ : ∃ N1 : Nat, (N1 : Int) = min mo ((K.length : Int) - (j : Int)) := ⟨(min mo ((K.length : Int) - (j : Int))).toNat, by omega⟩
      refine d_reg ?_
      refine h_q hflS rfl ?_
      refine h_val rfl (.pointer (some ⟨gr, 0, none⟩)) (fun b w hb hH => by exact exec_nilCheck rfl rfl hb) ?_
      refine h_q hflS rfl ?_
      refine h_val rfl (kv) (fun b w hb hH => exec_load rfl rfl (reads_one ty_s_uint64 rfl) (hH.row 4 rfl) hb) ?_
      refine h_val rfl (.int .i64 (K.length : Int)) (fun b w hb hH => e_vlen 2 Try.underlying44 rfl rfl rfl hH hb) ?_
      refine h_val rfl (.bool false) (fun b w hb hH => exec_cmp rfl rfl rfl (cmp_lss_f (by omega)) hb) ?_
      refine h_q hflS rfl ?_
      refine h_done (d_else rfl (d_exit (f_then_exit (f_then_exit (f_block_exit (f_to (d_reg ?_)))))))
      refine h_q hflS rfl ?_
      refine h_val rfl (.pointer (some ⟨gr, 0, none⟩)) (fun b w hb hH => by exact exec_nilCheck rfl rfl hb) ?_
      refine h_q hflS rfl ?_
      refine h_val rfl (kv) (fun b w hb hH => exec_load rfl rfl (reads_one ty_s_uint64 rfl) (hH.row 4 rfl) hb) ?_
      refine h_val rfl (.int .i64 (K.length : Int)) (fun b w hb hH => e_vlen 2 Try.underlying44 rfl rfl rfl hH hb) ?_
      refine h_q hflS rfl ?_
      refine h_val rfl (.int .i64 ((K.length : Int) - ((j : Nat) : Int))) (fun b w hb hH => exec_ar rfl rfl rfl rfl (IntWalk.i64_in _ (by omega)) hb) ?_
      refine h_val rfl (.int .i64 (N1 : Int)) (fun b w hb hH => exec_builtin2 rfl rfl (fun cs => (fun w cs => run_min2 (by split <;> omega) _ _ w cs) w cs) hb) ?_
      refine h_q hflS rfl ?_
      refine h_done (d_reg ?_)
      refine h_q hflS rfl ?_
      refine h_act rfl (a_does  [5] 0 (ent_of Try.func24 (by kernel_rfl) rfl) (told_from g 100 K V f mo (by omega) hp hN1) rfl rfl rfl (fun _ => rfl) rfl rfl rfl) ?_; rintro ⟨wk, wv⟩
      refine WL2.keep (env' := [(1, .int .u64 f), (8, .bool false), (9, .pointer (some ⟨g, 0, none⟩)), (11, .pointer (some ⟨gr, 0, none⟩)), (3, .int .i64 mo), (14, uk), (15, uv), (16, .int .i64 ((j : Nat) : Int)), (85, .int .i64 ((j : Nat) : Int)), (86, .pointer (some ⟨gr, 0, none⟩)), (87, .pointer (some ⟨gr, 0, none⟩)), (88, .pointer (some ⟨gr, 1, none⟩)), (89, kv), (90, .int .i64 (K.length : Int)), (91, .bool false), (92, .bool false), (93, undef), (94, undef), (95, undef), (96, undef), (97, undef), (98, undef), (99, undef), (100, undef), (101, undef), (102, .bool false), (105, .int .i64 mo), (106, .pointer (some ⟨gr, 0, none⟩)), (107, .pointer (some ⟨gr, 0, none⟩)), (108, .pointer (some ⟨gr, 1, none⟩)), (109, kv), (110, .int .i64 (K.length : Int)), (111, .int .i64 ((j : Nat) : Int)), (112, .int .i64 ((K.length : Int) - ((j : Nat) : Int))), (113, .int .i64 (N1 : Int)), (13, .int .i64 (N1 : Int)), (115, .pointer (some ⟨g, 0, none⟩)), (116, .int .u64 f), (117, .int .i64 mo), (118, .tuple #[wk, wv])]) ⟨rfl, rfl, rfl, rfl, rfl, rfl, rfl, rfl, rfl, rfl, rfl, rfl, rfl, rfl, rfl, rfl, rfl, rfl, rfl, rfl, rfl, rfl, rfl, rfl, rfl, rfl, rfl, rfl, rfl, rfl, rfl, rfl, rfl, rfl, rfl, rfl, rfl, rfl, rfl, rfl, trivial⟩ ?_
      refine WL2.mid [Vec 42 1 encU wk ((K.drop j).take N1), Vec 3 1 encI wv ((V.drop j).take N1), Vec 42 1 encU uk ((K.drop 0).take N0), Vec 3 1 encI uv ((V.drop 0).take N0), Vec 42 1 encU kv K, Vec 3 1 encI vv V, cell gr 47 #[.int .i64 100, kv, vv], Tab 85 42 3 encU encI ltI g 100 K V] (.refl _) ?_
      refine h_q hflS rfl ?_
      refine h_done (d_seq ?_)
      refine d_parS 21 1 [⟨.quiet, [none], fun _ => wk, []⟩, ⟨.quiet, [none], fun _ => wv, []⟩, ⟨.quiet, [none], fun _ => .pointer (some ⟨gr, 0, none⟩), []⟩, ⟨.quiet, [none], fun _ => .pointer (some ⟨gr, 0, none⟩), [2]⟩, ⟨.quiet, [none], fun _ => .pointer (some ⟨gr, 1, none⟩), [3]⟩, ⟨.quiet, [none], fun _ => kv, [4]⟩, ⟨.quiet, [none], fun _ => .int .i64 ((j : Nat) : Int), []⟩, ⟨.quiet, [none], fun _ => .int .i64 ((j : Nat) : Int), []⟩, ⟨.quiet, [none], fun _ => .int .i64 (N1 : Int), []⟩, ⟨.quiet, [none], fun _ => .int .i64 ((j + N1 : Nat) : Int), [7, 8]⟩, ⟨.quiet, [none], fun _ => subv 1 kv j (j + N1), [5, 6, 9]⟩, ⟨.quiet, [none], fun _ => .pointer (some ⟨gr, 0, none⟩), []⟩, ⟨.quiet, [none], fun _ => .pointer (some ⟨gr, 0, none⟩), [11]⟩, ⟨.quiet, [none], fun _ => .pointer (some ⟨gr, 2, none⟩), [12]⟩, ⟨.quiet, [none], fun _ => vv, [13]⟩, ⟨.quiet, [none], fun _ => .int .i64 ((j : Nat) : Int), []⟩, ⟨.quiet, [none], fun _ => .int .i64 ((j : Nat) : Int), []⟩, ⟨.quiet, [none], fun _ => .int .i64 (N1 : Int), []⟩, ⟨.quiet, [none], fun _ => .int .i64 ((j + N1 : Nat) : Int), [16, 17]⟩, ⟨.quiet, [none], fun _ => subv 1 vv j (j + N1), [14, 15, 18]⟩, ⟨.actv 0, [some false], fun _ => .bool true, [0, 1, 10, 19]⟩] [(8, .bool false), (11, .pointer (some ⟨gr, 0, none⟩)), (16, .int .i64 ((j : Nat) : Int)), (13, .int .i64 (N1 : Int)), (14, wk), (15, wv)] (fun ρ => match ρ with | [r0] => [Vec 42 1 encU wk ((K.drop j).take N1), Vec 3 1 encI wv ((V.drop j).take N1), Vec 42 1 encU uk ((K.drop 0).take N0), Vec 3 1 encI uv ((V.drop 0).take N0), Vec 42 1 encU kv K, Vec 3 1 encI vv V, cell gr 47 #[.int .i64 100, kv, vv], Tab 85 42 3 encU encI ltI g 100 K V] | _ => []) (by kernel_rfl) (by kernel_rfl) ⟨rfl, rfl, rfl, rfl, rfl, rfl, trivial⟩ rfl ?_ ?_
      · skip
        refine s_cons (by intro r0_; exact ⟨rfl, fun b w hH hb => exec_q1 hflS rfl hb⟩) ?_
        refine s_cons (by intro r0_; exact ⟨rfl, fun b w hH hb => exec_q1 hflS rfl hb⟩) ?_
        refine s_cons (by intro r0_; exact ⟨rfl, fun b w hH hb => exec_q1 hflS rfl hb⟩) ?_
        refine s_cons (by intro r0_; exact ⟨rfl, fun b w hH hb => by exact exec_nilCheck rfl rfl hb⟩) ?_
        refine s_cons (by intro r0_; exact ⟨rfl, fun b w hH hb => exec_q1 hflS rfl hb⟩) ?_
        refine s_cons (by intro r0_; exact ⟨rfl, fun b w hH hb => exec_load rfl rfl (reads_one ty_s_uint64 rfl) (hH.row 6 rfl) hb⟩) ?_
        refine s_cons (by intro r0_; exact ⟨rfl, fun b w hH hb => exec_q1 hflS rfl hb⟩) ?_
        refine s_cons (by intro r0_; exact ⟨rfl, fun b w hH hb => exec_q1 hflS rfl hb⟩) ?_
        refine s_cons (by intro r0_; exact ⟨rfl, fun b w hH hb => exec_q1 hflS rfl hb⟩) ?_
        refine s_cons (by intro r0_; exact ⟨rfl, fun b w hH hb => exec_ar rfl rfl rfl rfl (by rw [IntWalk.i64_in _ (by omega)]; omega) hb⟩) ?_
        refine s_cons (by intro r0_; exact ⟨rfl, fun b w hH hb => e_vsub 4 (a := j) (b := (j + N1)) sl_uint64 rfl (by omega) (by omega) rfl rfl rfl rfl hH hb⟩) ?_
        refine s_cons (by intro r0_; exact ⟨rfl, fun b w hH hb => exec_q1 hflS rfl hb⟩) ?_
        refine s_cons (by intro r0_; exact ⟨rfl, fun b w hH hb => by exact exec_nilCheck rfl rfl hb⟩) ?_
        refine s_cons (by intro r0_; exact ⟨rfl, fun b w hH hb => exec_q1 hflS rfl hb⟩) ?_
        refine s_cons (by intro r0_; exact ⟨rfl, fun b w hH hb => exec_load rfl rfl (reads_one ty_s_int rfl) (hH.row 6 rfl) hb⟩) ?_
        refine s_cons (by intro r0_; exact ⟨rfl, fun b w hH hb => exec_q1 hflS rfl hb⟩) ?_
        refine s_cons (by intro r0_; exact ⟨rfl, fun b w hH hb => exec_q1 hflS rfl hb⟩) ?_
        refine s_cons (by intro r0_; exact ⟨rfl, fun b w hH hb => exec_q1 hflS rfl hb⟩) ?_
        refine s_cons (by intro r0_; exact ⟨rfl, fun b w hH hb => exec_ar rfl rfl rfl rfl (by rw [IntWalk.i64_in _ (by omega)]; omega) hb⟩) ?_
        refine s_cons (by intro r0_; exact ⟨rfl, fun b w hH hb => e_vsub 5 (a := j) (b := (j + N1)) sl_int rfl (by omega) (by omega) rfl rfl rfl rfl hH hb⟩) ?_
        refine s_cons (by exact ⟨rfl, Acts.su (a_does (os' := fun _ => [Vec 42 1 encU wk ((K.drop j).take N1), Vec 3 1 encI wv ((V.drop j).take N1), Vec 42 1 encU uk ((K.drop 0).take N0), Vec 3 1 encI uv ((V.drop 0).take N0), Vec 42 1 encU kv K, Vec 3 1 encI vv V, cell gr 47 #[.int .i64 100, kv, vv], Tab 85 42 3 encU encI ltI g 100 K V]) [0, 1, 4, 5] 0 (ent_of Try.func22 (by kernel_rfl) rfl) (same_true (Vec 42 1 encU wk ((K.drop j).take N1)) (Vec 3 1 encI wv ((V.drop j).take N1)) (Vec 42 1 encU kv K) (Vec 3 1 encI vv V) wk wv (subv 1 kv j (j + N1)) (subv 1 vv j (j + N1)) ((K.drop j).take N1) ((V.drop j).take N1) (fun rs w h1 h2 => h1.all okU h2) (fun rs w h1 h2 => h1.all okI h2) (rd_sub okU (a := j) (b := (j + N1)) (by omega) (by omega) (r := (K.drop j).take N1) (by rw [List.drop_take, Nat.add_sub_cancel_left])) (rd_sub okI (a := j) (b := (j + N1)) (by omega) (by omega) (r := (V.drop j).take N1) (by rw [List.drop_take, Nat.add_sub_cancel_left])) (by simp [hVK]) (by simp; omega)) rfl rfl rfl (fun _ => rfl) rfl rfl rfl) rfl⟩) ?_
        exact s_nil
      intro v0_
      refine WL2.keep (env' := [(8, .bool false), (141, .bool true)]) ⟨rfl, rfl, trivial⟩ ?_
      refine h_q hflS rfl ?_
      refine h_nil (f_to (d_ret ?_))
      exact f_fin1 (.tmp rfl) (fun w h => ⟨rfl, below0 h.up⟩) rfl

set_option maxRecDepth 100000 in
theorem ranges_near (w : World) (sl : Value) (l : List StepD) (fr most : Int) {f : Int} (hf : fr.tmod 14 = f) (h1 : -9223372036854775808 ≤ most ∧ most ≤ 9223372036854775807) (hl : SlRd w 4 sl l.length (flat encT l)) (hll : l.length ≤ 9223372036854775807) (hlo : ∀ y ∈ l, y.ok) : Calls Try.prog 5 #[sl, .int .u64 fr, .bool true, .int .i64 most] w fun e w' => e = .returned (.bool true) ∧ Below w.heap.size w w' := by
  obtain ⟨mo, hmo⟩ : ∃ mo : Int, mo = 1 + most % 20 := ⟨_, rfl⟩
  have hmo1 : 1 ≤ mo ∧ mo ≤ 20 := by omega
  refine d_in (args := [sl, .int .u64 fr, .bool true, .int .i64 most]) 142 Try.func5 rfl rfl rfl ?_
  refine d_reg ?_
  refine h_q hflS rfl ?_
  refine h_done (d_reg ?_)
  refine h_q hflS rfl ?_
  refine h_act (post := fun g => [Tab 85 42 3 encU encI ltI g 100 ([]) ([])]) rfl (a_does (os' := fun g => [Tab 85 42 3 encU encI ltI g 100 ([]) ([])]) [] 0 (ent_of Try.func17 (by kernel_rfl) rfl) (new_uint64_int 100 (by decide)) rfl rfl rfl (fun _ => rfl) rfl rfl rfl) ?_; rintro g
  refine h_q hflS rfl ?_
  refine h_done (d_seq (d_reg ?_))
  refine h_q hflS rfl ?_
  refine h_act (post := fun _ => [Tab 85 42 3 encU encI ltI g 100 ([]) ([])]) rfl (a_call (ent_of Try.func11 (by kernel_rfl) rfl) (fun w hH => known_true w) rfl rfl rfl) ?_; rintro ⟨⟩
  refine h_q hflS rfl ?_
  refine h_val rfl (.bool false) (fun b w hb hH => exec_cmp rfl rfl rfl (cmp_neq_f (by decide)) hb) ?_
  refine h_q hflS rfl ?_
  refine h_val rfl (.bool false) (fun b w hb hH => exec_pnil_eql (by kernel_rfl) rfl rfl rfl hb) ?_
  refine h_q hflS rfl ?_
  refine h_done (d_else rfl (d_skip (f_to (d_reg ?_))))
  refine h_q hflS rfl ?_
  refine h_val rfl (.agg #[.int .i64 100, .slice none 0 0, .slice none 0 0]) (fun b w hb hH => exec_build rfl rfl (by kernel_rfl) hb) ?_
  refine h_act (post := fun gr => [cell gr 47 #[.int .i64 100, .slice none 0 0, .slice none 0 0], Tab 85 42 3 encU encI ltI g 100 ([]) ([])]) rfl (a_box (cs := #[.int .i64 100, .slice none 0 0, .slice none 0 0]) rfl rfl rfl) ?_; rintro gr
  refine h_q hflS rfl ?_
  refine h_done (d_seq ?_)
  refine d_nilvec 3 1 encI ?_
  refine d_nilvec 42 1 encU ?_
  refine d_reg ?_
  refine h_q hflS rfl ?_
  refine h_done (d_block ?_)
  refine d_loop (α := Nat × List Int × List Int × Value × Value) (fun ⟨i, K, V, kv, vv⟩ => [(0, sl), (1, .int .u64 fr), (2, .bool true), (3, .int .i64 most), (8, .bool false), (9, .pointer (some ⟨g, 0, none⟩)), (11, .pointer (some ⟨gr, 0, none⟩)), (12, .int .i64 ((i : Nat) : Int))]) (fun ⟨i, K, V, kv, vv⟩ => [Vec 42 1 encU kv K, Vec 3 1 encI vv V, cell gr 47 #[.int .i64 100, kv, vv], Tab 85 42 3 encU encI ltI g 100 K V]) (fun ⟨i, K, V, kv, vv⟩ => i ≤ 200) (fun ⟨i, K, V, kv, vv⟩ => 201 - i) (0, [], [], .slice none 0 0, .slice none 0 0) (show 0 ≤ 200 by decide) ⟨rfl, rfl, rfl, rfl, rfl, rfl, rfl, rfl, trivial⟩ rfl ?_
  rintro ⟨i, K, V, kv, vv⟩ hI
  refine WC2.at_ (env' := [(0, sl), (1, .int .u64 fr), (2, .bool true), (3, .int .i64 most), (8, .bool false), (9, .pointer (some ⟨g, 0, none⟩)), (11, .pointer (some ⟨gr, 0, none⟩)), (12, .int .i64 ((i : Nat) : Int))]) (rs' := [Vec 42 1 encU kv K, Vec 3 1 encI vv V, cell gr 47 #[.int .i64 100, kv, vv], Tab 85 42 3 encU encI ltI g 100 K V]) ⟨rfl, rfl, rfl, rfl, rfl, rfl, rfl, rfl, trivial⟩ rfl ?_
  have hI1 : i ≤ 200 := hI
  refine d_seq ?_
  have h3 : (i < l.length ∧ i < 200) ∨ ¬ i < l.length ∨ (i < l.length ∧ ¬ i < 200) := by omega
  rcases h3 with ⟨h4, h5⟩ | h4 | ⟨h4, h5⟩
  · skip
    obtain ⟨x, hx⟩ : ∃ x, l[i]? = some x := ⟨_, List.getElem?_eq_getElem h4⟩
    have hxo := (hlo x (List.mem_of_getElem? hx)).1
    refine d_reg ?_
    refine h_q hflS rfl ?_
    refine h_val rfl (.int .i64 (l.length : Int)) (fun b w hb hH => e_slen (arg_rd hl hH) Try.underlying38 rfl rfl hb) ?_
    refine h_val rfl (.bool true) (fun b w hb hH => exec_cmp rfl rfl rfl (cmp_lss_t (by omega)) hb) ?_
    refine h_q hflS rfl ?_
    refine h_val rfl (.bool true) (fun b w hb hH => exec_cmp rfl rfl rfl (cmp_lss_t (by omega)) hb) ?_
    refine h_q hflS rfl ?_
    refine h_done (d_then rfl (d_skip (f_to (d_seq (d_block (d_reg1 ?_))))))
    refine h_q hflS rfl ?_
    refine h_val rfl (elp sl (i * 4)) (fun b w hb hH => e_sidx okT (arg_rd hl hH) sl_bursarlaw4_Step (j := i) hx rfl rfl rfl hb) ?_
    refine h_val rfl (.agg (encT x).toArray) (fun b w hb hH => e_sagg okT (by decide) (arg_rd hl hH) (j := i) hx ty_bursarlaw4_Step rfl rfl hb) ?_
    refine h_act (post := fun y => [Vec 42 1 encU ((decY y).2.2.1) ((decY y).1), Vec 3 1 encI ((decY y).2.2.2) ((decY y).2.1), cell gr 47 #[.int .i64 100, (decY y).2.2.1, (decY y).2.2.2], Tab 85 42 3 encU encI ltI g 100 ((decY y).1) ((decY y).2.1)]) rfl (a_does (os' := fun y => [Vec 42 1 encU ((decY y).2.2.1) ((decY y).1), Vec 3 1 encI ((decY y).2.2.2) ((decY y).2.1), cell gr 47 #[.int .i64 100, (decY y).2.2.1, (decY y).2.2.2], Tab 85 42 3 encU encI ltI g 100 ((decY y).1) ((decY y).2.1)]) [3, 2, 0, 1] 0 (ent_of Try.func18 (by kernel_rfl) rfl) (run_open g gr 100 K V kv vv x hxo) rfl rfl rfl (fun _ => rfl) rfl rfl rfl) ?_; rintro y
    refine h_nil (f_block (f_to (d_reg1 ?_)))
    refine h_q hflS rfl ?_
    refine h_val rfl (.int .i64 ((i + 1 : Nat) : Int)) (fun b w hb hH => exec_ar rfl rfl rfl rfl (by rw [IntWalk.i64_in _ (by omega)]; omega) hb) ?_
    refine h_q hflS rfl ?_
    refine h_nil ?_
    exact f_again (i + 1, (decY y).1, (decY y).2.1, (decY y).2.2.1, (decY y).2.2.2) 0 (show i + 1 ≤ 200 by omega) (show 201 - (i + 1) < 201 - i by omega) ⟨rfl, rfl, rfl, rfl, rfl, rfl, rfl, rfl, trivial⟩ rfl
  · skip
    refine d_reg ?_
    refine h_q hflS rfl ?_
    refine h_val rfl (.int .i64 (l.length : Int)) (fun b w hb hH => e_slen (arg_rd hl hH) Try.underlying38 rfl rfl hb) ?_
    refine h_val rfl (.bool false) (fun b w hb hH => exec_cmp rfl rfl rfl (cmp_lss_f (by omega)) hb) ?_
    refine h_q hflS rfl ?_
    refine h_done (d_else rfl (d_exit (f_then_exit (f_then_exit (f_block_exit (f_to (d_seq ?_)))))))
    refine WC2.fact 3 rfl Tab.ok ?_; rintro hT
    have hVK := hT.len
    have hKm := hT.le
    obtain ⟨N0, hN0⟩ : ∃ N0 : Nat, (N0 : Int) = min mo ((K.length : Int) - ((0 : Nat) : Int)) := ⟨(min mo ((K.length : Int) - ((0 : Nat) : Int))).toNat, by omega⟩
    refine d_reg ?_
    refine h_q hflS rfl ?_
    refine h_done (d_then rfl (d_reg1 ?_))
    refine h_q hflS rfl ?_
    refine h_val rfl (.int .u64 f) (fun b w hb hH => exec_remI rfl rfl rfl (by decide) hf hb) ?_
    refine h_q hflS rfl ?_
    refine h_nil (f_to (d_reg ?_))
    refine h_q hflS rfl ?_
    refine h_act (post := fun _ => [Vec 42 1 encU kv K, Vec 3 1 encI vv V, cell gr 47 #[.int .i64 100, kv, vv], Tab 85 42 3 encU encI ltI g 100 K V]) rfl (a_call (ent_of Try.func23 (by kernel_rfl) rfl) (fun w hH => pick w most 20 h1 (by decide) rfl) rfl rfl rfl) ?_; rintro ⟨⟩
    refine h_val rfl (.int .i64 mo) (fun b w hb hH => exec_ar rfl rfl rfl rfl (by rw [IntWalk.i64_in _ (by omega)]; omega) hb) ?_
    refine h_q hflS rfl ?_
    refine h_done (d_reg ?_)
    refine h_q hflS rfl ?_
    refine h_val rfl (.pointer (some ⟨gr, 0, none⟩)) (fun b w hb hH => by exact exec_nilCheck rfl rfl hb) ?_
    refine h_q hflS rfl ?_
    refine h_val rfl (kv) (fun b w hb hH => exec_load rfl rfl (reads_one ty_s_uint64 rfl) (hH.row 2 rfl) hb) ?_
    refine h_val rfl (.int .i64 (K.length : Int)) (fun b w hb hH => e_vlen 0 Try.underlying44 rfl rfl rfl hH hb) ?_
    refine h_val rfl (.int .i64 (N0 : Int)) (fun b w hb hH => exec_builtin2 rfl rfl (fun cs => (fun w cs => run_min2 (by split <;> omega) _ _ w cs) w cs) hb) ?_
    refine h_q hflS rfl ?_
    refine h_done (d_reg ?_)
    refine h_q hflS rfl ?_
    refine h_act rfl (a_does  [3] 0 (ent_of Try.func24 (by kernel_rfl) rfl) (told_all g 100 K V 0 mo (by omega) hN0) rfl rfl rfl (fun _ => rfl) rfl rfl rfl) ?_; rintro ⟨uk, uv⟩
    refine WL2.keep (env' := [(0, sl), (2, .bool true), (8, .bool false), (9, .pointer (some ⟨g, 0, none⟩)), (11, .pointer (some ⟨gr, 0, none⟩)), (12, .int .i64 ((i : Nat) : Int)), (33, .int .i64 ((i : Nat) : Int)), (34, sl), (35, .int .i64 (l.length : Int)), (36, .bool false), (37, .bool false), (38, undef), (39, undef), (40, .bool false), (50, .bool true), (51, .int .u64 fr), (52, .int .u64 f), (1, .int .u64 f), (53, .int .i64 most), (54, .int .i64 (most % 20)), (55, .int .i64 mo), (3, .int .i64 mo), (56, .int .i64 mo), (57, .pointer (some ⟨gr, 0, none⟩)), (58, .pointer (some ⟨gr, 0, none⟩)), (59, .pointer (some ⟨gr, 1, none⟩)), (60, kv), (61, .int .i64 (K.length : Int)), (62, .int .i64 (N0 : Int)), (13, .int .i64 (N0 : Int)), (64, .pointer (some ⟨g, 0, none⟩)), (65, .int .i64 mo), (66, .tuple #[uk, uv])]) ⟨rfl, rfl, rfl, rfl, rfl, rfl, rfl, rfl, rfl, rfl, rfl, rfl, rfl, rfl, rfl, rfl, rfl, rfl, rfl, rfl, rfl, rfl, rfl, rfl, rfl, rfl, rfl, rfl, rfl, rfl, rfl, rfl, rfl, trivial⟩ ?_
    refine WL2.mid [Vec 42 1 encU uk ((K.drop 0).take N0), Vec 3 1 encI uv ((V.drop 0).take N0), Vec 42 1 encU kv K, Vec 3 1 encI vv V, cell gr 47 #[.int .i64 100, kv, vv], Tab 85 42 3 encU encI ltI g 100 K V] (.refl _) ?_
    refine h_q hflS rfl ?_
    refine h_done (d_seq (d_seq ?_))
    refine d_parS 16 1 [⟨.quiet, [none], fun _ => uk, []⟩, ⟨.quiet, [none], fun _ => uv, []⟩, ⟨.quiet, [none], fun _ => .pointer (some ⟨gr, 0, none⟩), []⟩, ⟨.quiet, [none], fun _ => .pointer (some ⟨gr, 0, none⟩), [2]⟩, ⟨.quiet, [none], fun _ => .pointer (some ⟨gr, 1, none⟩), [3]⟩, ⟨.quiet, [none], fun _ => kv, [4]⟩, ⟨.quiet, [none], fun _ => .int .i64 (N0 : Int), []⟩, ⟨.quiet, [none], fun _ => subv 1 kv 0 N0, [5, 6]⟩, ⟨.quiet, [none], fun _ => .pointer (some ⟨gr, 0, none⟩), []⟩, ⟨.quiet, [none], fun _ => .pointer (some ⟨gr, 0, none⟩), [8]⟩, ⟨.quiet, [none], fun _ => .pointer (some ⟨gr, 2, none⟩), [9]⟩, ⟨.quiet, [none], fun _ => vv, [10]⟩, ⟨.quiet, [none], fun _ => .int .i64 (N0 : Int), []⟩, ⟨.quiet, [none], fun _ => subv 1 vv 0 N0, [11, 12]⟩, ⟨.actv 0, [some false], fun _ => .bool true, [0, 1, 7, 13]⟩, ⟨.quiet, [some true], fun _ => .bool false, [14]⟩] [(8, .bool false), (9, .pointer (some ⟨g, 0, none⟩)), (11, .pointer (some ⟨gr, 0, none⟩)), (1, .int .u64 f), (3, .int .i64 mo), (13, .int .i64 (N0 : Int)), (14, uk), (15, uv)] (fun ρ => match ρ with | [r0] => [Vec 42 1 encU uk ((K.drop 0).take N0), Vec 3 1 encI uv ((V.drop 0).take N0), Vec 42 1 encU kv K, Vec 3 1 encI vv V, cell gr 47 #[.int .i64 100, kv, vv], Tab 85 42 3 encU encI ltI g 100 K V] | _ => []) (by kernel_rfl) (by kernel_rfl) ⟨rfl, rfl, rfl, rfl, rfl, rfl, rfl, rfl, trivial⟩ rfl ?_ ?_
    · skip
      refine s_cons (by intro r0_; exact ⟨rfl, fun b w hH hb => exec_q1 hflS rfl hb⟩) ?_
      refine s_cons (by intro r0_; exact ⟨rfl, fun b w hH hb => exec_q1 hflS rfl hb⟩) ?_
      refine s_cons (by intro r0_; exact ⟨rfl, fun b w hH hb => exec_q1 hflS rfl hb⟩) ?_
      refine s_cons (by intro r0_; exact ⟨rfl, fun b w hH hb => by exact exec_nilCheck rfl rfl hb⟩) ?_
      refine s_cons (by intro r0_; exact ⟨rfl, fun b w hH hb => exec_q1 hflS rfl hb⟩) ?_
      refine s_cons (by intro r0_; exact ⟨rfl, fun b w hH hb => exec_load rfl rfl (reads_one ty_s_uint64 rfl) (hH.row 4 rfl) hb⟩) ?_
      refine s_cons (by intro r0_; exact ⟨rfl, fun b w hH hb => exec_q1 hflS rfl hb⟩) ?_
      refine s_cons (by intro r0_; exact ⟨rfl, fun b w hH hb => e_vsub_hi 2 (b := N0) sl_uint64 rfl (by omega) rfl rfl rfl hH hb⟩) ?_
      refine s_cons (by intro r0_; exact ⟨rfl, fun b w hH hb => exec_q1 hflS rfl hb⟩) ?_
      refine s_cons (by intro r0_; exact ⟨rfl, fun b w hH hb => by exact exec_nilCheck rfl rfl hb⟩) ?_
      refine s_cons (by intro r0_; exact ⟨rfl, fun b w hH hb => exec_q1 hflS rfl hb⟩) ?_
      refine s_cons (by intro r0_; exact ⟨rfl, fun b w hH hb => exec_load rfl rfl (reads_one ty_s_int rfl) (hH.row 4 rfl) hb⟩) ?_
      refine s_cons (by intro r0_; exact ⟨rfl, fun b w hH hb => exec_q1 hflS rfl hb⟩) ?_
      refine s_cons (by intro r0_; exact ⟨rfl, fun b w hH hb => e_vsub_hi 3 (b := N0) sl_int rfl (by omega) rfl rfl rfl hH hb⟩) ?_
      refine s_cons (by exact ⟨rfl, Acts.su (a_does (os' := fun _ => [Vec 42 1 encU uk ((K.drop 0).take N0), Vec 3 1 encI uv ((V.drop 0).take N0), Vec 42 1 encU kv K, Vec 3 1 encI vv V, cell gr 47 #[.int .i64 100, kv, vv], Tab 85 42 3 encU encI ltI g 100 K V]) [0, 1, 2, 3] 0 (ent_of Try.func22 (by kernel_rfl) rfl) (same_true (Vec 42 1 encU uk ((K.drop 0).take N0)) (Vec 3 1 encI uv ((V.drop 0).take N0)) (Vec 42 1 encU kv K) (Vec 3 1 encI vv V) uk uv (subv 1 kv 0 N0) (subv 1 vv 0 N0) ((K.drop 0).take N0) ((V.drop 0).take N0) (fun rs w h1 h2 => h1.all okU h2) (fun rs w h1 h2 => h1.all okI h2) (rd_sub okU (a := 0) (b := N0) (by omega) (by omega) (r := (K.drop 0).take N0) (by simp)) (rd_sub okI (a := 0) (b := N0) (by omega) (by omega) (r := (V.drop 0).take N0) (by simp)) (by simp [hVK]) (by simp; omega)) rfl rfl rfl (fun _ => rfl) rfl rfl rfl) rfl⟩) ?_
      refine s_cons (by intro v0_; exact ⟨rfl, fun b w hH hb => exec_q1 hflS rfl hb⟩) ?_
      exact s_nil
    intro v0_
    refine WL2.keep (env' := [(8, .bool false), (9, .pointer (some ⟨g, 0, none⟩)), (11, .pointer (some ⟨gr, 0, none⟩)), (1, .int .u64 f), (3, .int .i64 mo), (13, .int .i64 (N0 : Int)), (14, uk), (15, uv), (84, .bool false)]) ⟨rfl, rfl, rfl, rfl, rfl, rfl, rfl, rfl, rfl, trivial⟩ ?_
    refine h_nil (f_to (d_else rfl (d_skip (f_to (d_reg ?_)))))
    refine h_q hflS rfl ?_
    refine h_done (d_seq (d_block ?_))
    refine d_loop (α := Nat) (fun j => [(8, .bool false), (9, .pointer (some ⟨g, 0, none⟩)), (11, .pointer (some ⟨gr, 0, none⟩)), (1, .int .u64 f), (3, .int .i64 mo), (13, .int .i64 (N0 : Int)), (14, uk), (15, uv), (16, .int .i64 ((j : Nat) : Int))]) (fun j => [Vec 42 1 encU uk ((K.drop 0).take N0), Vec 3 1 encI uv ((V.drop 0).take N0), Vec 42 1 encU kv K, Vec 3 1 encI vv V, cell gr 47 #[.int .i64 100, kv, vv], Tab 85 42 3 encU encI ltI g 100 K V]) (fun j => j ≤ K.length ∧ ∀ q x, q < j → K[q]? = some x → ltI x f = true) (fun j => K.length - j) 0 ⟨Nat.zero_le _, fun q x hq => absurd hq (Nat.not_lt_zero _)⟩ ⟨rfl, rfl, rfl, rfl, rfl, rfl, rfl, rfl, rfl, trivial⟩ rfl ?_
    rintro j hJ
    refine WC2.at_ (env' := [(8, .bool false), (9, .pointer (some ⟨g, 0, none⟩)), (11, .pointer (some ⟨gr, 0, none⟩)), (1, .int .u64 f), (3, .int .i64 mo), (13, .int .i64 (N0 : Int)), (14, uk), (15, uv), (16, .int .i64 ((j : Nat) : Int))]) (rs' := [Vec 42 1 encU uk ((K.drop 0).take N0), Vec 3 1 encI uv ((V.drop 0).take N0), Vec 42 1 encU kv K, Vec 3 1 encI vv V, cell gr 47 #[.int .i64 100, kv, vv], Tab 85 42 3 encU encI ltI g 100 K V]) ⟨rfl, rfl, rfl, rfl, rfl, rfl, rfl, rfl, rfl, trivial⟩ rfl ?_
    have hJ1 := hJ.1
    refine d_seq ?_
    rcases Nat.lt_or_ge j K.length with h6 | h6
    · skip
      obtain ⟨x, hx⟩ : ∃ x, K[j]? = some x := ⟨_, List.getElem?_eq_getElem h6⟩
      by_cases hL : x < f
      · skip
        refine d_reg ?_
        refine h_q hflS rfl ?_
        refine h_val rfl (.pointer (some ⟨gr, 0, none⟩)) (fun b w hb hH => by exact exec_nilCheck rfl rfl hb) ?_
        refine h_q hflS rfl ?_
        refine h_val rfl (kv) (fun b w hb hH => exec_load rfl rfl (reads_one ty_s_uint64 rfl) (hH.row 4 rfl) hb) ?_
        refine h_val rfl (.int .i64 (K.length : Int)) (fun b w hb hH => e_vlen 2 Try.underlying44 rfl rfl rfl hH hb) ?_
        refine h_val rfl (.bool true) (fun b w hb hH => exec_cmp rfl rfl rfl (cmp_lss_t (by omega)) hb) ?_
        refine h_q hflS rfl ?_
        refine h_val rfl (.pointer (some ⟨gr, 0, none⟩)) (fun b w hb hH => by exact exec_nilCheck rfl rfl hb) ?_
        refine h_q hflS rfl ?_
        refine h_val rfl (kv) (fun b w hb hH => exec_load rfl rfl (reads_one ty_s_uint64 rfl) (hH.row 4 rfl) hb) ?_
        refine h_q hflS rfl ?_
        refine h_val rfl (elp kv (j * 1)) (fun b w hb hH => e_vidx 2 sl_uint64 okU rfl j h6 rfl rfl rfl hH hb) ?_
        refine h_val rfl (.int .u64 x) (fun b w hb hH => e_vload1 2 ty_uint64 okU rfl j (a := x) hx rfl rfl rfl hH hb) ?_
        refine h_q hflS rfl ?_
        refine h_val rfl (.bool true) (fun b w hb hH => exec_cmp rfl rfl rfl (cmp_lss_t hL) hb) ?_
        refine h_q hflS rfl ?_
        refine h_done (d_then rfl (d_skip (f_to (d_block (d_reg1 ?_)))))
        refine h_q hflS rfl ?_
        refine h_val rfl (.int .i64 ((j + 1 : Nat) : Int)) (fun b w hb hH => exec_ar rfl rfl rfl rfl (by rw [IntWalk.i64_in _ (by omega)]; omega) hb) ?_
        refine h_q hflS rfl ?_
        refine h_nil (f_block ?_)
        exact f_again (j + 1) 0 ⟨h6, hT.srt.below ordI hx (by simp [ltI, hL])⟩ (show K.length - (j + 1) < K.length - j by omega) ⟨rfl, rfl, rfl, rfl, rfl, rfl, rfl, rfl, rfl, trivial⟩ rfl
      · skip
        have hp := pos_eq hJ1 hJ.2 (fun y hy => by rw [hx] at hy; cases hy; simp only [ltI, decide_eq_false_iff_not]; exact hL)
        obtain ⟨N1, hN1⟩ : ∃ N1 : Nat, (N1 : Int) = min mo ((K.length : Int) - (j : Int)) := ⟨(min mo ((K.length : Int) - (j : Int))).toNat, by omega⟩
        refine d_reg ?_
        refine h_q hflS rfl ?_
        refine h_val rfl (.pointer (some ⟨gr, 0, none⟩)) (fun b w hb hH => by exact exec_nilCheck rfl rfl hb) ?_
        refine h_q hflS rfl ?_
        refine h_val rfl (kv) (fun b w hb hH => exec_load rfl rfl (reads_one ty_s_uint64 rfl) (hH.row 4 rfl) hb) ?_
        refine h_val rfl (.int .i64 (K.length : Int)) (fun b w hb hH => e_vlen 2 Try.underlying44 rfl rfl rfl hH hb) ?_
        refine h_val rfl (.bool true) (fun b w hb hH => exec_cmp rfl rfl rfl (cmp_lss_t (by omega)) hb) ?_
        refine h_q hflS rfl ?_
        refine h_val rfl (.pointer (some ⟨gr, 0, none⟩)) (fun b w hb hH => by exact exec_nilCheck rfl rfl hb) ?_
        refine h_q hflS rfl ?_
        refine h_val rfl (kv) (fun b w hb hH => exec_load rfl rfl (reads_one ty_s_uint64 rfl) (hH.row 4 rfl) hb) ?_
        refine h_q hflS rfl ?_
        refine h_val rfl (elp kv (j * 1)) (fun b w hb hH => e_vidx 2 sl_uint64 okU rfl j h6 rfl rfl rfl hH hb) ?_
        refine h_val rfl (.int .u64 x) (fun b w hb hH => e_vload1 2 ty_uint64 okU rfl j (a := x) hx rfl rfl rfl hH hb) ?_
        refine h_q hflS rfl ?_
        refine h_val rfl (.bool false) (fun b w hb hH => exec_cmp rfl rfl rfl (cmp_lss_f hL) hb) ?_
        refine h_q hflS rfl ?_
        refine h_done (d_else rfl (d_exit (f_then_exit (f_then_exit (f_block_exit (f_to (d_reg ?_)))))))
        refine h_q hflS rfl ?_
        refine h_val rfl (.pointer (some ⟨gr, 0, none⟩)) (fun b w hb hH => by exact exec_nilCheck rfl rfl hb) ?_
        refine h_q hflS rfl ?_
        refine h_val rfl (kv) (fun b w hb hH => exec_load rfl rfl (reads_one ty_s_uint64 rfl) (hH.row 4 rfl) hb) ?_
        refine h_val rfl (.int .i64 (K.length : Int)) (fun b w hb hH => e_vlen 2 Try.underlying44 rfl rfl rfl hH hb) ?_
        refine h_q hflS rfl ?_
        refine h_val rfl (.int .i64 ((K.length : Int) - ((j : Nat) : Int))) (fun b w hb hH => exec_ar rfl rfl rfl rfl (IntWalk.i64_in _ (by omega)) hb) ?_
        refine h_val rfl (.int .i64 (N1 : Int)) (fun b w hb hH => exec_builtin2 rfl rfl (fun cs => (fun w cs => run_min2 (by split <;> omega) _ _ w cs) w cs) hb) ?_
        refine h_q hflS rfl ?_
        refine h_done (d_reg ?_)
        refine h_q hflS rfl ?_
        refine h_act rfl (a_does  [5] 0 (ent_of Try.func24 (by kernel_rfl) rfl) (told_from g 100 K V f mo (by omega) hp hN1) rfl rfl rfl (fun _ => rfl) rfl rfl rfl) ?_; rintro ⟨wk, wv⟩
        refine WL2.keep (env' := [(8, .bool false), (9, .pointer (some ⟨g, 0, none⟩)), (11, .pointer (some ⟨gr, 0, none⟩)), (1, .int .u64 f), (3, .int .i64 mo), (14, uk), (15, uv), (16, .int .i64 ((j : Nat) : Int)), (85, .int .i64 ((j : Nat) : Int)), (86, .pointer (some ⟨gr, 0, none⟩)), (87, .pointer (some ⟨gr, 0, none⟩)), (88, .pointer (some ⟨gr, 1, none⟩)), (89, kv), (90, .int .i64 (K.length : Int)), (91, .bool true), (92, .bool true), (93, .pointer (some ⟨gr, 0, none⟩)), (94, .pointer (some ⟨gr, 0, none⟩)), (95, .pointer (some ⟨gr, 1, none⟩)), (96, kv), (97, .int .i64 ((j : Nat) : Int)), (98, elp kv (j * 1)), (99, .int .u64 x), (100, .int .u64 f), (101, .bool false), (102, .bool false), (105, .int .i64 mo), (106, .pointer (some ⟨gr, 0, none⟩)), (107, .pointer (some ⟨gr, 0, none⟩)), (108, .pointer (some ⟨gr, 1, none⟩)), (109, kv), (110, .int .i64 (K.length : Int)), (111, .int .i64 ((j : Nat) : Int)), (112, .int .i64 ((K.length : Int) - ((j : Nat) : Int))), (113, .int .i64 (N1 : Int)), (13, .int .i64 (N1 : Int)), (115, .pointer (some ⟨g, 0, none⟩)), (116, .int .u64 f), (117, .int .i64 mo), (118, .tuple #[wk, wv])]) ⟨rfl, rfl, rfl, rfl, rfl, rfl, rfl, rfl, rfl, rfl, rfl, rfl, rfl, rfl, rfl, rfl, rfl, rfl, rfl, rfl, rfl, rfl, rfl, rfl, rfl, rfl, rfl, rfl, rfl, rfl, rfl, rfl, rfl, rfl, rfl, rfl, rfl, rfl, rfl, rfl, trivial⟩ ?_
        refine WL2.mid [Vec 42 1 encU wk ((K.drop j).take N1), Vec 3 1 encI wv ((V.drop j).take N1), Vec 42 1 encU uk ((K.drop 0).take N0), Vec 3 1 encI uv ((V.drop 0).take N0), Vec 42 1 encU kv K, Vec 3 1 encI vv V, cell gr 47 #[.int .i64 100, kv, vv], Tab 85 42 3 encU encI ltI g 100 K V] (.refl _) ?_
        refine h_q hflS rfl ?_
        refine h_done (d_seq ?_)
        refine d_parS 21 1 [⟨.quiet, [none], fun _ => wk, []⟩, ⟨.quiet, [none], fun _ => wv, []⟩, ⟨.quiet, [none], fun _ => .pointer (some ⟨gr, 0, none⟩), []⟩, ⟨.quiet, [none], fun _ => .pointer (some ⟨gr, 0, none⟩), [2]⟩, ⟨.quiet, [none], fun _ => .pointer (some ⟨gr, 1, none⟩), [3]⟩, ⟨.quiet, [none], fun _ => kv, [4]⟩, ⟨.quiet, [none], fun _ => .int .i64 ((j : Nat) : Int), []⟩, ⟨.quiet, [none], fun _ => .int .i64 ((j : Nat) : Int), []⟩, ⟨.quiet, [none], fun _ => .int .i64 (N1 : Int), []⟩, ⟨.quiet, [none], fun _ => .int .i64 ((j + N1 : Nat) : Int), [7, 8]⟩, ⟨.quiet, [none], fun _ => subv 1 kv j (j + N1), [5, 6, 9]⟩, ⟨.quiet, [none], fun _ => .pointer (some ⟨gr, 0, none⟩), []⟩, ⟨.quiet, [none], fun _ => .pointer (some ⟨gr, 0, none⟩), [11]⟩, ⟨.quiet, [none], fun _ => .pointer (some ⟨gr, 2, none⟩), [12]⟩, ⟨.quiet, [none], fun _ => vv, [13]⟩, ⟨.quiet, [none], fun _ => .int .i64 ((j : Nat) : Int), []⟩, ⟨.quiet, [none], fun _ => .int .i64 ((j : Nat) : Int), []⟩, ⟨.quiet, [none], fun _ => .int .i64 (N1 : Int), []⟩, ⟨.quiet, [none], fun _ => .int .i64 ((j + N1 : Nat) : Int), [16, 17]⟩, ⟨.quiet, [none], fun _ => subv 1 vv j (j + N1), [14, 15, 18]⟩, ⟨.actv 0, [some false], fun _ => .bool true, [0, 1, 10, 19]⟩] [(8, .bool false), (11, .pointer (some ⟨gr, 0, none⟩)), (16, .int .i64 ((j : Nat) : Int)), (13, .int .i64 (N1 : Int)), (14, wk), (15, wv)] (fun ρ => match ρ with | [r0] => [Vec 42 1 encU wk ((K.drop j).take N1), Vec 3 1 encI wv ((V.drop j).take N1), Vec 42 1 encU uk ((K.drop 0).take N0), Vec 3 1 encI uv ((V.drop 0).take N0), Vec 42 1 encU kv K, Vec 3 1 encI vv V, cell gr 47 #[.int .i64 100, kv, vv], Tab 85 42 3 encU encI ltI g 100 K V] | _ => []) (by kernel_rfl) (by kernel_rfl) ⟨rfl, rfl, rfl, rfl, rfl, rfl, trivial⟩ rfl ?_ ?_
        · skip
          refine s_cons (by intro r0_; exact ⟨rfl, fun b w hH hb => exec_q1 hflS rfl hb⟩) ?_
          refine s_cons (by intro r0_; exact ⟨rfl, fun b w hH hb => exec_q1 hflS rfl hb⟩) ?_
          refine s_cons (by intro r0_; exact ⟨rfl, fun b w hH hb => exec_q1 hflS rfl hb⟩) ?_
          refine s_cons (by intro r0_; exact ⟨rfl, fun b w hH hb => by exact exec_nilCheck rfl rfl hb⟩) ?_
          refine s_cons (by intro r0_; exact ⟨rfl, fun b w hH hb => exec_q1 hflS rfl hb⟩) ?_
          refine s_cons (by intro r0_; exact ⟨rfl, fun b w hH hb => exec_load rfl rfl (reads_one ty_s_uint64 rfl) (hH.row 6 rfl) hb⟩) ?_
          refine s_cons (by intro r0_; exact ⟨rfl, fun b w hH hb => exec_q1 hflS rfl hb⟩) ?_
          refine s_cons (by intro r0_; exact ⟨rfl, fun b w hH hb => exec_q1 hflS rfl hb⟩) ?_
          refine s_cons (by intro r0_; exact ⟨rfl, fun b w hH hb => exec_q1 hflS rfl hb⟩) ?_
          refine s_cons (by intro r0_; exact ⟨rfl, fun b w hH hb => exec_ar rfl rfl rfl rfl (by rw [IntWalk.i64_in _ (by omega)]; omega) hb⟩) ?_
          refine s_cons (by intro r0_; exact ⟨rfl, fun b w hH hb => e_vsub 4 (a := j) (b := (j + N1)) sl_uint64 rfl (by omega) (by omega) rfl rfl rfl rfl hH hb⟩) ?_
          refine s_cons (by intro r0_; exact ⟨rfl, fun b w hH hb => exec_q1 hflS rfl hb⟩) ?_
          refine s_cons (by intro r0_; exact ⟨rfl, fun b w hH hb => by exact exec_nilCheck rfl rfl hb⟩) ?_
          refine s_cons (by intro r0_; exact ⟨rfl, fun b w hH hb => exec_q1 hflS rfl hb⟩) ?_
          refine s_cons (by intro r0_; exact ⟨rfl, fun b w hH hb => exec_load rfl rfl (reads_one ty_s_int rfl) (hH.row 6 rfl) hb⟩) ?_
          refine s_cons (by intro r0_; exact ⟨rfl, fun b w hH hb => exec_q1 hflS rfl hb⟩) ?_
          refine s_cons (by intro r0_; exact ⟨rfl, fun b w hH hb => exec_q1 hflS rfl hb⟩) ?_
          refine s_cons (by intro r0_; exact ⟨rfl, fun b w hH hb => exec_q1 hflS rfl hb⟩) ?_
          refine s_cons (by intro r0_; exact ⟨rfl, fun b w hH hb => exec_ar rfl rfl rfl rfl (by rw [IntWalk.i64_in _ (by omega)]; omega) hb⟩) ?_
          refine s_cons (by intro r0_; exact ⟨rfl, fun b w hH hb => e_vsub 5 (a := j) (b := (j + N1)) sl_int rfl (by omega) (by omega) rfl rfl rfl rfl hH hb⟩) ?_
          refine s_cons (by exact ⟨rfl, Acts.su (a_does (os' := fun _ => [Vec 42 1 encU wk ((K.drop j).take N1), Vec 3 1 encI wv ((V.drop j).take N1), Vec 42 1 encU uk ((K.drop 0).take N0), Vec 3 1 encI uv ((V.drop 0).take N0), Vec 42 1 encU kv K, Vec 3 1 encI vv V, cell gr 47 #[.int .i64 100, kv, vv], Tab 85 42 3 encU encI ltI g 100 K V]) [0, 1, 4, 5] 0 (ent_of Try.func22 (by kernel_rfl) rfl) (same_true (Vec 42 1 encU wk ((K.drop j).take N1)) (Vec 3 1 encI wv ((V.drop j).take N1)) (Vec 42 1 encU kv K) (Vec 3 1 encI vv V) wk wv (subv 1 kv j (j + N1)) (subv 1 vv j (j + N1)) ((K.drop j).take N1) ((V.drop j).take N1) (fun rs w h1 h2 => h1.all okU h2) (fun rs w h1 h2 => h1.all okI h2) (rd_sub okU (a := j) (b := (j + N1)) (by omega) (by omega) (r := (K.drop j).take N1) (by rw [List.drop_take, Nat.add_sub_cancel_left])) (rd_sub okI (a := j) (b := (j + N1)) (by omega) (by omega) (r := (V.drop j).take N1) (by rw [List.drop_take, Nat.add_sub_cancel_left])) (by simp [hVK]) (by simp; omega)) rfl rfl rfl (fun _ => rfl) rfl rfl rfl) rfl⟩) ?_
          exact s_nil
        intro v0_
        refine WL2.keep (env' := [(8, .bool false), (141, .bool true)]) ⟨rfl, rfl, trivial⟩ ?_
        refine h_q hflS rfl ?_
        refine h_nil (f_to (d_ret ?_))
        exact f_fin1 (.tmp rfl) (fun w h => ⟨rfl, below0 h.up⟩) rfl
    · skip
      have hp := pos_eq hJ1 hJ.2 (fun y hy => by rw [List.getElem?_eq_none h6] at hy; cases hy)
      obtain ⟨N1, hN1⟩ : ∃ N1 : Nat, (N1 : Int) = min mo ((K.length : Int) - (j : Int)) := ⟨(min mo ((K.length : Int) - (j : Int))).toNat, by omega⟩
      refine d_reg ?_
      refine h_q hflS rfl ?_
      refine h_val rfl (.pointer (some ⟨gr, 0, none⟩)) (fun b w hb hH => by exact exec_nilCheck rfl rfl hb) ?_
      refine h_q hflS rfl ?_
      refine h_val rfl (kv) (fun b w hb hH => exec_load rfl rfl (reads_one ty_s_uint64 rfl) (hH.row 4 rfl) hb) ?_
      refine h_val rfl (.int .i64 (K.length : Int)) (fun b w hb hH => e_vlen 2 Try.underlying44 rfl rfl rfl hH hb) ?_
      refine h_val rfl (.bool false) (fun b w hb hH => exec_cmp rfl rfl rfl (cmp_lss_f (by omega)) hb) ?_
      refine h_q hflS rfl ?_
      refine h_done (d_else rfl (d_exit (f_then_exit (f_then_exit (f_block_exit (f_to (d_reg ?_)))))))
      refine h_q hflS rfl ?_
      refine h_val rfl (.pointer (some ⟨gr, 0, none⟩)) (fun b w hb hH => by exact exec_nilCheck rfl rfl hb) ?_
      refine h_q hflS rfl ?_
      refine h_val rfl (kv) (fun b w hb hH => exec_load rfl rfl (reads_one ty_s_uint64 rfl) (hH.row 4 rfl) hb) ?_
      refine h_val rfl (.int .i64 (K.length : Int)) (fun b w hb hH => e_vlen 2 Try.underlying44 rfl rfl rfl hH hb) ?_
      refine h_q hflS rfl ?_
      refine h_val rfl (.int .i64 ((K.length : Int) - ((j : Nat) : Int))) (fun b w hb hH => exec_ar rfl rfl rfl rfl (IntWalk.i64_in _ (by omega)) hb) ?_
      refine h_val rfl (.int .i64 (N1 : Int)) (fun b w hb hH => exec_builtin2 rfl rfl (fun cs => (fun w cs => run_min2 (by split <;> omega) _ _ w cs) w cs) hb) ?_
      refine h_q hflS rfl ?_
      refine h_done (d_reg ?_)
      refine h_q hflS rfl ?_
      refine h_act rfl (a_does  [5] 0 (ent_of Try.func24 (by kernel_rfl) rfl) (told_from g 100 K V f mo (by omega) hp hN1) rfl rfl rfl (fun _ => rfl) rfl rfl rfl) ?_; rintro ⟨wk, wv⟩
      refine WL2.keep (env' := [(8, .bool false), (9, .pointer (some ⟨g, 0, none⟩)), (11, .pointer (some ⟨gr, 0, none⟩)), (1, .int .u64 f), (3, .int .i64 mo), (14, uk), (15, uv), (16, .int .i64 ((j : Nat) : Int)), (85, .int .i64 ((j : Nat) : Int)), (86, .pointer (some ⟨gr, 0, none⟩)), (87, .pointer (some ⟨gr, 0, none⟩)), (88, .pointer (some ⟨gr, 1, none⟩)), (89, kv), (90, .int .i64 (K.length : Int)), (91, .bool false), (92, .bool false), (93, undef), (94, undef), (95, undef), (96, undef), (97, undef), (98, undef), (99, undef), (100, undef), (101, undef), (102, .bool false), (105, .int .i64 mo), (106, .pointer (some ⟨gr, 0, none⟩)), (107, .pointer (some ⟨gr, 0, none⟩)), (108, .pointer (some ⟨gr, 1, none⟩)), (109, kv), (110, .int .i64 (K.length : Int)), (111, .int .i64 ((j : Nat) : Int)), (112, .int .i64 ((K.length : Int) - ((j : Nat) : Int))), (113, .int .i64 (N1 : Int)), (13, .int .i64 (N1 : Int)), (115, .pointer (some ⟨g, 0, none⟩)), (116, .int .u64 f), (117, .int .i64 mo), (118, .tuple #[wk, wv])]) ⟨rfl, rfl, rfl, rfl, rfl, rfl, rfl, rfl, rfl, rfl, rfl, rfl, rfl, rfl, rfl, rfl, rfl, rfl, rfl, rfl, rfl, rfl, rfl, rfl, rfl, rfl, rfl, rfl, rfl, rfl, rfl, rfl, rfl, rfl, rfl, rfl, rfl, rfl, rfl, rfl, trivial⟩ ?_
      refine WL2.mid [Vec 42 1 encU wk ((K.drop j).take N1), Vec 3 1 encI wv ((V.drop j).take N1), Vec 42 1 encU uk ((K.drop 0).take N0), Vec 3 1 encI uv ((V.drop 0).take N0), Vec 42 1 encU kv K, Vec 3 1 encI vv V, cell gr 47 #[.int .i64 100, kv, vv], Tab 85 42 3 encU encI ltI g 100 K V] (.refl _) ?_
      refine h_q hflS rfl ?_
      refine h_done (d_seq ?_)
      refine d_parS 21 1 [⟨.quiet, [none], fun _ => wk, []⟩, ⟨.quiet, [none], fun _ => wv, []⟩, ⟨.quiet, [none], fun _ => .pointer (some ⟨gr, 0, none⟩), []⟩, ⟨.quiet, [none], fun _ => .pointer (some ⟨gr, 0, none⟩), [2]⟩, ⟨.quiet, [none], fun _ => .pointer (some ⟨gr, 1, none⟩), [3]⟩, ⟨.quiet, [none], fun _ => kv, [4]⟩, ⟨.quiet, [none], fun _ => .int .i64 ((j : Nat) : Int), []⟩, ⟨.quiet, [none], fun _ => .int .i64 ((j : Nat) : Int), []⟩, ⟨.quiet, [none], fun _ => .int .i64 (N1 : Int), []⟩, ⟨.quiet, [none], fun _ => .int .i64 ((j + N1 : Nat) : Int), [7, 8]⟩, ⟨.quiet, [none], fun _ => subv 1 kv j (j + N1), [5, 6, 9]⟩, ⟨.quiet, [none], fun _ => .pointer (some ⟨gr, 0, none⟩), []⟩, ⟨.quiet, [none], fun _ => .pointer (some ⟨gr, 0, none⟩), [11]⟩, ⟨.quiet, [none], fun _ => .pointer (some ⟨gr, 2, none⟩), [12]⟩, ⟨.quiet, [none], fun _ => vv, [13]⟩, ⟨.quiet, [none], fun _ => .int .i64 ((j : Nat) : Int), []⟩, ⟨.quiet, [none], fun _ => .int .i64 ((j : Nat) : Int), []⟩, ⟨.quiet, [none], fun _ => .int .i64 (N1 : Int), []⟩, ⟨.quiet, [none], fun _ => .int .i64 ((j + N1 : Nat) : Int), [16, 17]⟩, ⟨.quiet, [none], fun _ => subv 1 vv j (j + N1), [14, 15, 18]⟩, ⟨.actv 0, [some false], fun _ => .bool true, [0, 1, 10, 19]⟩] [(8, .bool false), (11, .pointer (some ⟨gr, 0, none⟩)), (16, .int .i64 ((j : Nat) : Int)), (13, .int .i64 (N1 : Int)), (14, wk), (15, wv)] (fun ρ => match ρ with | [r0] => [Vec 42 1 encU wk ((K.drop j).take N1), Vec 3 1 encI wv ((V.drop j).take N1), Vec 42 1 encU uk ((K.drop 0).take N0), Vec 3 1 encI uv ((V.drop 0).take N0), Vec 42 1 encU kv K, Vec 3 1 encI vv V, cell gr 47 #[.int .i64 100, kv, vv], Tab 85 42 3 encU encI ltI g 100 K V] | _ => []) (by kernel_rfl) (by kernel_rfl) ⟨rfl, rfl, rfl, rfl, rfl, rfl, trivial⟩ rfl ?_ ?_
      · skip
        refine s_cons (by intro r0_; exact ⟨rfl, fun b w hH hb => exec_q1 hflS rfl hb⟩) ?_
        refine s_cons (by intro r0_; exact ⟨rfl, fun b w hH hb => exec_q1 hflS rfl hb⟩) ?_
        refine s_cons (by intro r0_; exact ⟨rfl, fun b w hH hb => exec_q1 hflS rfl hb⟩) ?_
        refine s_cons (by intro r0_; exact ⟨rfl, fun b w hH hb => by exact exec_nilCheck rfl rfl hb⟩) ?_
        refine s_cons (by intro r0_; exact ⟨rfl, fun b w hH hb => exec_q1 hflS rfl hb⟩) ?_
        refine s_cons (by intro r0_; exact ⟨rfl, fun b w hH hb => exec_load rfl rfl (reads_one ty_s_uint64 rfl) (hH.row 6 rfl) hb⟩) ?_
        refine s_cons (by intro r0_; exact ⟨rfl, fun b w hH hb => exec_q1 hflS rfl hb⟩) ?_
        refine s_cons (by intro r0_; exact ⟨rfl, fun b w hH hb => exec_q1 hflS rfl hb⟩) ?_
        refine s_cons (by intro r0_; exact ⟨rfl, fun b w hH hb => exec_q1 hflS rfl hb⟩) ?_
        refine s_cons (by intro r0_; exact ⟨rfl, fun b w hH hb => exec_ar rfl rfl rfl rfl (by rw [IntWalk.i64_in _ (by omega)]; omega) hb⟩) ?_
        refine s_cons (by intro r0_; exact ⟨rfl, fun b w hH hb => e_vsub 4 (a := j) (b := (j + N1)) sl_uint64 rfl (by omega) (by omega) rfl rfl rfl rfl hH hb⟩) ?_
        refine s_cons (by intro r0_; exact ⟨rfl, fun b w hH hb => exec_q1 hflS rfl hb⟩) ?_
        refine s_cons (by intro r0_; exact ⟨rfl, fun b w hH hb => by exact exec_nilCheck rfl rfl hb⟩) ?_
        refine s_cons (by intro r0_; exact ⟨rfl, fun b w hH hb => exec_q1 hflS rfl hb⟩) ?_
        refine s_cons (by intro r0_; exact ⟨rfl, fun b w hH hb => exec_load rfl rfl (reads_one ty_s_int rfl) (hH.row 6 rfl) hb⟩) ?_
        refine s_cons (by intro r0_; exact ⟨rfl, fun b w hH hb => exec_q1 hflS rfl hb⟩) ?_
        refine s_cons (by intro r0_; exact ⟨rfl, fun b w hH hb => exec_q1 hflS rfl hb⟩) ?_
        refine s_cons (by intro r0_; exact ⟨rfl, fun b w hH hb => exec_q1 hflS rfl hb⟩) ?_
        refine s_cons (by intro r0_; exact ⟨rfl, fun b w hH hb => exec_ar rfl rfl rfl rfl (by rw [IntWalk.i64_in _ (by omega)]; omega) hb⟩) ?_
        refine s_cons (by intro r0_; exact ⟨rfl, fun b w hH hb => e_vsub 5 (a := j) (b := (j + N1)) sl_int rfl (by omega) (by omega) rfl rfl rfl rfl hH hb⟩) ?_
        refine s_cons (by exact ⟨rfl, Acts.su (a_does (os' := fun _ => [Vec 42 1 encU wk ((K.drop j).take N1), Vec 3 1 encI wv ((V.drop j).take N1), Vec 42 1 encU uk ((K.drop 0).take N0), Vec 3 1 encI uv ((V.drop 0).take N0), Vec 42 1 encU kv K, Vec 3 1 encI vv V, cell gr 47 #[.int .i64 100, kv, vv], Tab 85 42 3 encU encI ltI g 100 K V]) [0, 1, 4, 5] 0 (ent_of Try.func22 (by kernel_rfl) rfl) (same_true (Vec 42 1 encU wk ((K.drop j).take N1)) (Vec 3 1 encI wv ((V.drop j).take N1)) (Vec 42 1 encU kv K) (Vec 3 1 encI vv V) wk wv (subv 1 kv j (j + N1)) (subv 1 vv j (j + N1)) ((K.drop j).take N1) ((V.drop j).take N1) (fun rs w h1 h2 => h1.all okU h2) (fun rs w h1 h2 => h1.all okI h2) (rd_sub okU (a := j) (b := (j + N1)) (by omega) (by omega) (r := (K.drop j).take N1) (by rw [List.drop_take, Nat.add_sub_cancel_left])) (rd_sub okI (a := j) (b := (j + N1)) (by omega) (by omega) (r := (V.drop j).take N1) (by rw [List.drop_take, Nat.add_sub_cancel_left])) (by simp [hVK]) (by simp; omega)) rfl rfl rfl (fun _ => rfl) rfl rfl rfl) rfl⟩) ?_
        exact s_nil
      intro v0_
      refine WL2.keep (env' := [(8, .bool false), (141, .bool true)]) ⟨rfl, rfl, trivial⟩ ?_
      refine h_q hflS rfl ?_
      refine h_nil (f_to (d_ret ?_))
      exact f_fin1 (.tmp rfl) (fun w h => ⟨rfl, below0 h.up⟩) rfl
  · skip
    refine d_reg ?_
    refine h_q hflS rfl ?_
    refine h_val rfl (.int .i64 (l.length : Int)) (fun b w hb hH => e_slen (arg_rd hl hH) Try.underlying38 rfl rfl hb) ?_
    refine h_val rfl (.bool true) (fun b w hb hH => exec_cmp rfl rfl rfl (cmp_lss_t (by omega)) hb) ?_
    refine h_q hflS rfl ?_
    refine h_val rfl (.bool false) (fun b w hb hH => exec_cmp rfl rfl rfl (cmp_lss_f (by omega)) hb) ?_
    refine h_q hflS rfl ?_
    refine h_done (d_else rfl (d_exit (f_then_exit (f_then_exit (f_block_exit (f_to (d_seq ?_)))))))
    refine WC2.fact 3 rfl Tab.ok ?_; rintro hT
    have hVK := hT.len
    have hKm := hT.le
    obtain ⟨N0, hN0⟩ : ∃ N0 : Nat, (N0 : Int) = min mo ((K.length : Int) - ((0 : Nat) : Int)) := ⟨(min mo ((K.length : Int) - ((0 : Nat) : Int))).toNat, by omega⟩
    refine d_reg ?_
    refine h_q hflS rfl ?_
    refine h_done (d_then rfl (d_reg1 ?_))
    refine h_q hflS rfl ?_
    refine h_val rfl (.int .u64 f) (fun b w hb hH => exec_remI rfl rfl rfl (by decide) hf hb) ?_
    refine h_q hflS rfl ?_
    refine h_nil (f_to (d_reg ?_))
    refine h_q hflS rfl ?_
    refine h_act (post := fun _ => [Vec 42 1 encU kv K, Vec 3 1 encI vv V, cell gr 47 #[.int .i64 100, kv, vv], Tab 85 42 3 encU encI ltI g 100 K V]) rfl (a_call (ent_of Try.func23 (by kernel_rfl) rfl) (fun w hH => pick w most 20 h1 (by decide) rfl) rfl rfl rfl) ?_; rintro ⟨⟩
    refine h_val rfl (.int .i64 mo) (fun b w hb hH => exec_ar rfl rfl rfl rfl (by rw [IntWalk.i64_in _ (by omega)]; omega) hb) ?_
    refine h_q hflS rfl ?_
    refine h_done (d_reg ?_)
    refine h_q hflS rfl ?_
    refine h_val rfl (.pointer (some ⟨gr, 0, none⟩)) (fun b w hb hH => by exact exec_nilCheck rfl rfl hb) ?_
    refine h_q hflS rfl ?_
    refine h_val rfl (kv) (fun b w hb hH => exec_load rfl rfl (reads_one ty_s_uint64 rfl) (hH.row 2 rfl) hb) ?_
    refine h_val rfl (.int .i64 (K.length : Int)) (fun b w hb hH => e_vlen 0 Try.underlying44 rfl rfl rfl hH hb) ?_
    refine h_val rfl (.int .i64 (N0 : Int)) (fun b w hb hH => exec_builtin2 rfl rfl (fun cs => (fun w cs => run_min2 (by split <;> omega) _ _ w cs) w cs) hb) ?_
    refine h_q hflS rfl ?_
    refine h_done (d_reg ?_)
    refine h_q hflS rfl ?_
    refine h_act rfl (a_does  [3] 0 (ent_of Try.func24 (by kernel_rfl) rfl) (told_all g 100 K V 0 mo (by omega) hN0) rfl rfl rfl (fun _ => rfl) rfl rfl rfl) ?_; rintro ⟨uk, uv⟩
    refine WL2.keep (env' := [(0, sl), (2, .bool true), (8, .bool false), (9, .pointer (some ⟨g, 0, none⟩)), (11, .pointer (some ⟨gr, 0, none⟩)), (12, .int .i64 ((i : Nat) : Int)), (33, .int .i64 ((i : Nat) : Int)), (34, sl), (35, .int .i64 (l.length : Int)), (36, .bool true), (37, .bool true), (38, .int .i64 ((i : Nat) : Int)), (39, .bool false), (40, .bool false), (50, .bool true), (51, .int .u64 fr), (52, .int .u64 f), (1, .int .u64 f), (53, .int .i64 most), (54, .int .i64 (most % 20)), (55, .int .i64 mo), (3, .int .i64 mo), (56, .int .i64 mo), (57, .pointer (some ⟨gr, 0, none⟩)), (58, .pointer (some ⟨gr, 0, none⟩)), (59, .pointer (some ⟨gr, 1, none⟩)), (60, kv), (61, .int .i64 (K.length : Int)), (62, .int .i64 (N0 : Int)), (13, .int .i64 (N0 : Int)), (64, .pointer (some ⟨g, 0, none⟩)), (65, .int .i64 mo), (66, .tuple #[uk, uv])]) ⟨rfl, rfl, rfl, rfl, rfl, rfl, rfl, rfl, rfl, rfl, rfl, rfl, rfl, rfl, rfl, rfl, rfl, rfl, rfl, rfl, rfl, rfl, rfl, rfl, rfl, rfl, rfl, rfl, rfl, rfl, rfl, rfl, rfl, trivial⟩ ?_
    refine WL2.mid [Vec 42 1 encU uk ((K.drop 0).take N0), Vec 3 1 encI uv ((V.drop 0).take N0), Vec 42 1 encU kv K, Vec 3 1 encI vv V, cell gr 47 #[.int .i64 100, kv, vv], Tab 85 42 3 encU encI ltI g 100 K V] (.refl _) ?_
    refine h_q hflS rfl ?_
    refine h_done (d_seq (d_seq ?_))
    refine d_parS 16 1 [⟨.quiet, [none], fun _ => uk, []⟩, ⟨.quiet, [none], fun _ => uv, []⟩, ⟨.quiet, [none], fun _ => .pointer (some ⟨gr, 0, none⟩), []⟩, ⟨.quiet, [none], fun _ => .pointer (some ⟨gr, 0, none⟩), [2]⟩, ⟨.quiet, [none], fun _ => .pointer (some ⟨gr, 1, none⟩), [3]⟩, ⟨.quiet, [none], fun _ => kv, [4]⟩, ⟨.quiet, [none], fun _ => .int .i64 (N0 : Int), []⟩, ⟨.quiet, [none], fun _ => subv 1 kv 0 N0, [5, 6]⟩, ⟨.quiet, [none], fun _ => .pointer (some ⟨gr, 0, none⟩), []⟩, ⟨.quiet, [none], fun _ => .pointer (some ⟨gr, 0, none⟩), [8]⟩, ⟨.quiet, [none], fun _ => .pointer (some ⟨gr, 2, none⟩), [9]⟩, ⟨.quiet, [none], fun _ => vv, [10]⟩, ⟨.quiet, [none], fun _ => .int .i64 (N0 : Int), []⟩, ⟨.quiet, [none], fun _ => subv 1 vv 0 N0, [11, 12]⟩, ⟨.actv 0, [some false], fun _ => .bool true, [0, 1, 7, 13]⟩, ⟨.quiet, [some true], fun _ => .bool false, [14]⟩] [(8, .bool false), (9, .pointer (some ⟨g, 0, none⟩)), (11, .pointer (some ⟨gr, 0, none⟩)), (1, .int .u64 f), (3, .int .i64 mo), (13, .int .i64 (N0 : Int)), (14, uk), (15, uv)] (fun ρ => match ρ with | [r0] => [Vec 42 1 encU uk ((K.drop 0).take N0), Vec 3 1 encI uv ((V.drop 0).take N0), Vec 42 1 encU kv K, Vec 3 1 encI vv V, cell gr 47 #[.int .i64 100, kv, vv], Tab 85 42 3 encU encI ltI g 100 K V] | _ => []) (by kernel_rfl) (by kernel_rfl) ⟨rfl, rfl, rfl, rfl, rfl, rfl, rfl, rfl, trivial⟩ rfl ?_ ?_
    · skip
      refine s_cons (by intro r0_; exact ⟨rfl, fun b w hH hb => exec_q1 hflS rfl hb⟩) ?_
      refine s_cons (by intro r0_; exact ⟨rfl, fun b w hH hb => exec_q1 hflS rfl hb⟩) ?_
      refine s_cons (by intro r0_; exact ⟨rfl, fun b w hH hb => exec_q1 hflS rfl hb⟩) ?_
      refine s_cons (by intro r0_; exact ⟨rfl, fun b w hH hb => by exact exec_nilCheck rfl rfl hb⟩) ?_
      refine s_cons (by intro r0_; exact ⟨rfl, fun b w hH hb => exec_q1 hflS rfl hb⟩) ?_
      refine s_cons (by intro r0_; exact ⟨rfl, fun b w hH hb => exec_load rfl rfl (reads_one ty_s_uint64 rfl) (hH.row 4 rfl) hb⟩) ?_
      refine s_cons (by intro r0_; exact ⟨rfl, fun b w hH hb => exec_q1 hflS rfl hb⟩) ?_
      refine s_cons (by intro r0_; exact ⟨rfl, fun b w hH hb => e_vsub_hi 2 (b := N0) sl_uint64 rfl (by omega) rfl rfl rfl hH hb⟩) ?_
      refine s_cons (by intro r0_; exact ⟨rfl, fun b w hH hb => exec_q1 hflS rfl hb⟩) ?_
      refine s_cons (by intro r0_; exact ⟨rfl, fun b w hH hb => by exact exec_nilCheck rfl rfl hb⟩) ?_
      refine s_cons (by intro r0_; exact ⟨rfl, fun b w hH hb => exec_q1 hflS rfl hb⟩) ?_
      refine s_cons (by intro r0_; exact ⟨rfl, fun b w hH hb => exec_load rfl rfl (reads_one ty_s_int rfl) (hH.row 4 rfl) hb⟩) ?_
      refine s_cons (by intro r0_; exact ⟨rfl, fun b w hH hb => exec_q1 hflS rfl hb⟩) ?_
      refine s_cons (by intro r0_; exact ⟨rfl, fun b w hH hb => e_vsub_hi 3 (b := N0) sl_int rfl (by omega) rfl rfl rfl hH hb⟩) ?_
      refine s_cons (by exact ⟨rfl, Acts.su (a_does (os' := fun _ => [Vec 42 1 encU uk ((K.drop 0).take N0), Vec 3 1 encI uv ((V.drop 0).take N0), Vec 42 1 encU kv K, Vec 3 1 encI vv V, cell gr 47 #[.int .i64 100, kv, vv], Tab 85 42 3 encU encI ltI g 100 K V]) [0, 1, 2, 3] 0 (ent_of Try.func22 (by kernel_rfl) rfl) (same_true (Vec 42 1 encU uk ((K.drop 0).take N0)) (Vec 3 1 encI uv ((V.drop 0).take N0)) (Vec 42 1 encU kv K) (Vec 3 1 encI vv V) uk uv (subv 1 kv 0 N0) (subv 1 vv 0 N0) ((K.drop 0).take N0) ((V.drop 0).take N0) (fun rs w h1 h2 => h1.all okU h2) (fun rs w h1 h2 => h1.all okI h2) (rd_sub okU (a := 0) (b := N0) (by omega) (by omega) (r := (K.drop 0).take N0) (by simp)) (rd_sub okI (a := 0) (b := N0) (by omega) (by omega) (r := (V.drop 0).take N0) (by simp)) (by simp [hVK]) (by simp; omega)) rfl rfl rfl (fun _ => rfl) rfl rfl rfl) rfl⟩) ?_
      refine s_cons (by intro v0_; exact ⟨rfl, fun b w hH hb => exec_q1 hflS rfl hb⟩) ?_
      exact s_nil
    intro v0_
    refine WL2.keep (env' := [(8, .bool false), (9, .pointer (some ⟨g, 0, none⟩)), (11, .pointer (some ⟨gr, 0, none⟩)), (1, .int .u64 f), (3, .int .i64 mo), (13, .int .i64 (N0 : Int)), (14, uk), (15, uv), (84, .bool false)]) ⟨rfl, rfl, rfl, rfl, rfl, rfl, rfl, rfl, rfl, trivial⟩ ?_
    refine h_nil (f_to (d_else rfl (d_skip (f_to (d_reg ?_)))))
    refine h_q hflS rfl ?_
    refine h_done (d_seq (d_block ?_))
    refine d_loop (α := Nat) (fun j => [(8, .bool false), (9, .pointer (some ⟨g, 0, none⟩)), (11, .pointer (some ⟨gr, 0, none⟩)), (1, .int .u64 f), (3, .int .i64 mo), (13, .int .i64 (N0 : Int)), (14, uk), (15, uv), (16, .int .i64 ((j : Nat) : Int))]) (fun j => [Vec 42 1 encU uk ((K.drop 0).take N0), Vec 3 1 encI uv ((V.drop 0).take N0), Vec 42 1 encU kv K, Vec 3 1 encI vv V, cell gr 47 #[.int .i64 100, kv, vv], Tab 85 42 3 encU encI ltI g 100 K V]) (fun j => j ≤ K.length ∧ ∀ q x, q < j → K[q]? = some x → ltI x f = true) (fun j => K.length - j) 0 ⟨Nat.zero_le _, fun q x hq => absurd hq (Nat.not_lt_zero _)⟩ ⟨rfl, rfl, rfl, rfl, rfl, rfl, rfl, rfl, rfl, trivial⟩ rfl ?_
    rintro j hJ
    refine WC2.at_ (env' := [(8, .bool false), (9, .pointer (some ⟨g, 0, none⟩)), (11, .pointer (some ⟨gr, 0, none⟩)), (1, .int .u64 f), (3, .int .i64 mo), (13, .int .i64 (N0 : Int)), (14, uk), (15, uv), (16, .int .i64 ((j : Nat) : Int))]) (rs' := [Vec 42 1 encU uk ((K.drop 0).take N0), Vec 3 1 encI uv ((V.drop 0).take N0), Vec 42 1 encU kv K, Vec 3 1 encI vv V, cell gr 47 #[.int .i64 100, kv, vv], Tab 85 42 3 encU encI ltI g 100 K V]) ⟨rfl, rfl, rfl, rfl, rfl, rfl, rfl, rfl, rfl, trivial⟩ rfl ?_
    have hJ1 := hJ.1
    refine d_seq ?_
    rcases Nat.lt_or_ge j K.length with h6 | h6
    · skip
      obtain ⟨x, hx⟩ : ∃ x, K[j]? = some x := ⟨_, List.getElem?_eq_getElem h6⟩
      by_cases hL : x < f
      · skip
        refine d_reg ?_
        refine h_q hflS rfl ?_
        refine h_val rfl (.pointer (some ⟨gr, 0, none⟩)) (fun b w hb hH => by exact exec_nilCheck rfl rfl hb) ?_
        refine h_q hflS rfl ?_
        refine h_val rfl (kv) (fun b w hb hH => exec_load rfl rfl (reads_one ty_s_uint64 rfl) (hH.row 4 rfl) hb) ?_
        refine h_val rfl (.int .i64 (K.length : Int)) (fun b w hb hH => e_vlen 2 Try.underlying44 rfl rfl rfl hH hb) ?_
        refine h_val rfl (.bool true) (fun b w hb hH => exec_cmp rfl rfl rfl (cmp_lss_t (by omega)) hb) ?_
        refine h_q hflS rfl ?_
        refine h_val rfl (.pointer (some ⟨gr, 0, none⟩)) (fun b w hb hH => by exact exec_nilCheck rfl rfl hb) ?_
        refine h_q hflS rfl ?_
        refine h_val rfl (kv) (fun b w hb hH => exec_load rfl rfl (reads_one ty_s_uint64 rfl) (hH.row 4 rfl) hb) ?_
        refine h_q hflS rfl ?_
        refine h_val rfl (elp kv (j * 1)) (fun b w hb hH => e_vidx 2 sl_uint64 okU rfl j h6 rfl rfl rfl hH hb) ?_
        refine h_val rfl (.int .u64 x) (fun b w hb hH => e_vload1 2 ty_uint64 okU rfl j (a := x) hx rfl rfl rfl hH hb) ?_
        refine h_q hflS rfl ?_
        refine h_val rfl (.bool true) (fun b w hb hH => exec_cmp rfl rfl rfl (cmp_lss_t hL) hb) ?_
        refine h_q hflS rfl ?_
        refine h_done (d_then rfl (d_skip (f_to (d_block (d_reg1 ?_)))))
        refine h_q hflS rfl ?_
        refine h_val rfl (.int .i64 ((j + 1 : Nat) : Int)) (fun b w hb hH => exec_ar rfl rfl rfl rfl (by rw [IntWalk.i64_in _ (by omega)]; omega) hb) ?_
        refine h_q hflS rfl ?_
        refine h_nil (f_block ?_)
        exact f_again (j + 1) 0 ⟨h6, hT.srt.below ordI hx (by simp [ltI, hL])⟩ (show K.length - (j + 1) < K.length - j by omega) ⟨rfl, rfl, rfl, rfl, rfl, rfl, rfl, rfl, rfl, trivial⟩ rfl
      · skip
        have hp := pos_eq hJ1 hJ.2 (fun y hy => by rw [hx] at hy; cases hy; simp only [ltI, decide_eq_false_iff_not]; exact hL)
        obtain ⟨N1, hN1⟩ : ∃ N1 : Nat, (N1 : Int) = min mo ((K.length : Int) - (j : Int)) := ⟨(min mo ((K.length : Int) - (j : Int))).toNat, by omega⟩
        refine d_reg ?_
        refine h_q hflS rfl ?_
        refine h_val rfl (.pointer (some ⟨gr, 0, none⟩)) (fun b w hb hH => by exact exec_nilCheck rfl rfl hb) ?_
        refine h_q hflS rfl ?_
        refine h_val rfl (kv) (fun b w hb hH => exec_load rfl rfl (reads_one ty_s_uint64 rfl) (hH.row 4 rfl) hb) ?_
        refine h_val rfl (.int .i64 (K.length : Int)) (fun b w hb hH => e_vlen 2 Try.underlying44 rfl rfl rfl hH hb) ?_
        refine h_val rfl (.bool true) (fun b w hb hH => exec_cmp rfl rfl rfl (cmp_lss_t (by omega)) hb) ?_
        refine h_q hflS rfl ?_
        refine h_val rfl (.pointer (some ⟨gr, 0, none⟩)) (fun b w hb hH => by exact exec_nilCheck rfl rfl hb) ?_
        refine h_q hflS rfl ?_
        refine h_val rfl (kv) (fun b w hb hH => exec_load rfl rfl (reads_one ty_s_uint64 rfl) (hH.row 4 rfl) hb) ?_
        refine h_q hflS rfl ?_
        refine h_val rfl (elp kv (j * 1)) (fun b w hb hH => e_vidx 2 sl_uint64 okU rfl j h6 rfl rfl rfl hH hb) ?_
        refine h_val rfl (.int .u64 x) (fun b w hb hH => e_vload1 2 ty_uint64 okU rfl j (a := x) hx rfl rfl rfl hH hb) ?_
        refine h_q hflS rfl ?_
        refine h_val rfl (.bool false) (fun b w hb hH => exec_cmp rfl rfl rfl (cmp_lss_f hL) hb) ?_
        refine h_q hflS rfl ?_
        refine h_done (d_else rfl (d_exit (f_then_exit (f_then_exit (f_block_exit (f_to (d_reg ?_)))))))
        refine h_q hflS rfl ?_
        refine h_val rfl (.pointer (some ⟨gr, 0, none⟩)) (fun b w hb hH => by exact exec_nilCheck rfl rfl hb) ?_
        refine h_q hflS rfl ?_
        refine h_val rfl (kv) (fun b w hb hH => exec_load rfl rfl (reads_one ty_s_uint64 rfl) (hH.row 4 rfl) hb) ?_
        refine h_val rfl (.int .i64 (K.length : Int)) (fun b w hb hH => e_vlen 2 Try.underlying44 rfl rfl rfl hH hb) ?_
        refine h_q hflS rfl ?_
        refine h_val rfl (.int .i64 ((K.length : Int) - ((j : Nat) : Int))) (fun b w hb hH => exec_ar rfl rfl rfl rfl (IntWalk.i64_in _ (by omega)) hb) ?_
        refine h_val rfl (.int .i64 (N1 : Int)) (fun b w hb hH => exec_builtin2 rfl rfl (fun cs => (fun w cs => run_min2 (by split <;> omega) _ _ w cs) w cs) hb) ?_
        refine h_q hflS rfl ?_
        refine h_done (d_reg ?_)
        refine h_q hflS rfl ?_
        refine h_act rfl (a_does  [5] 0 (ent_of Try.func24 (by kernel_rfl) rfl) (told_from g 100 K V f mo (by omega) hp hN1) rfl rfl rfl (fun _ => rfl) rfl rfl rfl) ?_; rintro ⟨wk, wv⟩
        refine WL2.keep (env' := [(8, .bool false), (9, .pointer (some ⟨g, 0, none⟩)), (11, .pointer (some ⟨gr, 0, none⟩)), (1, .int .u64 f), (3, .int .i64 mo), (14, uk), (15, uv), (16, .int .i64 ((j : Nat) : Int)), (85, .int .i64 ((j : Nat) : Int)), (86, .pointer (some ⟨gr, 0, none⟩)), (87, .pointer (some ⟨gr, 0, none⟩)), (88, .pointer (some ⟨gr, 1, none⟩)), (89, kv), (90, .int .i64 (K.length : Int)), (91, .bool true), (92, .bool true), (93, .pointer (some ⟨gr, 0, none⟩)), (94, .pointer (some ⟨gr, 0, none⟩)), (95, .pointer (some ⟨gr, 1, none⟩)), (96, kv), (97, .int .i64 ((j : Nat) : Int)), (98, elp kv (j * 1)), (99, .int .u64 x), (100, .int .u64 f), (101, .bool false), (102, .bool false), (105, .int .i64 mo), (106, .pointer (some ⟨gr, 0, none⟩)), (107, .pointer (some ⟨gr, 0, none⟩)), (108, .pointer (some ⟨gr, 1, none⟩)), (109, kv), (110, .int .i64 (K.length : Int)), (111, .int .i64 ((j : Nat) : Int)), (112, .int .i64 ((K.length : Int) - ((j : Nat) : Int))), (113, .int .i64 (N1 : Int)), (13, .int .i64 (N1 : Int)), (115, .pointer (some ⟨g, 0, none⟩)), (116, .int .u64 f), (117, .int .i64 mo), (118, .tuple #[wk, wv])]) ⟨rfl, rfl, rfl, rfl, rfl, rfl, rfl, rfl, rfl, rfl, rfl, rfl, rfl, rfl, rfl, rfl, rfl, rfl, rfl, rfl, rfl, rfl, rfl, rfl, rfl, rfl, rfl, rfl, rfl, rfl, rfl, rfl, rfl, rfl, rfl, rfl, rfl, rfl, rfl, rfl, trivial⟩ ?_
        refine WL2.mid [Vec 42 1 encU wk ((K.drop j).take N1), Vec 3 1 encI wv ((V.drop j).take N1), Vec 42 1 encU uk ((K.drop 0).take N0), Vec 3 1 encI uv ((V.drop 0).take N0), Vec 42 1 encU kv K, Vec 3 1 encI vv V, cell gr 47 #[.int .i64 100, kv, vv], Tab 85 42 3 encU encI ltI g 100 K V] (.refl _) ?_
        refine h_q hflS rfl ?_
        refine h_done (d_seq ?_)
        refine d_parS 21 1 [⟨.quiet, [none], fun _ => wk, []⟩, ⟨.quiet, [none], fun _ => wv, []⟩, ⟨.quiet, [none], fun _ => .pointer (some ⟨gr, 0, none⟩), []⟩, ⟨.quiet, [none], fun _ => .pointer (some ⟨gr, 0, none⟩), [2]⟩, ⟨.quiet, [none], fun _ => .pointer (some ⟨gr, 1, none⟩), [3]⟩, ⟨.quiet, [none], fun _ => kv, [4]⟩, ⟨.quiet, [none], fun _ => .int .i64 ((j : Nat) : Int), []⟩, ⟨.quiet, [none], fun _ => .int .i64 ((j : Nat) : Int), []⟩, ⟨.quiet, [none], fun _ => .int .i64 (N1 : Int), []⟩, ⟨.quiet, [none], fun _ => .int .i64 ((j + N1 : Nat) : Int), [7, 8]⟩, ⟨.quiet, [none], fun _ => subv 1 kv j (j + N1), [5, 6, 9]⟩, ⟨.quiet, [none], fun _ => .pointer (some ⟨gr, 0, none⟩), []⟩, ⟨.quiet, [none], fun _ => .pointer (some ⟨gr, 0, none⟩), [11]⟩, ⟨.quiet, [none], fun _ => .pointer (some ⟨gr, 2, none⟩), [12]⟩, ⟨.quiet, [none], fun _ => vv, [13]⟩, ⟨.quiet, [none], fun _ => .int .i64 ((j : Nat) : Int), []⟩, ⟨.quiet, [none], fun _ => .int .i64 ((j : Nat) : Int), []⟩, ⟨.quiet, [none], fun _ => .int .i64 (N1 : Int), []⟩, ⟨.quiet, [none], fun _ => .int .i64 ((j + N1 : Nat) : Int), [16, 17]⟩, ⟨.quiet, [none], fun _ => subv 1 vv j (j + N1), [14, 15, 18]⟩, ⟨.actv 0, [some false], fun _ => .bool true, [0, 1, 10, 19]⟩] [(8, .bool false), (11, .pointer (some ⟨gr, 0, none⟩)), (16, .int .i64 ((j : Nat) : Int)), (13, .int .i64 (N1 : Int)), (14, wk), (15, wv)] (fun ρ => match ρ with | [r0] => [Vec 42 1 encU wk ((K.drop j).take N1), Vec 3 1 encI wv ((V.drop j).take N1), Vec 42 1 encU uk ((K.drop 0).take N0), Vec 3 1 encI uv ((V.drop 0).take N0), Vec 42 1 encU kv K, Vec 3 1 encI vv V, cell gr 47 #[.int .i64 100, kv, vv], Tab 85 42 3 encU encI ltI g 100 K V] | _ => []) (by kernel_rfl) (by kernel_rfl) ⟨rfl, rfl, rfl, rfl, rfl, rfl, trivial⟩ rfl ?_ ?_
        · skip
          refine s_cons (by intro r0_; exact ⟨rfl, fun b w hH hb => exec_q1 hflS rfl hb⟩) ?_
          refine s_cons (by intro r0_; exact ⟨rfl, fun b w hH hb => exec_q1 hflS rfl hb⟩) ?_
          refine s_cons (by intro r0_; exact ⟨rfl, fun b w hH hb => exec_q1 hflS rfl hb⟩) ?_
          refine s_cons (by intro r0_; exact ⟨rfl, fun b w hH hb => by exact exec_nilCheck rfl rfl hb⟩) ?_
          refine s_cons (by intro r0_; exact ⟨rfl, fun b w hH hb => exec_q1 hflS rfl hb⟩) ?_
          refine s_cons (by intro r0_; exact ⟨rfl, fun b w hH hb => exec_load rfl rfl (reads_one ty_s_uint64 rfl) (hH.row 6 rfl) hb⟩) ?_
          refine s_cons (by intro r0_; exact ⟨rfl, fun b w hH hb => exec_q1 hflS rfl hb⟩) ?_
          refine s_cons (by intro r0_; exact ⟨rfl, fun b w hH hb => exec_q1 hflS rfl hb⟩) ?_
          refine s_cons (by intro r0_; exact ⟨rfl, fun b w hH hb => exec_q1 hflS rfl hb⟩) ?_
          refine s_cons (by intro r0_; exact ⟨rfl, fun b w hH hb => exec_ar rfl rfl rfl rfl (by rw [IntWalk.i64_in _ (by omega)]; omega) hb⟩) ?_
          refine s_cons (by intro r0_; exact ⟨rfl, fun b w hH hb => e_vsub 4 (a := j) (b := (j + N1)) sl_uint64 rfl (by omega) (by omega) rfl rfl rfl rfl hH hb⟩) ?_
          refine s_cons (by intro r0_; exact ⟨rfl, fun b w hH hb => exec_q1 hflS rfl hb⟩) ?_
          refine s_cons (by intro r0_; exact ⟨rfl, fun b w hH hb => by exact exec_nilCheck rfl rfl hb⟩) ?_
          refine s_cons (by intro r0_; exact ⟨rfl, fun b w hH hb => exec_q1 hflS rfl hb⟩) ?_
          refine s_cons (by intro r0_; exact ⟨rfl, fun b w hH hb => exec_load rfl rfl (reads_one ty_s_int rfl) (hH.row 6 rfl) hb⟩) ?_
          refine s_cons (by intro r0_; exact ⟨rfl, fun b w hH hb => exec_q1 hflS rfl hb⟩) ?_
          refine s_cons (by intro r0_; exact ⟨rfl, fun b w hH hb => exec_q1 hflS rfl hb⟩) ?_
          refine s_cons (by intro r0_; exact ⟨rfl, fun b w hH hb => exec_q1 hflS rfl hb⟩) ?_
          refine s_cons (by intro r0_; exact ⟨rfl, fun b w hH hb => exec_ar rfl rfl rfl rfl (by rw [IntWalk.i64_in _ (by omega)]; omega) hb⟩) ?_
          refine s_cons (by intro r0_; exact ⟨rfl, fun b w hH hb => e_vsub 5 (a := j) (b := (j + N1)) sl_int rfl (by omega) (by omega) rfl rfl rfl rfl hH hb⟩) ?_
          refine s_cons (by exact ⟨rfl, Acts.su (a_does (os' := fun _ => [Vec 42 1 encU wk ((K.drop j).take N1), Vec 3 1 encI wv ((V.drop j).take N1), Vec 42 1 encU uk ((K.drop 0).take N0), Vec 3 1 encI uv ((V.drop 0).take N0), Vec 42 1 encU kv K, Vec 3 1 encI vv V, cell gr 47 #[.int .i64 100, kv, vv], Tab 85 42 3 encU encI ltI g 100 K V]) [0, 1, 4, 5] 0 (ent_of Try.func22 (by kernel_rfl) rfl) (same_true (Vec 42 1 encU wk ((K.drop j).take N1)) (Vec 3 1 encI wv ((V.drop j).take N1)) (Vec 42 1 encU kv K) (Vec 3 1 encI vv V) wk wv (subv 1 kv j (j + N1)) (subv 1 vv j (j + N1)) ((K.drop j).take N1) ((V.drop j).take N1) (fun rs w h1 h2 => h1.all okU h2) (fun rs w h1 h2 => h1.all okI h2) (rd_sub okU (a := j) (b := (j + N1)) (by omega) (by omega) (r := (K.drop j).take N1) (by rw [List.drop_take, Nat.add_sub_cancel_left])) (rd_sub okI (a := j) (b := (j + N1)) (by omega) (by omega) (r := (V.drop j).take N1) (by rw [List.drop_take, Nat.add_sub_cancel_left])) (by simp [hVK]) (by simp; omega)) rfl rfl rfl (fun _ => rfl) rfl rfl rfl) rfl⟩) ?_
          exact s_nil
        intro v0_
        refine WL2.keep (env' := [(8, .bool false), (141, .bool true)]) ⟨rfl, rfl, trivial⟩ ?_
        refine h_q hflS rfl ?_
        refine h_nil (f_to (d_ret ?_))
        exact f_fin1 (.tmp rfl) (fun w h => ⟨rfl, below0 h.up⟩) rfl
    · skip
      have hp := pos_eq hJ1 hJ.2 (fun y hy => by rw [List.getElem?_eq_none h6] at hy; cases hy)
      obtain ⟨N1, hN1⟩ : ∃ N1 : Nat, (N1 : Int) = min mo ((K.length : Int) - (j : Int)) := ⟨(min mo ((K.length : Int) - (j : Int))).toNat, by omega⟩
      refine d_reg ?_
      refine h_q hflS rfl ?_
      refine h_val rfl (.pointer (some ⟨gr, 0, none⟩)) (fun b w hb hH => by exact exec_nilCheck rfl rfl hb) ?_
      refine h_q hflS rfl ?_
      refine h_val rfl (kv) (fun b w hb hH => exec_load rfl rfl (reads_one ty_s_uint64 rfl) (hH.row 4 rfl) hb) ?_
      refine h_val rfl (.int .i64 (K.length : Int)) (fun b w hb hH => e_vlen 2 Try.underlying44 rfl rfl rfl hH hb) ?_
      refine h_val rfl (.bool false) (fun b w hb hH => exec_cmp rfl rfl rfl (cmp_lss_f (by omega)) hb) ?_
      refine h_q hflS rfl ?_
      refine h_done (d_else rfl (d_exit (f_then_exit (f_then_exit (f_block_exit (f_to (d_reg ?_)))))))
      refine h_q hflS rfl ?_
      refine h_val rfl (.pointer (some ⟨gr, 0, none⟩)) (fun b w hb hH => by exact exec_nilCheck rfl rfl hb) ?_
      refine h_q hflS rfl ?_
      refine h_val rfl (kv) (fun b w hb hH => exec_load rfl rfl (reads_one ty_s_uint64 rfl) (hH.row 4 rfl) hb) ?_
      refine h_val rfl (.int .i64 (K.length : Int)) (fun b w hb hH => e_vlen 2 Try.underlying44 rfl rfl rfl hH hb) ?_
      refine h_q hflS rfl ?_
      refine h_val rfl (.int .i64 ((K.length : Int) - ((j : Nat) : Int))) (fun b w hb hH => exec_ar rfl rfl rfl rfl (IntWalk.i64_in _ (by omega)) hb) ?_
      refine h_val rfl (.int .i64 (N1 : Int)) (fun b w hb hH => exec_builtin2 rfl rfl (fun cs => (fun w cs => run_min2 (by split <;> omega) _ _ w cs) w cs) hb) ?_
      refine h_q hflS rfl ?_
      refine h_done (d_reg ?_)
      refine h_q hflS rfl ?_
      refine h_act rfl (a_does  [5] 0 (ent_of Try.func24 (by kernel_rfl) rfl) (told_from g 100 K V f mo (by omega) hp hN1) rfl rfl rfl (fun _ => rfl) rfl rfl rfl) ?_; rintro ⟨wk, wv⟩
      refine WL2.keep (env' := [(8, .bool false), (9, .pointer (some ⟨g, 0, none⟩)), (11, .pointer (some ⟨gr, 0, none⟩)), (1, .int .u64 f), (3, .int .i64 mo), (14, uk), (15, uv), (16, .int .i64 ((j : Nat) : Int)), (85, .int .i64 ((j : Nat) : Int)), (86, .pointer (some ⟨gr, 0, none⟩)), (87, .pointer (some ⟨gr, 0, none⟩)), (88, .pointer (some ⟨gr, 1, none⟩)), (89, kv), (90, .int .i64 (K.length : Int)), (91, .bool false), (92, .bool false), (93, undef), (94, undef), (95, undef), (96, undef), (97, undef), (98, undef), (99, undef), (100, undef), (101, undef), (102, .bool false), (105, .int .i64 mo), (106, .pointer (some ⟨gr, 0, none⟩)), (107, .pointer (some ⟨gr, 0, none⟩)), (108, .pointer (some ⟨gr, 1, none⟩)), (109, kv), (110, .int .i64 (K.length : Int)), (111, .int .i64 ((j : Nat) : Int)), (112, .int .i64 ((K.length : Int) - ((j : Nat) : Int))), (113, .int .i64 (N1 : Int)), (13, .int .i64 (N1 : Int)), (115, .pointer (some ⟨g, 0, none⟩)), (116, .int .u64 f), (117, .int .i64 mo), (118, .tuple #[wk, wv])]) ⟨rfl, rfl, rfl, rfl, rfl, rfl, rfl, rfl, rfl, rfl, rfl, rfl, rfl, rfl, rfl, rfl, rfl, rfl, rfl, rfl, rfl, rfl, rfl, rfl, rfl, rfl, rfl, rfl, rfl, rfl, rfl, rfl, rfl, rfl, rfl, rfl, rfl, rfl, rfl, rfl, trivial⟩ ?_
      refine WL2.mid [Vec 42 1 encU wk ((K.drop j).take N1), Vec 3 1 encI wv ((V.drop j).take N1), Vec 42 1 encU uk ((K.drop 0).take N0), Vec 3 1 encI uv ((V.drop 0).take N0), Vec 42 1 encU kv K, Vec 3 1 encI vv V, cell gr 47 #[.int .i64 100, kv, vv], Tab 85 42 3 encU encI ltI g 100 K V] (.refl _) ?_
      refine h_q hflS rfl ?_
      refine h_done (d_seq ?_)
      refine d_parS 21 1 [⟨.quiet, [none], fun _ => wk, []⟩, ⟨.quiet, [none], fun _ => wv, []⟩, ⟨.quiet, [none], fun _ => .pointer (some ⟨gr, 0, none⟩), []⟩, ⟨.quiet, [none], fun _ => .pointer (some ⟨gr, 0, none⟩), [2]⟩, ⟨.quiet, [none], fun _ => .pointer (some ⟨gr, 1, none⟩), [3]⟩, ⟨.quiet, [none], fun _ => kv, [4]⟩, ⟨.quiet, [none], fun _ => .int .i64 ((j : Nat) : Int), []⟩, ⟨.quiet, [none], fun _ => .int .i64 ((j : Nat) : Int), []⟩, ⟨.quiet, [none], fun _ => .int .i64 (N1 : Int), []⟩, ⟨.quiet, [none], fun _ => .int .i64 ((j + N1 : Nat) : Int), [7, 8]⟩, ⟨.quiet, [none], fun _ => subv 1 kv j (j + N1), [5, 6, 9]⟩, ⟨.quiet, [none], fun _ => .pointer (some ⟨gr, 0, none⟩), []⟩, ⟨.quiet, [none], fun _ => .pointer (some ⟨gr, 0, none⟩), [11]⟩, ⟨.quiet, [none], fun _ => .pointer (some ⟨gr, 2, none⟩), [12]⟩, ⟨.quiet, [none], fun _ => vv, [13]⟩, ⟨.quiet, [none], fun _ => .int .i64 ((j : Nat) : Int), []⟩, ⟨.quiet, [none], fun _ => .int .i64 ((j : Nat) : Int), []⟩, ⟨.quiet, [none], fun _ => .int .i64 (N1 : Int), []⟩, ⟨.quiet, [none], fun _ => .int .i64 ((j + N1 : Nat) : Int), [16, 17]⟩, ⟨.quiet, [none], fun _ => subv 1 vv j (j + N1), [14, 15, 18]⟩, ⟨.actv 0, [some false], fun _ => .bool true, [0, 1, 10, 19]⟩] [(8, .bool false), (11, .pointer (some ⟨gr, 0, none⟩)), (16, .int .i64 ((j : Nat) : Int)), (13, .int .i64 (N1 : Int)), (14, wk), (15, wv)] (fun ρ => match ρ with | [r0] => [Vec 42 1 encU wk ((K.drop j).take N1), Vec 3 1 encI wv ((V.drop j).take N1), Vec 42 1 encU uk ((K.drop 0).take N0), Vec 3 1 encI uv ((V.drop 0).take N0), Vec 42 1 encU kv K, Vec 3 1 encI vv V, cell gr 47 #[.int .i64 100, kv, vv], Tab 85 42 3 encU encI ltI g 100 K V] | _ => []) (by kernel_rfl) (by kernel_rfl) ⟨rfl, rfl, rfl, rfl, rfl, rfl, trivial⟩ rfl ?_ ?_
      · skip
        refine s_cons (by intro r0_; exact ⟨rfl, fun b w hH hb => exec_q1 hflS rfl hb⟩) ?_
        refine s_cons (by intro r0_; exact ⟨rfl, fun b w hH hb => exec_q1 hflS rfl hb⟩) ?_
        refine s_cons (by intro r0_; exact ⟨rfl, fun b w hH hb => exec_q1 hflS rfl hb⟩) ?_
        refine s_cons (by intro r0_; exact ⟨rfl, fun b w hH hb => by exact exec_nilCheck rfl rfl hb⟩) ?_
        refine s_cons (by intro r0_; exact ⟨rfl, fun b w hH hb => exec_q1 hflS rfl hb⟩) ?_
        refine s_cons (by intro r0_; exact ⟨rfl, fun b w hH hb => exec_load rfl rfl (reads_one ty_s_uint64 rfl) (hH.row 6 rfl) hb⟩) ?_
        refine s_cons (by intro r0_; exact ⟨rfl, fun b w hH hb => exec_q1 hflS rfl hb⟩) ?_
        refine s_cons (by intro r0_; exact ⟨rfl, fun b w hH hb => exec_q1 hflS rfl hb⟩) ?_
        refine s_cons (by intro r0_; exact ⟨rfl, fun b w hH hb => exec_q1 hflS rfl hb⟩) ?_
        refine s_cons (by intro r0_; exact ⟨rfl, fun b w hH hb => exec_ar rfl rfl rfl rfl (by rw [IntWalk.i64_in _ (by omega)]; omega) hb⟩) ?_
        refine s_cons (by intro r0_; exact ⟨rfl, fun b w hH hb => e_vsub 4 (a := j) (b := (j + N1)) sl_uint64 rfl (by omega) (by omega) rfl rfl rfl rfl hH hb⟩) ?_
        refine s_cons (by intro r0_; exact ⟨rfl, fun b w hH hb => exec_q1 hflS rfl hb⟩) ?_
        refine s_cons (by intro r0_; exact ⟨rfl, fun b w hH hb => by exact exec_nilCheck rfl rfl hb⟩) ?_
        refine s_cons (by intro r0_; exact ⟨rfl, fun b w hH hb => exec_q1 hflS rfl hb⟩) ?_
        refine s_cons (by intro r0_; exact ⟨rfl, fun b w hH hb => exec_load rfl rfl (reads_one ty_s_int rfl) (hH.row 6 rfl) hb⟩) ?_
        refine s_cons (by intro r0_; exact ⟨rfl, fun b w hH hb => exec_q1 hflS rfl hb⟩) ?_
        refine s_cons (by intro r0_; exact ⟨rfl, fun b w hH hb => exec_q1 hflS rfl hb⟩) ?_
        refine s_cons (by intro r0_; exact ⟨rfl, fun b w hH hb => exec_q1 hflS rfl hb⟩) ?_
        refine s_cons (by intro r0_; exact ⟨rfl, fun b w hH hb => exec_ar rfl rfl rfl rfl (by rw [IntWalk.i64_in _ (by omega)]; omega) hb⟩) ?_
        refine s_cons (by intro r0_; exact ⟨rfl, fun b w hH hb => e_vsub 5 (a := j) (b := (j + N1)) sl_int rfl (by omega) (by omega) rfl rfl rfl rfl hH hb⟩) ?_
        refine s_cons (by exact ⟨rfl, Acts.su (a_does (os' := fun _ => [Vec 42 1 encU wk ((K.drop j).take N1), Vec 3 1 encI wv ((V.drop j).take N1), Vec 42 1 encU uk ((K.drop 0).take N0), Vec 3 1 encI uv ((V.drop 0).take N0), Vec 42 1 encU kv K, Vec 3 1 encI vv V, cell gr 47 #[.int .i64 100, kv, vv], Tab 85 42 3 encU encI ltI g 100 K V]) [0, 1, 4, 5] 0 (ent_of Try.func22 (by kernel_rfl) rfl) (same_true (Vec 42 1 encU wk ((K.drop j).take N1)) (Vec 3 1 encI wv ((V.drop j).take N1)) (Vec 42 1 encU kv K) (Vec 3 1 encI vv V) wk wv (subv 1 kv j (j + N1)) (subv 1 vv j (j + N1)) ((K.drop j).take N1) ((V.drop j).take N1) (fun rs w h1 h2 => h1.all okU h2) (fun rs w h1 h2 => h1.all okI h2) (rd_sub okU (a := j) (b := (j + N1)) (by omega) (by omega) (r := (K.drop j).take N1) (by rw [List.drop_take, Nat.add_sub_cancel_left])) (rd_sub okI (a := j) (b := (j + N1)) (by omega) (by omega) (r := (V.drop j).take N1) (by rw [List.drop_take, Nat.add_sub_cancel_left])) (by simp [hVK]) (by simp; omega)) rfl rfl rfl (fun _ => rfl) rfl rfl rfl) rfl⟩) ?_
        exact s_nil
      intro v0_
      refine WL2.keep (env' := [(8, .bool false), (141, .bool true)]) ⟨rfl, rfl, trivial⟩ ?_
      refine h_q hflS rfl ?_
      refine h_nil (f_to (d_ret ?_))
      exact f_fin1 (.tmp rfl) (fun w h => ⟨rfl, below0 h.up⟩) rfl

theorem ranges_true (w : World) (sl : Value) (l : List StepD) (fr most : Int) (near : Bool) (h1 : -9223372036854775808 ≤ most ∧ most ≤ 9223372036854775807) (hl : SlRd w 4 sl l.length (flat encT l)) (hll : l.length ≤ 9223372036854775807) (hlo : ∀ y ∈ l, y.ok) : Calls Try.prog 5 #[sl, .int .u64 fr, .bool near, .int .i64 most] w fun e w' => e = .returned (.bool true) ∧ Below w.heap.size w w' := by
  cases near with
  | false => exact ranges_far w sl l fr most h1 hl hll hlo
  | true => exact ranges_near w sl l fr most rfl h1 hl hll hlo
end Go.Proofs.Ytmlfgdedhhmkpaa.Sep
