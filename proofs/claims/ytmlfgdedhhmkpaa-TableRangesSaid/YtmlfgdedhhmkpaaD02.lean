/-
  TabR
-/
import Derived.Test.YtmlfgdedhhmkpaaD01
set_option linter.unusedSimpArgs false
set_option linter.unusedVariables false

namespace Go.Proofs.Ytmlfgdedhhmkpaa.Sep
open Go.RowKit
open Go.Proofs.Ytmlfgdedhhmkpaa.Mem (Dist Blk Chg below0)

set_option maxRecDepth 100000 in
theorem place_ref (p : Nat) (m : Int) (K V : List Int) (k : Int) {q : Nat} {b : Bool} (hq : pos ltI K k = q) (hb : has ltI K k = b) : Does Try.prog 61 #[.pointer (some ⟨p, 0, none⟩), .int .u64 k] [Tab 47 42 3 encU encI ltI p m K V] (fun (_ : Unit) => .tuple #[.int .i64 (q : Int), .bool b]) (fun (_ : Unit) => [Tab 47 42 3 encU encI ltI p m K V]) := by
  subst hq; subst hb
  refine d_ins (args := [.pointer (some ⟨p, 0, none⟩), .int .u64 k]) 40 Try.func61 rfl rfl rfl ?_; intro w rs
  refine d_open 0 rfl Tab.open_ (fun _ => rfl) ?_; rintro ⟨⟨kv, vv⟩, hT⟩
  refine WC2.keep (env' := [(0, .pointer (some ⟨p, 0, none⟩)), (1, .int .u64 k)]) ⟨rfl, rfl, trivial⟩ ?_
  refine WC2.mid [cell p 47 #[.int .i64 m, kv, vv], Vec 42 1 encU kv K, Vec 3 1 encI vv V] (.refl _) ?_
  have hVK := hT.len
  have hKm := hT.le
  have hm4 := hT.lim
  refine d_reg ?_
  refine h_q hflS rfl ?_
  refine h_done (d_seq (d_reg ?_))
  refine h_q hflS rfl ?_
  refine h_done (d_block ?_)
  refine d_loop (α := Nat) (fun i => [(0, .pointer (some ⟨p, 0, none⟩)), (1, .int .u64 k), (4, .int .i64 0), (5, .bool false), (6, .int .i64 ((i : Nat) : Int))]) (fun i => [cell p 47 #[.int .i64 m, kv, vv], Vec 42 1 encU kv K, Vec 3 1 encI vv V]) (fun i => i ≤ K.length ∧ ∀ q x, q < i → K[q]? = some x → ltI x k = true) (fun i => K.length - i) 0 ⟨Nat.zero_le _, fun q x hq => absurd hq (Nat.not_lt_zero _)⟩ ⟨rfl, rfl, rfl, rfl, rfl, trivial⟩ rfl ?_
  rintro i hI
  refine WC2.at_ (env' := [(0, .pointer (some ⟨p, 0, none⟩)), (1, .int .u64 k), (4, .int .i64 0), (5, .bool false), (6, .int .i64 ((i : Nat) : Int))]) (rs' := [cell p 47 #[.int .i64 m, kv, vv], Vec 42 1 encU kv K, Vec 3 1 encI vv V]) ⟨rfl, rfl, rfl, rfl, rfl, trivial⟩ rfl ?_
  have hI1 : i ≤ K.length := hI.1
  refine d_seq ?_
  rcases Nat.lt_or_ge i K.length with hn | hn
  · skip
    obtain ⟨x, hx⟩ : ∃ x, K[i]? = some x := ⟨_, List.getElem?_eq_getElem hn⟩
    refine d_reg ?_
    refine h_q hflS rfl ?_
    refine h_val rfl (.pointer (some ⟨p, 0, none⟩)) (fun b w hb hH => by exact exec_nilCheck rfl rfl hb) ?_
    refine h_q hflS rfl ?_
    refine h_val rfl (kv) (fun b w hb hH => exec_load rfl rfl (reads_one ty_s_uint64 rfl) (hH.row 0 rfl) hb) ?_
    refine h_val rfl (.int .i64 (K.length : Int)) (fun b w hb hH => e_vlen 1 Try.underlying44 rfl rfl rfl hH hb) ?_
    refine h_val rfl (.bool true) (fun b w hb hH => exec_cmp rfl rfl rfl (cmp_lss_t (by omega)) hb) ?_
    refine h_done (d_then rfl (d_skip (f_to (d_seq (d_block ?_)))))
    by_cases hL : x < k
    · skip
      refine d_reg ?_
      refine h_q hflS rfl ?_
      refine h_val rfl (.pointer (some ⟨p, 0, none⟩)) (fun b w hb hH => by exact exec_nilCheck rfl rfl hb) ?_
      refine h_q hflS rfl ?_
      refine h_val rfl (kv) (fun b w hb hH => exec_load rfl rfl (reads_one ty_s_uint64 rfl) (hH.row 0 rfl) hb) ?_
      refine h_q hflS rfl ?_
      refine h_val rfl (elp kv (i * 1)) (fun b w hb hH => e_vidx 1 sl_uint64 okU rfl i hn rfl rfl rfl hH hb) ?_
      refine h_val rfl (.int .u64 x) (fun b w hb hH => e_vload1 1 ty_uint64 okU rfl i (a := x) hx rfl rfl rfl hH hb) ?_
      refine h_q hflS rfl ?_
      refine h_val rfl (.bool false) (fun b w hb hH => exec_cmp rfl rfl rfl (cmp_geq_f (by omega)) hb) ?_
      refine h_done (d_else rfl (d_skip (f_block (f_to (d_reg1 ?_)))))
      refine h_q hflS rfl ?_
      refine h_val rfl (.int .i64 ((i + 1 : Nat) : Int)) (fun b w hb hH => exec_ar rfl rfl rfl rfl (by rw [IntWalk.i64_in _ (by omega)]; omega) hb) ?_
      refine h_q hflS rfl ?_
      refine h_nil ?_
      exact f_again (i + 1) 0 ⟨hn, hT.srt.below ordI hx (by simp [ltI, hL])⟩ (by omega) ⟨rfl, rfl, rfl, rfl, rfl, trivial⟩ rfl
    · skip
      have hp := pos_eq hI1 hI.2 (fun y hy => by rw [hx] at hy; cases hy; simp only [ltI, decide_eq_false_iff_not]; omega)
      refine d_reg ?_
      refine h_q hflS rfl ?_
      refine h_val rfl (.pointer (some ⟨p, 0, none⟩)) (fun b w hb hH => by exact exec_nilCheck rfl rfl hb) ?_
      refine h_q hflS rfl ?_
      refine h_val rfl (kv) (fun b w hb hH => exec_load rfl rfl (reads_one ty_s_uint64 rfl) (hH.row 0 rfl) hb) ?_
      refine h_q hflS rfl ?_
      refine h_val rfl (elp kv (i * 1)) (fun b w hb hH => e_vidx 1 sl_uint64 okU rfl i hn rfl rfl rfl hH hb) ?_
      refine h_val rfl (.int .u64 x) (fun b w hb hH => e_vload1 1 ty_uint64 okU rfl i (a := x) hx rfl rfl rfl hH hb) ?_
      refine h_q hflS rfl ?_
      refine h_val rfl (.bool true) (fun b w hb hH => exec_cmp rfl rfl rfl (cmp_geq_t (by omega)) hb) ?_
      refine h_done (d_then rfl ?_)
      by_cases hk : x = k
      · skip
        refine d_seq ?_
        refine d_parS 11 0 [⟨.quiet, [], fun _ => .int .i64 ((i : Nat) : Int), []⟩, ⟨.quiet, [], fun _ => .pointer (some ⟨p, 0, none⟩), []⟩, ⟨.quiet, [], fun _ => .pointer (some ⟨p, 0, none⟩), [1]⟩, ⟨.quiet, [], fun _ => .pointer (some ⟨p, 1, none⟩), [2]⟩, ⟨.quiet, [], fun _ => kv, [3]⟩, ⟨.quiet, [], fun _ => .int .i64 ((i : Nat) : Int), []⟩, ⟨.quiet, [], fun _ => elp kv (i * 1), [4, 5]⟩, ⟨.quiet, [], fun _ => .int .u64 x, [6]⟩, ⟨.quiet, [], fun _ => .int .u64 k, []⟩, ⟨.quiet, [], fun _ => .bool true, [7, 8]⟩, ⟨.quiet, [], fun _ => .int .i64 ((i : Nat) : Int), [0]⟩] [(0, .pointer (some ⟨p, 0, none⟩)), (1, .int .u64 k), (5, .bool false), (6, .int .i64 ((i : Nat) : Int)), (7, .int .i64 ((i : Nat) : Int)), (8, .pointer (some ⟨p, 0, none⟩)), (9, .pointer (some ⟨p, 0, none⟩)), (10, .pointer (some ⟨p, 1, none⟩)), (11, kv), (12, .int .i64 (K.length : Int)), (13, .bool true), (16, .pointer (some ⟨p, 0, none⟩)), (17, .pointer (some ⟨p, 0, none⟩)), (18, .pointer (some ⟨p, 1, none⟩)), (19, kv), (20, .int .i64 ((i : Nat) : Int)), (21, elp kv (i * 1)), (22, .int .u64 x), (23, .int .u64 k), (24, .bool true)] (fun _ => [cell p 47 #[.int .i64 m, kv, vv], Vec 42 1 encU kv K, Vec 3 1 encI vv V]) (by kernel_rfl) (by kernel_rfl) ⟨rfl, rfl, rfl, rfl, rfl, rfl, rfl, rfl, rfl, rfl, rfl, rfl, rfl, rfl, rfl, rfl, rfl, rfl, rfl, rfl, trivial⟩ rfl ?_ ?_
        · skip
          refine s_cons (by exact ⟨rfl, fun b w hH hb => exec_q1 hflS rfl hb⟩) ?_
          refine s_cons (by exact ⟨rfl, fun b w hH hb => exec_q1 hflS rfl hb⟩) ?_
          refine s_cons (by exact ⟨rfl, fun b w hH hb => by exact exec_nilCheck rfl rfl hb⟩) ?_
          refine s_cons (by exact ⟨rfl, fun b w hH hb => exec_q1 hflS rfl hb⟩) ?_
          refine s_cons (by exact ⟨rfl, fun b w hH hb => exec_load rfl rfl (reads_one ty_s_uint64 rfl) (hH.row 0 rfl) hb⟩) ?_
          refine s_cons (by exact ⟨rfl, fun b w hH hb => exec_q1 hflS rfl hb⟩) ?_
          refine s_cons (by exact ⟨rfl, fun b w hH hb => e_vidx 1 sl_uint64 okU rfl i hn rfl rfl rfl hH hb⟩) ?_
          refine s_cons (by exact ⟨rfl, fun b w hH hb => e_vload1 1 ty_uint64 okU rfl i (a := x) hx rfl rfl rfl hH hb⟩) ?_
          refine s_cons (by exact ⟨rfl, fun b w hH hb => exec_q1 hflS rfl hb⟩) ?_
          refine s_cons (by exact ⟨rfl, fun b w hH hb => exec_cmp rfl rfl rfl (cmp_eql_t hk) hb⟩) ?_
          refine s_cons (by exact ⟨rfl, fun b w hH hb => exec_q1 hflS rfl hb⟩) ?_
          exact s_nil
        refine WL2.keep (env' := [(0, .pointer (some ⟨p, 0, none⟩)), (1, .int .u64 k), (5, .bool false), (6, .int .i64 ((i : Nat) : Int)), (7, .int .i64 ((i : Nat) : Int)), (8, .pointer (some ⟨p, 0, none⟩)), (9, .pointer (some ⟨p, 0, none⟩)), (10, .pointer (some ⟨p, 1, none⟩)), (11, kv), (12, .int .i64 (K.length : Int)), (13, .bool true), (16, .pointer (some ⟨p, 0, none⟩)), (17, .pointer (some ⟨p, 0, none⟩)), (18, .pointer (some ⟨p, 1, none⟩)), (19, kv), (20, .int .i64 ((i : Nat) : Int)), (21, elp kv (i * 1)), (22, .int .u64 x), (23, .int .u64 k), (24, .bool true), (25, .int .i64 ((i : Nat) : Int)), (26, .pointer (some ⟨p, 0, none⟩)), (27, .pointer (some ⟨p, 0, none⟩)), (28, .pointer (some ⟨p, 1, none⟩)), (29, kv), (30, .int .i64 ((i : Nat) : Int)), (31, elp kv (i * 1)), (32, .int .u64 x), (33, .int .u64 k), (34, .bool true), (4, .int .i64 ((i : Nat) : Int))]) ⟨rfl, rfl, rfl, rfl, rfl, rfl, rfl, rfl, rfl, rfl, rfl, rfl, rfl, rfl, rfl, rfl, rfl, rfl, rfl, rfl, rfl, rfl, rfl, rfl, rfl, rfl, rfl, rfl, rfl, rfl, rfl, trivial⟩ ?_
        refine h_q hflS rfl ?_
        refine h_nil (f_to (d_ret (f_block_ret (f_then_ret (f_then_ret (f_block_ret (f_then_ret ?_)))))))
        exact f_fin2 (.tmp rfl) (.tmp rfl) (fun w h => tells () (by rw [hp, has_t (by rw [hp, hx, hk])]) [0, 1, 2] rfl h (fun z hz => ⟨z, .refl _, Parts.one (Tab.mk_ hT hz)⟩)) rfl
      · skip
        refine d_seq ?_
        refine d_parS 11 0 [⟨.quiet, [], fun _ => .int .i64 ((i : Nat) : Int), []⟩, ⟨.quiet, [], fun _ => .pointer (some ⟨p, 0, none⟩), []⟩, ⟨.quiet, [], fun _ => .pointer (some ⟨p, 0, none⟩), [1]⟩, ⟨.quiet, [], fun _ => .pointer (some ⟨p, 1, none⟩), [2]⟩, ⟨.quiet, [], fun _ => kv, [3]⟩, ⟨.quiet, [], fun _ => .int .i64 ((i : Nat) : Int), []⟩, ⟨.quiet, [], fun _ => elp kv (i * 1), [4, 5]⟩, ⟨.quiet, [], fun _ => .int .u64 x, [6]⟩, ⟨.quiet, [], fun _ => .int .u64 k, []⟩, ⟨.quiet, [], fun _ => .bool false, [7, 8]⟩, ⟨.quiet, [], fun _ => .int .i64 ((i : Nat) : Int), [0]⟩] [(0, .pointer (some ⟨p, 0, none⟩)), (1, .int .u64 k), (5, .bool false), (6, .int .i64 ((i : Nat) : Int)), (7, .int .i64 ((i : Nat) : Int)), (8, .pointer (some ⟨p, 0, none⟩)), (9, .pointer (some ⟨p, 0, none⟩)), (10, .pointer (some ⟨p, 1, none⟩)), (11, kv), (12, .int .i64 (K.length : Int)), (13, .bool true), (16, .pointer (some ⟨p, 0, none⟩)), (17, .pointer (some ⟨p, 0, none⟩)), (18, .pointer (some ⟨p, 1, none⟩)), (19, kv), (20, .int .i64 ((i : Nat) : Int)), (21, elp kv (i * 1)), (22, .int .u64 x), (23, .int .u64 k), (24, .bool true)] (fun _ => [cell p 47 #[.int .i64 m, kv, vv], Vec 42 1 encU kv K, Vec 3 1 encI vv V]) (by kernel_rfl) (by kernel_rfl) ⟨rfl, rfl, rfl, rfl, rfl, rfl, rfl, rfl, rfl, rfl, rfl, rfl, rfl, rfl, rfl, rfl, rfl, rfl, rfl, rfl, trivial⟩ rfl ?_ ?_
        · skip
          refine s_cons (by exact ⟨rfl, fun b w hH hb => exec_q1 hflS rfl hb⟩) ?_
          refine s_cons (by exact ⟨rfl, fun b w hH hb => exec_q1 hflS rfl hb⟩) ?_
          refine s_cons (by exact ⟨rfl, fun b w hH hb => by exact exec_nilCheck rfl rfl hb⟩) ?_
          refine s_cons (by exact ⟨rfl, fun b w hH hb => exec_q1 hflS rfl hb⟩) ?_
          refine s_cons (by exact ⟨rfl, fun b w hH hb => exec_load rfl rfl (reads_one ty_s_uint64 rfl) (hH.row 0 rfl) hb⟩) ?_
          refine s_cons (by exact ⟨rfl, fun b w hH hb => exec_q1 hflS rfl hb⟩) ?_
          refine s_cons (by exact ⟨rfl, fun b w hH hb => e_vidx 1 sl_uint64 okU rfl i hn rfl rfl rfl hH hb⟩) ?_
          refine s_cons (by exact ⟨rfl, fun b w hH hb => e_vload1 1 ty_uint64 okU rfl i (a := x) hx rfl rfl rfl hH hb⟩) ?_
          refine s_cons (by exact ⟨rfl, fun b w hH hb => exec_q1 hflS rfl hb⟩) ?_
          refine s_cons (by exact ⟨rfl, fun b w hH hb => exec_cmp rfl rfl rfl (cmp_eql_f (by omega)) hb⟩) ?_
          refine s_cons (by exact ⟨rfl, fun b w hH hb => exec_q1 hflS rfl hb⟩) ?_
          exact s_nil
        refine WL2.keep (env' := [(0, .pointer (some ⟨p, 0, none⟩)), (1, .int .u64 k), (5, .bool false), (6, .int .i64 ((i : Nat) : Int)), (7, .int .i64 ((i : Nat) : Int)), (8, .pointer (some ⟨p, 0, none⟩)), (9, .pointer (some ⟨p, 0, none⟩)), (10, .pointer (some ⟨p, 1, none⟩)), (11, kv), (12, .int .i64 (K.length : Int)), (13, .bool true), (16, .pointer (some ⟨p, 0, none⟩)), (17, .pointer (some ⟨p, 0, none⟩)), (18, .pointer (some ⟨p, 1, none⟩)), (19, kv), (20, .int .i64 ((i : Nat) : Int)), (21, elp kv (i * 1)), (22, .int .u64 x), (23, .int .u64 k), (24, .bool true), (25, .int .i64 ((i : Nat) : Int)), (26, .pointer (some ⟨p, 0, none⟩)), (27, .pointer (some ⟨p, 0, none⟩)), (28, .pointer (some ⟨p, 1, none⟩)), (29, kv), (30, .int .i64 ((i : Nat) : Int)), (31, elp kv (i * 1)), (32, .int .u64 x), (33, .int .u64 k), (34, .bool false), (4, .int .i64 ((i : Nat) : Int))]) ⟨rfl, rfl, rfl, rfl, rfl, rfl, rfl, rfl, rfl, rfl, rfl, rfl, rfl, rfl, rfl, rfl, rfl, rfl, rfl, rfl, rfl, rfl, rfl, rfl, rfl, rfl, rfl, rfl, rfl, rfl, rfl, trivial⟩ ?_
        refine h_q hflS rfl ?_
        refine h_nil (f_to (d_ret (f_block_ret (f_then_ret (f_then_ret (f_block_ret (f_then_ret ?_)))))))
        exact f_fin2 (.tmp rfl) (.tmp rfl) (fun w h => tells () (by rw [hp, has_f (fun y hy => by rw [hp, hx] at hy; cases hy; exact hk)]) [0, 1, 2] rfl h (fun z hz => ⟨z, .refl _, Parts.one (Tab.mk_ hT hz)⟩)) rfl
  · skip
    obtain rfl : i = K.length := by omega
    have hp := pos_eq (Nat.le_refl _) hI.2 (fun y hy => by rw [List.getElem?_eq_none (Nat.le_refl _)] at hy; cases hy)
    refine d_reg ?_
    refine h_q hflS rfl ?_
    refine h_val rfl (.pointer (some ⟨p, 0, none⟩)) (fun b w hb hH => by exact exec_nilCheck rfl rfl hb) ?_
    refine h_q hflS rfl ?_
    refine h_val rfl (kv) (fun b w hb hH => exec_load rfl rfl (reads_one ty_s_uint64 rfl) (hH.row 0 rfl) hb) ?_
    refine h_val rfl (.int .i64 (K.length : Int)) (fun b w hb hH => e_vlen 1 Try.underlying44 rfl rfl rfl hH hb) ?_
    refine h_val rfl (.bool false) (fun b w hb hH => exec_cmp rfl rfl rfl (cmp_lss_f (by omega)) hb) ?_
    refine h_done (d_else rfl (d_exit (f_then_exit (f_then_exit (f_block_exit (f_to (d_reg ?_)))))))
    refine h_q hflS rfl ?_
    refine h_val rfl (.pointer (some ⟨p, 0, none⟩)) (fun b w hb hH => by exact exec_nilCheck rfl rfl hb) ?_
    refine h_q hflS rfl ?_
    refine h_val rfl (kv) (fun b w hb hH => exec_load rfl rfl (reads_one ty_s_uint64 rfl) (hH.row 0 rfl) hb) ?_
    refine h_val rfl (.int .i64 (K.length : Int)) (fun b w hb hH => e_vlen 1 Try.underlying44 rfl rfl rfl hH hb) ?_
    refine h_q hflS rfl ?_
    refine h_done (d_ret ?_)
    exact f_fin2 (.tmp rfl) (.tmp rfl) (fun w h => tells () (by rw [hp, has_f (fun y hy => by rw [hp, List.getElem?_eq_none (Nat.le_refl _)] at hy; cases hy)]) [0, 1, 2] rfl h (fun z hz => ⟨z, .refl _, Parts.one (Tab.mk_ hT hz)⟩)) rfl

set_option maxRecDepth 100000 in
theorem put_ref (p : Nat) (m : Int) (K V : List Int) (k v : Int) (R1 : List Int × List Int × Bool) (hp : putT ltI m K V k v = R1) : Does Try.prog 44 #[.pointer (some ⟨p, 0, none⟩), .int .u64 k, .int .i64 v] [Tab 47 42 3 encU encI ltI p m K V] (fun (_ : Unit) => .bool R1.2.2) (fun (_ : Unit) => [Tab 47 42 3 encU encI ltI p m R1.1 R1.2.1]) := by
  obtain ⟨K1, V1, b1⟩ := R1
  refine d_ins (args := [.pointer (some ⟨p, 0, none⟩), .int .u64 k, .int .i64 v]) 79 Try.func44 rfl rfl rfl ?_; intro w rs
  obtain ⟨q, hq⟩ : ∃ q, pos ltI K k = q := ⟨_, rfl⟩
  have hqK : q ≤ K.length := hq ▸ pos_le K
  refine WC2.fact 0 rfl Tab.ok ?_; rintro hT0
  have hT : TOK ltI m K V := hT0
  have hVK := hT.len
  have hKm := hT.le
  have hm4 := hT.lim
  refine d_reg ?_
  refine h_q hflS rfl ?_
  refine h_done ?_
  rcases Bool.eq_false_or_eq_true (has ltI K k) with hh | hh
  · skip
    have hqlt : q < K.length := hq ▸ has_lt hh
    obtain ⟨x, hx⟩ : ∃ x, V[q]? = some x := ⟨_, List.getElem?_eq_getElem (show q < V.length by omega)⟩
    obtain ⟨rfl, rfl, rfl⟩ := putT_has hh hp
    have hok := putT_ok ordI hT hp
    simp only [hq] at hok ⊢
    refine d_reg ?_
    refine h_q hflS rfl ?_
    refine h_act (post := fun _ => [Tab 47 42 3 encU encI ltI p m K V]) rfl (a_does (os' := fun _ => [Tab 47 42 3 encU encI ltI p m K V]) [0] 0 (ent_of Try.func61 (by kernel_rfl) rfl) (place_ref p m K V k hq hh) rfl rfl rfl (fun _ => rfl) rfl rfl rfl) ?_; rintro ⟨⟩
    refine h_q hflS rfl ?_
    refine h_done (d_seq (d_reg ?_))
    refine h_q hflS rfl ?_
    refine h_done (d_then rfl ?_)
    refine d_open 0 rfl Tab.open_ (fun _ => rfl) ?_; rintro ⟨⟨kv, vv⟩, hT⟩
    refine WC2.keep (env' := [(0, .pointer (some ⟨p, 0, none⟩)), (1, .int .u64 k), (2, .int .i64 v), (6, .bool false), (12, .pointer (some ⟨p, 0, none⟩)), (13, .int .u64 k), (14, .tuple #[.int .i64 (q : Int), .bool true]), (11, .tuple #[.int .i64 (q : Int), .bool true]), (15, .int .i64 (q : Int)), (16, .bool true), (7, .int .i64 (q : Int)), (8, .bool true), (17, .bool true)]) ⟨rfl, rfl, rfl, rfl, rfl, rfl, rfl, rfl, rfl, rfl, rfl, rfl, rfl, trivial⟩ ?_
    refine WC2.mid [cell p 47 #[.int .i64 m, kv, vv], Vec 42 1 encU kv K, Vec 3 1 encI vv V] (.refl _) ?_
    refine d_reg ?_
    refine h_q hflS rfl ?_
    refine h_val rfl (.pointer (some ⟨p, 0, none⟩)) (fun b w hb hH => by exact exec_nilCheck rfl rfl hb) ?_
    refine h_q hflS rfl ?_
    refine h_val rfl (vv) (fun b w hb hH => exec_load rfl rfl (reads_one ty_s_int rfl) (hH.row 0 rfl) hb) ?_
    refine h_q hflS rfl ?_
    refine h_val rfl (elp vv (q * 1)) (fun b w hb hH => e_vidx 2 sl_int okI rfl q (by omega) rfl rfl rfl hH hb) ?_
    refine h_acts (post := fun _ => [cell p 47 #[.int .i64 m, kv, vv], Vec 42 1 encU kv K, Vec 3 1 encI vv (V.set q v)]) rfl rfl (a_vstore1 2 ty_int okI rfl q (by omega) v rfl rfl rfl rfl rfl) ?_; rintro ⟨⟩
    refine h_done (d_reg ?_)
    refine h_q hflS rfl ?_
    refine h_done (d_ret (f_then_ret ?_))
    exact f_fin1 (.tmp rfl) (fun w h => tells () rfl [0, 1, 2] rfl h (fun z hz => ⟨z, .refl _, Parts.one (Tab.mk_ hok hz)⟩)) rfl
  · skip
    refine d_reg ?_
    refine h_q hflS rfl ?_
    refine h_act (post := fun _ => [Tab 47 42 3 encU encI ltI p m K V]) rfl (a_does (os' := fun _ => [Tab 47 42 3 encU encI ltI p m K V]) [0] 0 (ent_of Try.func61 (by kernel_rfl) rfl) (place_ref p m K V k hq hh) rfl rfl rfl (fun _ => rfl) rfl rfl rfl) ?_; rintro ⟨⟩
    refine h_q hflS rfl ?_
    refine h_done (d_seq (d_reg ?_))
    refine h_q hflS rfl ?_
    refine h_done (d_else rfl (d_skip (f_to (d_seq ?_))))
    by_cases hlt : (K.length : Int) < m
    · skip
      obtain ⟨rfl, rfl, rfl⟩ := putT_new hh hlt hp
      have hok := putT_ok ordI hT hp
      simp only [hq] at hok ⊢
      refine d_open 0 rfl Tab.open_ (fun _ => rfl) ?_; rintro ⟨⟨kv, vv⟩, hT⟩
      refine WC2.keep (env' := [(0, .pointer (some ⟨p, 0, none⟩)), (1, .int .u64 k), (2, .int .i64 v), (6, .bool false), (12, .pointer (some ⟨p, 0, none⟩)), (13, .int .u64 k), (14, .tuple #[.int .i64 (q : Int), .bool false]), (11, .tuple #[.int .i64 (q : Int), .bool false]), (15, .int .i64 (q : Int)), (16, .bool false), (7, .int .i64 (q : Int)), (8, .bool false), (17, .bool false)]) ⟨rfl, rfl, rfl, rfl, rfl, rfl, rfl, rfl, rfl, rfl, rfl, rfl, rfl, trivial⟩ ?_
      refine WC2.mid [cell p 47 #[.int .i64 m, kv, vv], Vec 42 1 encU kv K, Vec 3 1 encI vv V] (.refl _) ?_
      refine d_seq ?_
      refine d_parS 10 0 [⟨.quiet, [], fun _ => .pointer (some ⟨p, 0, none⟩), []⟩, ⟨.quiet, [], fun _ => .pointer (some ⟨p, 0, none⟩), [0]⟩, ⟨.quiet, [], fun _ => .pointer (some ⟨p, 1, none⟩), [1]⟩, ⟨.quiet, [], fun _ => kv, [2]⟩, ⟨.quiet, [], fun _ => .int .i64 (K.length : Int), [3]⟩, ⟨.quiet, [], fun _ => .pointer (some ⟨p, 0, none⟩), []⟩, ⟨.quiet, [], fun _ => .pointer (some ⟨p, 0, none⟩), [5]⟩, ⟨.quiet, [], fun _ => .pointer (some ⟨p, 0, none⟩), [6]⟩, ⟨.quiet, [], fun _ => .int .i64 m, [7]⟩, ⟨.quiet, [], fun _ => .bool false, [4, 8]⟩] [(0, .pointer (some ⟨p, 0, none⟩)), (1, .int .u64 k), (2, .int .i64 v), (6, .bool false), (7, .int .i64 (q : Int))] (fun _ => [cell p 47 #[.int .i64 m, kv, vv], Vec 42 1 encU kv K, Vec 3 1 encI vv V]) (by kernel_rfl) (by kernel_rfl) ⟨rfl, rfl, rfl, rfl, rfl, trivial⟩ rfl ?_ ?_
      · skip
        refine s_cons (by exact ⟨rfl, fun b w hH hb => exec_q1 hflS rfl hb⟩) ?_
        refine s_cons (by exact ⟨rfl, fun b w hH hb => by exact exec_nilCheck rfl rfl hb⟩) ?_
        refine s_cons (by exact ⟨rfl, fun b w hH hb => exec_q1 hflS rfl hb⟩) ?_
        refine s_cons (by exact ⟨rfl, fun b w hH hb => exec_load rfl rfl (reads_one ty_s_uint64 rfl) (hH.row 0 rfl) hb⟩) ?_
        refine s_cons (by exact ⟨rfl, fun b w hH hb => e_vlen 1 Try.underlying44 rfl rfl rfl hH hb⟩) ?_
        refine s_cons (by exact ⟨rfl, fun b w hH hb => exec_q1 hflS rfl hb⟩) ?_
        refine s_cons (by exact ⟨rfl, fun b w hH hb => by exact exec_nilCheck rfl rfl hb⟩) ?_
        refine s_cons (by exact ⟨rfl, fun b w hH hb => exec_q1 hflS rfl hb⟩) ?_
        refine s_cons (by exact ⟨rfl, fun b w hH hb => exec_load rfl rfl (reads_one ty_int rfl) (hH.row 0 rfl) hb⟩) ?_
        refine s_cons (by exact ⟨rfl, fun b w hH hb => exec_cmp rfl rfl rfl (cmp_geq_f (by omega)) hb⟩) ?_
        exact s_nil
      refine WL2.keep (env' := [(0, .pointer (some ⟨p, 0, none⟩)), (1, .int .u64 k), (2, .int .i64 v), (6, .bool false), (7, .int .i64 (q : Int)), (34, .bool false)]) ⟨rfl, rfl, rfl, rfl, rfl, rfl, trivial⟩ ?_
      refine h_nil (f_to (d_else rfl (d_skip (f_to (d_reg ?_)))))
      refine h_q hflS rfl ?_
      refine h_done (d_reg ?_)
      refine h_q hflS rfl ?_
      refine h_done ?_
      refine d_nilvec 42 1 encU ?_
      refine d_seq ?_
      refine d_emps 1 rfl ?_
      refine d_parS 18 4 [⟨.quiet, [none, none, none, none], fun _ => .slice none 0 0, []⟩, ⟨.quiet, [none, none, none, none], fun _ => .pointer (some ⟨p, 0, none⟩), []⟩, ⟨.quiet, [none, none, none, none], fun _ => .pointer (some ⟨p, 0, none⟩), [1]⟩, ⟨.quiet, [none, none, none, none], fun _ => .pointer (some ⟨p, 1, none⟩), [2]⟩, ⟨.quiet, [none, none, none, none], fun _ => kv, [3]⟩, ⟨.quiet, [none, none, none, none], fun _ => .int .i64 (q : Int), []⟩, ⟨.quiet, [none, none, none, none], fun _ => subv 1 kv 0 q, [4, 5]⟩, ⟨.act 0, [some false, none, some false, some false], fun _ => undef, [0, 6]⟩, ⟨.quiet, [none, none, none, none], fun _ => .int .u64 k, []⟩, ⟨.act 1, [none, some false, some false, some false], fun _ => undef, [8]⟩, ⟨.act 2, [some true, some true, some false, some false], fun _ => undef, [7, 9]⟩, ⟨.quiet, [none, none, none, none], fun _ => .pointer (some ⟨p, 0, none⟩), []⟩, ⟨.quiet, [none, none, none, none], fun _ => .pointer (some ⟨p, 0, none⟩), [11]⟩, ⟨.quiet, [none, none, none, none], fun _ => .pointer (some ⟨p, 1, none⟩), [12]⟩, ⟨.quiet, [none, none, none, none], fun _ => kv, [13]⟩, ⟨.quiet, [none, none, none, none], fun _ => .int .i64 (q : Int), []⟩, ⟨.quiet, [none, none, none, none], fun _ => subv 1 kv q K.length, [14, 15]⟩, ⟨.act 3, [some true, some true, some true, some false], fun _ => undef, [10, 16]⟩] [(0, .pointer (some ⟨p, 0, none⟩)), (1, .int .u64 k), (2, .int .i64 v), (6, .bool false), (7, .int .i64 (q : Int)), (9, .slice none 0 0), (10, .slice none 0 0)] (fun ρ => match ρ with | [r0, r1, r2, r3] => [selS r1 (fun u2 => Vec 42 1 encU u2 ([k])) (emp), selS r3 (fun u4 => Vec 42 1 encU u4 (ins K q k)) (selS r2 (fun u3 => Vec 42 1 encU u3 (K.take q ++ [k])) (selS r0 (fun u1 => Vec 42 1 encU u1 (K.take q)) (Vec 42 1 encU (.slice none 0 0) ([])))), cell p 47 #[.int .i64 m, kv, vv], Vec 42 1 encU kv K, Vec 3 1 encI vv V] | _ => []) (by kernel_rfl) (by kernel_rfl) ⟨rfl, rfl, rfl, rfl, rfl, rfl, rfl, trivial⟩ rfl ?_ ?_
      · skip
        refine s_cons (by intro r0_ r1_ r2_ r3_; exact ⟨rfl, fun b w hH hb => exec_q1 hflS rfl hb⟩) ?_
        refine s_cons (by intro r0_ r1_ r2_ r3_; exact ⟨rfl, fun b w hH hb => exec_q1 hflS rfl hb⟩) ?_
        refine s_cons (by intro r0_ r1_ r2_ r3_; exact ⟨rfl, fun b w hH hb => by exact exec_nilCheck rfl rfl hb⟩) ?_
        refine s_cons (by intro r0_ r1_ r2_ r3_; exact ⟨rfl, fun b w hH hb => exec_q1 hflS rfl hb⟩) ?_
        refine s_cons (by intro r0_ r1_ r2_ r3_; exact ⟨rfl, fun b w hH hb => exec_load rfl rfl (reads_one ty_s_uint64 rfl) (hH.row 2 rfl) hb⟩) ?_
        refine s_cons (by intro r0_ r1_ r2_ r3_; exact ⟨rfl, fun b w hH hb => exec_q1 hflS rfl hb⟩) ?_
        refine s_cons (by intro r0_ r1_ r2_ r3_; exact ⟨rfl, fun b w hH hb => e_vsub_hi 3 (b := q) sl_uint64 rfl (by omega) rfl rfl rfl hH hb⟩) ?_
        refine s_cons (by intro r1_; exact ⟨rfl, Acts.s (a_append 1 sl_uint64 okU rfl (K.take q) (fun w hH => hH.vecq 3 rfl okU (Nat.zero_le _) (by omega) (m := K.take q) (by simp)) (by simp; omega) rfl rfl rfl (List.nil_append _)) (fun _ => rfl)⟩) ?_
        refine s_cons (by intro r0_ r1_ r2_ r3_; exact ⟨rfl, fun b w hH hb => exec_q1 hflS rfl hb⟩) ?_
        refine s_cons (by intro r0_; exact ⟨rfl, Acts.s (Acts.place (val := fun u2 : Value => u2) (t := fun u2 => Vec 42 1 encU u2 ([k])) (os' := fun u2 => [Vec 42 1 encU u2 ([k]), selS r0_ (fun u1 => Vec 42 1 encU u1 (K.take q)) (Vec 42 1 encU (.slice none 0 0) ([])), cell p 47 #[.int .i64 m, kv, vv], Vec 42 1 encU kv K, Vec 3 1 encI vv V]) 0 rfl (by refine a_build1 (e := 42) (t := 44) (enc := encU) (x := .tmp 43) (c := .int .u64 k) ?_ ?_ k ?_ ?_ ?_; exact sl_uint64; exact okU; exact rfl; exact rfl; exact rfl) (fun _ => rfl)) (fun _ => rfl)⟩) ?_
        refine s_cons (by intro u1 u2; exact ⟨rfl, Acts.s (a_append 1 sl_uint64 okU rfl ([k]) (fun w hH => hH.vec 0 rfl okU) (by simp; omega) rfl rfl rfl rfl) (fun _ => rfl)⟩) ?_
        refine s_cons (by intro r0_ r1_ r2_ r3_; exact ⟨rfl, fun b w hH hb => exec_q1 hflS rfl hb⟩) ?_
        refine s_cons (by intro r0_ r1_ r2_ r3_; exact ⟨rfl, fun b w hH hb => by exact exec_nilCheck rfl rfl hb⟩) ?_
        refine s_cons (by intro r0_ r1_ r2_ r3_; exact ⟨rfl, fun b w hH hb => exec_q1 hflS rfl hb⟩) ?_
        refine s_cons (by intro r0_ r1_ r2_ r3_; exact ⟨rfl, fun b w hH hb => exec_load rfl rfl (reads_one ty_s_uint64 rfl) (hH.row 2 rfl) hb⟩) ?_
        refine s_cons (by intro r0_ r1_ r2_ r3_; exact ⟨rfl, fun b w hH hb => exec_q1 hflS rfl hb⟩) ?_
        refine s_cons (by intro r0_ r1_ r2_ r3_; exact ⟨rfl, fun b w hH hb => e_vsub_lo 3 (a := q) sl_uint64 rfl (by omega) rfl rfl rfl hH hb⟩) ?_
        refine s_cons (by intro u1 u2 u3; exact ⟨rfl, Acts.s (a_append 1 sl_uint64 okU rfl (K.drop q) (fun w hH => hH.vecq 3 rfl okU (by omega) (Nat.le_refl _) (m := K.drop q) (by simp)) (by simp; omega) rfl rfl rfl (by simp [ins])) (fun _ => rfl)⟩) ?_
        exact s_nil
      intro u1 u2 u3 u4
      refine WL2.keep (env' := [(0, .pointer (some ⟨p, 0, none⟩)), (2, .int .i64 v), (6, .bool false), (7, .int .i64 (q : Int)), (9, .slice none 0 0), (10, .slice none 0 0), (52, u4)]) ⟨rfl, rfl, rfl, rfl, rfl, rfl, rfl, trivial⟩ ?_
      refine h_q hflS rfl ?_
      refine h_nil (f_to ?_)
      refine d_nilvec 3 1 encI ?_
      refine d_seq ?_
      refine d_emps 1 rfl ?_
      refine d_parS 18 4 [⟨.quiet, [none, none, none, none], fun _ => .slice none 0 0, []⟩, ⟨.quiet, [none, none, none, none], fun _ => .pointer (some ⟨p, 0, none⟩), []⟩, ⟨.quiet, [none, none, none, none], fun _ => .pointer (some ⟨p, 0, none⟩), [1]⟩, ⟨.quiet, [none, none, none, none], fun _ => .pointer (some ⟨p, 2, none⟩), [2]⟩, ⟨.quiet, [none, none, none, none], fun _ => vv, [3]⟩, ⟨.quiet, [none, none, none, none], fun _ => .int .i64 (q : Int), []⟩, ⟨.quiet, [none, none, none, none], fun _ => subv 1 vv 0 q, [4, 5]⟩, ⟨.act 0, [some false, none, some false, some false], fun _ => undef, [0, 6]⟩, ⟨.quiet, [none, none, none, none], fun _ => .int .i64 v, []⟩, ⟨.act 1, [none, some false, some false, some false], fun _ => undef, [8]⟩, ⟨.act 2, [some true, some true, some false, some false], fun _ => undef, [7, 9]⟩, ⟨.quiet, [none, none, none, none], fun _ => .pointer (some ⟨p, 0, none⟩), []⟩, ⟨.quiet, [none, none, none, none], fun _ => .pointer (some ⟨p, 0, none⟩), [11]⟩, ⟨.quiet, [none, none, none, none], fun _ => .pointer (some ⟨p, 2, none⟩), [12]⟩, ⟨.quiet, [none, none, none, none], fun _ => vv, [13]⟩, ⟨.quiet, [none, none, none, none], fun _ => .int .i64 (q : Int), []⟩, ⟨.quiet, [none, none, none, none], fun _ => subv 1 vv q V.length, [14, 15]⟩, ⟨.act 3, [some true, some true, some true, some false], fun _ => undef, [10, 16]⟩] [(0, .pointer (some ⟨p, 0, none⟩)), (2, .int .i64 v), (6, .bool false), (7, .int .i64 (q : Int)), (10, .slice none 0 0), (9, u4)] (fun ρ => match ρ with | [r0, r1, r2, r3] => [selS r1 (fun u6 => Vec 3 1 encI u6 ([v])) (emp), selS r3 (fun u8 => Vec 3 1 encI u8 (ins V q v)) (selS r2 (fun u7 => Vec 3 1 encI u7 (V.take q ++ [v])) (selS r0 (fun u5 => Vec 3 1 encI u5 (V.take q)) (Vec 3 1 encI (.slice none 0 0) ([])))), Vec 42 1 encU u2 ([k]), Vec 42 1 encU u4 (ins K q k), cell p 47 #[.int .i64 m, kv, vv], Vec 42 1 encU kv K, Vec 3 1 encI vv V] | _ => []) (by kernel_rfl) (by kernel_rfl) ⟨rfl, rfl, rfl, rfl, rfl, rfl, trivial⟩ rfl ?_ ?_
      · skip
        refine s_cons (by intro r0_ r1_ r2_ r3_; exact ⟨rfl, fun b w hH hb => exec_q1 hflS rfl hb⟩) ?_
        refine s_cons (by intro r0_ r1_ r2_ r3_; exact ⟨rfl, fun b w hH hb => exec_q1 hflS rfl hb⟩) ?_
        refine s_cons (by intro r0_ r1_ r2_ r3_; exact ⟨rfl, fun b w hH hb => by exact exec_nilCheck rfl rfl hb⟩) ?_
        refine s_cons (by intro r0_ r1_ r2_ r3_; exact ⟨rfl, fun b w hH hb => exec_q1 hflS rfl hb⟩) ?_
        refine s_cons (by intro r0_ r1_ r2_ r3_; exact ⟨rfl, fun b w hH hb => exec_load rfl rfl (reads_one ty_s_int rfl) (hH.row 4 rfl) hb⟩) ?_
        refine s_cons (by intro r0_ r1_ r2_ r3_; exact ⟨rfl, fun b w hH hb => exec_q1 hflS rfl hb⟩) ?_
        refine s_cons (by intro r0_ r1_ r2_ r3_; exact ⟨rfl, fun b w hH hb => e_vsub_hi 6 (b := q) sl_int rfl (by omega) rfl rfl rfl hH hb⟩) ?_
        refine s_cons (by intro r1_; exact ⟨rfl, Acts.s (a_append 1 sl_int okI rfl (V.take q) (fun w hH => hH.vecq 6 rfl okI (Nat.zero_le _) (by omega) (m := V.take q) (by simp)) (by simp; omega) rfl rfl rfl (List.nil_append _)) (fun _ => rfl)⟩) ?_
        refine s_cons (by intro r0_ r1_ r2_ r3_; exact ⟨rfl, fun b w hH hb => exec_q1 hflS rfl hb⟩) ?_
        refine s_cons (by intro r0_; exact ⟨rfl, Acts.s (Acts.place (val := fun u6 : Value => u6) (t := fun u6 => Vec 3 1 encI u6 ([v])) (os' := fun u6 => [Vec 3 1 encI u6 ([v]), selS r0_ (fun u5 => Vec 3 1 encI u5 (V.take q)) (Vec 3 1 encI (.slice none 0 0) ([])), Vec 42 1 encU u2 ([k]), Vec 42 1 encU u4 (ins K q k), cell p 47 #[.int .i64 m, kv, vv], Vec 42 1 encU kv K, Vec 3 1 encI vv V]) 0 rfl (by refine a_build1 (e := 3) (t := 45) (enc := encI) (x := .tmp 61) (c := .int .i64 v) ?_ ?_ v ?_ ?_ ?_; exact sl_int; exact okI; exact rfl; exact rfl; exact rfl) (fun _ => rfl)) (fun _ => rfl)⟩) ?_
        refine s_cons (by intro u5 u6; exact ⟨rfl, Acts.s (a_append 1 sl_int okI rfl ([v]) (fun w hH => hH.vec 0 rfl okI) (by simp; omega) rfl rfl rfl rfl) (fun _ => rfl)⟩) ?_
        refine s_cons (by intro r0_ r1_ r2_ r3_; exact ⟨rfl, fun b w hH hb => exec_q1 hflS rfl hb⟩) ?_
        refine s_cons (by intro r0_ r1_ r2_ r3_; exact ⟨rfl, fun b w hH hb => by exact exec_nilCheck rfl rfl hb⟩) ?_
        refine s_cons (by intro r0_ r1_ r2_ r3_; exact ⟨rfl, fun b w hH hb => exec_q1 hflS rfl hb⟩) ?_
        refine s_cons (by intro r0_ r1_ r2_ r3_; exact ⟨rfl, fun b w hH hb => exec_load rfl rfl (reads_one ty_s_int rfl) (hH.row 4 rfl) hb⟩) ?_
        refine s_cons (by intro r0_ r1_ r2_ r3_; exact ⟨rfl, fun b w hH hb => exec_q1 hflS rfl hb⟩) ?_
        refine s_cons (by intro r0_ r1_ r2_ r3_; exact ⟨rfl, fun b w hH hb => e_vsub_lo 6 (a := q) sl_int rfl (by omega) rfl rfl rfl hH hb⟩) ?_
        refine s_cons (by intro u5 u6 u7; exact ⟨rfl, Acts.s (a_append 1 sl_int okI rfl (V.drop q) (fun w hH => hH.vecq 6 rfl okI (by omega) (Nat.le_refl _) (m := V.drop q) (by simp)) (by simp; omega) rfl rfl rfl (by simp [ins])) (fun _ => rfl)⟩) ?_
        exact s_nil
      intro u5 u6 u7 u8
      refine WL2.keep (env' := [(0, .pointer (some ⟨p, 0, none⟩)), (6, .bool false), (10, .slice none 0 0), (9, u4), (70, u8)]) ⟨rfl, rfl, rfl, rfl, rfl, trivial⟩ ?_
      refine h_q hflS rfl ?_
      refine h_nil (f_to (d_reg ?_))
      refine h_q hflS rfl ?_
      refine h_val rfl (.pointer (some ⟨p, 0, none⟩)) (fun b w hb hH => by exact exec_nilCheck rfl rfl hb) ?_
      refine h_q hflS rfl ?_
      refine h_acts (post := fun _ => [Vec 3 1 encI u6 ([v]), Vec 3 1 encI u8 (ins V q v), Vec 42 1 encU u2 ([k]), Vec 42 1 encU u4 (ins K q k), cell p 47 #[.int .i64 m, u4, vv], Vec 42 1 encU kv K, Vec 3 1 encI vv V]) rfl rfl (a_storev 4 3 (v := u4) #[.int .i64 m, u4, vv] ty_s_uint64.2 rfl (fun _ h => Vec.c1 h) rfl rfl rfl rfl rfl rfl rfl) ?_; rintro ⟨⟩
      refine h_done (d_reg ?_)
      refine h_q hflS rfl ?_
      refine h_val rfl (.pointer (some ⟨p, 0, none⟩)) (fun b w hb hH => by exact exec_nilCheck rfl rfl hb) ?_
      refine h_q hflS rfl ?_
      refine h_acts (post := fun _ => [Vec 3 1 encI u6 ([v]), Vec 3 1 encI u8 (ins V q v), Vec 42 1 encU u2 ([k]), Vec 42 1 encU u4 (ins K q k), cell p 47 #[.int .i64 m, u4, u8], Vec 42 1 encU kv K, Vec 3 1 encI vv V]) rfl rfl (a_storev 4 1 (v := u8) #[.int .i64 m, u4, u8] ty_s_int.2 rfl (fun _ h => Vec.c1 h) rfl rfl rfl rfl rfl rfl rfl) ?_; rintro ⟨⟩
      refine h_done (d_reg ?_)
      refine h_q hflS rfl ?_
      refine h_done (d_ret ?_)
      exact f_fin1 (.tmp rfl) (fun w h => tells () rfl [4, 3, 1] rfl h (fun z hz => ⟨z, .refl _, Parts.one (Tab.mk_ hok hz)⟩)) rfl
    · skip
      obtain ⟨rfl, rfl, rfl⟩ := putT_full hh hlt hp
      refine d_open 0 rfl Tab.open_ (fun _ => rfl) ?_; rintro ⟨⟨kv, vv⟩, hT⟩
      refine WC2.keep (env' := [(0, .pointer (some ⟨p, 0, none⟩)), (1, .int .u64 k), (2, .int .i64 v), (6, .bool false), (12, .pointer (some ⟨p, 0, none⟩)), (13, .int .u64 k), (14, .tuple #[.int .i64 (q : Int), .bool false]), (11, .tuple #[.int .i64 (q : Int), .bool false]), (15, .int .i64 (q : Int)), (16, .bool false), (7, .int .i64 (q : Int)), (8, .bool false), (17, .bool false)]) ⟨rfl, rfl, rfl, rfl, rfl, rfl, rfl, rfl, rfl, rfl, rfl, rfl, rfl, trivial⟩ ?_
      refine WC2.mid [cell p 47 #[.int .i64 m, kv, vv], Vec 42 1 encU kv K, Vec 3 1 encI vv V] (.refl _) ?_
      refine d_seq ?_
      refine d_parS 10 0 [⟨.quiet, [], fun _ => .pointer (some ⟨p, 0, none⟩), []⟩, ⟨.quiet, [], fun _ => .pointer (some ⟨p, 0, none⟩), [0]⟩, ⟨.quiet, [], fun _ => .pointer (some ⟨p, 1, none⟩), [1]⟩, ⟨.quiet, [], fun _ => kv, [2]⟩, ⟨.quiet, [], fun _ => .int .i64 (K.length : Int), [3]⟩, ⟨.quiet, [], fun _ => .pointer (some ⟨p, 0, none⟩), []⟩, ⟨.quiet, [], fun _ => .pointer (some ⟨p, 0, none⟩), [5]⟩, ⟨.quiet, [], fun _ => .pointer (some ⟨p, 0, none⟩), [6]⟩, ⟨.quiet, [], fun _ => .int .i64 m, [7]⟩, ⟨.quiet, [], fun _ => .bool true, [4, 8]⟩] [(0, .pointer (some ⟨p, 0, none⟩)), (1, .int .u64 k), (2, .int .i64 v), (6, .bool false), (7, .int .i64 (q : Int))] (fun _ => [cell p 47 #[.int .i64 m, kv, vv], Vec 42 1 encU kv K, Vec 3 1 encI vv V]) (by kernel_rfl) (by kernel_rfl) ⟨rfl, rfl, rfl, rfl, rfl, trivial⟩ rfl ?_ ?_
      · skip
        refine s_cons (by exact ⟨rfl, fun b w hH hb => exec_q1 hflS rfl hb⟩) ?_
        refine s_cons (by exact ⟨rfl, fun b w hH hb => by exact exec_nilCheck rfl rfl hb⟩) ?_
        refine s_cons (by exact ⟨rfl, fun b w hH hb => exec_q1 hflS rfl hb⟩) ?_
        refine s_cons (by exact ⟨rfl, fun b w hH hb => exec_load rfl rfl (reads_one ty_s_uint64 rfl) (hH.row 0 rfl) hb⟩) ?_
        refine s_cons (by exact ⟨rfl, fun b w hH hb => e_vlen 1 Try.underlying44 rfl rfl rfl hH hb⟩) ?_
        refine s_cons (by exact ⟨rfl, fun b w hH hb => exec_q1 hflS rfl hb⟩) ?_
        refine s_cons (by exact ⟨rfl, fun b w hH hb => by exact exec_nilCheck rfl rfl hb⟩) ?_
        refine s_cons (by exact ⟨rfl, fun b w hH hb => exec_q1 hflS rfl hb⟩) ?_
        refine s_cons (by exact ⟨rfl, fun b w hH hb => exec_load rfl rfl (reads_one ty_int rfl) (hH.row 0 rfl) hb⟩) ?_
        refine s_cons (by exact ⟨rfl, fun b w hH hb => exec_cmp rfl rfl rfl (cmp_geq_t (by omega)) hb⟩) ?_
        exact s_nil
      refine WL2.keep (env' := [(0, .pointer (some ⟨p, 0, none⟩)), (1, .int .u64 k), (2, .int .i64 v), (6, .bool false), (7, .int .i64 (q : Int)), (34, .bool true)]) ⟨rfl, rfl, rfl, rfl, rfl, rfl, trivial⟩ ?_
      refine h_nil (f_to (d_then rfl (d_reg ?_)))
      refine h_q hflS rfl ?_
      refine h_done (d_ret (f_then_ret ?_))
      exact f_fin1 (.tmp rfl) (fun w h => tells () rfl [0, 1, 2] rfl h (fun z hz => ⟨z, .refl _, Parts.one (Tab.mk_ hT hz)⟩)) rfl

set_option maxRecDepth 100000 in
theorem get_ref (p : Nat) (m : Int) (K V : List Int) (k : Int) (R1 : Int × Bool) (hg : getT ltI K V k 0 = R1) : Does Try.prog 42 #[.pointer (some ⟨p, 0, none⟩), .int .u64 k] [Tab 47 42 3 encU encI ltI p m K V] (fun (_ : Unit) => .tuple #[.int .i64 R1.1, .bool R1.2]) (fun (_ : Unit) => [Tab 47 42 3 encU encI ltI p m K V]) := by
  refine d_ins (args := [.pointer (some ⟨p, 0, none⟩), .int .u64 k]) 23 Try.func42 rfl rfl rfl ?_; intro w rs
  obtain ⟨q, hq⟩ : ∃ q, pos ltI K k = q := ⟨_, rfl⟩
  have hqK : q ≤ K.length := hq ▸ pos_le K
  refine WC2.fact 0 rfl Tab.ok ?_; rintro hT0
  have hT : TOK ltI m K V := hT0
  have hVK := hT.len
  have hKm := hT.le
  have hm4 := hT.lim
  refine d_reg ?_
  refine h_q hflS rfl ?_
  refine h_done ?_
  rcases Bool.eq_false_or_eq_true (has ltI K k) with hh | hh
  · skip
    have hqlt : q < K.length := hq ▸ has_lt hh
    obtain ⟨x, hx⟩ : ∃ x, V[q]? = some x := ⟨_, List.getElem?_eq_getElem (show q < V.length by omega)⟩
    obtain rfl := (getT_has (d := 0) hh (by rw [hq]; exact hx)).symm.trans hg
    refine d_reg ?_
    refine h_q hflS rfl ?_
    refine h_act (post := fun _ => [Tab 47 42 3 encU encI ltI p m K V]) rfl (a_does (os' := fun _ => [Tab 47 42 3 encU encI ltI p m K V]) [0] 0 (ent_of Try.func61 (by kernel_rfl) rfl) (place_ref p m K V k hq hh) rfl rfl rfl (fun _ => rfl) rfl rfl rfl) ?_; rintro ⟨⟩
    refine h_q hflS rfl ?_
    refine h_done (d_seq (d_reg ?_))
    refine h_q hflS rfl ?_
    refine h_done (d_then rfl ?_)
    refine d_open 0 rfl Tab.open_ (fun _ => rfl) ?_; rintro ⟨⟨kv, vv⟩, hT⟩
    refine WC2.keep (env' := [(0, .pointer (some ⟨p, 0, none⟩)), (1, .int .u64 k), (4, .int .i64 0), (8, .pointer (some ⟨p, 0, none⟩)), (9, .int .u64 k), (10, .tuple #[.int .i64 (q : Int), .bool true]), (7, .tuple #[.int .i64 (q : Int), .bool true]), (11, .int .i64 (q : Int)), (12, .bool true), (6, .int .i64 (q : Int)), (5, .bool true), (13, .bool true)]) ⟨rfl, rfl, rfl, rfl, rfl, rfl, rfl, rfl, rfl, rfl, rfl, rfl, trivial⟩ ?_
    refine WC2.mid [cell p 47 #[.int .i64 m, kv, vv], Vec 42 1 encU kv K, Vec 3 1 encI vv V] (.refl _) ?_
    refine d_reg1 ?_
    refine h_q hflS rfl ?_
    refine h_val rfl (.pointer (some ⟨p, 0, none⟩)) (fun b w hb hH => by exact exec_nilCheck rfl rfl hb) ?_
    refine h_q hflS rfl ?_
    refine h_val rfl (vv) (fun b w hb hH => exec_load rfl rfl (reads_one ty_s_int rfl) (hH.row 0 rfl) hb) ?_
    refine h_q hflS rfl ?_
    refine h_val rfl (elp vv (q * 1)) (fun b w hb hH => e_vidx 2 sl_int okI rfl q (by omega) rfl rfl rfl hH hb) ?_
    refine h_val rfl (.int .i64 x) (fun b w hb hH => e_vload1 2 ty_int okI rfl q (a := x) hx rfl rfl rfl hH hb) ?_
    refine h_q hflS rfl ?_
    refine h_nil (f_to (d_reg ?_))
    refine h_q hflS rfl ?_
    refine h_done (d_ret ?_)
    exact f_fin2 (.tmp rfl) (.tmp rfl) (fun w h => tells () rfl [0, 1, 2] rfl h (fun z hz => ⟨z, .refl _, Parts.one (Tab.mk_ hT hz)⟩)) rfl
  · skip
    obtain rfl := (getT_not (V := V) (d := 0) hh).symm.trans hg
    refine d_reg ?_
    refine h_q hflS rfl ?_
    refine h_act (post := fun _ => [Tab 47 42 3 encU encI ltI p m K V]) rfl (a_does (os' := fun _ => [Tab 47 42 3 encU encI ltI p m K V]) [0] 0 (ent_of Try.func61 (by kernel_rfl) rfl) (place_ref p m K V k hq hh) rfl rfl rfl (fun _ => rfl) rfl rfl rfl) ?_; rintro ⟨⟩
    refine h_q hflS rfl ?_
    refine h_done (d_seq (d_reg ?_))
    refine h_q hflS rfl ?_
    refine h_done (d_else rfl (d_skip (f_to (d_reg ?_))))
    refine h_q hflS rfl ?_
    refine h_done (d_ret ?_)
    exact f_fin2 (.tmp rfl) (.tmp rfl) (fun w h => tells () rfl [0] rfl h same_parts) rfl

set_option maxRecDepth 100000 in
theorem drop_ref (p : Nat) (m : Int) (K V : List Int) (k : Int) (R1 : List Int × List Int × Bool) (hp : dropT ltI K V k = R1) : Does Try.prog 43 #[.pointer (some ⟨p, 0, none⟩), .int .u64 k] [Tab 47 42 3 encU encI ltI p m K V] (fun (_ : Unit) => .bool R1.2.2) (fun (_ : Unit) => [Tab 47 42 3 encU encI ltI p m R1.1 R1.2.1]) := by
  obtain ⟨K1, V1, b1⟩ := R1
  refine d_ins (args := [.pointer (some ⟨p, 0, none⟩), .int .u64 k]) 53 Try.func43 rfl rfl rfl ?_; intro w rs
  obtain ⟨q, hq⟩ : ∃ q, pos ltI K k = q := ⟨_, rfl⟩
  have hqK : q ≤ K.length := hq ▸ pos_le K
  refine WC2.fact 0 rfl Tab.ok ?_; rintro hT0
  have hT : TOK ltI m K V := hT0
  have hVK := hT.len
  have hKm := hT.le
  have hm4 := hT.lim
  refine d_reg ?_
  refine h_q hflS rfl ?_
  refine h_done ?_
  rcases Bool.eq_false_or_eq_true (has ltI K k) with hh | hh
  · skip
    have hqlt : q < K.length := hq ▸ has_lt hh
    obtain ⟨x, hx⟩ : ∃ x, V[q]? = some x := ⟨_, List.getElem?_eq_getElem (show q < V.length by omega)⟩
    obtain ⟨rfl, rfl, rfl⟩ := dropT_has hh hp
    have hok := dropT_ok hT hp
    simp only [hq] at hok ⊢
    refine d_reg ?_
    refine h_q hflS rfl ?_
    refine h_act (post := fun _ => [Tab 47 42 3 encU encI ltI p m K V]) rfl (a_does (os' := fun _ => [Tab 47 42 3 encU encI ltI p m K V]) [0] 0 (ent_of Try.func61 (by kernel_rfl) rfl) (place_ref p m K V k hq hh) rfl rfl rfl (fun _ => rfl) rfl rfl rfl) ?_; rintro ⟨⟩
    refine h_q hflS rfl ?_
    refine h_done (d_seq (d_reg ?_))
    refine h_q hflS rfl ?_
    refine h_done (d_then rfl ?_)
    refine d_open 0 rfl Tab.open_ (fun _ => rfl) ?_; rintro ⟨⟨kv, vv⟩, hT⟩
    refine WC2.keep (env' := [(0, .pointer (some ⟨p, 0, none⟩)), (1, .int .u64 k), (4, .bool false), (8, .pointer (some ⟨p, 0, none⟩)), (9, .int .u64 k), (10, .tuple #[.int .i64 (q : Int), .bool true]), (7, .tuple #[.int .i64 (q : Int), .bool true]), (11, .int .i64 (q : Int)), (12, .bool true), (5, .int .i64 (q : Int)), (6, .bool true), (13, .bool true)]) ⟨rfl, rfl, rfl, rfl, rfl, rfl, rfl, rfl, rfl, rfl, rfl, rfl, trivial⟩ ?_
    refine WC2.mid [cell p 47 #[.int .i64 m, kv, vv], Vec 42 1 encU kv K, Vec 3 1 encI vv V] (.refl _) ?_
    refine d_seq ?_
    refine d_emps 1 rfl ?_
    refine d_parS 19 3 [⟨.quiet, [none, none, none], fun _ => .pointer (some ⟨p, 0, none⟩), []⟩, ⟨.act 0, [some false, some false, some false], fun _ => undef, []⟩, ⟨.quiet, [none, none, none], fun _ => .pointer (some ⟨p, 0, none⟩), []⟩, ⟨.quiet, [none, none, none], fun _ => .pointer (some ⟨p, 0, none⟩), [2]⟩, ⟨.quiet, [none, none, none], fun _ => .pointer (some ⟨p, 1, none⟩), [3]⟩, ⟨.quiet, [none, none, none], fun _ => kv, [4]⟩, ⟨.quiet, [none, none, none], fun _ => .int .i64 (q : Int), []⟩, ⟨.quiet, [none, none, none], fun _ => subv 1 kv 0 q, [5, 6]⟩, ⟨.act 1, [some true, some false, some false], fun _ => undef, [1, 7]⟩, ⟨.quiet, [none, none, none], fun _ => .pointer (some ⟨p, 0, none⟩), []⟩, ⟨.quiet, [none, none, none], fun _ => .pointer (some ⟨p, 0, none⟩), [9]⟩, ⟨.quiet, [none, none, none], fun _ => .pointer (some ⟨p, 1, none⟩), [10]⟩, ⟨.quiet, [none, none, none], fun _ => kv, [11]⟩, ⟨.quiet, [none, none, none], fun _ => .int .i64 (q : Int), []⟩, ⟨.quiet, [none, none, none], fun _ => .int .i64 ((q + 1 : Nat) : Int), [13]⟩, ⟨.quiet, [none, none, none], fun _ => subv 1 kv (q + 1) K.length, [12, 14]⟩, ⟨.act 2, [some true, some true, some false], fun _ => undef, [8, 15]⟩, ⟨.quiet, [some true, some true, some true], fun _ => .pointer (some ⟨p, 0, none⟩), [0]⟩, ⟨.quiet, [some true, some true, some true], fun _ => .pointer (some ⟨p, 1, none⟩), [17]⟩] [(0, .pointer (some ⟨p, 0, none⟩)), (4, .bool false), (5, .int .i64 (q : Int)), (6, .bool true)] (fun ρ => match ρ with | [r0, r1, r2] => [selS r2 (fun u3 => Vec 42 1 encU u3 (rem K q)) (selS r1 (fun u2 => Vec 42 1 encU u2 (K.take q)) (selS r0 (fun u1 => Vec 42 1 encU u1 ([])) (emp))), cell p 47 #[.int .i64 m, kv, vv], Vec 42 1 encU kv K, Vec 3 1 encI vv V] | _ => []) (by kernel_rfl) (by kernel_rfl) ⟨rfl, rfl, rfl, rfl, trivial⟩ rfl ?_ ?_
    · skip
      refine s_cons (by intro r0_ r1_ r2_; exact ⟨rfl, fun b w hH hb => exec_q1 hflS rfl hb⟩) ?_
      refine s_cons (by exact ⟨rfl, Acts.s (Acts.place (val := fun u1 : Value => u1) (t := fun u1 => Vec 42 1 encU u1 ([])) (os' := fun u1 => [Vec 42 1 encU u1 ([]), cell p 47 #[.int .i64 m, kv, vv], Vec 42 1 encU kv K, Vec 3 1 encI vv V]) 0 rfl (by refine a_build0 (e := 42) (t := 44) (k := 1) (enc := encU) ?_ ?_; exact sl_uint64; exact rfl) (fun _ => rfl)) (fun _ => rfl)⟩) ?_
      refine s_cons (by intro r0_ r1_ r2_; exact ⟨rfl, fun b w hH hb => exec_q1 hflS rfl hb⟩) ?_
      refine s_cons (by intro r0_ r1_ r2_; exact ⟨rfl, fun b w hH hb => by exact exec_nilCheck rfl rfl hb⟩) ?_
      refine s_cons (by intro r0_ r1_ r2_; exact ⟨rfl, fun b w hH hb => exec_q1 hflS rfl hb⟩) ?_
      refine s_cons (by intro r0_ r1_ r2_; exact ⟨rfl, fun b w hH hb => exec_load rfl rfl (reads_one ty_s_uint64 rfl) (hH.row 1 rfl) hb⟩) ?_
      refine s_cons (by intro r0_ r1_ r2_; exact ⟨rfl, fun b w hH hb => exec_q1 hflS rfl hb⟩) ?_
      refine s_cons (by intro r0_ r1_ r2_; exact ⟨rfl, fun b w hH hb => e_vsub_hi 2 (b := q) sl_uint64 rfl (by omega) rfl rfl rfl hH hb⟩) ?_
      refine s_cons (by intro u1; exact ⟨rfl, Acts.s (a_append 0 sl_uint64 okU rfl (K.take q) (fun w hH => hH.vecq 2 rfl okU (Nat.zero_le _) (by omega) (m := K.take q) (by simp)) (by simp; omega) rfl rfl rfl (List.nil_append _)) (fun _ => rfl)⟩) ?_
      refine s_cons (by intro r0_ r1_ r2_; exact ⟨rfl, fun b w hH hb => exec_q1 hflS rfl hb⟩) ?_
      refine s_cons (by intro r0_ r1_ r2_; exact ⟨rfl, fun b w hH hb => by exact exec_nilCheck rfl rfl hb⟩) ?_
      refine s_cons (by intro r0_ r1_ r2_; exact ⟨rfl, fun b w hH hb => exec_q1 hflS rfl hb⟩) ?_
      refine s_cons (by intro r0_ r1_ r2_; exact ⟨rfl, fun b w hH hb => exec_load rfl rfl (reads_one ty_s_uint64 rfl) (hH.row 1 rfl) hb⟩) ?_
      refine s_cons (by intro r0_ r1_ r2_; exact ⟨rfl, fun b w hH hb => exec_q1 hflS rfl hb⟩) ?_
      refine s_cons (by intro r0_ r1_ r2_; exact ⟨rfl, fun b w hH hb => exec_ar rfl rfl rfl rfl (by rw [IntWalk.i64_in _ (by omega)]; omega) hb⟩) ?_
      refine s_cons (by intro r0_ r1_ r2_; exact ⟨rfl, fun b w hH hb => e_vsub_lo 2 (a := (q + 1)) sl_uint64 rfl (by omega) rfl rfl rfl hH hb⟩) ?_
      refine s_cons (by intro u1 u2; exact ⟨rfl, Acts.s (a_append 0 sl_uint64 okU rfl (K.drop (q + 1)) (fun w hH => hH.vecq 2 rfl okU (by omega) (Nat.le_refl _) (m := K.drop (q + 1)) (by simp)) (by simp; omega) rfl rfl rfl rfl) (fun _ => rfl)⟩) ?_
      refine s_cons (by intro u1 u2 u3; exact ⟨rfl, fun b w hH hb => by exact exec_nilCheck rfl rfl hb⟩) ?_
      refine s_cons (by intro u1 u2 u3; exact ⟨rfl, fun b w hH hb => exec_q1 hflS rfl hb⟩) ?_
      exact s_nil
    intro u1 u2 u3
    refine WL2.keep (env' := [(0, .pointer (some ⟨p, 0, none⟩)), (4, .bool false), (5, .int .i64 (q : Int)), (6, .bool true), (30, u3), (32, .pointer (some ⟨p, 1, none⟩))]) ⟨rfl, rfl, rfl, rfl, rfl, rfl, trivial⟩ ?_
    refine h_q hflS rfl ?_
    refine h_acts (post := fun _ => [Vec 42 1 encU u3 (rem K q), cell p 47 #[.int .i64 m, u3, vv], Vec 42 1 encU kv K, Vec 3 1 encI vv V]) rfl rfl (a_storev 1 0 (v := u3) #[.int .i64 m, u3, vv] ty_s_uint64.2 rfl (fun _ h => Vec.c1 h) rfl rfl rfl rfl rfl rfl rfl) ?_; rintro ⟨⟩
    refine h_nil (f_to ?_)
    refine d_emps 1 rfl ?_
    refine d_parS 19 3 [⟨.quiet, [none, none, none], fun _ => .pointer (some ⟨p, 0, none⟩), []⟩, ⟨.act 0, [some false, some false, some false], fun _ => undef, []⟩, ⟨.quiet, [none, none, none], fun _ => .pointer (some ⟨p, 0, none⟩), []⟩, ⟨.quiet, [none, none, none], fun _ => .pointer (some ⟨p, 0, none⟩), [2]⟩, ⟨.quiet, [none, none, none], fun _ => .pointer (some ⟨p, 2, none⟩), [3]⟩, ⟨.quiet, [none, none, none], fun _ => vv, [4]⟩, ⟨.quiet, [none, none, none], fun _ => .int .i64 (q : Int), []⟩, ⟨.quiet, [none, none, none], fun _ => subv 1 vv 0 q, [5, 6]⟩, ⟨.act 1, [some true, some false, some false], fun _ => undef, [1, 7]⟩, ⟨.quiet, [none, none, none], fun _ => .pointer (some ⟨p, 0, none⟩), []⟩, ⟨.quiet, [none, none, none], fun _ => .pointer (some ⟨p, 0, none⟩), [9]⟩, ⟨.quiet, [none, none, none], fun _ => .pointer (some ⟨p, 2, none⟩), [10]⟩, ⟨.quiet, [none, none, none], fun _ => vv, [11]⟩, ⟨.quiet, [none, none, none], fun _ => .int .i64 (q : Int), []⟩, ⟨.quiet, [none, none, none], fun _ => .int .i64 ((q + 1 : Nat) : Int), [13]⟩, ⟨.quiet, [none, none, none], fun _ => subv 1 vv (q + 1) V.length, [12, 14]⟩, ⟨.act 2, [some true, some true, some false], fun _ => undef, [8, 15]⟩, ⟨.quiet, [some true, some true, some true], fun _ => .pointer (some ⟨p, 0, none⟩), [0]⟩, ⟨.quiet, [some true, some true, some true], fun _ => .pointer (some ⟨p, 2, none⟩), [17]⟩] [(0, .pointer (some ⟨p, 0, none⟩)), (4, .bool false), (5, .int .i64 (q : Int)), (6, .bool true)] (fun ρ => match ρ with | [r0, r1, r2] => [selS r2 (fun u6 => Vec 3 1 encI u6 (rem V q)) (selS r1 (fun u5 => Vec 3 1 encI u5 (V.take q)) (selS r0 (fun u4 => Vec 3 1 encI u4 ([])) (emp))), Vec 42 1 encU u3 (rem K q), cell p 47 #[.int .i64 m, u3, vv], Vec 42 1 encU kv K, Vec 3 1 encI vv V] | _ => []) (by kernel_rfl) (by kernel_rfl) ⟨rfl, rfl, rfl, rfl, trivial⟩ rfl ?_ ?_
    · skip
      refine s_cons (by intro r0_ r1_ r2_; exact ⟨rfl, fun b w hH hb => exec_q1 hflS rfl hb⟩) ?_
      refine s_cons (by exact ⟨rfl, Acts.s (Acts.place (val := fun u4 : Value => u4) (t := fun u4 => Vec 3 1 encI u4 ([])) (os' := fun u4 => [Vec 3 1 encI u4 ([]), Vec 42 1 encU u3 (rem K q), cell p 47 #[.int .i64 m, u3, vv], Vec 42 1 encU kv K, Vec 3 1 encI vv V]) 0 rfl (by refine a_build0 (e := 3) (t := 45) (k := 1) (enc := encI) ?_ ?_; exact sl_int; exact rfl) (fun _ => rfl)) (fun _ => rfl)⟩) ?_
      refine s_cons (by intro r0_ r1_ r2_; exact ⟨rfl, fun b w hH hb => exec_q1 hflS rfl hb⟩) ?_
      refine s_cons (by intro r0_ r1_ r2_; exact ⟨rfl, fun b w hH hb => by exact exec_nilCheck rfl rfl hb⟩) ?_
      refine s_cons (by intro r0_ r1_ r2_; exact ⟨rfl, fun b w hH hb => exec_q1 hflS rfl hb⟩) ?_
      refine s_cons (by intro r0_ r1_ r2_; exact ⟨rfl, fun b w hH hb => exec_load rfl rfl (reads_one ty_s_int rfl) (hH.row 2 rfl) hb⟩) ?_
      refine s_cons (by intro r0_ r1_ r2_; exact ⟨rfl, fun b w hH hb => exec_q1 hflS rfl hb⟩) ?_
      refine s_cons (by intro r0_ r1_ r2_; exact ⟨rfl, fun b w hH hb => e_vsub_hi 4 (b := q) sl_int rfl (by omega) rfl rfl rfl hH hb⟩) ?_
      refine s_cons (by intro u4; exact ⟨rfl, Acts.s (a_append 0 sl_int okI rfl (V.take q) (fun w hH => hH.vecq 4 rfl okI (Nat.zero_le _) (by omega) (m := V.take q) (by simp)) (by simp; omega) rfl rfl rfl (List.nil_append _)) (fun _ => rfl)⟩) ?_
      refine s_cons (by intro r0_ r1_ r2_; exact ⟨rfl, fun b w hH hb => exec_q1 hflS rfl hb⟩) ?_
      refine s_cons (by intro r0_ r1_ r2_; exact ⟨rfl, fun b w hH hb => by exact exec_nilCheck rfl rfl hb⟩) ?_
      refine s_cons (by intro r0_ r1_ r2_; exact ⟨rfl, fun b w hH hb => exec_q1 hflS rfl hb⟩) ?_
      refine s_cons (by intro r0_ r1_ r2_; exact ⟨rfl, fun b w hH hb => exec_load rfl rfl (reads_one ty_s_int rfl) (hH.row 2 rfl) hb⟩) ?_
      refine s_cons (by intro r0_ r1_ r2_; exact ⟨rfl, fun b w hH hb => exec_q1 hflS rfl hb⟩) ?_
      refine s_cons (by intro r0_ r1_ r2_; exact ⟨rfl, fun b w hH hb => exec_ar rfl rfl rfl rfl (by rw [IntWalk.i64_in _ (by omega)]; omega) hb⟩) ?_
      refine s_cons (by intro r0_ r1_ r2_; exact ⟨rfl, fun b w hH hb => e_vsub_lo 4 (a := (q + 1)) sl_int rfl (by omega) rfl rfl rfl hH hb⟩) ?_
      refine s_cons (by intro u4 u5; exact ⟨rfl, Acts.s (a_append 0 sl_int okI rfl (V.drop (q + 1)) (fun w hH => hH.vecq 4 rfl okI (by omega) (Nat.le_refl _) (m := V.drop (q + 1)) (by simp)) (by simp; omega) rfl rfl rfl rfl) (fun _ => rfl)⟩) ?_
      refine s_cons (by intro u4 u5 u6; exact ⟨rfl, fun b w hH hb => by exact exec_nilCheck rfl rfl hb⟩) ?_
      refine s_cons (by intro u4 u5 u6; exact ⟨rfl, fun b w hH hb => exec_q1 hflS rfl hb⟩) ?_
      exact s_nil
    intro u4 u5 u6
    refine WL2.keep (env' := [(4, .bool false), (6, .bool true), (49, u6), (51, .pointer (some ⟨p, 2, none⟩))]) ⟨rfl, rfl, rfl, rfl, trivial⟩ ?_
    refine h_q hflS rfl ?_
    refine h_acts (post := fun _ => [Vec 3 1 encI u6 (rem V q), Vec 42 1 encU u3 (rem K q), cell p 47 #[.int .i64 m, u3, u6], Vec 42 1 encU kv K, Vec 3 1 encI vv V]) rfl rfl (a_storev 2 0 (v := u6) #[.int .i64 m, u3, u6] ty_s_int.2 rfl (fun _ h => Vec.c1 h) rfl rfl rfl rfl rfl rfl rfl) ?_; rintro ⟨⟩
    refine h_nil (f_to (d_reg ?_))
    refine h_q hflS rfl ?_
    refine h_done (d_ret ?_)
    exact f_fin1 (.tmp rfl) (fun w h => tells () rfl [2, 1, 0] rfl h (fun z hz => ⟨z, .refl _, Parts.one (Tab.mk_ hok hz)⟩)) rfl
  · skip
    obtain ⟨rfl, rfl, rfl⟩ := dropT_not hh hp
    refine d_reg ?_
    refine h_q hflS rfl ?_
    refine h_act (post := fun _ => [Tab 47 42 3 encU encI ltI p m K V]) rfl (a_does (os' := fun _ => [Tab 47 42 3 encU encI ltI p m K V]) [0] 0 (ent_of Try.func61 (by kernel_rfl) rfl) (place_ref p m K V k hq hh) rfl rfl rfl (fun _ => rfl) rfl rfl rfl) ?_; rintro ⟨⟩
    refine h_q hflS rfl ?_
    refine h_done (d_seq (d_reg ?_))
    refine h_q hflS rfl ?_
    refine h_done (d_else rfl (d_skip (f_to (d_reg ?_))))
    refine h_q hflS rfl ?_
    refine h_done (d_ret ?_)
    exact f_fin1 (.tmp rfl) (fun w h => tells () rfl [0] rfl h same_parts) rfl

set_option maxRecDepth 100000 in
theorem same_true (X1 X2 X3 X4 : Ass) (a b c d : Value) (K V : List Int) (h1 : Rd X1 1 encU a K) (h2 : Rd X2 1 encI b V) (h3 : Rd X3 1 encU c K) (h4 : Rd X4 1 encI d V) (hl : V.length = K.length) (hk : K.length ≤ 1099511627776) : Does Try.prog 22 #[a, b, c, d] [X1, X2, X3, X4] (fun (_ : Unit) => .bool true) (fun (_ : Unit) => [X1, X2, X3, X4]) := by
  refine d_ins (args := [a, b, c, d]) 48 Try.func22 rfl rfl rfl ?_; intro w rs
  refine d_reg ?_
  refine h_q hflS rfl ?_
  refine h_done (d_seq (d_reg ?_))
  refine h_q hflS rfl ?_
  refine h_val rfl (.int .i64 (K.length : Int)) (fun b w hb hH => e_rlen 0 h1 Try.underlying44 rfl rfl rfl hH hb) ?_
  refine h_q hflS rfl ?_
  refine h_val rfl (.int .i64 (K.length : Int)) (fun b w hb hH => e_rlen 2 h3 Try.underlying44 rfl rfl rfl hH hb) ?_
  refine h_val rfl (.bool false) (fun b w hb hH => exec_cmp rfl rfl rfl (cmp_neq_f rfl) hb) ?_
  refine h_q hflS rfl ?_
  refine h_val rfl (.int .i64 (V.length : Int)) (fun b w hb hH => e_rlen 1 h2 Try.underlying45 rfl rfl rfl hH hb) ?_
  refine h_q hflS rfl ?_
  refine h_val rfl (.int .i64 (V.length : Int)) (fun b w hb hH => e_rlen 3 h4 Try.underlying45 rfl rfl rfl hH hb) ?_
  refine h_val rfl (.bool false) (fun b w hb hH => exec_cmp rfl rfl rfl (cmp_neq_f rfl) hb) ?_
  refine h_q hflS rfl ?_
  refine h_done (d_else rfl (d_skip (f_to (d_seq (d_reg ?_)))))
  refine h_q hflS rfl ?_
  refine h_done (d_block ?_)
  refine d_loop (α := Nat) (fun i => [(0, a), (1, b), (2, c), (3, d), (8, .bool false), (9, .int .i64 ((i : Nat) : Int))]) (fun i => [X1, X2, X3, X4]) (fun i => i ≤ K.length) (fun i => K.length - i) 0 (Nat.zero_le _) ⟨rfl, rfl, rfl, rfl, rfl, rfl, trivial⟩ rfl ?_
  rintro i hI
  refine WC2.at_ (env' := [(0, a), (1, b), (2, c), (3, d), (8, .bool false), (9, .int .i64 ((i : Nat) : Int))]) (rs' := [X1, X2, X3, X4]) ⟨rfl, rfl, rfl, rfl, rfl, rfl, trivial⟩ rfl ?_
  refine d_seq ?_
  rcases Nat.lt_or_ge i K.length with hn | hn
  · skip
    obtain ⟨x, hx⟩ : ∃ x, K[i]? = some x := ⟨_, List.getElem?_eq_getElem hn⟩
    obtain ⟨y, hy⟩ : ∃ y, V[i]? = some y := ⟨_, List.getElem?_eq_getElem (show i < V.length by omega)⟩
    refine d_reg ?_
    refine h_q hflS rfl ?_
    refine h_val rfl (.int .i64 (K.length : Int)) (fun b w hb hH => e_rlen 0 h1 Try.underlying44 rfl rfl rfl hH hb) ?_
    refine h_val rfl (.bool true) (fun b w hb hH => exec_cmp rfl rfl rfl (cmp_lss_t (by omega)) hb) ?_
    refine h_done (d_then rfl (d_skip (f_to (d_seq (d_block (d_seq ?_))))))
    refine d_parS 20 0 [⟨.quiet, [], fun _ => a, []⟩, ⟨.quiet, [], fun _ => .int .i64 ((i : Nat) : Int), []⟩, ⟨.quiet, [], fun _ => elp' a (i * 1), [0, 1]⟩, ⟨.quiet, [], fun _ => .int .u64 x, [2]⟩, ⟨.quiet, [], fun _ => c, []⟩, ⟨.quiet, [], fun _ => .int .i64 ((i : Nat) : Int), []⟩, ⟨.quiet, [], fun _ => elp' c (i * 1), [4, 5]⟩, ⟨.quiet, [], fun _ => .int .u64 x, [6]⟩, ⟨.quiet, [], fun _ => .bool false, [3, 7]⟩, ⟨.quiet, [], fun _ => .bool false, [8]⟩, ⟨.quiet, [], fun _ => b, [9]⟩, ⟨.quiet, [], fun _ => .int .i64 ((i : Nat) : Int), [9]⟩, ⟨.quiet, [], fun _ => elp' b (i * 1), [10, 11, 9]⟩, ⟨.quiet, [], fun _ => .int .i64 y, [12, 9]⟩, ⟨.quiet, [], fun _ => d, [9]⟩, ⟨.quiet, [], fun _ => .int .i64 ((i : Nat) : Int), [9]⟩, ⟨.quiet, [], fun _ => elp' d (i * 1), [14, 15, 9]⟩, ⟨.quiet, [], fun _ => .int .i64 y, [16, 9]⟩, ⟨.quiet, [], fun _ => .bool false, [13, 17, 9]⟩, ⟨.quiet, [], fun _ => .bool false, [9, 18]⟩] [(0, a), (1, b), (2, c), (3, d), (8, .bool false), (9, .int .i64 ((i : Nat) : Int)), (22, .int .i64 ((i : Nat) : Int)), (23, a), (24, .int .i64 (K.length : Int)), (25, .bool true)] (fun _ => [X1, X2, X3, X4]) (by kernel_rfl) (by kernel_rfl) ⟨rfl, rfl, rfl, rfl, rfl, rfl, rfl, rfl, rfl, rfl, trivial⟩ rfl ?_ ?_
    · skip
      refine s_cons (by exact ⟨rfl, fun b w hH hb => exec_q1 hflS rfl hb⟩) ?_
      refine s_cons (by exact ⟨rfl, fun b w hH hb => exec_q1 hflS rfl hb⟩) ?_
      refine s_cons (by exact ⟨rfl, fun b w hH hb => e_ridx 0 h1 sl_uint64 rfl i hn rfl rfl rfl hH hb⟩) ?_
      refine s_cons (by exact ⟨rfl, fun b w hH hb => e_rload1 0 h1 ty_uint64 okU rfl i (a := x) hx rfl rfl rfl hH hb⟩) ?_
      refine s_cons (by exact ⟨rfl, fun b w hH hb => exec_q1 hflS rfl hb⟩) ?_
      refine s_cons (by exact ⟨rfl, fun b w hH hb => exec_q1 hflS rfl hb⟩) ?_
      refine s_cons (by exact ⟨rfl, fun b w hH hb => e_ridx 2 h3 sl_uint64 rfl i hn rfl rfl rfl hH hb⟩) ?_
      refine s_cons (by exact ⟨rfl, fun b w hH hb => e_rload1 2 h3 ty_uint64 okU rfl i (a := x) hx rfl rfl rfl hH hb⟩) ?_
      refine s_cons (by exact ⟨rfl, fun b w hH hb => exec_cmp rfl rfl rfl (cmp_neq_f rfl) hb⟩) ?_
      refine s_cons (by exact ⟨rfl, fun b w hH hb => exec_q1 hflS rfl hb⟩) ?_
      refine s_cons (by exact ⟨rfl, fun b w hH hb => exec_q1 hflS rfl hb⟩) ?_
      refine s_cons (by exact ⟨rfl, fun b w hH hb => exec_q1 hflS rfl hb⟩) ?_
      refine s_cons (by exact ⟨rfl, fun b w hH hb => e_ridx 1 h2 sl_int rfl i (by omega) rfl rfl rfl hH hb⟩) ?_
      refine s_cons (by exact ⟨rfl, fun b w hH hb => e_rload1 1 h2 ty_int okI rfl i (a := y) hy rfl rfl rfl hH hb⟩) ?_
      refine s_cons (by exact ⟨rfl, fun b w hH hb => exec_q1 hflS rfl hb⟩) ?_
      refine s_cons (by exact ⟨rfl, fun b w hH hb => exec_q1 hflS rfl hb⟩) ?_
      refine s_cons (by exact ⟨rfl, fun b w hH hb => e_ridx 3 h4 sl_int rfl i (by omega) rfl rfl rfl hH hb⟩) ?_
      refine s_cons (by exact ⟨rfl, fun b w hH hb => e_rload1 3 h4 ty_int okI rfl i (a := y) hy rfl rfl rfl hH hb⟩) ?_
      refine s_cons (by exact ⟨rfl, fun b w hH hb => exec_cmp rfl rfl rfl (cmp_neq_f rfl) hb⟩) ?_
      refine s_cons (by exact ⟨rfl, fun b w hH hb => exec_q1 hflS rfl hb⟩) ?_
      exact s_nil
    refine WL2.keep (env' := [(0, a), (1, b), (2, c), (3, d), (8, .bool false), (9, .int .i64 ((i : Nat) : Int)), (22, .int .i64 ((i : Nat) : Int)), (23, a), (24, .int .i64 (K.length : Int)), (25, .bool true), (28, a), (29, .int .i64 ((i : Nat) : Int)), (30, elp' a (i * 1)), (31, .int .u64 x), (32, c), (33, .int .i64 ((i : Nat) : Int)), (34, elp' c (i * 1)), (35, .int .u64 x), (36, .bool false), (37, .bool false), (38, b), (39, .int .i64 ((i : Nat) : Int)), (40, elp' b (i * 1)), (41, .int .i64 y), (42, d), (43, .int .i64 ((i : Nat) : Int)), (44, elp' d (i * 1)), (45, .int .i64 y), (46, .bool false), (47, .bool false)]) ⟨rfl, rfl, rfl, rfl, rfl, rfl, rfl, rfl, rfl, rfl, rfl, rfl, rfl, rfl, rfl, rfl, rfl, rfl, rfl, rfl, rfl, rfl, rfl, rfl, rfl, rfl, rfl, rfl, rfl, rfl, trivial⟩ ?_
    refine h_nil (f_to (d_else rfl (d_skip (f_block (f_to (d_reg1 ?_))))))
    refine h_q hflS rfl ?_
    refine h_val rfl (.int .i64 ((i + 1 : Nat) : Int)) (fun b w hb hH => exec_ar rfl rfl rfl rfl (by rw [IntWalk.i64_in _ (by omega)]; omega) hb) ?_
    refine h_q hflS rfl ?_
    refine h_nil ?_
    exact f_again (i + 1) 0 hn (by omega) ⟨rfl, rfl, rfl, rfl, rfl, rfl, trivial⟩ rfl
  · skip
    refine d_reg ?_
    refine h_q hflS rfl ?_
    refine h_val rfl (.int .i64 (K.length : Int)) (fun b w hb hH => e_rlen 0 h1 Try.underlying44 rfl rfl rfl hH hb) ?_
    refine h_val rfl (.bool false) (fun b w hb hH => exec_cmp rfl rfl rfl (cmp_lss_f (by omega)) hb) ?_
    refine h_done (d_else rfl (d_exit (f_then_exit (f_then_exit (f_block_exit (f_to (d_reg ?_)))))))
    refine h_q hflS rfl ?_
    refine h_done (d_ret ?_)
    exact f_fin1 (.tmp rfl) (fun w h => tells () rfl [0, 1, 2, 3] rfl h same_parts) rfl

theorem tab_new_uint64_int (m : Int) (hm : 1 ≤ m ∧ m ≤ 4096) (g : Nat) (z : List RowT) (hz : Parts [cell g 85 #[.int .i64 m, .slice none 0 0, .slice none 0 0]] z) : Parts [Tab 85 42 3 encU encI ltI g m [] []] z := by
  refine Parts.one ⟨.slice none 0 0, .slice none 0 0, ?_, ⟨rfl, List.Pairwise.nil, by simp; omega, hm.2⟩⟩
  exact ⟨z, [], by simp, hz.one', [], [], rfl, nilVec _ _ _, Parts.one (nilVec _ _ _)⟩

set_option maxRecDepth 100000 in
theorem new_uint64_int (m : Int) (hm : 1 ≤ m ∧ m ≤ 4096) : Does Try.prog 17 #[.int .i64 m] [] (fun (g : Nat) => .tuple #[.pointer (some ⟨g, 0, none⟩), .int .i64 0]) (fun (g : Nat) => [Tab 85 42 3 encU encI ltI g m [] []]) := by
  refine d_ins (args := [.int .i64 m]) 13 Try.func17 rfl rfl rfl ?_; intro w rs
  refine d_reg ?_
  refine h_q hflS rfl ?_
  refine h_done (d_seq (d_reg ?_))
  refine h_q hflS rfl ?_
  refine h_val rfl (.bool false) (fun b w hb hH => exec_cmp rfl rfl rfl (cmp_lss_f (by omega)) hb) ?_
  refine h_q hflS rfl ?_
  refine h_val rfl (.bool false) (fun b w hb hH => exec_cmp rfl rfl rfl (cmp_gtr_f (by omega)) hb) ?_
  refine h_q hflS rfl ?_
  refine h_done (d_else rfl (d_skip (f_to (d_reg ?_))))
  refine h_q hflS rfl ?_
  refine h_val rfl (.agg #[.int .i64 m, .slice none 0 0, .slice none 0 0]) (fun b w hb hH => exec_build rfl rfl (by kernel_rfl) hb) ?_
  refine h_act (post := fun g1 => [cell g1 85 #[.int .i64 m, .slice none 0 0, .slice none 0 0]]) rfl (a_box (cs := #[.int .i64 m, .slice none 0 0, .slice none 0 0]) rfl rfl rfl) ?_; rintro g1
  refine h_q hflS rfl ?_
  refine h_done (d_ret ?_)
  exact f_fin2 (.tmp rfl) (.tmp rfl) (fun w h => tells g1 rfl [0] rfl h (fun z hz => ⟨z, .refl _, tab_new_uint64_int m hm g1 z hz⟩)) rfl

theorem tab_new_uint64_string (m : Int) (hm : 1 ≤ m ∧ m ≤ 4096) (g : Nat) (z : List RowT) (hz : Parts [cell g 95 #[.int .i64 m, .slice none 0 0, .slice none 0 0]] z) : Parts [Tab 95 42 9 encU encS ltI g m [] []] z := by
  refine Parts.one ⟨.slice none 0 0, .slice none 0 0, ?_, ⟨rfl, List.Pairwise.nil, by simp; omega, hm.2⟩⟩
  exact ⟨z, [], by simp, hz.one', [], [], rfl, nilVec _ _ _, Parts.one (nilVec _ _ _)⟩

set_option maxRecDepth 100000 in
theorem new_uint64_string (m : Int) (hm : 1 ≤ m ∧ m ≤ 4096) : Does Try.prog 31 #[.int .i64 m] [] (fun (g : Nat) => .tuple #[.pointer (some ⟨g, 0, none⟩), .int .i64 0]) (fun (g : Nat) => [Tab 95 42 9 encU encS ltI g m [] []]) := by
  refine d_ins (args := [.int .i64 m]) 13 Try.func31 rfl rfl rfl ?_; intro w rs
  refine d_reg ?_
  refine h_q hflS rfl ?_
  refine h_done (d_seq (d_reg ?_))
  refine h_q hflS rfl ?_
  refine h_val rfl (.bool false) (fun b w hb hH => exec_cmp rfl rfl rfl (cmp_lss_f (by omega)) hb) ?_
  refine h_q hflS rfl ?_
  refine h_val rfl (.bool false) (fun b w hb hH => exec_cmp rfl rfl rfl (cmp_gtr_f (by omega)) hb) ?_
  refine h_q hflS rfl ?_
  refine h_done (d_else rfl (d_skip (f_to (d_reg ?_))))
  refine h_q hflS rfl ?_
  refine h_val rfl (.agg #[.int .i64 m, .slice none 0 0, .slice none 0 0]) (fun b w hb hH => exec_build rfl rfl (by kernel_rfl) hb) ?_
  refine h_act (post := fun g1 => [cell g1 95 #[.int .i64 m, .slice none 0 0, .slice none 0 0]]) rfl (a_box (cs := #[.int .i64 m, .slice none 0 0, .slice none 0 0]) rfl rfl rfl) ?_; rintro g1
  refine h_q hflS rfl ?_
  refine h_done (d_ret ?_)
  exact f_fin2 (.tmp rfl) (.tmp rfl) (fun w h => tells g1 rfl [0] rfl h (fun z hz => ⟨z, .refl _, tab_new_uint64_string m hm g1 z hz⟩)) rfl

end Go.Proofs.Ytmlfgdedhhmkpaa.Sep
