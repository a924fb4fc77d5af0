/-
  BagW
-/
import Derived.Test.YthgnfacifogjiaaBB01
import Derived.Test.YthgnfacifogjiaaBE01
import Derived.Test.YthgnfacifogjiaaBG01
set_option linter.unusedSimpArgs false
set_option linter.unusedVariables false

namespace Go.Proofs.Ythgnfacifogjiaa.Sep
open Go.RowKit
open Go.Proofs.Ythgnfacifogjiaa.Mem (Dist Blk Chg below0)

set_option maxRecDepth 100000 in
theorem moves_true (w : World) (A : Option Addr) (c : Nat) (l : List Int) (k : Int) (h1 : -9223372036854775808 ≤ k ∧ k ≤ 9223372036854775807) (hl : SlRd w 1 (.slice A l.length c) l.length (flat encI l)) (hll : l.length ≤ 9223372036854775807) (hc : l.length ≤ c) : Calls Try.prog 6 #[.slice A l.length c, .int .i64 k] w fun e w' => e = .returned (.bool true) ∧ Below w.heap.size w w' := by
  obtain ⟨l2, hl2e⟩ : ∃ l2, l.take 256 = l2 := ⟨_, rfl⟩
  have hlen2 : l2.length = min 256 l.length := by rw [← hl2e, List.length_take]
  have hmn : (if (256 : Int) < (l.length : Int) then 256 else (l.length : Int)) = (l2.length : Int) := by split <;> omega
  have hl2 : SlRd w 1 (.slice A l2.length c) l2.length (flat encI l2) := by
    have h := SlRd.head okI (j := l2.length) (by omega) hl
    have e : l.take l2.length = l2 := by rw [hlen2, ← hl2e]; simp [List.take_eq_take_iff]
    rwa [e] at h
  have hc2 : l2.length ≤ c := by omega
  refine d_in (args := [.slice A l.length c, .int .i64 k]) 90 Try.func6 rfl rfl rfl ?_
  refine d_reg ?_
  refine h_q hflS rfl ?_
  refine h_done (d_reg ?_)
  refine h_q hflS rfl ?_
  refine h_act (post := fun g => [BagT 52 3 encI g 256 ([]) 0]) rfl (a_does (os' := fun g => [BagT 52 3 encI g 256 ([]) 0]) [] 0 (ent_of Try.func7 (by kernel_rfl) rfl) (new_int 256 (by decide)) rfl rfl rfl (fun _ => rfl) rfl rfl rfl) ?_; rintro g
  refine h_q hflS rfl ?_
  refine h_done (d_seq (d_reg ?_))
  refine h_q hflS rfl ?_
  refine h_act (post := fun _ => [BagT 52 3 encI g 256 ([]) 0]) rfl (a_call (ent_of Try.func9 (by kernel_rfl) rfl) (fun w hH => Run.known_calls w) rfl rfl rfl) ?_; rintro ⟨⟩
  refine h_q hflS rfl ?_
  refine h_val rfl (.bool false) (fun b w hb hH => exec_cmp rfl rfl rfl (cmp_neq_f (by decide)) hb) ?_
  refine h_q hflS rfl ?_
  refine h_val rfl (.bool false) (fun b w hb hH => exec_pnil_eql (by kernel_rfl) rfl rfl rfl hb) ?_
  refine h_q hflS rfl ?_
  refine h_done (d_else rfl (d_skip (f_to (d_reg ?_))))
  refine h_q hflS rfl ?_
  refine h_val rfl (.int .i64 (l.length : Int)) (fun b w hb hH => e_slen (arg_rd hl hH) Try.underlying37 rfl rfl hb) ?_
  refine h_val rfl (.int .i64 (l2.length : Int)) (fun b w hb hH => exec_builtin2 rfl rfl (fun cs => (fun w cs => run_min2 hmn _ _ w cs) w cs) hb) ?_
  refine h_val rfl (.slice A l2.length c) (fun b w hb hH => e_sub_hi (j := l2.length) sl_int subv_head (by omega) rfl rfl rfl hH hb) ?_
  refine h_q hflS rfl ?_
  refine h_done (d_seq (d_reg ?_))
  refine h_q hflS rfl ?_
  refine h_done (d_block ?_)
  refine d_loop (α := Nat) (fun i => [(1, .int .i64 k), (4, .bool false), (5, .pointer (some ⟨g, 0, none⟩)), (0, .slice A l2.length c), (7, .int .i64 ((i : Nat) : Int))]) (fun i => [BagT 52 3 encI g 256 (l2.take i) 0]) (fun i => i ≤ l2.length) (fun i => l2.length - i) 0 (Nat.zero_le _) ⟨rfl, rfl, rfl, rfl, rfl, trivial⟩ rfl ?_
  rintro i hI
  refine WC2.at_ (env' := [(1, .int .i64 k), (4, .bool false), (5, .pointer (some ⟨g, 0, none⟩)), (0, .slice A l2.length c), (7, .int .i64 ((i : Nat) : Int))]) (rs' := [BagT 52 3 encI g 256 (l2.take i) 0]) ⟨rfl, rfl, rfl, rfl, rfl, trivial⟩ rfl ?_
  refine d_seq ?_
  rcases Nat.lt_or_ge i l2.length with hn | hn
  · skip
    obtain ⟨x, hx⟩ : ∃ x, l2[i]? = some x := ⟨_, List.getElem?_eq_getElem hn⟩
    have hti : (l2.take i).length = i := by rw [List.length_take]; omega
    have hput : putB 256 (l2.take i) 0 x = (l2.take (i + 1), 0, true) := by
          unfold putB
          rw [if_pos (by omega), List.take_add_one, hx]
          rfl
    refine d_reg ?_
    refine h_q hflS rfl ?_
    refine h_val rfl (.int .i64 (l2.length : Int)) (fun b w hb hH => e_slen (arg_rd hl2 hH) Try.underlying37 rfl rfl hb) ?_
    refine h_val rfl (.bool true) (fun b w hb hH => exec_cmp rfl rfl rfl (cmp_lss_t (by omega)) hb) ?_
    refine h_done (d_then rfl (d_skip (f_to (d_seq (d_block (d_reg1 ?_))))))
    refine h_q hflS rfl ?_
    refine h_val rfl (elp (.slice A l2.length c) (i * 1)) (fun b w hb hH => e_sidx okI (arg_rd hl2 hH) sl_int (j := i) hx rfl rfl rfl hb) ?_
    refine h_val rfl (.int .i64 x) (fun b w hb hH => e_sload okI (by decide) (arg_rd hl2 hH) (j := i) hx ty_int (off := 0) rfl rfl rfl hb) ?_
    refine h_act (post := fun _ => [BagT 52 3 encI g 256 (l2.take (i + 1)) 0]) rfl (a_does (os' := fun _ => [BagT 52 3 encI g 256 (l2.take (i + 1)) 0]) [0] 0 (ent_of Try.func22 (by kernel_rfl) rfl) (put_int g 256 (l2.take i) 0 x (by decide) (by omega) (by decide) (l2.take (i + 1), 0, true) hput) rfl rfl rfl (fun _ => rfl) rfl rfl rfl) ?_; rintro ⟨⟩
    refine h_nil (f_block (f_to (d_reg1 ?_)))
    refine h_q hflS rfl ?_
    refine h_val rfl (.int .i64 ((i + 1 : Nat) : Int)) (fun b w hb hH => exec_ar rfl rfl rfl rfl (by rw [IntWalk.i64_in _ (by omega)]; omega) hb) ?_
    refine h_q hflS rfl ?_
    refine h_nil ?_
    exact f_again (i + 1) 0 (show i + 1 ≤ l2.length by omega) (show l2.length - (i + 1) < l2.length - i by omega) ⟨rfl, rfl, rfl, rfl, rfl, trivial⟩ rfl
  · skip
    have hi : i = l2.length := by omega
    have hti : (l2.take i).length = l2.length := by rw [hi, List.take_length]
    refine d_reg ?_
    refine h_q hflS rfl ?_
    refine h_val rfl (.int .i64 (l2.length : Int)) (fun b w hb hH => e_slen (arg_rd hl2 hH) Try.underlying37 rfl rfl hb) ?_
    refine h_val rfl (.bool false) (fun b w hb hH => exec_cmp rfl rfl rfl (cmp_lss_f (by omega)) hb) ?_
    refine h_done (d_else rfl (d_exit (f_then_exit (f_then_exit (f_block_exit (f_to (d_seq ?_)))))))
    rcases Nat.eq_zero_or_pos l2.length with hz | hz
    · skip
      have hnil : l2 = [] := List.length_eq_zero_iff.1 (by omega)
      refine d_reg ?_
      refine h_q hflS rfl ?_
      refine h_val rfl (.int .i64 (l2.length : Int)) (fun b w hb hH => e_slen (arg_rd hl2 hH) Try.underlying37 rfl rfl hb) ?_
      refine h_val rfl (.bool true) (fun b w hb hH => exec_cmp rfl rfl rfl (cmp_eql_t (by omega)) hb) ?_
      refine h_done (d_then rfl (d_reg ?_))
      refine h_q hflS rfl ?_
      refine h_act (post := fun _ => [BagT 52 3 encI g 256 (l2.take i) 0]) rfl (a_does (os' := fun _ => [BagT 52 3 encI g 256 (l2.take i) 0]) [0] 0 (ent_of Try.func16 (by kernel_rfl) rfl) (take_int g 256 (l2.take i) 0 k (by decide) (by omega) (l2.take i, 0, false) (by unfold takeB; rw [if_neg (by omega)])) rfl rfl rfl (fun _ => rfl) rfl rfl rfl) ?_; rintro ⟨⟩
      refine h_q hflS rfl ?_
      refine h_done (d_reg ?_)
      refine h_q hflS rfl ?_
      refine h_done (d_ret (f_then_ret ?_))
      exact f_fin1 (.tmp rfl) (fun w h => ⟨rfl, below0 h.up⟩) rfl
    · skip
      obtain ⟨j, hj⟩ : ∃ j : Nat, k % (l2.length : Int) = (j : Int) := ⟨(k % (l2.length : Int)).toNat, (Int.toNat_of_nonneg (Int.emod_nonneg _ (by omega))).symm⟩
      have hjl : j < l2.length := by have := Int.emod_lt_of_pos k (show (0 : Int) < (l2.length : Int) by omega); omega
      obtain ⟨x, hx⟩ : ∃ x, l2[j]? = some x := ⟨_, List.getElem?_eq_getElem hjl⟩
      have hall : l2.take i = l2 := by rw [hi, List.take_length]
      have htk : takeB (l2.take i) (j : Int) 0 = (l2.take j ++ l2.drop (j + 1), x, true) := by unfold takeB; rw [hall, if_pos (by omega)]; simp [hx]
      have hl34 : (l2.take j ++ l2.drop (j + 1)).length ≤ 17179869184 := by rw [List.length_append, List.length_take, List.length_drop]; omega
      have hk40 : (l2.take j ++ l2.drop (j + 1)).length ≤ 1099511627776 := by omega
      refine d_reg ?_
      refine h_q hflS rfl ?_
      refine h_val rfl (.int .i64 (l2.length : Int)) (fun b w hb hH => e_slen (arg_rd hl2 hH) Try.underlying37 rfl rfl hb) ?_
      refine h_val rfl (.bool false) (fun b w hb hH => exec_cmp rfl rfl rfl (cmp_eql_f (by omega)) hb) ?_
      refine h_done (d_else rfl (d_skip (f_to (d_reg ?_))))
      refine h_q hflS rfl ?_
      refine h_val rfl (.int .i64 (l2.length : Int)) (fun b w hb hH => e_slen (arg_rd hl2 hH) Try.underlying37 rfl rfl hb) ?_
      refine h_act (post := fun _ => [BagT 52 3 encI g 256 (l2.take i) 0]) rfl (a_call (ent_of Try.func15 (by kernel_rfl) rfl) (fun w hH => pick w k (l2.length : Int) h1 (by omega) hj) rfl rfl rfl) ?_; rintro ⟨⟩
      refine h_q hflS rfl ?_
      refine h_done (d_reg ?_)
      refine h_q hflS rfl ?_
      refine h_act (post := fun _ => [BagT 52 3 encI g 256 (l2.take j ++ l2.drop (j + 1)) 0]) rfl (a_does (os' := fun _ => [BagT 52 3 encI g 256 (l2.take j ++ l2.drop (j + 1)) 0]) [0] 0 (ent_of Try.func16 (by kernel_rfl) rfl) (take_int g 256 (l2.take i) 0 (j : Int) (by decide) (by omega) (l2.take j ++ l2.drop (j + 1), x, true) htk) rfl rfl rfl (fun _ => rfl) rfl rfl rfl) ?_; rintro ⟨⟩
      refine h_q hflS rfl ?_
      refine h_done (d_seq ?_)
      refine d_emps 1 rfl ?_
      refine d_parS 10 3 [⟨.act 0, [some false, some false, some false], fun _ => undef, []⟩, ⟨.quiet, [none, none, none], fun _ => .slice A l2.length c, []⟩, ⟨.quiet, [none, none, none], fun _ => .int .i64 (j : Int), []⟩, ⟨.quiet, [none, none, none], fun _ => .slice A j c, [1, 2]⟩, ⟨.act 1, [some true, some false, some false], fun _ => undef, [0, 3]⟩, ⟨.quiet, [none, none, none], fun _ => .slice A l2.length c, []⟩, ⟨.quiet, [none, none, none], fun _ => .int .i64 (j : Int), []⟩, ⟨.quiet, [none, none, none], fun _ => .int .i64 ((j + 1 : Nat) : Int), [6]⟩, ⟨.quiet, [none, none, none], fun _ => subv 1 (.slice A l2.length c) (j + 1) l2.length, [5, 7]⟩, ⟨.act 2, [some true, some true, some false], fun _ => undef, [4, 8]⟩] [(4, .bool false), (5, .pointer (some ⟨g, 0, none⟩)), (0, .slice A l2.length c), (1, .int .i64 (j : Int)), (10, .int .i64 x), (11, .bool true)] (fun ρ => match ρ with | [rq0, rq1, rq2] => [selS rq2 (fun u9 => Vec 3 1 encI u9 (l2.take j ++ l2.drop (j + 1))) (selS rq1 (fun u2 => Vec 3 1 encI u2 (l2.take j)) (selS rq0 (fun u1 => Vec 3 1 encI u1 ([])) (emp))), BagT 52 3 encI g 256 (l2.take j ++ l2.drop (j + 1)) 0] | _ => []) (by kernel_rfl) (by kernel_rfl) ⟨rfl, rfl, rfl, rfl, rfl, rfl, trivial⟩ rfl ?_ ?_
      · skip
        refine s_cons (by exact ⟨rfl, Acts.s (Acts.place (val := fun u1 : Value => u1) (t := fun u1 => Vec 3 1 encI u1 ([])) (os' := fun u1 => [Vec 3 1 encI u1 ([]), BagT 52 3 encI g 256 (l2.take j ++ l2.drop (j + 1)) 0]) 0 rfl (by refine a_build0 (e := 3) (t := 37) (k := 1) (enc := encI) ?_ ?_; exact sl_int; exact rfl) (fun _ => rfl)) (fun _ => rfl)⟩) ?_
        refine s_cons (by intro r0_ r1_ r2_; exact ⟨rfl, fun b w hH hb => exec_q1 hflS rfl hb⟩) ?_
        refine s_cons (by intro r0_ r1_ r2_; exact ⟨rfl, fun b w hH hb => exec_q1 hflS rfl hb⟩) ?_
        refine s_cons (by intro r0_ r1_ r2_; exact ⟨rfl, fun b w hH hb => e_sub_hi (j := j) sl_int subv_head (by omega) rfl rfl rfl hH hb⟩) ?_
        refine s_cons (by intro u1; exact ⟨rfl, Acts.s (a_append 0 sl_int okI rfl (l2.take j) (fun w hH => SlRd.head okI (by omega) (arg_rd hl2 hH)) (by simp; omega) rfl rfl rfl (List.nil_append _)) (fun _ => rfl)⟩) ?_
        refine s_cons (by intro r0_ r1_ r2_; exact ⟨rfl, fun b w hH hb => exec_q1 hflS rfl hb⟩) ?_
        refine s_cons (by intro r0_ r1_ r2_; exact ⟨rfl, fun b w hH hb => exec_q1 hflS rfl hb⟩) ?_
        refine s_cons (by intro r0_ r1_ r2_; exact ⟨rfl, fun b w hH hb => exec_ar rfl rfl rfl rfl (by rw [IntWalk.i64_in _ (by omega)]; omega) hb⟩) ?_
        refine s_cons (by intro r0_ r1_ r2_; exact ⟨rfl, fun b w hH hb => e_sub_lo (i := (j + 1)) sl_int rfl (by omega) rfl rfl rfl hH hb⟩) ?_
        refine s_cons (by intro u1 u2; exact ⟨rfl, Acts.s (a_append 0 sl_int okI rfl (l2.drop (j + 1)) (fun w hH => SlRd.tail okI (by omega) hc2 (arg_rd hl2 hH)) (by rw [List.length_take, List.length_drop]; omega) rfl rfl rfl rfl) (fun _ => rfl)⟩) ?_
        exact s_nil
      intro u1 u2 u9
      refine WL2.keep (env' := [(4, .bool false), (5, .pointer (some ⟨g, 0, none⟩)), (0, .slice A l2.length c), (1, .int .i64 (j : Int)), (10, .int .i64 x), (11, .bool true), (74, u9)]) ⟨rfl, rfl, rfl, rfl, rfl, rfl, rfl, trivial⟩ ?_
      refine h_q hflS rfl ?_
      refine h_nil (f_to (d_reg ?_))
      refine h_q hflS rfl ?_
      refine h_val rfl (elp (.slice A l2.length c) (j * 1)) (fun b w hb hH => e_sidx okI (arg_rd hl2 hH) sl_int (j := j) hx rfl rfl rfl hb) ?_
      refine h_val rfl (.int .i64 x) (fun b w hb hH => e_sload okI (by decide) (arg_rd hl2 hH) (j := j) hx ty_int (off := 0) rfl rfl rfl hb) ?_
      refine h_val rfl (.bool true) (fun b w hb hH => exec_cmp rfl rfl rfl (cmp_eql_t rfl) hb) ?_
      refine h_q hflS rfl ?_
      refine h_act (post := fun ua => [Vec 3 1 encI ua (l2.take j ++ l2.drop (j + 1)), Vec 3 1 encI u9 (l2.take j ++ l2.drop (j + 1)), BagT 52 3 encI g 256 (l2.take j ++ l2.drop (j + 1)) 0]) rfl (a_does (os' := fun ua => [Vec 3 1 encI ua (l2.take j ++ l2.drop (j + 1)), Vec 3 1 encI u9 (l2.take j ++ l2.drop (j + 1)), BagT 52 3 encI g 256 (l2.take j ++ l2.drop (j + 1)) 0]) [1] 0 (ent_of Try.func26 (by kernel_rfl) rfl) (all_int g 256 (l2.take j ++ l2.drop (j + 1)) 0 hl34) rfl rfl rfl (fun _ => rfl) rfl rfl rfl) ?_; rintro ua
      refine h_q hflS rfl ?_
      refine h_act (post := fun _ => [Vec 3 1 encI ua (l2.take j ++ l2.drop (j + 1)), Vec 3 1 encI u9 (l2.take j ++ l2.drop (j + 1)), BagT 52 3 encI g 256 (l2.take j ++ l2.drop (j + 1)) 0]) rfl (a_does (os' := fun _ => [Vec 3 1 encI ua (l2.take j ++ l2.drop (j + 1)), Vec 3 1 encI u9 (l2.take j ++ l2.drop (j + 1)), BagT 52 3 encI g 256 (l2.take j ++ l2.drop (j + 1)) 0]) [0, 1] 0 (ent_of Try.func27 (by kernel_rfl) rfl) (same13 (Vec 3 1 encI ua (l2.take j ++ l2.drop (j + 1))) (Vec 3 1 encI u9 (l2.take j ++ l2.drop (j + 1))) ua u9 (l2.take j ++ l2.drop (j + 1)) (fun rs w h1 h2 => h1.all okI h2) (fun rs w h1 h2 => h1.all okI h2) hk40) rfl rfl rfl (fun _ => rfl) rfl rfl rfl) ?_; rintro ⟨⟩
      refine h_q hflS rfl ?_
      refine h_done (d_ret ?_)
      exact f_fin1 (.tmp rfl) (fun w h => ⟨rfl, below0 h.up⟩) rfl
end Go.Proofs.Ythgnfacifogjiaa.Sep
