/-
  ChkE
-/
import Derived.Test.YtikcleaicbihfaaAB01
import Derived.Test.YtikcleaicbihfaaAG01
set_option linter.unusedSimpArgs false
set_option linter.unusedVariables false

namespace Go.Proofs.Ytikcleaicbihfaa.Sep
open Go.RowKit
open Go.Proofs.Ytikcleaicbihfaa.Mem (Dist Blk Chg below0)


set_option maxRecDepth 100000 in
theorem cuts_law (X : Ass) (v : Value) (b : List UInt8) (hX : Rd8 X v b) (n : Int) (hn : -9223372036854775808 ≤ n ∧ n ≤ 9223372036854775807) (of : Int) (hof : -9223372036854775808 ≤ of ∧ of ≤ 9223372036854775807) (near : Bool) : Does Try.prog 4 #[.int .i64 n, v, .int .i64 of, .bool near] [X] (fun (_ : Unit) => .bool true) (fun (_ : Unit) => [X]) := by
  obtain ⟨m, hm⟩ : ∃ m : Nat, n % 1500 = (m : Int) := ⟨(n % 1500).toNat, by omega⟩
  have hm1 : m < 1500 := by omega
  refine d_ins (args := [.int .i64 n, v, .int .i64 of, .bool near]) 78 Try.func4 rfl rfl rfl ?_; intro w rs
  refine d_reg ?_
  refine h_q hflS rfl ?_
  refine h_done (d_reg ?_)
  refine h_q hflS rfl ?_
  refine h_act (post := fun (x : DatV m) => [Vec 5 1 encB x.v x.l, X]) rfl (a_does (os' := fun (x : DatV m) => [Vec 5 1 encB x.v x.l, X]) [0] 0 (ent_of Try.func16 (by kernel_rfl) rfl) (data_does X v b hX n hn m hm) rfl rfl rfl (fun _ => rfl) rfl rfl rfl) ?_; rintro x
  refine h_q hflS rfl ?_
  refine h_done (d_seq ?_)
  have hxl := x.h
  cases near
  · skip
    refine d_reg ?_
    refine h_q hflS rfl ?_
    refine h_done (d_else rfl (d_skip (f_to ?_)))
    rcases Classical.em (0 ≤ of ∧ of ≤ (x.l.length : Int)) with ho | ho
    · skip
      obtain ⟨k, rfl⟩ : ∃ k : Nat, of = (k : Int) := ⟨of.toNat, by omega⟩
      obtain ⟨last, hla⟩ : ∃ b, decide (x.l.length ≤ k + 256) = b := ⟨_, rfl⟩
      obtain ⟨r, hr⟩ : ∃ r, (x.l.drop k).take 256 = r := ⟨_, rfl⟩
      have hrl : r.length ≤ 256 := by rw [← hr, List.length_take]; omega
      refine d_reg ?_
      refine h_q hflS rfl ?_
      refine h_act (X := Value) (val := fun v : Value => v) (post := fun ov0 => [Vec 5 1 encB ov0 ([]), Vec 5 1 encB x.v x.l, X]) rfl (by refine a_build0 (e := 5) (t := 22) (k := 1) (enc := encB) ?_ ?_; exact sl_uint8; exact rfl) ?_; rintro ov0
      refine h_q hflS rfl ?_
      refine h_act (post := fun ov => [Vec 5 1 encB ov x.l, Vec 5 1 encB x.v x.l, X]) rfl (a_append 0 sl_uint8 okB rfl (x.l) (fun w hH => hH.vec 1 rfl okB) (by simp only [List.length_nil]; omega) rfl rfl rfl (List.nil_append _)) ?_; rintro ov
      refine h_q hflS rfl ?_
      refine h_done (d_reg ?_)
      refine h_q hflS rfl ?_
      refine h_act (post := fun u => [Vec 5 1 encB u r, Vec 5 1 encB ov x.l, Vec 5 1 encB x.v x.l, X]) rfl (a_does (os' := fun u => [Vec 5 1 encB u r, Vec 5 1 encB ov x.l, Vec 5 1 encB x.v x.l, X]) [0] 0 (ent_of Try.func8 (by kernel_rfl) rfl) (cut_does (Vec 5 1 encB ov x.l) ov x.l rd8_vec (by omega) k (by omega) last hla r hr) rfl rfl rfl (fun _ => rfl) rfl rfl rfl) ?_; rintro u
      refine h_q hflS rfl ?_
      refine h_done (d_reg ?_)
      refine h_q hflS rfl ?_
      refine h_act (post := fun q => [Vec 5 1 encB q r, Vec 5 1 encB u r, Vec 5 1 encB ov x.l, Vec 5 1 encB x.v x.l, X]) rfl (a_does (os' := fun q => [Vec 5 1 encB q r, Vec 5 1 encB u r, Vec 5 1 encB ov x.l, Vec 5 1 encB x.v x.l, X]) [2] 0 (ent_of Try.func18 (by kernel_rfl) rfl) (rcut_does (Vec 5 1 encB x.v x.l) x.v x.l rd8_vec (by omega) k (by omega) last hla r hr) rfl rfl rfl (fun _ => rfl) rfl rfl rfl) ?_; rintro q
      refine h_q hflS rfl ?_
      refine h_done (d_seq (d_reg ?_))
      refine h_q hflS rfl ?_
      refine h_act (post := fun _ => [Vec 5 1 encB q r, Vec 5 1 encB u r, Vec 5 1 encB ov x.l, Vec 5 1 encB x.v x.l, X]) rfl (a_call (ent_of Try.func13 (by kernel_rfl) rfl) (fun w hH => Run.known_calls w) rfl rfl rfl) ?_; rintro ⟨⟩
      refine h_q hflS rfl ?_
      refine h_val rfl (.string (bs r)) (fun b w hb hH => exec_str8 Try.underlying22 Try.underlying5 (by kernel_rfl) Try.underlying9 (hH.sl8 1 rfl) rfl rfl hb) ?_
      refine h_q hflS rfl ?_
      refine h_val rfl (.string (bs r)) (fun b w hb hH => exec_str8 Try.underlying22 Try.underlying5 (by kernel_rfl) Try.underlying9 (hH.sl8 0 rfl) rfl rfl hb) ?_
      refine h_val rfl (.bool false) (fun b w hb hH => exec_diff (by simp) rfl rfl rfl hb) ?_
      refine h_q hflS rfl ?_
      refine h_val rfl (.bool false) (fun b w hb hH => exec_nes (neB_same _) rfl rfl rfl hb) ?_
      refine h_q hflS rfl ?_
      refine h_val rfl (.bool false) (fun b w hb hH => exec_nes (neB true true) rfl rfl rfl hb) ?_
      refine h_q hflS rfl ?_
      refine h_done ?_
      refine WC2.keep (env' := [(8, .bool false), (9, x.v), (10, ov), (11, u), (63, .bool false)]) ⟨rfl, rfl, rfl, rfl, rfl, trivial⟩ ?_
      refine d_else rfl (d_skip (f_to (d_seq (d_reg ?_))))
      refine h_q hflS rfl ?_
      refine h_done (d_block ?_)
      refine d_loop (α := Nat × List UInt8) (fun ⟨i, L⟩ => [(8, .bool false), (9, x.v), (10, ov), (11, u), (17, .int .i64 ((i : Nat) : Int))]) (fun ⟨i, L⟩ => [Vec 5 1 encB q r, Vec 5 1 encB u L, Vec 5 1 encB ov x.l, Vec 5 1 encB x.v x.l, X]) (fun ⟨i, L⟩ => i ≤ r.length ∧ L.length = r.length) (fun ⟨i, L⟩ => r.length - i) (0, r) ⟨Nat.zero_le _, rfl⟩ ⟨rfl, rfl, rfl, rfl, rfl, trivial⟩ rfl ?_
      rintro ⟨i, L⟩ hI
      refine WC2.at_ (env' := [(8, .bool false), (9, x.v), (10, ov), (11, u), (17, .int .i64 ((i : Nat) : Int))]) (rs' := [Vec 5 1 encB q r, Vec 5 1 encB u L, Vec 5 1 encB ov x.l, Vec 5 1 encB x.v x.l, X]) ⟨rfl, rfl, rfl, rfl, rfl, trivial⟩ rfl ?_
      have hI1 : i ≤ r.length := hI.1
      have hL : L.length = r.length := hI.2
      refine d_seq ?_
      rcases Nat.lt_or_ge i r.length with hi | hi
      · skip
        refine d_reg ?_
        refine h_q hflS rfl ?_
        refine h_val rfl (.int .i64 (L.length : Int)) (fun b w hb hH => e_vlen 1 Try.underlying22 rfl rfl rfl hH hb) ?_
        refine h_val rfl (.bool true) (fun b w hb hH => exec_cmp rfl rfl rfl (cmp_lss_t (by omega)) hb) ?_
        refine h_done (d_then rfl (d_skip (f_to (d_seq (d_block (d_reg1 ?_))))))
        refine h_q hflS rfl ?_
        refine h_val rfl (elp u (i * 1)) (fun b w hb hH => e_vidx 1 sl_uint8 okB rfl i (by omega) rfl rfl rfl hH hb) ?_
        refine h_acts (post := fun _ => [Vec 5 1 encB q r, Vec 5 1 encB u (L.set i 238), Vec 5 1 encB ov x.l, Vec 5 1 encB x.v x.l, X]) rfl rfl (a_vstore1 1 ty_uint8 okB rfl i (by omega) 238 rfl rfl rfl rfl rfl) ?_; rintro ⟨⟩
        refine h_nil (f_block (f_to (d_reg1 ?_)))
        refine h_q hflS rfl ?_
        refine h_val rfl (.int .i64 ((i + 1 : Nat) : Int)) (fun b w hb hH => exec_ar rfl rfl rfl rfl (by rw [IntWalk.i64_in _ (by omega)]; omega) hb) ?_
        refine h_q hflS rfl ?_
        refine h_nil ?_
        exact f_again (i + 1, L.set i 238) 0 ⟨hi, (List.length_set ..).trans hL⟩ (show r.length - (i + 1) < r.length - i by omega) ⟨rfl, rfl, rfl, rfl, rfl, trivial⟩ rfl
      · skip
        refine d_reg ?_
        refine h_q hflS rfl ?_
        refine h_val rfl (.int .i64 (L.length : Int)) (fun b w hb hH => e_vlen 1 Try.underlying22 rfl rfl rfl hH hb) ?_
        refine h_val rfl (.bool false) (fun b w hb hH => exec_cmp rfl rfl rfl (cmp_lss_f (by omega)) hb) ?_
        refine h_done (d_else rfl (d_exit (f_then_exit (f_then_exit (f_block_exit (f_to (d_reg ?_)))))))
        refine h_q hflS rfl ?_
        refine h_val rfl (.string (bs x.l)) (fun b w hb hH => exec_str8 Try.underlying22 Try.underlying5 (by kernel_rfl) Try.underlying9 (hH.sl8 2 rfl) rfl rfl hb) ?_
        refine h_q hflS rfl ?_
        refine h_val rfl (.string (bs x.l)) (fun b w hb hH => exec_str8 Try.underlying22 Try.underlying5 (by kernel_rfl) Try.underlying9 (hH.sl8 3 rfl) rfl rfl hb) ?_
        refine h_val rfl (.bool true) (fun b w hb hH => exec_same rfl rfl rfl (by simp) hb) ?_
        refine h_q hflS rfl ?_
        refine h_done (d_ret ?_)
        exact f_fin1 (.tmp rfl) (fun w h => tells () rfl [4] rfl h same_parts) rfl
    · skip
      refine d_nilvec 5 1 encB ?_
      refine d_reg ?_
      refine h_q hflS rfl ?_
      refine h_act (X := Value) (val := fun v : Value => v) (post := fun ov0 => [Vec 5 1 encB ov0 ([]), Vec 5 1 encB (.slice none 0 0) ([]), Vec 5 1 encB x.v x.l, X]) rfl (by refine a_build0 (e := 5) (t := 22) (k := 1) (enc := encB) ?_ ?_; exact sl_uint8; exact rfl) ?_; rintro ov0
      refine h_q hflS rfl ?_
      refine h_act (post := fun ov => [Vec 5 1 encB ov x.l, Vec 5 1 encB (.slice none 0 0) ([]), Vec 5 1 encB x.v x.l, X]) rfl (a_append 0 sl_uint8 okB rfl (x.l) (fun w hH => hH.vec 2 rfl okB) (by simp only [List.length_nil]; omega) rfl rfl rfl (List.nil_append _)) ?_; rintro ov
      refine h_q hflS rfl ?_
      refine h_done (d_reg ?_)
      refine h_q hflS rfl ?_
      refine h_act (post := fun _ => [Vec 5 1 encB ov x.l, Vec 5 1 encB (.slice none 0 0) ([]), Vec 5 1 encB x.v x.l, X]) rfl (a_does (os' := fun _ => [Vec 5 1 encB ov x.l, Vec 5 1 encB (.slice none 0 0) ([]), Vec 5 1 encB x.v x.l, X]) [0] 0 (ent_of Try.func8 (by kernel_rfl) rfl) (cut_none (Vec 5 1 encB ov x.l) ov x.l rd8_vec (by omega) of (by omega)) rfl rfl rfl (fun _ => rfl) rfl rfl rfl) ?_; rintro ⟨⟩
      refine h_q hflS rfl ?_
      refine h_done (d_reg ?_)
      refine h_q hflS rfl ?_
      refine h_act (post := fun _ => [Vec 5 1 encB ov x.l, Vec 5 1 encB (.slice none 0 0) ([]), Vec 5 1 encB x.v x.l, X]) rfl (a_does (os' := fun _ => [Vec 5 1 encB ov x.l, Vec 5 1 encB (.slice none 0 0) ([]), Vec 5 1 encB x.v x.l, X]) [2] 0 (ent_of Try.func18 (by kernel_rfl) rfl) (rcut_none (Vec 5 1 encB x.v x.l) x.v x.l rd8_vec (by omega) of (by omega)) rfl rfl rfl (fun _ => rfl) rfl rfl rfl) ?_; rintro ⟨⟩
      refine h_q hflS rfl ?_
      refine h_done (d_seq (d_reg ?_))
      refine h_q hflS rfl ?_
      refine h_act (post := fun _ => [Vec 5 1 encB ov x.l, Vec 5 1 encB (.slice none 0 0) ([]), Vec 5 1 encB x.v x.l, X]) rfl (a_call (ent_of Try.func13 (by kernel_rfl) rfl) (fun w hH => Run.known_calls w) rfl rfl rfl) ?_; rintro ⟨⟩
      refine h_q hflS rfl ?_
      refine h_val rfl (.string (bs ([]))) (fun b w hb hH => exec_str8 Try.underlying22 Try.underlying5 (by kernel_rfl) Try.underlying9 (hH.sl8 1 rfl) rfl rfl hb) ?_
      refine h_q hflS rfl ?_
      refine h_val rfl (.string (bs ([]))) (fun b w hb hH => exec_str8 Try.underlying22 Try.underlying5 (by kernel_rfl) Try.underlying9 (hH.sl8 1 rfl) rfl rfl hb) ?_
      refine h_val rfl (.bool false) (fun b w hb hH => exec_diff (by simp) rfl rfl rfl hb) ?_
      refine h_q hflS rfl ?_
      refine h_val rfl (.bool false) (fun b w hb hH => exec_nes (neB false false) rfl rfl rfl hb) ?_
      refine h_q hflS rfl ?_
      refine h_val rfl (.bool false) (fun b w hb hH => exec_nes (neB false false) rfl rfl rfl hb) ?_
      refine h_q hflS rfl ?_
      refine h_done ?_
      refine WC2.keep (env' := [(8, .bool false), (9, x.v), (10, ov), (11, .slice none 0 0), (63, .bool false)]) ⟨rfl, rfl, rfl, rfl, rfl, trivial⟩ ?_
      refine d_else rfl (d_skip (f_to (d_seq (d_reg ?_))))
      refine h_q hflS rfl ?_
      refine h_done (d_block ?_)
      refine d_loop (α := Nat) (fun i => [(8, .bool false), (9, x.v), (10, ov), (11, .slice none 0 0), (17, .int .i64 ((i : Nat) : Int))]) (fun i => [Vec 5 1 encB ov x.l, Vec 5 1 encB (.slice none 0 0) ([]), Vec 5 1 encB x.v x.l, X]) (fun i => i = 0) (fun i => 0) 0 rfl ⟨rfl, rfl, rfl, rfl, rfl, trivial⟩ rfl ?_
      rintro i hI
      refine WC2.at_ (env' := [(8, .bool false), (9, x.v), (10, ov), (11, .slice none 0 0), (17, .int .i64 ((i : Nat) : Int))]) (rs' := [Vec 5 1 encB ov x.l, Vec 5 1 encB (.slice none 0 0) ([]), Vec 5 1 encB x.v x.l, X]) ⟨rfl, rfl, rfl, rfl, rfl, trivial⟩ rfl ?_
      have hI1 : i = 0 := hI
      refine d_seq (d_reg ?_)
      refine h_q hflS rfl ?_
      refine h_val rfl (.int .i64 (0 : Int)) (fun b w hb hH => e_len sl_uint8 rfl rfl hH hb) ?_
      refine h_val rfl (.bool false) (fun b w hb hH => exec_cmp rfl rfl rfl (cmp_lss_f (by omega)) hb) ?_
      refine h_done (d_else rfl (d_exit (f_then_exit (f_then_exit (f_block_exit (f_to (d_reg ?_)))))))
      refine h_q hflS rfl ?_
      refine h_val rfl (.string (bs x.l)) (fun b w hb hH => exec_str8 Try.underlying22 Try.underlying5 (by kernel_rfl) Try.underlying9 (hH.sl8 0 rfl) rfl rfl hb) ?_
      refine h_q hflS rfl ?_
      refine h_val rfl (.string (bs x.l)) (fun b w hb hH => exec_str8 Try.underlying22 Try.underlying5 (by kernel_rfl) Try.underlying9 (hH.sl8 2 rfl) rfl rfl hb) ?_
      refine h_val rfl (.bool true) (fun b w hb hH => exec_same rfl rfl rfl (by simp) hb) ?_
      refine h_q hflS rfl ?_
      refine h_done (d_ret ?_)
      exact f_fin1 (.tmp rfl) (fun w h => tells () rfl [3] rfl h same_parts) rfl
  · skip
    obtain ⟨o1, ho1⟩ : ∃ r, of % ((x.l.length : Int) + 3) = r := ⟨_, rfl⟩
    have ho2 : 0 ≤ o1 ∧ o1 < (x.l.length : Int) + 3 := by have h1 := Int.emod_nonneg of (show (x.l.length : Int) + 3 ≠ 0 by omega); have h2 := Int.emod_lt_of_pos of (show 0 < (x.l.length : Int) + 3 by omega); omega
    obtain ⟨o2, ho3⟩ : ∃ r, o1 - 1 = r := ⟨_, rfl⟩
    refine d_reg ?_
    refine h_q hflS rfl ?_
    refine h_done (d_then rfl (d_reg1 ?_))
    refine h_q hflS rfl ?_
    refine h_val rfl (.int .i64 (x.l.length : Int)) (fun b w hb hH => e_vlen 0 Try.underlying22 rfl rfl rfl hH hb) ?_
    refine h_val rfl (.int .i64 ((x.l.length : Int) + 3)) (fun b w hb hH => exec_ar rfl rfl rfl rfl (IntWalk.i64_in _ (by omega)) hb) ?_
    refine h_act (post := fun _ => [Vec 5 1 encB x.v x.l, X]) rfl (a_call (ent_of Try.func17 (by kernel_rfl) rfl) (fun w hH => pickCk w of ((x.l.length : Int) + 3) hof (by omega) ho1) rfl rfl rfl) ?_; rintro ⟨⟩
    refine h_val rfl (.int .i64 o2) (fun b w hb hH => exec_ar rfl rfl rfl rfl (by rw [IntWalk.i64_in _ (by omega)]; exact ho3) hb) ?_
    refine h_q hflS rfl ?_
    refine h_nil (f_to ?_)
    rcases Classical.em (0 ≤ o2 ∧ o2 ≤ (x.l.length : Int)) with ho | ho
    · skip
      obtain ⟨k, rfl⟩ : ∃ k : Nat, o2 = (k : Int) := ⟨o2.toNat, by omega⟩
      obtain ⟨last, hla⟩ : ∃ b, decide (x.l.length ≤ k + 256) = b := ⟨_, rfl⟩
      obtain ⟨r, hr⟩ : ∃ r, (x.l.drop k).take 256 = r := ⟨_, rfl⟩
      have hrl : r.length ≤ 256 := by rw [← hr, List.length_take]; omega
      refine d_reg ?_
      refine h_q hflS rfl ?_
      refine h_act (X := Value) (val := fun v : Value => v) (post := fun ov0 => [Vec 5 1 encB ov0 ([]), Vec 5 1 encB x.v x.l, X]) rfl (by refine a_build0 (e := 5) (t := 22) (k := 1) (enc := encB) ?_ ?_; exact sl_uint8; exact rfl) ?_; rintro ov0
      refine h_q hflS rfl ?_
      refine h_act (post := fun ov => [Vec 5 1 encB ov x.l, Vec 5 1 encB x.v x.l, X]) rfl (a_append 0 sl_uint8 okB rfl (x.l) (fun w hH => hH.vec 1 rfl okB) (by simp only [List.length_nil]; omega) rfl rfl rfl (List.nil_append _)) ?_; rintro ov
      refine h_q hflS rfl ?_
      refine h_done (d_reg ?_)
      refine h_q hflS rfl ?_
      refine h_act (post := fun u => [Vec 5 1 encB u r, Vec 5 1 encB ov x.l, Vec 5 1 encB x.v x.l, X]) rfl (a_does (os' := fun u => [Vec 5 1 encB u r, Vec 5 1 encB ov x.l, Vec 5 1 encB x.v x.l, X]) [0] 0 (ent_of Try.func8 (by kernel_rfl) rfl) (cut_does (Vec 5 1 encB ov x.l) ov x.l rd8_vec (by omega) k (by omega) last hla r hr) rfl rfl rfl (fun _ => rfl) rfl rfl rfl) ?_; rintro u
      refine h_q hflS rfl ?_
      refine h_done (d_reg ?_)
      refine h_q hflS rfl ?_
      refine h_act (post := fun q => [Vec 5 1 encB q r, Vec 5 1 encB u r, Vec 5 1 encB ov x.l, Vec 5 1 encB x.v x.l, X]) rfl (a_does (os' := fun q => [Vec 5 1 encB q r, Vec 5 1 encB u r, Vec 5 1 encB ov x.l, Vec 5 1 encB x.v x.l, X]) [2] 0 (ent_of Try.func18 (by kernel_rfl) rfl) (rcut_does (Vec 5 1 encB x.v x.l) x.v x.l rd8_vec (by omega) k (by omega) last hla r hr) rfl rfl rfl (fun _ => rfl) rfl rfl rfl) ?_; rintro q
      refine h_q hflS rfl ?_
      refine h_done (d_seq (d_reg ?_))
      refine h_q hflS rfl ?_
      refine h_act (post := fun _ => [Vec 5 1 encB q r, Vec 5 1 encB u r, Vec 5 1 encB ov x.l, Vec 5 1 encB x.v x.l, X]) rfl (a_call (ent_of Try.func13 (by kernel_rfl) rfl) (fun w hH => Run.known_calls w) rfl rfl rfl) ?_; rintro ⟨⟩
      refine h_q hflS rfl ?_
      refine h_val rfl (.string (bs r)) (fun b w hb hH => exec_str8 Try.underlying22 Try.underlying5 (by kernel_rfl) Try.underlying9 (hH.sl8 1 rfl) rfl rfl hb) ?_
      refine h_q hflS rfl ?_
      refine h_val rfl (.string (bs r)) (fun b w hb hH => exec_str8 Try.underlying22 Try.underlying5 (by kernel_rfl) Try.underlying9 (hH.sl8 0 rfl) rfl rfl hb) ?_
      refine h_val rfl (.bool false) (fun b w hb hH => exec_diff (by simp) rfl rfl rfl hb) ?_
      refine h_q hflS rfl ?_
      refine h_val rfl (.bool false) (fun b w hb hH => exec_nes (neB_same _) rfl rfl rfl hb) ?_
      refine h_q hflS rfl ?_
      refine h_val rfl (.bool false) (fun b w hb hH => exec_nes (neB true true) rfl rfl rfl hb) ?_
      refine h_q hflS rfl ?_
      refine h_done ?_
      refine WC2.keep (env' := [(8, .bool false), (9, x.v), (10, ov), (11, u), (63, .bool false)]) ⟨rfl, rfl, rfl, rfl, rfl, trivial⟩ ?_
      refine d_else rfl (d_skip (f_to (d_seq (d_reg ?_))))
      refine h_q hflS rfl ?_
      refine h_done (d_block ?_)
      refine d_loop (α := Nat × List UInt8) (fun ⟨i, L⟩ => [(8, .bool false), (9, x.v), (10, ov), (11, u), (17, .int .i64 ((i : Nat) : Int))]) (fun ⟨i, L⟩ => [Vec 5 1 encB q r, Vec 5 1 encB u L, Vec 5 1 encB ov x.l, Vec 5 1 encB x.v x.l, X]) (fun ⟨i, L⟩ => i ≤ r.length ∧ L.length = r.length) (fun ⟨i, L⟩ => r.length - i) (0, r) ⟨Nat.zero_le _, rfl⟩ ⟨rfl, rfl, rfl, rfl, rfl, trivial⟩ rfl ?_
      rintro ⟨i, L⟩ hI
      refine WC2.at_ (env' := [(8, .bool false), (9, x.v), (10, ov), (11, u), (17, .int .i64 ((i : Nat) : Int))]) (rs' := [Vec 5 1 encB q r, Vec 5 1 encB u L, Vec 5 1 encB ov x.l, Vec 5 1 encB x.v x.l, X]) ⟨rfl, rfl, rfl, rfl, rfl, trivial⟩ rfl ?_
      have hI1 : i ≤ r.length := hI.1
      have hL : L.length = r.length := hI.2
      refine d_seq ?_
      rcases Nat.lt_or_ge i r.length with hi | hi
      · skip
        refine d_reg ?_
        refine h_q hflS rfl ?_
        refine h_val rfl (.int .i64 (L.length : Int)) (fun b w hb hH => e_vlen 1 Try.underlying22 rfl rfl rfl hH hb) ?_
        refine h_val rfl (.bool true) (fun b w hb hH => exec_cmp rfl rfl rfl (cmp_lss_t (by omega)) hb) ?_
        refine h_done (d_then rfl (d_skip (f_to (d_seq (d_block (d_reg1 ?_))))))
        refine h_q hflS rfl ?_
        refine h_val rfl (elp u (i * 1)) (fun b w hb hH => e_vidx 1 sl_uint8 okB rfl i (by omega) rfl rfl rfl hH hb) ?_
        refine h_acts (post := fun _ => [Vec 5 1 encB q r, Vec 5 1 encB u (L.set i 238), Vec 5 1 encB ov x.l, Vec 5 1 encB x.v x.l, X]) rfl rfl (a_vstore1 1 ty_uint8 okB rfl i (by omega) 238 rfl rfl rfl rfl rfl) ?_; rintro ⟨⟩
        refine h_nil (f_block (f_to (d_reg1 ?_)))
        refine h_q hflS rfl ?_
        refine h_val rfl (.int .i64 ((i + 1 : Nat) : Int)) (fun b w hb hH => exec_ar rfl rfl rfl rfl (by rw [IntWalk.i64_in _ (by omega)]; omega) hb) ?_
        refine h_q hflS rfl ?_
        refine h_nil ?_
        exact f_again (i + 1, L.set i 238) 0 ⟨hi, (List.length_set ..).trans hL⟩ (show r.length - (i + 1) < r.length - i by omega) ⟨rfl, rfl, rfl, rfl, rfl, trivial⟩ rfl
      · skip
        refine d_reg ?_
        refine h_q hflS rfl ?_
        refine h_val rfl (.int .i64 (L.length : Int)) (fun b w hb hH => e_vlen 1 Try.underlying22 rfl rfl rfl hH hb) ?_
        refine h_val rfl (.bool false) (fun b w hb hH => exec_cmp rfl rfl rfl (cmp_lss_f (by omega)) hb) ?_
        refine h_done (d_else rfl (d_exit (f_then_exit (f_then_exit (f_block_exit (f_to (d_reg ?_)))))))
        refine h_q hflS rfl ?_
        refine h_val rfl (.string (bs x.l)) (fun b w hb hH => exec_str8 Try.underlying22 Try.underlying5 (by kernel_rfl) Try.underlying9 (hH.sl8 2 rfl) rfl rfl hb) ?_
        refine h_q hflS rfl ?_
        refine h_val rfl (.string (bs x.l)) (fun b w hb hH => exec_str8 Try.underlying22 Try.underlying5 (by kernel_rfl) Try.underlying9 (hH.sl8 3 rfl) rfl rfl hb) ?_
        refine h_val rfl (.bool true) (fun b w hb hH => exec_same rfl rfl rfl (by simp) hb) ?_
        refine h_q hflS rfl ?_
        refine h_done (d_ret ?_)
        exact f_fin1 (.tmp rfl) (fun w h => tells () rfl [4] rfl h same_parts) rfl
    · skip
      refine d_nilvec 5 1 encB ?_
      refine d_reg ?_
      refine h_q hflS rfl ?_
      refine h_act (X := Value) (val := fun v : Value => v) (post := fun ov0 => [Vec 5 1 encB ov0 ([]), Vec 5 1 encB (.slice none 0 0) ([]), Vec 5 1 encB x.v x.l, X]) rfl (by refine a_build0 (e := 5) (t := 22) (k := 1) (enc := encB) ?_ ?_; exact sl_uint8; exact rfl) ?_; rintro ov0
      refine h_q hflS rfl ?_
      refine h_act (post := fun ov => [Vec 5 1 encB ov x.l, Vec 5 1 encB (.slice none 0 0) ([]), Vec 5 1 encB x.v x.l, X]) rfl (a_append 0 sl_uint8 okB rfl (x.l) (fun w hH => hH.vec 2 rfl okB) (by simp only [List.length_nil]; omega) rfl rfl rfl (List.nil_append _)) ?_; rintro ov
      refine h_q hflS rfl ?_
      refine h_done (d_reg ?_)
      refine h_q hflS rfl ?_
      refine h_act (post := fun _ => [Vec 5 1 encB ov x.l, Vec 5 1 encB (.slice none 0 0) ([]), Vec 5 1 encB x.v x.l, X]) rfl (a_does (os' := fun _ => [Vec 5 1 encB ov x.l, Vec 5 1 encB (.slice none 0 0) ([]), Vec 5 1 encB x.v x.l, X]) [0] 0 (ent_of Try.func8 (by kernel_rfl) rfl) (cut_none (Vec 5 1 encB ov x.l) ov x.l rd8_vec (by omega) o2 (by omega)) rfl rfl rfl (fun _ => rfl) rfl rfl rfl) ?_; rintro ⟨⟩
      refine h_q hflS rfl ?_
      refine h_done (d_reg ?_)
      refine h_q hflS rfl ?_
      refine h_act (post := fun _ => [Vec 5 1 encB ov x.l, Vec 5 1 encB (.slice none 0 0) ([]), Vec 5 1 encB x.v x.l, X]) rfl (a_does (os' := fun _ => [Vec 5 1 encB ov x.l, Vec 5 1 encB (.slice none 0 0) ([]), Vec 5 1 encB x.v x.l, X]) [2] 0 (ent_of Try.func18 (by kernel_rfl) rfl) (rcut_none (Vec 5 1 encB x.v x.l) x.v x.l rd8_vec (by omega) o2 (by omega)) rfl rfl rfl (fun _ => rfl) rfl rfl rfl) ?_; rintro ⟨⟩
      refine h_q hflS rfl ?_
      refine h_done (d_seq (d_reg ?_))
      refine h_q hflS rfl ?_
      refine h_act (post := fun _ => [Vec 5 1 encB ov x.l, Vec 5 1 encB (.slice none 0 0) ([]), Vec 5 1 encB x.v x.l, X]) rfl (a_call (ent_of Try.func13 (by kernel_rfl) rfl) (fun w hH => Run.known_calls w) rfl rfl rfl) ?_; rintro ⟨⟩
      refine h_q hflS rfl ?_
      refine h_val rfl (.string (bs ([]))) (fun b w hb hH => exec_str8 Try.underlying22 Try.underlying5 (by kernel_rfl) Try.underlying9 (hH.sl8 1 rfl) rfl rfl hb) ?_
      refine h_q hflS rfl ?_
      refine h_val rfl (.string (bs ([]))) (fun b w hb hH => exec_str8 Try.underlying22 Try.underlying5 (by kernel_rfl) Try.underlying9 (hH.sl8 1 rfl) rfl rfl hb) ?_
      refine h_val rfl (.bool false) (fun b w hb hH => exec_diff (by simp) rfl rfl rfl hb) ?_
      refine h_q hflS rfl ?_
      refine h_val rfl (.bool false) (fun b w hb hH => exec_nes (neB false false) rfl rfl rfl hb) ?_
      refine h_q hflS rfl ?_
      refine h_val rfl (.bool false) (fun b w hb hH => exec_nes (neB false false) rfl rfl rfl hb) ?_
      refine h_q hflS rfl ?_
      refine h_done ?_
      refine WC2.keep (env' := [(8, .bool false), (9, x.v), (10, ov), (11, .slice none 0 0), (63, .bool false)]) ⟨rfl, rfl, rfl, rfl, rfl, trivial⟩ ?_
      refine d_else rfl (d_skip (f_to (d_seq (d_reg ?_))))
      refine h_q hflS rfl ?_
      refine h_done (d_block ?_)
      refine d_loop (α := Nat) (fun i => [(8, .bool false), (9, x.v), (10, ov), (11, .slice none 0 0), (17, .int .i64 ((i : Nat) : Int))]) (fun i => [Vec 5 1 encB ov x.l, Vec 5 1 encB (.slice none 0 0) ([]), Vec 5 1 encB x.v x.l, X]) (fun i => i = 0) (fun i => 0) 0 rfl ⟨rfl, rfl, rfl, rfl, rfl, trivial⟩ rfl ?_
      rintro i hI
      refine WC2.at_ (env' := [(8, .bool false), (9, x.v), (10, ov), (11, .slice none 0 0), (17, .int .i64 ((i : Nat) : Int))]) (rs' := [Vec 5 1 encB ov x.l, Vec 5 1 encB (.slice none 0 0) ([]), Vec 5 1 encB x.v x.l, X]) ⟨rfl, rfl, rfl, rfl, rfl, trivial⟩ rfl ?_
      have hI1 : i = 0 := hI
      refine d_seq (d_reg ?_)
      refine h_q hflS rfl ?_
      refine h_val rfl (.int .i64 (0 : Int)) (fun b w hb hH => e_len sl_uint8 rfl rfl hH hb) ?_
      refine h_val rfl (.bool false) (fun b w hb hH => exec_cmp rfl rfl rfl (cmp_lss_f (by omega)) hb) ?_
      refine h_done (d_else rfl (d_exit (f_then_exit (f_then_exit (f_block_exit (f_to (d_reg ?_)))))))
      refine h_q hflS rfl ?_
      refine h_val rfl (.string (bs x.l)) (fun b w hb hH => exec_str8 Try.underlying22 Try.underlying5 (by kernel_rfl) Try.underlying9 (hH.sl8 0 rfl) rfl rfl hb) ?_
      refine h_q hflS rfl ?_
      refine h_val rfl (.string (bs x.l)) (fun b w hb hH => exec_str8 Try.underlying22 Try.underlying5 (by kernel_rfl) Try.underlying9 (hH.sl8 2 rfl) rfl rfl hb) ?_
      refine h_val rfl (.bool true) (fun b w hb hH => exec_same rfl rfl rfl (by simp) hb) ?_
      refine h_q hflS rfl ?_
      refine h_done (d_ret ?_)
      exact f_fin1 (.tmp rfl) (fun w h => tells () rfl [3] rfl h same_parts) rfl
end Go.Proofs.Ytikcleaicbihfaa.Sep
