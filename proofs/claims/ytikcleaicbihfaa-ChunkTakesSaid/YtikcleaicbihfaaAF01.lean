/-
  ChkA
-/
import Derived.Test.YtikcleaicbihfaaAE01
set_option linter.unusedSimpArgs false
set_option linter.unusedVariables false

namespace Go.Proofs.Ytikcleaicbihfaa.Sep
open Go.RowKit
open Go.Proofs.Ytikcleaicbihfaa.Mem (Dist Blk Chg below0)

theorem take_cutCk {l : List UInt8} {n : Nat} (h : n = min l.length 256) : l.take n = l.take 256 := by
  subst h
  rcases Nat.le_total l.length 256 with h | h
  · rw [Nat.min_eq_left h, List.take_of_length_le (Nat.le_refl _), List.take_of_length_le h]
  · rw [Nat.min_eq_right h]
set_option maxRecDepth 100000 in
theorem cut_no (X : Ass) (A : Option Addr) (c : Nat) (l : List UInt8) (hX : Rd8 X (.slice A l.length c) l) (hc : l.length ≤ c) (hl : l.length ≤ 140737488355327) (k : Int) (hk : k < 0 ∨ (l.length : Int) < k) : Does Try.prog 8 #[.slice A l.length c, .int .i64 k] [X] (fun (_ : Unit) => .tuple #[.slice none 0 0, .bool false, .bool false]) (fun (_ : Unit) => [X]) := by
  refine d_ins (args := [.slice A l.length c, .int .i64 k]) 32 Try.func8 rfl rfl rfl ?_; intro w rs
  refine d_reg ?_
  refine h_q hflS rfl ?_
  refine h_done (d_seq ?_)
  rcases Int.lt_or_le k 0 with h1 | h1
  · skip
    refine d_reg ?_
    refine h_q hflS rfl ?_
    refine h_val rfl (.bool true) (fun b w hb hH => exec_cmp rfl rfl rfl (cmp_lss_t h1) hb) ?_
    refine h_q hflS rfl ?_
    refine h_done (d_then rfl (d_reg ?_))
    refine h_q hflS rfl ?_
    refine h_done (d_ret (f_then_ret ?_))
    exact f_fin3 (.tmp rfl) (.tmp rfl) (.tmp rfl) (fun w h => tells () rfl [0] rfl h same_parts) rfl
  · skip
    refine d_reg ?_
    refine h_q hflS rfl ?_
    refine h_val rfl (.bool false) (fun b w hb hH => exec_cmp rfl rfl rfl (cmp_lss_f (by omega)) hb) ?_
    refine h_q hflS rfl ?_
    refine h_val rfl (.int .i64 (l.length : Int)) (fun b w hb hH => e_slen ((hH.rd8 0 rfl hX).rd) Try.underlying22 rfl rfl hb) ?_
    refine h_val rfl (.bool true) (fun b w hb hH => exec_cmp rfl rfl rfl (cmp_gtr_t (by omega)) hb) ?_
    refine h_q hflS rfl ?_
    refine h_done (d_then rfl (d_reg ?_))
    refine h_q hflS rfl ?_
    refine h_done (d_ret (f_then_ret ?_))
    exact f_fin3 (.tmp rfl) (.tmp rfl) (.tmp rfl) (fun w h => tells () rfl [0] rfl h same_parts) rfl

set_option maxRecDepth 100000 in
theorem rcut_no (X : Ass) (A : Option Addr) (c : Nat) (l : List UInt8) (hX : Rd8 X (.slice A l.length c) l) (hc : l.length ≤ c) (hl : l.length ≤ 140737488355327) (k : Int) (hk : k < 0 ∨ (l.length : Int) < k) : Does Try.prog 18 #[.slice A l.length c, .int .i64 k] [X] (fun (_ : Unit) => .tuple #[.slice none 0 0, .bool false, .bool false]) (fun (_ : Unit) => [X]) := by
  refine d_ins (args := [.slice A l.length c, .int .i64 k]) 35 Try.func18 rfl rfl rfl ?_; intro w rs
  refine d_reg ?_
  refine h_q hflS rfl ?_
  refine h_done (d_seq ?_)
  rcases Int.lt_or_le k 0 with h1 | h1
  · skip
    refine d_reg ?_
    refine h_q hflS rfl ?_
    refine h_val rfl (.bool true) (fun b w hb hH => exec_cmp rfl rfl rfl (cmp_lss_t h1) hb) ?_
    refine h_q hflS rfl ?_
    refine h_done (d_then rfl (d_reg ?_))
    refine h_q hflS rfl ?_
    refine h_done (d_ret (f_then_ret ?_))
    exact f_fin3 (.tmp rfl) (.tmp rfl) (.tmp rfl) (fun w h => tells () rfl [0] rfl h same_parts) rfl
  · skip
    refine d_reg ?_
    refine h_q hflS rfl ?_
    refine h_val rfl (.bool false) (fun b w hb hH => exec_cmp rfl rfl rfl (cmp_lss_f (by omega)) hb) ?_
    refine h_q hflS rfl ?_
    refine h_val rfl (.int .i64 (l.length : Int)) (fun b w hb hH => e_slen ((hH.rd8 0 rfl hX).rd) Try.underlying22 rfl rfl hb) ?_
    refine h_val rfl (.bool true) (fun b w hb hH => exec_cmp rfl rfl rfl (cmp_gtr_t (by omega)) hb) ?_
    refine h_q hflS rfl ?_
    refine h_done (d_then rfl (d_reg ?_))
    refine h_q hflS rfl ?_
    refine h_done (d_ret (f_then_ret ?_))
    exact f_fin3 (.tmp rfl) (.tmp rfl) (.tmp rfl) (fun w h => tells () rfl [0] rfl h same_parts) rfl

set_option maxRecDepth 100000 in
theorem cut_v (X : Ass) (A : Option Addr) (c : Nat) (l : List UInt8) (hX : Rd8 X (.slice A l.length c) l) (hc : l.length ≤ c) (hl : l.length ≤ 140737488355327) (k : Nat) (hk : k ≤ l.length) (last : Bool) (hla : decide (l.length ≤ k + 256) = last) (r : List UInt8) (hr : (l.drop k).take 256 = r) : Does Try.prog 8 #[.slice A l.length c, .int .i64 (k : Int)] [X] (fun (u : Value) => .tuple #[u, .bool last, .bool true]) (fun (u : Value) => [X, Vec 5 1 encB u r]) := by
  obtain ⟨m, hm⟩ : ∃ m, l.length - k = m := ⟨_, rfl⟩
  obtain ⟨c1, hc1⟩ : ∃ c1, c - k = c1 := ⟨_, rfl⟩
  obtain ⟨n, hn⟩ : ∃ n, min m 256 = n := ⟨_, rfl⟩
  obtain ⟨A1, hA, hA1⟩ := sub_loCk (A := A) (n := l.length) (c := c) (k := k) (j := l.length)
  rw [hm, hc1] at hA
  have hX2 : Rd8 X (.slice A1 n c1) r := hX.cutCk hk hA1 hc1 hm (by omega) (by rw [← hr]; exact take_cutCk (by rw [List.length_drop]; omega))
  have hrl : r.length = n := by rw [← hr, List.length_take, List.length_drop]; omega
  refine d_ins (args := [.slice A l.length c, .int .i64 (k : Int)]) 32 Try.func8 rfl rfl rfl ?_; intro w rs
  refine d_reg ?_
  refine h_q hflS rfl ?_
  refine h_done (d_seq (d_reg ?_))
  refine h_q hflS rfl ?_
  refine h_val rfl (.bool false) (fun b w hb hH => exec_cmp rfl rfl rfl (cmp_lss_f (by omega)) hb) ?_
  refine h_q hflS rfl ?_
  refine h_val rfl (.int .i64 (l.length : Int)) (fun b w hb hH => e_slen ((hH.rd8 0 rfl hX).rd) Try.underlying22 rfl rfl hb) ?_
  refine h_val rfl (.bool false) (fun b w hb hH => exec_cmp rfl rfl rfl (cmp_gtr_f (by omega)) hb) ?_
  refine h_q hflS rfl ?_
  refine h_done (d_else rfl (d_skip (f_to (d_reg ?_))))
  refine h_q hflS rfl ?_
  refine h_val rfl (.slice A1 m c1) (fun b w hb hH => e_sub_lo (i := k) sl_uint8 hA hk rfl rfl rfl hH hb) ?_
  refine h_q hflS rfl ?_
  refine h_done (d_reg ?_)
  refine h_q hflS rfl ?_
  refine h_val rfl (.int .i64 (m : Int)) (fun b w hb hH => e_len sl_uint8 rfl rfl hH hb) ?_
  refine h_val rfl (.int .i64 (n : Int)) (fun b w hb hH => exec_builtin2 rfl rfl (fun cs => (fun w cs => run_min2 (by split <;> omega) _ _ w cs) w cs) hb) ?_
  refine h_val rfl (.slice A1 n c1) (fun b w hb hH => e_sub_hi (j := n) sl_uint8 sub_hiCk (by omega) rfl rfl rfl hH hb) ?_
  refine h_q hflS rfl ?_
  refine h_done (d_reg ?_)
  refine h_q hflS rfl ?_
  refine h_act (post := fun u => [Vec 5 1 encB u r, X]) rfl (a_does (os' := fun u => [Vec 5 1 encB u r, X]) [0] 0 (ent_of Try.func20 (by kernel_rfl) rfl) ((by have h := clone8 (l := r) (v := .slice A1 n c1) hX2 (by omega); exact h)) rfl rfl rfl (fun _ => rfl) rfl rfl rfl) ?_; rintro u
  refine h_q hflS rfl ?_
  refine h_val rfl (.int .i64 (n : Int)) (fun b w hb hH => e_len sl_uint8 rfl rfl hH hb) ?_
  refine h_q hflS rfl ?_
  refine h_val rfl (.int .i64 (m : Int)) (fun b w hb hH => e_len sl_uint8 rfl rfl hH hb) ?_
  refine h_val rfl (.bool last) (fun b w hb hH => exec_cmp rfl rfl rfl (congrArg some (show ((n : Int) == (m : Int)) = last by rw [← hla]; rw [Bool.eq_iff_iff]; simp; omega)) hb) ?_
  refine h_q hflS rfl ?_
  refine h_done (d_ret ?_)
  exact f_fin3 (.tmp rfl) (.tmp rfl) (.tmp rfl) (fun w h => tells u rfl [1, 0] rfl h same_parts) rfl

set_option maxRecDepth 100000 in
theorem rcut_v (X : Ass) (A : Option Addr) (c : Nat) (l : List UInt8) (hX : Rd8 X (.slice A l.length c) l) (hc : l.length ≤ c) (hl : l.length ≤ 140737488355327) (k : Nat) (hk : k ≤ l.length) (last : Bool) (hla : decide (l.length ≤ k + 256) = last) (r : List UInt8) (hr : (l.drop k).take 256 = r) : Does Try.prog 18 #[.slice A l.length c, .int .i64 (k : Int)] [X] (fun (u : Value) => .tuple #[u, .bool last, .bool true]) (fun (u : Value) => [X, Vec 5 1 encB u r]) := by
  obtain ⟨m, hm⟩ : ∃ m, l.length - k = m := ⟨_, rfl⟩
  obtain ⟨c1, hc1⟩ : ∃ c1, c - k = c1 := ⟨_, rfl⟩
  obtain ⟨n, hn⟩ : ∃ n, min m 256 = n := ⟨_, rfl⟩
  obtain ⟨A1, hA, hA1⟩ := sub_loCk (A := A) (n := l.length) (c := c) (k := k) (j := k + n)
  rw [show k + n - k = n by omega, hc1] at hA
  have hX2 : Rd8 X (.slice A1 n c1) r := hX.cutCk hk hA1 hc1 hm (by omega) (by rw [← hr]; exact take_cutCk (by rw [List.length_drop]; omega))
  have hrl : r.length = n := by rw [← hr, List.length_take, List.length_drop]; omega
  refine d_ins (args := [.slice A l.length c, .int .i64 (k : Int)]) 35 Try.func18 rfl rfl rfl ?_; intro w rs
  refine d_reg ?_
  refine h_q hflS rfl ?_
  refine h_done (d_seq (d_reg ?_))
  refine h_q hflS rfl ?_
  refine h_val rfl (.bool false) (fun b w hb hH => exec_cmp rfl rfl rfl (cmp_lss_f (by omega)) hb) ?_
  refine h_q hflS rfl ?_
  refine h_val rfl (.int .i64 (l.length : Int)) (fun b w hb hH => e_slen ((hH.rd8 0 rfl hX).rd) Try.underlying22 rfl rfl hb) ?_
  refine h_val rfl (.bool false) (fun b w hb hH => exec_cmp rfl rfl rfl (cmp_gtr_f (by omega)) hb) ?_
  refine h_q hflS rfl ?_
  refine h_done (d_else rfl (d_skip (f_to (d_reg ?_))))
  refine h_q hflS rfl ?_
  refine h_val rfl (.int .i64 (l.length : Int)) (fun b w hb hH => e_slen ((hH.rd8 0 rfl hX).rd) Try.underlying22 rfl rfl hb) ?_
  refine h_q hflS rfl ?_
  refine h_val rfl (.int .i64 (m : Int)) (fun b w hb hH => exec_ar rfl rfl rfl rfl (by rw [IntWalk.i64_in _ (by omega)]; omega) hb) ?_
  refine h_val rfl (.int .i64 (n : Int)) (fun b w hb hH => exec_builtin2 rfl rfl (fun cs => (fun w cs => run_min2 (by split <;> omega) _ _ w cs) w cs) hb) ?_
  refine h_q hflS rfl ?_
  refine h_done (d_reg ?_)
  refine h_q hflS rfl ?_
  refine h_act (X := Value) (val := fun v : Value => v) (post := fun u0 => [Vec 5 1 encB u0 ([]), X]) rfl (by refine a_build0 (e := 5) (t := 22) (k := 1) (enc := encB) ?_ ?_; exact sl_uint8; exact rfl) ?_; rintro u0
  refine h_q hflS rfl ?_
  refine h_val rfl (.int .i64 ((k + n : Nat) : Int)) (fun b w hb hH => exec_ar rfl rfl rfl rfl (by rw [IntWalk.i64_in _ (by omega)]; omega) hb) ?_
  refine h_val rfl (.slice A1 n c1) (fun b w hb hH => e_sub (i := k) (j := (k + n)) sl_uint8 hA (by omega) (by omega) rfl rfl rfl rfl hH hb) ?_
  refine h_act (post := fun u1 => [Vec 5 1 encB u1 r, X]) rfl (a_append8 0 sl_uint8 (by kernel_rfl) rfl (r) (fun w hH => (hH.rd8 1 rfl hX2).rd) (by simp only [List.length_nil]; omega) rfl rfl rfl (List.nil_append _)) ?_; rintro u1
  refine h_q hflS rfl ?_
  refine h_val rfl (.int .i64 ((k + n : Nat) : Int)) (fun b w hb hH => exec_ar rfl rfl rfl rfl (by rw [IntWalk.i64_in _ (by omega)]; omega) hb) ?_
  refine h_q hflS rfl ?_
  refine h_val rfl (.int .i64 (l.length : Int)) (fun b w hb hH => e_slen ((hH.rd8 1 rfl hX).rd) Try.underlying22 rfl rfl hb) ?_
  refine h_val rfl (.bool last) (fun b w hb hH => exec_cmp rfl rfl rfl (congrArg some (show (((k + n : Nat) : Int) == (l.length : Int)) = last by rw [← hla]; rw [Bool.eq_iff_iff]; simp; omega)) hb) ?_
  refine h_q hflS rfl ?_
  refine h_done (d_ret ?_)
  exact f_fin3 (.tmp rfl) (.tmp rfl) (.tmp rfl) (fun w h => tells u1 rfl [1, 0] rfl h same_parts) rfl
end Go.Proofs.Ytikcleaicbihfaa.Sep
