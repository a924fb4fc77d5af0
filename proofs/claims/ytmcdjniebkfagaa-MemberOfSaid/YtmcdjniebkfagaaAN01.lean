/-
  MbI
-/
import Derived.Test.YtmcdjniebkfagaaAK01
import Derived.Test.YtmcdjniebkfagaaAL01
import Derived.Test.YtmcdjniebkfagaaAM01
set_option linter.unusedSimpArgs false
set_option linter.unusedVariables false

namespace Go.Proofs.Ytmcdjniebkfagaa.Sep
open Go.RowKit
open Go.Proofs.Ytmcdjniebkfagaa.Mem (Dist Blk Chg below0)

set_option maxRecDepth 100000 in
theorem all_any (s : Int) (h : -9223372036854775808 ≤ s ∧ s ≤ 9223372036854775807)  : Does Try.prog 15 #[.int .i64 s] [] (fun (g : Nat) => .func (.func 34) #[] #[.pointer (some ⟨g, 0, none⟩)]) (fun (g : Nat) => [cell g 3 #[.int .i64 s]]) := by
  refine d_ins (args := [.int .i64 s]) 4 Try.func15 rfl rfl rfl ?_; intro w rs
  refine d_reg ?_
  refine h_q hflS rfl ?_
  refine h_act (post := fun g => [cell g 3 #[.int .i64 s]]) rfl (a_box (cs := #[.int .i64 s]) rfl rfl rfl) ?_; rintro g
  refine h_q hflS rfl ?_
  refine h_done (d_reg ?_)
  refine h_q hflS rfl ?_
  refine h_val rfl (.func (.func 34) #[] #[.pointer (some ⟨g, 0, none⟩)]) (fun b w hb hH => e_func rfl rfl hb) ?_
  refine h_q hflS rfl ?_
  refine h_done (d_ret ?_)
  exact f_fin1 (.tmp rfl) (fun w h => tells g rfl [0] rfl h same_parts) rfl

set_option maxRecDepth 100000 in
theorem all1 (k : Fn) (caps : Array Value) (g : Nat) (s : Int) (h : -9223372036854775808 ≤ s ∧ s ≤ 9223372036854775807) (T : Nat → Ass) (hno : ∀ n : Nat, 1 ≤ n → n ≤ 7 → hs s (n : Int) = false → T (n + 1) = T n) (hyy : ∀ n : Nat, 1 ≤ n → n ≤ 7 → hs s (n : Int) = true → DoesF Try.prog (.func k #[] caps) [.int .i64 (n : Int)] [T n] (fun _ : Unit => .bool true) (fun _ : Unit => [T (n + 1)])) : Does Try.prog 34 #[.func k #[] caps, .pointer (some ⟨g, 0, none⟩)] [T 1, cell g 3 #[.int .i64 s]] (fun (_ : Unit) => .tuple #[]) (fun (_ : Unit) => [T 8, cell g 3 #[.int .i64 s]]) := by
  refine d_ins (args := [.func k #[] caps, .pointer (some ⟨g, 0, none⟩)]) 17 Try.func34 rfl rfl rfl ?_; intro w rs
  refine d_reg ?_
  refine h_q hflS rfl ?_
  refine h_done (d_block ?_)
  refine d_loop (α := Nat) (fun n => [(0, .func k #[] caps), (1, .pointer (some ⟨g, 0, none⟩)), (3, .int .i64 (n : Int))]) (fun n => [T n, cell g 3 #[.int .i64 s]]) (fun n => 1 ≤ n ∧ n ≤ 8) (fun n => 9 - n) 1 ⟨Nat.le_refl 1, (by decide)⟩ ⟨rfl, rfl, rfl, trivial⟩ rfl ?_
  rintro n hI
  refine WC2.at_ (env' := [(0, .func k #[] caps), (1, .pointer (some ⟨g, 0, none⟩)), (3, .int .i64 (n : Int))]) (rs' := [T n, cell g 3 #[.int .i64 s]]) ⟨rfl, rfl, rfl, trivial⟩ rfl ?_
  have h1 : 1 ≤ n := hI.1
  have h8 : n ≤ 8 := hI.2
  refine d_seq ?_
  rcases Nat.lt_or_ge n 8 with hn | hn
  · skip
    refine d_reg ?_
    refine h_q hflS rfl ?_
    refine h_val rfl (.bool true) (fun b w hb hH => exec_cmp rfl rfl rfl (cmp_leq_t (by omega)) hb) ?_
    refine h_done (d_then rfl (d_skip (f_to (d_seq (d_block ?_)))))
    cases hb : hs s (n : Int)
    · skip
      refine d_reg ?_
      refine h_q hflS rfl ?_
      refine h_val rfl (.int .i64 s) (fun b w hb hH => exec_load rfl rfl (reads_one ty_int rfl) (hH.row 1 rfl) hb) ?_
      refine h_q hflS rfl ?_
      refine h_act (post := fun _ => [T n, cell g 3 #[.int .i64 s]]) rfl (a_call (ent_of Try.func23 (by kernel_rfl) rfl) (fun w hH => has_any w s h (n : Int) false hb) rfl rfl rfl) ?_; rintro ⟨⟩
      refine h_q hflS rfl ?_
      refine h_done (d_else rfl (d_skip (f_block (f_to ?_))))
      rw [← hno n h1 (by omega) hb]
      refine d_reg1 ?_
      refine h_q hflS rfl ?_
      refine h_val rfl (.int .i64 ((n + 1 : Nat) : Int)) (fun b w hb hH => exec_ar rfl rfl rfl rfl (by rw [IntWalk.i64_in _ (by omega)]; omega) hb) ?_
      refine h_q hflS rfl ?_
      refine h_nil ?_
      exact f_again (n + 1) 0 ⟨show 1 ≤ n + 1 by omega, show n + 1 ≤ 8 by omega⟩ (show 9 - (n + 1) < 9 - n by omega) ⟨rfl, rfl, rfl, trivial⟩ rfl
    · skip
      refine d_seq ?_
      refine d_regI (i_pre gf_w 6 (by rintro ⟨a, w, h⟩; first | exact h.elim | exact nomatch h.1 | (obtain ⟨_, h, _⟩ := h; exact nomatch h)) (by kernel_rfl) ?_)
      refine h_q hflS rfl ?_
      refine h_val rfl (.int .i64 s) (fun b w hb hH => exec_load rfl rfl (reads_one ty_int rfl) (hH.row 1 rfl) hb) ?_
      refine h_q hflS rfl ?_
      refine h_act (post := fun _ => [T n, cell g 3 #[.int .i64 s]]) rfl (a_call (ent_of Try.func23 (by kernel_rfl) rfl) (fun w hH => has_any w s h (n : Int) true hb) rfl rfl rfl) ?_; rintro ⟨⟩
      refine h_q hflS rfl ?_
      refine i_to ?_
      refine i_does (X := Unit) (post := fun _ => [T (n + 1)]) (os' := fun _ => [T (n + 1), cell g 3 #[.int .i64 s]]) gf_w [0] (hyy n h1 (by omega) hb) rfl rfl rfl rfl rfl rfl (fun _ => rfl) ?_; rintro ⟨⟩
      refine i_rest gf_w (by rintro ⟨a, w, h⟩; first | exact h.elim | exact nomatch h.1 | (obtain ⟨_, h, _⟩ := h; exact nomatch h)) (by kernel_rfl) ?_
      refine h_q hflS rfl ?_
      refine h_nil (f_to (d_else rfl (d_skip (f_block (f_to (d_reg1 ?_))))))
      refine h_q hflS rfl ?_
      refine h_val rfl (.int .i64 ((n + 1 : Nat) : Int)) (fun b w hb hH => exec_ar rfl rfl rfl rfl (by rw [IntWalk.i64_in _ (by omega)]; omega) hb) ?_
      refine h_q hflS rfl ?_
      refine h_nil ?_
      exact f_again (n + 1) 0 ⟨show 1 ≤ n + 1 by omega, show n + 1 ≤ 8 by omega⟩ (show 9 - (n + 1) < 9 - n by omega) ⟨rfl, rfl, rfl, trivial⟩ rfl
  · skip
    obtain rfl : n = 8 := by omega
    refine d_reg ?_
    refine h_q hflS rfl ?_
    refine h_val rfl (.bool false) (fun b w hb hH => exec_cmp rfl rfl rfl (cmp_leq_f (by omega)) hb) ?_
    refine h_done (d_else rfl (d_exit (f_then_exit (f_then_exit (f_block_exit ?_)))))
    exact f_fin0n  (fun w h => tells () rfl [0, 1] rfl h same_parts) rfl

set_option maxRecDepth 100000 in
theorem all1S (k : Fn) (caps : Array Value) (g : Nat) (s : Int) (h : -9223372036854775808 ≤ s ∧ s ≤ 9223372036854775807) (T : Nat → Ass) (Z : Ass) {N : Nat} (hN1 : 1 ≤ N) (hN7 : N ≤ 7) (hN : hs s (N : Int) = true) (hno : ∀ n : Nat, 1 ≤ n → n < N → hs s (n : Int) = false → T (n + 1) = T n) (hyy : ∀ n : Nat, 1 ≤ n → n < N → hs s (n : Int) = true → DoesF Try.prog (.func k #[] caps) [.int .i64 (n : Int)] [T n] (fun _ : Unit => .bool true) (fun _ : Unit => [T (n + 1)])) (hzz : ∀ n : Nat, n = N → DoesF Try.prog (.func k #[] caps) [.int .i64 (n : Int)] [T n] (fun _ : Unit => .bool false) (fun _ : Unit => [Z])) : Does Try.prog 34 #[.func k #[] caps, .pointer (some ⟨g, 0, none⟩)] [T 1, cell g 3 #[.int .i64 s]] (fun (_ : Unit) => .tuple #[]) (fun (_ : Unit) => [Z, cell g 3 #[.int .i64 s]]) := by
  refine d_ins (args := [.func k #[] caps, .pointer (some ⟨g, 0, none⟩)]) 17 Try.func34 rfl rfl rfl ?_; intro w rs
  refine d_reg ?_
  refine h_q hflS rfl ?_
  refine h_done (d_block ?_)
  refine d_loop (α := Nat) (fun n => [(0, .func k #[] caps), (1, .pointer (some ⟨g, 0, none⟩)), (3, .int .i64 (n : Int))]) (fun n => [T n, cell g 3 #[.int .i64 s]]) (fun n => 1 ≤ n ∧ n ≤ N) (fun n => 9 - n) 1 ⟨Nat.le_refl 1, hN1⟩ ⟨rfl, rfl, rfl, trivial⟩ rfl ?_
  rintro n hI
  refine WC2.at_ (env' := [(0, .func k #[] caps), (1, .pointer (some ⟨g, 0, none⟩)), (3, .int .i64 (n : Int))]) (rs' := [T n, cell g 3 #[.int .i64 s]]) ⟨rfl, rfl, rfl, trivial⟩ rfl ?_
  have h1 : 1 ≤ n := hI.1
  have h8 : n ≤ N := hI.2
  refine d_seq ?_
  rcases Nat.lt_or_ge n N with hnN | hnN
  · skip
    refine d_reg ?_
    refine h_q hflS rfl ?_
    refine h_val rfl (.bool true) (fun b w hb hH => exec_cmp rfl rfl rfl (cmp_leq_t (by omega)) hb) ?_
    refine h_done (d_then rfl (d_skip (f_to (d_seq (d_block ?_)))))
    cases hb : hs s (n : Int)
    · skip
      refine d_reg ?_
      refine h_q hflS rfl ?_
      refine h_val rfl (.int .i64 s) (fun b w hb hH => exec_load rfl rfl (reads_one ty_int rfl) (hH.row 1 rfl) hb) ?_
      refine h_q hflS rfl ?_
      refine h_act (post := fun _ => [T n, cell g 3 #[.int .i64 s]]) rfl (a_call (ent_of Try.func23 (by kernel_rfl) rfl) (fun w hH => has_any w s h (n : Int) false hb) rfl rfl rfl) ?_; rintro ⟨⟩
      refine h_q hflS rfl ?_
      refine h_done (d_else rfl (d_skip (f_block (f_to ?_))))
      rw [← hno n h1 hnN hb]
      refine d_reg1 ?_
      refine h_q hflS rfl ?_
      refine h_val rfl (.int .i64 ((n + 1 : Nat) : Int)) (fun b w hb hH => exec_ar rfl rfl rfl rfl (by rw [IntWalk.i64_in _ (by omega)]; omega) hb) ?_
      refine h_q hflS rfl ?_
      refine h_nil ?_
      exact f_again (n + 1) 0 ⟨show 1 ≤ n + 1 by omega, show n + 1 ≤ N by omega⟩ (show 9 - (n + 1) < 9 - n by omega) ⟨rfl, rfl, rfl, trivial⟩ rfl
    · skip
      refine d_seq ?_
      refine d_regI (i_pre gf_w 6 (by rintro ⟨a, w, h⟩; first | exact h.elim | exact nomatch h.1 | (obtain ⟨_, h, _⟩ := h; exact nomatch h)) (by kernel_rfl) ?_)
      refine h_q hflS rfl ?_
      refine h_val rfl (.int .i64 s) (fun b w hb hH => exec_load rfl rfl (reads_one ty_int rfl) (hH.row 1 rfl) hb) ?_
      refine h_q hflS rfl ?_
      refine h_act (post := fun _ => [T n, cell g 3 #[.int .i64 s]]) rfl (a_call (ent_of Try.func23 (by kernel_rfl) rfl) (fun w hH => has_any w s h (n : Int) true hb) rfl rfl rfl) ?_; rintro ⟨⟩
      refine h_q hflS rfl ?_
      refine i_to ?_
      refine i_does (X := Unit) (post := fun _ => [T (n + 1)]) (os' := fun _ => [T (n + 1), cell g 3 #[.int .i64 s]]) gf_w [0] (hyy n h1 hnN hb) rfl rfl rfl rfl rfl rfl (fun _ => rfl) ?_; rintro ⟨⟩
      refine i_rest gf_w (by rintro ⟨a, w, h⟩; first | exact h.elim | exact nomatch h.1 | (obtain ⟨_, h, _⟩ := h; exact nomatch h)) (by kernel_rfl) ?_
      refine h_q hflS rfl ?_
      refine h_nil (f_to (d_else rfl (d_skip (f_block (f_to (d_reg1 ?_))))))
      refine h_q hflS rfl ?_
      refine h_val rfl (.int .i64 ((n + 1 : Nat) : Int)) (fun b w hb hH => exec_ar rfl rfl rfl rfl (by rw [IntWalk.i64_in _ (by omega)]; omega) hb) ?_
      refine h_q hflS rfl ?_
      refine h_nil ?_
      exact f_again (n + 1) 0 ⟨show 1 ≤ n + 1 by omega, show n + 1 ≤ N by omega⟩ (show 9 - (n + 1) < 9 - n by omega) ⟨rfl, rfl, rfl, trivial⟩ rfl
  · skip
    obtain rfl : n = N := by omega
    refine d_reg ?_
    refine h_q hflS rfl ?_
    refine h_val rfl (.bool true) (fun b w hb hH => exec_cmp rfl rfl rfl (cmp_leq_t (by omega)) hb) ?_
    refine h_done (d_then rfl (d_skip (f_to (d_seq (d_block (d_seq ?_))))))
    refine d_regI (i_pre gf_w 6 (by rintro ⟨a, w, h⟩; first | exact h.elim | exact nomatch h.1 | (obtain ⟨_, h, _⟩ := h; exact nomatch h)) (by kernel_rfl) ?_)
    refine h_q hflS rfl ?_
    refine h_val rfl (.int .i64 s) (fun b w hb hH => exec_load rfl rfl (reads_one ty_int rfl) (hH.row 1 rfl) hb) ?_
    refine h_q hflS rfl ?_
    refine h_act (post := fun _ => [T n, cell g 3 #[.int .i64 s]]) rfl (a_call (ent_of Try.func23 (by kernel_rfl) rfl) (fun w hH => has_any w s h (n : Int) true hN) rfl rfl rfl) ?_; rintro ⟨⟩
    refine h_q hflS rfl ?_
    refine i_to ?_
    refine i_does (X := Unit) (post := fun _ => [Z]) (os' := fun _ => [Z, cell g 3 #[.int .i64 s]]) gf_w [0] (hzz n rfl) rfl rfl rfl rfl rfl rfl (fun _ => rfl) ?_; rintro ⟨⟩
    refine i_rest gf_w (by rintro ⟨a, w, h⟩; first | exact h.elim | exact nomatch h.1 | (obtain ⟨_, h, _⟩ := h; exact nomatch h)) (by kernel_rfl) ?_
    refine h_q hflS rfl ?_
    refine h_nil (f_to (d_then rfl (d_ret (f_block_ret (f_then_ret (f_then_ret (f_block_ret ?_)))))))
    exact f_fin0  (fun w h => tells () rfl [0, 1] rfl h same_parts) rfl
end Go.Proofs.Ytmcdjniebkfagaa.Sep
