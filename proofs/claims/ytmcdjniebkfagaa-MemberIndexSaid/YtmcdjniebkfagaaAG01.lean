/-
  MbA · MbB
-/
import Derived.Test.YtmcdjniebkfagaaAB01
import Derived.Test.YtmcdjniebkfagaaAF01
set_option linter.unusedSimpArgs false
set_option linter.unusedVariables false

namespace Go.Proofs.Ytmcdjniebkfagaa.Sep
open Go.RowKit
open Go.Proofs.Ytmcdjniebkfagaa.Mem (Dist Blk Chg below0)

set_option maxRecDepth 100000 in
theorem right_any (w : World) (s : Int) (h : -9223372036854775808 ≤ s ∧ s ≤ 9223372036854775807) (b : Bool) (hb : rs s = b) : Calls Try.prog 17 #[.int .i64 s] w fun e w' => e = .returned (.bool b) ∧ Below w.heap.size w w' := by
  obtain ⟨r, hr⟩ : ∃ r, bits .andNot .i64 s 254 = r := ⟨_, rfl⟩
  have hd : decide (r = 0) = b := by rw [← hb, ← hr]; exact andn_right h.1 h.2
  refine d_in (args := [.int .i64 s]) 6 Try.func17 rfl rfl rfl ?_
  refine d_reg ?_
  refine h_q hflS rfl ?_
  refine h_done (d_reg ?_)
  refine h_q hflS rfl ?_
  refine h_val rfl (.int .i64 r) (fun b w hb hH => exec_andnI hr rfl rfl rfl hb) ?_
  refine h_val rfl (.bool b) (fun b w hb hH => exec_cmp rfl rfl rfl (congrArg some hd) hb) ?_
  refine h_q hflS rfl ?_
  refine h_done (d_ret ?_)
  exact f_fin1 (.tmp rfl) (fun w h => ⟨rfl, below0 h.up⟩) rfl

set_option maxRecDepth 100000 in
theorem may_any (w : World) (s : Int) (h : -9223372036854775808 ≤ s ∧ s ≤ 9223372036854775807) (n : Int) (b : Bool) (hb : may s n = b) : Calls Try.prog 33 #[.int .i64 s, .int .i64 n] w fun e w' => e = .returned (.bool b) ∧ Below w.heap.size w w' := by
  refine d_in (args := [.int .i64 s, .int .i64 n]) 15 Try.func33 rfl rfl rfl ?_
  refine d_reg ?_
  refine h_q hflS rfl ?_
  refine h_done ?_
  have hcs : rs s = false ∨ (rs s = true ∧ n < 1) ∨ (rs s = true ∧ 1 ≤ n ∧ ¬ n ≤ 7) ∨ (rs s = true ∧ 1 ≤ n ∧ n ≤ 7) := by cases rs s <;> simp <;> omega
  rcases hcs with h1 | ⟨h1, h2⟩ | ⟨h1, h2, h3⟩ | ⟨h1, h2, h3⟩
  · skip
    obtain rfl : b = false := by rw [← hb]; unfold may; rw [h1]; rfl
    refine d_reg ?_
    refine h_q hflS rfl ?_
    refine h_act (post := fun _ => []) rfl (a_call (ent_of Try.func17 (by kernel_rfl) rfl) (fun w hH => right_any w s h false h1) rfl rfl rfl) ?_; rintro ⟨⟩
    refine h_q hflS rfl ?_
    refine h_done (d_ret ?_)
    exact f_fin1 (.tmp rfl) (fun w h => ⟨rfl, below0 h.up⟩) rfl
  · skip
    obtain rfl : b = false := by rw [← hb]; unfold may; simp; omega
    refine d_reg ?_
    refine h_q hflS rfl ?_
    refine h_act (post := fun _ => []) rfl (a_call (ent_of Try.func17 (by kernel_rfl) rfl) (fun w hH => right_any w s h true h1) rfl rfl rfl) ?_; rintro ⟨⟩
    refine h_q hflS rfl ?_
    refine h_val rfl (.bool false) (fun b w hb hH => exec_cmp rfl rfl rfl (cmp_geq_f (by omega)) hb) ?_
    refine h_q hflS rfl ?_
    refine h_done (d_ret ?_)
    exact f_fin1 (.tmp rfl) (fun w h => ⟨rfl, below0 h.up⟩) rfl
  · skip
    obtain rfl : b = false := by rw [← hb]; unfold may; simp; omega
    refine d_reg ?_
    refine h_q hflS rfl ?_
    refine h_act (post := fun _ => []) rfl (a_call (ent_of Try.func17 (by kernel_rfl) rfl) (fun w hH => right_any w s h true h1) rfl rfl rfl) ?_; rintro ⟨⟩
    refine h_q hflS rfl ?_
    refine h_val rfl (.bool true) (fun b w hb hH => exec_cmp rfl rfl rfl (cmp_geq_t (by omega)) hb) ?_
    refine h_q hflS rfl ?_
    refine h_val rfl (.bool false) (fun b w hb hH => exec_cmp rfl rfl rfl (cmp_leq_f (by omega)) hb) ?_
    refine h_q hflS rfl ?_
    refine h_done (d_ret ?_)
    exact f_fin1 (.tmp rfl) (fun w h => ⟨rfl, below0 h.up⟩) rfl
  · skip
    obtain rfl : b = true := by rw [← hb]; unfold may; rw [h1]; simp; omega
    refine d_reg ?_
    refine h_q hflS rfl ?_
    refine h_act (post := fun _ => []) rfl (a_call (ent_of Try.func17 (by kernel_rfl) rfl) (fun w hH => right_any w s h true h1) rfl rfl rfl) ?_; rintro ⟨⟩
    refine h_q hflS rfl ?_
    refine h_val rfl (.bool true) (fun b w hb hH => exec_cmp rfl rfl rfl (cmp_geq_t (by omega)) hb) ?_
    refine h_q hflS rfl ?_
    refine h_val rfl (.bool true) (fun b w hb hH => exec_cmp rfl rfl rfl (cmp_leq_t (by omega)) hb) ?_
    refine h_q hflS rfl ?_
    refine h_done (d_ret ?_)
    exact f_fin1 (.tmp rfl) (fun w h => ⟨rfl, below0 h.up⟩) rfl

set_option maxRecDepth 100000 in
theorem has_any (w : World) (s : Int) (h : -9223372036854775808 ≤ s ∧ s ≤ 9223372036854775807) (n : Int) (b : Bool) (hb : hs s n = b) : Calls Try.prog 23 #[.int .i64 s, .int .i64 n] w fun e w' => e = .returned (.bool b) ∧ Below w.heap.size w w' := by
  refine d_in (args := [.int .i64 s, .int .i64 n]) 15 Try.func23 rfl rfl rfl ?_
  refine d_reg ?_
  refine h_q hflS rfl ?_
  refine h_done ?_
  cases hm : may s n
  · skip
    obtain rfl : b = false := by rw [← hb]; exact hs_no hm
    refine d_reg ?_
    refine h_q hflS rfl ?_
    refine h_act (post := fun _ => []) rfl (a_call (ent_of Try.func33 (by kernel_rfl) rfl) (fun w hH => may_any w s h n false hm) rfl rfl rfl) ?_; rintro ⟨⟩
    refine h_q hflS rfl ?_
    refine h_done (d_ret ?_)
    exact f_fin1 (.tmp rfl) (fun w h => ⟨rfl, below0 h.up⟩) rfl
  · skip
    have hn := (may_iff.1 hm).2
    have hd : decide (s / 2 ^ n.toNat % 2 = 1) = b := by rw [bt_shr hn, ← bt_of hm]; exact hb
    obtain ⟨q, hq⟩ : ∃ q, s / 2 ^ n.toNat = q := ⟨_, rfl⟩
    rw [hq] at hd
    obtain ⟨r, hr⟩ : ∃ r, q % 2 = r := ⟨_, rfl⟩
    rw [hr] at hd
    refine d_reg ?_
    refine h_q hflS rfl ?_
    refine h_act (post := fun _ => []) rfl (a_call (ent_of Try.func33 (by kernel_rfl) rfl) (fun w hH => may_any w s h n true hm) rfl rfl rfl) ?_; rintro ⟨⟩
    refine h_q hflS rfl ?_
    refine h_val rfl (.int .i64 q) (fun b w hb hH => exec_shr7 hn rfl hq rfl rfl rfl hb) ?_
    refine h_val rfl (.int .i64 r) (fun b w hb hH => exec_andI ((one_and q).trans hr) rfl rfl rfl hb) ?_
    refine h_val rfl (.bool b) (fun b w hb hH => exec_cmp rfl rfl rfl (congrArg some hd) hb) ?_
    refine h_q hflS rfl ?_
    refine h_done (d_ret ?_)
    exact f_fin1 (.tmp rfl) (fun w h => ⟨rfl, below0 h.up⟩) rfl

theorem ones_any (w : World) (s : Int) (h : rs s = true) (c : Int) (hc : (cnt s : Int) = c) : Calls Try.prog 35 #[.int .u64 s] w fun e w' => e = .returned (.int .i64 c) ∧ Below w.heap.size w w' := by
  obtain ⟨k, hk, rfl, hk2⟩ := ones_cnt h
  rw [← hc, ← hk2]
  exact Run.givesT_run Run.mixed Run.noOwn (List.all_eq_true.1 Run.onesAll_t k (List.mem_range.2 hk)) w

set_option maxRecDepth 100000 in
theorem count_any (w : World) (s : Int) (h : -9223372036854775808 ≤ s ∧ s ≤ 9223372036854775807) (c : Int) (hc : (cnt s : Int) = c) : Calls Try.prog 25 #[.int .i64 s] w fun e w' => e = .returned (.int .i64 c) ∧ Below w.heap.size w w' := by
  refine d_in (args := [.int .i64 s]) 9 Try.func25 rfl rfl rfl ?_
  refine d_reg ?_
  refine h_q hflS rfl ?_
  refine h_done (d_seq ?_)
  cases hb : rs s
  · skip
    obtain rfl : c = 0 := by rw [← hc, cnt_no hb]; rfl
    refine d_reg ?_
    refine h_q hflS rfl ?_
    refine h_act (post := fun _ => []) rfl (a_call (ent_of Try.func17 (by kernel_rfl) rfl) (fun w hH => right_any w s h false hb) rfl rfl rfl) ?_; rintro ⟨⟩
    refine h_q hflS rfl ?_
    refine h_done (d_then rfl (d_reg ?_))
    refine h_q hflS rfl ?_
    refine h_done (d_ret (f_then_ret ?_))
    exact f_fin1 (.tmp rfl) (fun w h => ⟨rfl, below0 h.up⟩) rfl
  · skip
    have hr := rs_iff.1 hb
    refine d_reg ?_
    refine h_q hflS rfl ?_
    refine h_act (post := fun _ => []) rfl (a_call (ent_of Try.func17 (by kernel_rfl) rfl) (fun w hH => right_any w s h true hb) rfl rfl rfl) ?_; rintro ⟨⟩
    refine h_q hflS rfl ?_
    refine h_done (d_else rfl (d_skip (f_to (d_reg ?_))))
    refine h_q hflS rfl ?_
    refine h_val rfl (.int .u64 s) (fun b w hb hH => exec_conv Try.underlying3 Try.underlying39 (IntWalk.u64_in _ (by omega)) rfl rfl hb) ?_
    refine h_act (post := fun _ => []) rfl (a_call (ent_of Try.func35 (by kernel_rfl) rfl) (fun w hH => ones_any w s hb c hc) rfl rfl rfl) ?_; rintro ⟨⟩
    refine h_q hflS rfl ?_
    refine h_done (d_ret ?_)
    exact f_fin1 (.tmp rfl) (fun w h => ⟨rfl, below0 h.up⟩) rfl

set_option maxRecDepth 100000 in
theorem add_any (w : World) (s : Int) (h : -9223372036854775808 ≤ s ∧ s ≤ 9223372036854775807) (n : Int) (R : Int × Int) (hp : addM s n = R) : Calls Try.prog 13 #[.int .i64 s, .int .i64 n] w fun e w' => e = .returned (.tuple #[.int .i64 R.1, .int .i64 R.2]) ∧ Below w.heap.size w w' := by
  refine d_in (args := [.int .i64 s, .int .i64 n]) 19 Try.func13 rfl rfl rfl ?_
  refine d_reg ?_
  refine h_q hflS rfl ?_
  refine h_done (d_seq (d_block ?_))
  cases hm : may s n
  rotate_left
  cases hb : hs s n
  rotate_left
  · skip
    obtain rfl : R = (0, 32) := by rw [← hp]; unfold addM; rw [hm, hb]; rfl
    refine d_reg ?_
    refine h_q hflS rfl ?_
    refine h_act (post := fun _ => []) rfl (a_call (ent_of Try.func33 (by kernel_rfl) rfl) (fun w hH => may_any w s h n true hm) rfl rfl rfl) ?_; rintro ⟨⟩
    refine h_q hflS rfl ?_
    refine h_done (d_else rfl (d_reg ?_))
    refine h_q hflS rfl ?_
    refine h_act (post := fun _ => []) rfl (a_call (ent_of Try.func23 (by kernel_rfl) rfl) (fun w hH => has_any w s h n true hb) rfl rfl rfl) ?_; rintro ⟨⟩
    refine h_q hflS rfl ?_
    refine h_done (d_then rfl (d_reg ?_))
    refine h_q hflS rfl ?_
    refine h_done (d_ret (f_block_ret (f_then_ret ?_)))
    exact f_fin2 (.tmp rfl) (.tmp rfl) (fun w h => ⟨rfl, below0 h.up⟩) rfl
  · skip
    obtain rfl : R = (0, 1) := by rw [← hp]; unfold addM; rw [hm]; rfl
    refine d_reg ?_
    refine h_q hflS rfl ?_
    refine h_act (post := fun _ => []) rfl (a_call (ent_of Try.func33 (by kernel_rfl) rfl) (fun w hH => may_any w s h n false hm) rfl rfl rfl) ?_; rintro ⟨⟩
    refine h_q hflS rfl ?_
    refine h_done (d_then rfl (d_reg ?_))
    refine h_q hflS rfl ?_
    refine h_done (d_ret (f_block_ret (f_then_ret ?_)))
    exact f_fin2 (.tmp rfl) (.tmp rfl) (fun w h => ⟨rfl, below0 h.up⟩) rfl
  · skip
    have hn := (may_iff.1 hm).2
    obtain ⟨p, hpw⟩ : ∃ p : Int, 2 ^ n.toNat = p := ⟨_, rfl⟩
    have hf := (add_facts hm hb).1
    obtain ⟨x, rfl, hx⟩ : ∃ x, R = (x, 0) ∧ s + p = x := ⟨_, by rw [← hp]; unfold addM; rw [hm, hb, hpw]; rfl, rfl⟩
    rw [hpw, hx] at hf
    refine d_reg ?_
    refine h_q hflS rfl ?_
    refine h_act (post := fun _ => []) rfl (a_call (ent_of Try.func33 (by kernel_rfl) rfl) (fun w hH => may_any w s h n true hm) rfl rfl rfl) ?_; rintro ⟨⟩
    refine h_q hflS rfl ?_
    refine h_done (d_else rfl (d_reg ?_))
    refine h_q hflS rfl ?_
    refine h_act (post := fun _ => []) rfl (a_call (ent_of Try.func23 (by kernel_rfl) rfl) (fun w hH => has_any w s h n false hb) rfl rfl rfl) ?_; rintro ⟨⟩
    refine h_q hflS rfl ?_
    refine h_done (d_else rfl (d_skip (f_block (f_to (d_reg ?_)))))
    refine h_q hflS rfl ?_
    refine h_val rfl (.int .i64 p) (fun b w hb hH => exec_shl7 hn hpw rfl rfl rfl hb) ?_
    refine h_val rfl (.int .i64 x) (fun b w hb hH => exec_orI hf rfl rfl rfl hb) ?_
    refine h_q hflS rfl ?_
    refine h_done (d_ret ?_)
    exact f_fin2 (.tmp rfl) (.tmp rfl) (fun w h => ⟨rfl, below0 h.up⟩) rfl

set_option maxRecDepth 100000 in
theorem rem_any (w : World) (s : Int) (h : -9223372036854775808 ≤ s ∧ s ≤ 9223372036854775807) (n : Int) (R : Int × Int) (hp : remM s n = R) : Calls Try.prog 11 #[.int .i64 s, .int .i64 n] w fun e w' => e = .returned (.tuple #[.int .i64 R.1, .int .i64 R.2]) ∧ Below w.heap.size w w' := by
  refine d_in (args := [.int .i64 s, .int .i64 n]) 25 Try.func11 rfl rfl rfl ?_
  refine d_reg ?_
  refine h_q hflS rfl ?_
  refine h_done (d_seq (d_block ?_))
  have hcs : may s n = false ∨ (may s n = true ∧ hs s n = false) ∨ (may s n = true ∧ hs s n = true ∧ cnt s = 1) ∨ (may s n = true ∧ hs s n = true ∧ cnt s ≠ 1) := by cases may s n <;> cases hs s n <;> simp <;> omega
  rcases hcs with hm | ⟨hm, hb⟩ | ⟨hm, hb, hc⟩ | ⟨hm, hb, hc⟩
  · skip
    obtain rfl : R = (0, 1) := by rw [← hp]; unfold remM; rw [hm]; rfl
    refine d_reg ?_
    refine h_q hflS rfl ?_
    refine h_act (post := fun _ => []) rfl (a_call (ent_of Try.func33 (by kernel_rfl) rfl) (fun w hH => may_any w s h n false hm) rfl rfl rfl) ?_; rintro ⟨⟩
    refine h_q hflS rfl ?_
    refine h_done (d_then rfl (d_reg ?_))
    refine h_q hflS rfl ?_
    refine h_done (d_ret (f_block_ret (f_then_ret ?_)))
    exact f_fin2 (.tmp rfl) (.tmp rfl) (fun w h => ⟨rfl, below0 h.up⟩) rfl
  · skip
    obtain rfl : R = (0, 32) := by rw [← hp]; unfold remM; rw [hm, hb]; rfl
    refine d_reg ?_
    refine h_q hflS rfl ?_
    refine h_act (post := fun _ => []) rfl (a_call (ent_of Try.func33 (by kernel_rfl) rfl) (fun w hH => may_any w s h n true hm) rfl rfl rfl) ?_; rintro ⟨⟩
    refine h_q hflS rfl ?_
    refine h_done (d_else rfl (d_reg ?_))
    refine h_q hflS rfl ?_
    refine h_act (post := fun _ => []) rfl (a_call (ent_of Try.func23 (by kernel_rfl) rfl) (fun w hH => has_any w s h n false hb) rfl rfl rfl) ?_; rintro ⟨⟩
    refine h_q hflS rfl ?_
    refine h_done (d_then rfl (d_reg ?_))
    refine h_q hflS rfl ?_
    refine h_done (d_ret (f_block_ret (f_then_ret ?_)))
    exact f_fin2 (.tmp rfl) (.tmp rfl) (fun w h => ⟨rfl, below0 h.up⟩) rfl
  · skip
    obtain rfl : R = (0, 32) := by rw [← hp]; unfold remM; rw [hm, hb, hc]; rfl
    refine d_reg ?_
    refine h_q hflS rfl ?_
    refine h_act (post := fun _ => []) rfl (a_call (ent_of Try.func33 (by kernel_rfl) rfl) (fun w hH => may_any w s h n true hm) rfl rfl rfl) ?_; rintro ⟨⟩
    refine h_q hflS rfl ?_
    refine h_done (d_else rfl (d_reg ?_))
    refine h_q hflS rfl ?_
    refine h_act (post := fun _ => []) rfl (a_call (ent_of Try.func23 (by kernel_rfl) rfl) (fun w hH => has_any w s h n true hb) rfl rfl rfl) ?_; rintro ⟨⟩
    refine h_q hflS rfl ?_
    refine h_act (post := fun _ => []) rfl (a_call (ent_of Try.func25 (by kernel_rfl) rfl) (fun w hH => count_any w s h 1 (by rw [hc]; rfl)) rfl rfl rfl) ?_; rintro ⟨⟩
    refine h_val rfl (.bool true) (fun b w hb hH => exec_cmp rfl rfl rfl (cmp_eql_t rfl) hb) ?_
    refine h_q hflS rfl ?_
    refine h_done (d_then rfl (d_reg ?_))
    refine h_q hflS rfl ?_
    refine h_done (d_ret (f_block_ret (f_then_ret ?_)))
    exact f_fin2 (.tmp rfl) (.tmp rfl) (fun w h => ⟨rfl, below0 h.up⟩) rfl
  · skip
    have hn := (may_iff.1 hm).2
    obtain ⟨p, hpw⟩ : ∃ p : Int, 2 ^ n.toNat = p := ⟨_, rfl⟩
    have hf := (rem_facts hb).1
    obtain ⟨x, rfl, hx⟩ : ∃ x, R = (x, 0) ∧ s - p = x := ⟨_, by rw [← hp]; unfold remM; rw [hm, hb, hpw]; simp [hc], rfl⟩
    rw [hpw, hx] at hf
    obtain ⟨c, hcc⟩ : ∃ c : Int, (cnt s : Int) = c := ⟨_, rfl⟩
    have hc1 : c ≠ 1 := by omega
    refine d_reg ?_
    refine h_q hflS rfl ?_
    refine h_act (post := fun _ => []) rfl (a_call (ent_of Try.func33 (by kernel_rfl) rfl) (fun w hH => may_any w s h n true hm) rfl rfl rfl) ?_; rintro ⟨⟩
    refine h_q hflS rfl ?_
    refine h_done (d_else rfl (d_reg ?_))
    refine h_q hflS rfl ?_
    refine h_act (post := fun _ => []) rfl (a_call (ent_of Try.func23 (by kernel_rfl) rfl) (fun w hH => has_any w s h n true hb) rfl rfl rfl) ?_; rintro ⟨⟩
    refine h_q hflS rfl ?_
    refine h_act (post := fun _ => []) rfl (a_call (ent_of Try.func25 (by kernel_rfl) rfl) (fun w hH => count_any w s h c hcc) rfl rfl rfl) ?_; rintro ⟨⟩
    refine h_val rfl (.bool false) (fun b w hb hH => exec_cmp rfl rfl rfl (cmp_eql_f hc1) hb) ?_
    refine h_q hflS rfl ?_
    refine h_done (d_else rfl (d_skip (f_block (f_to (d_reg ?_)))))
    refine h_q hflS rfl ?_
    refine h_val rfl (.int .i64 p) (fun b w hb hH => exec_shl7 hn hpw rfl rfl rfl hb) ?_
    refine h_val rfl (.int .i64 x) (fun b w hb hH => exec_andnI hf rfl rfl rfl hb) ?_
    refine h_q hflS rfl ?_
    refine h_done (d_ret ?_)
    exact f_fin2 (.tmp rfl) (.tmp rfl) (fun w h => ⟨rfl, below0 h.up⟩) rfl

set_option maxRecDepth 100000 in
theorem most_any (w : World) (s : Int) (h : -9223372036854775808 ≤ s ∧ s ≤ 9223372036854775807) (v : Int) (b : Bool) (hb : mst s v = b) : Calls Try.prog 16 #[.int .i64 s, .int .i64 v] w fun e w' => e = .returned (.bool b) ∧ Below w.heap.size w w' := by
  refine d_in (args := [.int .i64 s, .int .i64 v]) 17 Try.func16 rfl rfl rfl ?_
  refine d_reg ?_
  refine h_q hflS rfl ?_
  refine h_done ?_
  cases hr : rs s
  · skip
    obtain rfl : b = false := by rw [← hb]; exact mst_no hr
    refine d_reg ?_
    refine h_q hflS rfl ?_
    refine h_act (post := fun _ => []) rfl (a_call (ent_of Try.func17 (by kernel_rfl) rfl) (fun w hH => right_any w s h false hr) rfl rfl rfl) ?_; rintro ⟨⟩
    refine h_q hflS rfl ?_
    refine h_done (d_ret ?_)
    exact f_fin1 (.tmp rfl) (fun w h => ⟨rfl, below0 h.up⟩) rfl
  · skip
    obtain ⟨x, hx⟩ : ∃ x, bits .and .i64 s v = x := ⟨_, rfl⟩
    have hd := mst_and hr v
    have hxr := rs_iff.1 (and_set hr v).1
    rw [hx] at hd hxr
    rw [hb] at hd
    obtain ⟨c, hc⟩ : ∃ c : Int, (cnt s : Int) = c := ⟨_, rfl⟩
    obtain ⟨d, hdd⟩ : ∃ d : Int, (cnt x : Int) = d := ⟨_, rfl⟩
    have hd8 := cnt_le x
    rw [hc, hdd] at hd
    refine d_reg ?_
    refine h_q hflS rfl ?_
    refine h_act (post := fun _ => []) rfl (a_call (ent_of Try.func17 (by kernel_rfl) rfl) (fun w hH => right_any w s h true hr) rfl rfl rfl) ?_; rintro ⟨⟩
    refine h_q hflS rfl ?_
    refine h_val rfl (.int .i64 x) (fun b w hb hH => exec_andI hx rfl rfl rfl hb) ?_
    refine h_act (post := fun _ => []) rfl (a_call (ent_of Try.func25 (by kernel_rfl) rfl) (fun w hH => count_any w x ⟨by omega, by omega⟩ d hdd) rfl rfl rfl) ?_; rintro ⟨⟩
    refine h_val rfl (.int .i64 (2 * d)) (fun b w hb hH => exec_ar rfl rfl rfl rfl (IntWalk.i64_in _ (by omega)) hb) ?_
    refine h_q hflS rfl ?_
    refine h_act (post := fun _ => []) rfl (a_call (ent_of Try.func25 (by kernel_rfl) rfl) (fun w hH => count_any w s h c hc) rfl rfl rfl) ?_; rintro ⟨⟩
    refine h_val rfl (.bool b) (fun b w hb hH => exec_cmp rfl rfl rfl (congrArg some hd.symm) hb) ?_
    refine h_q hflS rfl ?_
    refine h_done (d_ret ?_)
    exact f_fin1 (.tmp rfl) (fun w h => ⟨rfl, below0 h.up⟩) rfl
end Go.Proofs.Ytmcdjniebkfagaa.Sep

namespace Go.Proofs.Ytmcdjniebkfagaa.Sep
open Go.RowKit
open Go.Proofs.Ytmcdjniebkfagaa.Mem (Dist Blk Chg below0)

set_option maxRecDepth 100000 in
theorem rright_any (w : World) (s : Int) (b : Bool) (hb : rs s = b) : Calls Try.prog 22 #[.int .i64 s] w fun e w' => e = .returned (.bool b) ∧ Below w.heap.size w w' := by
  refine d_in (args := [.int .i64 s]) 14 Try.func22 rfl rfl rfl ?_
  refine d_reg ?_
  refine h_q hflS rfl ?_
  refine h_done ?_
  have hcs : s < 0 ∨ (0 ≤ s ∧ 254 < s) ∨ (0 ≤ s ∧ s ≤ 254) := by omega
  rcases hcs with h1 | ⟨h1, h2⟩ | ⟨h1, h2⟩
  · skip
    obtain rfl : b = false := by rw [← hb]; unfold rs; simp; omega
    refine d_reg ?_
    refine h_q hflS rfl ?_
    refine h_val rfl (.bool false) (fun b w hb hH => exec_cmp rfl rfl rfl (cmp_geq_f (by omega)) hb) ?_
    refine h_q hflS rfl ?_
    refine h_done (d_ret ?_)
    exact f_fin1 (.tmp rfl) (fun w h => ⟨rfl, below0 h.up⟩) rfl
  · skip
    obtain rfl : b = false := by rw [← hb]; unfold rs; simp; omega
    refine d_reg ?_
    refine h_q hflS rfl ?_
    refine h_val rfl (.bool true) (fun b w hb hH => exec_cmp rfl rfl rfl (cmp_geq_t (by omega)) hb) ?_
    refine h_q hflS rfl ?_
    refine h_val rfl (.bool false) (fun b w hb hH => exec_cmp rfl rfl rfl (cmp_leq_f (by omega)) hb) ?_
    refine h_q hflS rfl ?_
    refine h_done (d_ret ?_)
    exact f_fin1 (.tmp rfl) (fun w h => ⟨rfl, below0 h.up⟩) rfl
  · skip
    obtain ⟨r, hr⟩ : ∃ r, s % 2 = r := ⟨_, rfl⟩
    have hd : decide (r = 0) = b := by rw [← hb]; unfold rs; rw [decide_eq_decide]; omega
    refine d_reg ?_
    refine h_q hflS rfl ?_
    refine h_val rfl (.bool true) (fun b w hb hH => exec_cmp rfl rfl rfl (cmp_geq_t (by omega)) hb) ?_
    refine h_q hflS rfl ?_
    refine h_val rfl (.bool true) (fun b w hb hH => exec_cmp rfl rfl rfl (cmp_leq_t (by omega)) hb) ?_
    refine h_q hflS rfl ?_
    refine h_val rfl (.int .i64 r) (fun b w hb hH => exec_remI2 h1 hr rfl rfl rfl hb) ?_
    refine h_val rfl (.bool b) (fun b w hb hH => exec_cmp rfl rfl rfl (congrArg some hd) hb) ?_
    refine h_q hflS rfl ?_
    refine h_done (d_ret ?_)
    exact f_fin1 (.tmp rfl) (fun w h => ⟨rfl, below0 h.up⟩) rfl

set_option maxRecDepth 100000 in
theorem rhas_any (w : World) (s : Int) (n : Int) (b : Bool) (hb : hs s n = b) : Calls Try.prog 24 #[.int .i64 s, .int .i64 n] w fun e w' => e = .returned (.bool b) ∧ Below w.heap.size w w' := by
  refine d_in (args := [.int .i64 s, .int .i64 n]) 23 Try.func24 rfl rfl rfl ?_
  refine d_reg ?_
  refine h_q hflS rfl ?_
  refine h_done ?_
  have hcs : rs s = false ∨ (rs s = true ∧ n < 1) ∨ (rs s = true ∧ 1 ≤ n ∧ 7 < n) ∨ (rs s = true ∧ 1 ≤ n ∧ n ≤ 7) := by cases rs s <;> simp <;> omega
  rcases hcs with h1 | ⟨h1, h2⟩ | ⟨h1, h2, h3⟩ | ⟨h1, h2, h3⟩
  · skip
    obtain rfl : b = false := by rw [← hb]; unfold hs may; rw [h1]; rfl
    refine d_reg ?_
    refine h_q hflS rfl ?_
    refine h_act (post := fun _ => []) rfl (a_call (ent_of Try.func22 (by kernel_rfl) rfl) (fun w hH => rright_any w s false h1) rfl rfl rfl) ?_; rintro ⟨⟩
    refine h_q hflS rfl ?_
    refine h_done (d_ret ?_)
    exact f_fin1 (.tmp rfl) (fun w h => ⟨rfl, below0 h.up⟩) rfl
  · skip
    obtain rfl : b = false := by rw [← hb]; exact hs_no (by unfold may; simp; omega)
    refine d_reg ?_
    refine h_q hflS rfl ?_
    refine h_act (post := fun _ => []) rfl (a_call (ent_of Try.func22 (by kernel_rfl) rfl) (fun w hH => rright_any w s true h1) rfl rfl rfl) ?_; rintro ⟨⟩
    refine h_q hflS rfl ?_
    refine h_val rfl (.bool false) (fun b w hb hH => exec_cmp rfl rfl rfl (cmp_geq_f (by omega)) hb) ?_
    refine h_q hflS rfl ?_
    refine h_done (d_ret ?_)
    exact f_fin1 (.tmp rfl) (fun w h => ⟨rfl, below0 h.up⟩) rfl
  · skip
    obtain rfl : b = false := by rw [← hb]; exact hs_no (by unfold may; simp; omega)
    refine d_reg ?_
    refine h_q hflS rfl ?_
    refine h_act (post := fun _ => []) rfl (a_call (ent_of Try.func22 (by kernel_rfl) rfl) (fun w hH => rright_any w s true h1) rfl rfl rfl) ?_; rintro ⟨⟩
    refine h_q hflS rfl ?_
    refine h_val rfl (.bool true) (fun b w hb hH => exec_cmp rfl rfl rfl (cmp_geq_t (by omega)) hb) ?_
    refine h_q hflS rfl ?_
    refine h_val rfl (.bool false) (fun b w hb hH => exec_cmp rfl rfl rfl (cmp_leq_f (by omega)) hb) ?_
    refine h_q hflS rfl ?_
    refine h_done (d_ret ?_)
    exact f_fin1 (.tmp rfl) (fun w h => ⟨rfl, below0 h.up⟩) rfl
  · skip
    have hn : 1 ≤ n ∧ n ≤ 7 := ⟨h2, h3⟩
    have hm : may s n = true := may_iff.2 ⟨h1, hn⟩
    have hs0 := rs_iff.1 h1
    have hd : decide (s / 2 ^ n.toNat % 2 = 1) = b := by rw [bt_shr hn, ← bt_of hm]; exact hb
    obtain ⟨q, hq⟩ : ∃ q, s / 2 ^ n.toNat = q := ⟨_, rfl⟩
    have hq0 : 0 ≤ q := by rw [← hq]; exact Int.ediv_nonneg hs0.1 (Int.le_of_lt (Int.pow_pos (by decide)))
    rw [hq] at hd
    obtain ⟨r, hr⟩ : ∃ r, q % 2 = r := ⟨_, rfl⟩
    rw [hr] at hd
    refine d_reg ?_
    refine h_q hflS rfl ?_
    refine h_act (post := fun _ => []) rfl (a_call (ent_of Try.func22 (by kernel_rfl) rfl) (fun w hH => rright_any w s true h1) rfl rfl rfl) ?_; rintro ⟨⟩
    refine h_q hflS rfl ?_
    refine h_val rfl (.bool true) (fun b w hb hH => exec_cmp rfl rfl rfl (cmp_geq_t (by omega)) hb) ?_
    refine h_q hflS rfl ?_
    refine h_val rfl (.bool true) (fun b w hb hH => exec_cmp rfl rfl rfl (cmp_leq_t (by omega)) hb) ?_
    refine h_q hflS rfl ?_
    refine h_val rfl (.int .u64 n) (fun b w hb hH => exec_conv Try.underlying3 Try.underlying39 (IntWalk.u64_in _ (by omega)) rfl rfl hb) ?_
    refine h_val rfl (.int .i64 q) (fun b w hb hH => exec_shr7 hn rfl hq rfl rfl rfl hb) ?_
    refine h_val rfl (.int .i64 r) (fun b w hb hH => exec_remI2 hq0 hr rfl rfl rfl hb) ?_
    refine h_val rfl (.bool b) (fun b w hb hH => exec_cmp rfl rfl rfl (congrArg some hd) hb) ?_
    refine h_q hflS rfl ?_
    refine h_done (d_ret ?_)
    exact f_fin1 (.tmp rfl) (fun w h => ⟨rfl, below0 h.up⟩) rfl

theorem pow7 {n : Int} (hn : 1 ≤ n ∧ n ≤ 7) : (2 : Int) ^ n.toNat ≤ 128 := by
  have h5 : n = 1 ∨ n = 2 ∨ n = 3 ∨ n = 4 ∨ n = 5 ∨ n = 6 ∨ n = 7 := by omega
  rcases h5 with rfl | rfl | rfl | rfl | rfl | rfl | rfl <;> decide

set_option maxRecDepth 100000 in
theorem radd_any (w : World) (s : Int) (hs9 : -9223372036854775808 ≤ s ∧ s ≤ 9223372036854775807) (n : Int) (R : Int × Int) (hp : addM s n = R) : Calls Try.prog 27 #[.int .i64 s, .int .i64 n] w fun e w' => e = .returned (.tuple #[.int .i64 R.1, .int .i64 R.2]) ∧ Below w.heap.size w w' := by
  refine d_in (args := [.int .i64 s, .int .i64 n]) 25 Try.func27 rfl rfl rfl ?_
  refine d_reg ?_
  refine h_q hflS rfl ?_
  refine h_done (d_seq ?_)
  have hcs : rs s = false ∨ (rs s = true ∧ n < 1) ∨ (rs s = true ∧ 1 ≤ n ∧ 7 < n) ∨ (rs s = true ∧ (1 ≤ n ∧ n ≤ 7) ∧ hs s n = true) ∨ (rs s = true ∧ (1 ≤ n ∧ n ≤ 7) ∧ hs s n = false) := by cases rs s <;> cases hs s n <;> simp <;> omega
  rcases hcs with h1 | ⟨h1, h2⟩ | ⟨h1, h2, h3⟩ | ⟨h1, hn, hb⟩ | ⟨h1, hn, hb⟩
  · skip
    obtain rfl : R = (0, 1) := by rw [← hp]; unfold addM; rw [show may s n = false by unfold may; rw [h1]; rfl]; rfl
    refine d_reg ?_
    refine h_q hflS rfl ?_
    refine h_act (post := fun _ => []) rfl (a_call (ent_of Try.func22 (by kernel_rfl) rfl) (fun w hH => rright_any w s false h1) rfl rfl rfl) ?_; rintro ⟨⟩
    refine h_q hflS rfl ?_
    refine h_done (d_then rfl (d_reg ?_))
    refine h_q hflS rfl ?_
    refine h_done (d_ret (f_then_ret ?_))
    exact f_fin2 (.tmp rfl) (.tmp rfl) (fun w h => ⟨rfl, below0 h.up⟩) rfl
  · skip
    obtain rfl : R = (0, 1) := by rw [← hp]; unfold addM; rw [show may s n = false by unfold may; simp <;> (try simp [h1]) <;> omega]; rfl
    refine d_reg ?_
    refine h_q hflS rfl ?_
    refine h_act (post := fun _ => []) rfl (a_call (ent_of Try.func22 (by kernel_rfl) rfl) (fun w hH => rright_any w s true h1) rfl rfl rfl) ?_; rintro ⟨⟩
    refine h_q hflS rfl ?_
    refine h_val rfl (.bool true) (fun b w hb hH => exec_cmp rfl rfl rfl (cmp_lss_t (by omega)) hb) ?_
    refine h_q hflS rfl ?_
    refine h_done (d_then rfl (d_reg ?_))
    refine h_q hflS rfl ?_
    refine h_done (d_ret (f_then_ret ?_))
    exact f_fin2 (.tmp rfl) (.tmp rfl) (fun w h => ⟨rfl, below0 h.up⟩) rfl
  · skip
    obtain rfl : R = (0, 1) := by rw [← hp]; unfold addM; rw [show may s n = false by unfold may; simp <;> (try simp [h1]) <;> omega]; rfl
    refine d_reg ?_
    refine h_q hflS rfl ?_
    refine h_act (post := fun _ => []) rfl (a_call (ent_of Try.func22 (by kernel_rfl) rfl) (fun w hH => rright_any w s true h1) rfl rfl rfl) ?_; rintro ⟨⟩
    refine h_q hflS rfl ?_
    refine h_val rfl (.bool false) (fun b w hb hH => exec_cmp rfl rfl rfl (cmp_lss_f (by omega)) hb) ?_
    refine h_q hflS rfl ?_
    refine h_val rfl (.bool true) (fun b w hb hH => exec_cmp rfl rfl rfl (cmp_gtr_t (by omega)) hb) ?_
    refine h_q hflS rfl ?_
    refine h_done (d_then rfl (d_reg ?_))
    refine h_q hflS rfl ?_
    refine h_done (d_ret (f_then_ret ?_))
    exact f_fin2 (.tmp rfl) (.tmp rfl) (fun w h => ⟨rfl, below0 h.up⟩) rfl
  · skip
    have hm : may s n = true := may_iff.2 ⟨h1, hn⟩
    obtain rfl : R = (0, 32) := by rw [← hp]; unfold addM; rw [hm, hb]; rfl
    refine d_reg ?_
    refine h_q hflS rfl ?_
    refine h_act (post := fun _ => []) rfl (a_call (ent_of Try.func22 (by kernel_rfl) rfl) (fun w hH => rright_any w s true h1) rfl rfl rfl) ?_; rintro ⟨⟩
    refine h_q hflS rfl ?_
    refine h_val rfl (.bool false) (fun b w hb hH => exec_cmp rfl rfl rfl (cmp_lss_f (by omega)) hb) ?_
    refine h_q hflS rfl ?_
    refine h_val rfl (.bool false) (fun b w hb hH => exec_cmp rfl rfl rfl (cmp_gtr_f (by omega)) hb) ?_
    refine h_q hflS rfl ?_
    refine h_done (d_else rfl (d_skip (f_to (d_seq (d_reg ?_)))))
    refine h_q hflS rfl ?_
    refine h_act (post := fun _ => []) rfl (a_call (ent_of Try.func24 (by kernel_rfl) rfl) (fun w hH => rhas_any w s n true hb) rfl rfl rfl) ?_; rintro ⟨⟩
    refine h_done (d_then rfl (d_reg ?_))
    refine h_q hflS rfl ?_
    refine h_done (d_ret (f_then_ret ?_))
    exact f_fin2 (.tmp rfl) (.tmp rfl) (fun w h => ⟨rfl, below0 h.up⟩) rfl
  · skip
    have hm : may s n = true := may_iff.2 ⟨h1, hn⟩
    have hs0 := rs_iff.1 h1
    obtain ⟨p, hpw⟩ : ∃ p : Int, 2 ^ n.toNat = p := ⟨_, rfl⟩
    have hp1 : 0 < p := by rw [← hpw]; exact Int.pow_pos (by decide)
    have hp2 : p ≤ 128 := by rw [← hpw]; exact pow7 hn
    obtain ⟨x, rfl, hx⟩ : ∃ x, R = (x, 0) ∧ s + p = x := ⟨_, by rw [← hp]; unfold addM; rw [hm, hb, hpw]; rfl, rfl⟩
    refine d_reg ?_
    refine h_q hflS rfl ?_
    refine h_act (post := fun _ => []) rfl (a_call (ent_of Try.func22 (by kernel_rfl) rfl) (fun w hH => rright_any w s true h1) rfl rfl rfl) ?_; rintro ⟨⟩
    refine h_q hflS rfl ?_
    refine h_val rfl (.bool false) (fun b w hb hH => exec_cmp rfl rfl rfl (cmp_lss_f (by omega)) hb) ?_
    refine h_q hflS rfl ?_
    refine h_val rfl (.bool false) (fun b w hb hH => exec_cmp rfl rfl rfl (cmp_gtr_f (by omega)) hb) ?_
    refine h_q hflS rfl ?_
    refine h_done (d_else rfl (d_skip (f_to (d_seq (d_reg ?_)))))
    refine h_q hflS rfl ?_
    refine h_act (post := fun _ => []) rfl (a_call (ent_of Try.func24 (by kernel_rfl) rfl) (fun w hH => rhas_any w s n false hb) rfl rfl rfl) ?_; rintro ⟨⟩
    refine h_done (d_else rfl (d_skip (f_to (d_reg ?_))))
    refine h_q hflS rfl ?_
    refine h_val rfl (.int .u64 n) (fun b w hb hH => exec_conv Try.underlying3 Try.underlying39 (IntWalk.u64_in _ (by omega)) rfl rfl hb) ?_
    refine h_val rfl (.int .i64 p) (fun b w hb hH => exec_shl7 hn hpw rfl rfl rfl hb) ?_
    refine h_val rfl (.int .i64 x) (fun b w hb hH => exec_ar rfl rfl rfl rfl ((IntWalk.i64_in _ (by omega)).trans hx) hb) ?_
    refine h_q hflS rfl ?_
    refine h_done (d_ret ?_)
    exact f_fin2 (.tmp rfl) (.tmp rfl) (fun w h => ⟨rfl, below0 h.up⟩) rfl

set_option maxRecDepth 100000 in
theorem rrem_any (w : World) (s : Int) (hs9 : -9223372036854775808 ≤ s ∧ s ≤ 9223372036854775807) (n : Int) (R : Int × Int) (hp : remM s n = R) : Calls Try.prog 28 #[.int .i64 s, .int .i64 n] w fun e w' => e = .returned (.tuple #[.int .i64 R.1, .int .i64 R.2]) ∧ Below w.heap.size w w' := by
  refine d_in (args := [.int .i64 s, .int .i64 n]) 33 Try.func28 rfl rfl rfl ?_
  refine d_reg ?_
  refine h_q hflS rfl ?_
  refine h_done (d_seq ?_)
  have hcs : rs s = false ∨ (rs s = true ∧ n < 1) ∨ (rs s = true ∧ 1 ≤ n ∧ 7 < n) ∨ (rs s = true ∧ (1 ≤ n ∧ n ≤ 7) ∧ hs s n = true) ∨ (rs s = true ∧ (1 ≤ n ∧ n ≤ 7) ∧ hs s n = false) := by cases rs s <;> cases hs s n <;> simp <;> omega
  rcases hcs with h1 | ⟨h1, h2⟩ | ⟨h1, h2, h3⟩ | ⟨h1, hn, hb⟩ | ⟨h1, hn, hb⟩
  · skip
    obtain rfl : R = (0, 1) := by rw [← hp]; unfold remM; rw [show may s n = false by unfold may; rw [h1]; rfl]; rfl
    refine d_reg ?_
    refine h_q hflS rfl ?_
    refine h_act (post := fun _ => []) rfl (a_call (ent_of Try.func22 (by kernel_rfl) rfl) (fun w hH => rright_any w s false h1) rfl rfl rfl) ?_; rintro ⟨⟩
    refine h_q hflS rfl ?_
    refine h_done (d_then rfl (d_reg ?_))
    refine h_q hflS rfl ?_
    refine h_done (d_ret (f_then_ret ?_))
    exact f_fin2 (.tmp rfl) (.tmp rfl) (fun w h => ⟨rfl, below0 h.up⟩) rfl
  · skip
    obtain rfl : R = (0, 1) := by rw [← hp]; unfold remM; rw [show may s n = false by unfold may; simp <;> (try simp [h1]) <;> omega]; rfl
    refine d_reg ?_
    refine h_q hflS rfl ?_
    refine h_act (post := fun _ => []) rfl (a_call (ent_of Try.func22 (by kernel_rfl) rfl) (fun w hH => rright_any w s true h1) rfl rfl rfl) ?_; rintro ⟨⟩
    refine h_q hflS rfl ?_
    refine h_val rfl (.bool true) (fun b w hb hH => exec_cmp rfl rfl rfl (cmp_lss_t (by omega)) hb) ?_
    refine h_q hflS rfl ?_
    refine h_done (d_then rfl (d_reg ?_))
    refine h_q hflS rfl ?_
    refine h_done (d_ret (f_then_ret ?_))
    exact f_fin2 (.tmp rfl) (.tmp rfl) (fun w h => ⟨rfl, below0 h.up⟩) rfl
  · skip
    obtain rfl : R = (0, 1) := by rw [← hp]; unfold remM; rw [show may s n = false by unfold may; simp <;> (try simp [h1]) <;> omega]; rfl
    refine d_reg ?_
    refine h_q hflS rfl ?_
    refine h_act (post := fun _ => []) rfl (a_call (ent_of Try.func22 (by kernel_rfl) rfl) (fun w hH => rright_any w s true h1) rfl rfl rfl) ?_; rintro ⟨⟩
    refine h_q hflS rfl ?_
    refine h_val rfl (.bool false) (fun b w hb hH => exec_cmp rfl rfl rfl (cmp_lss_f (by omega)) hb) ?_
    refine h_q hflS rfl ?_
    refine h_val rfl (.bool true) (fun b w hb hH => exec_cmp rfl rfl rfl (cmp_gtr_t (by omega)) hb) ?_
    refine h_q hflS rfl ?_
    refine h_done (d_then rfl (d_reg ?_))
    refine h_q hflS rfl ?_
    refine h_done (d_ret (f_then_ret ?_))
    exact f_fin2 (.tmp rfl) (.tmp rfl) (fun w h => ⟨rfl, below0 h.up⟩) rfl
  · skip
    have hm : may s n = true := may_iff.2 ⟨h1, hn⟩
    have hs0 := rs_iff.1 h1
    obtain ⟨p, hpw⟩ : ∃ p : Int, 2 ^ n.toNat = p := ⟨_, rfl⟩
    have hp1 : 0 < p := by rw [← hpw]; exact Int.pow_pos (by decide)
    have hp2 : p ≤ 128 := by rw [← hpw]; exact pow7 hn
    have hf := (rem_facts hb).2
    rw [hpw] at hf
    by_cases hc : cnt s = 1
    · skip
      have he := hf.1 hc
      obtain rfl : R = (0, 32) := by rw [← hp]; unfold remM; rw [hm, hb, hc]; rfl
      refine d_reg ?_
      refine h_q hflS rfl ?_
      refine h_act (post := fun _ => []) rfl (a_call (ent_of Try.func22 (by kernel_rfl) rfl) (fun w hH => rright_any w s true h1) rfl rfl rfl) ?_; rintro ⟨⟩
      refine h_q hflS rfl ?_
      refine h_val rfl (.bool false) (fun b w hb hH => exec_cmp rfl rfl rfl (cmp_lss_f (by omega)) hb) ?_
      refine h_q hflS rfl ?_
      refine h_val rfl (.bool false) (fun b w hb hH => exec_cmp rfl rfl rfl (cmp_gtr_f (by omega)) hb) ?_
      refine h_q hflS rfl ?_
      refine h_done (d_else rfl (d_skip (f_to (d_seq (d_reg ?_)))))
      refine h_q hflS rfl ?_
      refine h_act (post := fun _ => []) rfl (a_call (ent_of Try.func24 (by kernel_rfl) rfl) (fun w hH => rhas_any w s n true hb) rfl rfl rfl) ?_; rintro ⟨⟩
      refine h_q hflS rfl ?_
      refine h_val rfl (.int .u64 n) (fun b w hb hH => exec_conv Try.underlying3 Try.underlying39 (IntWalk.u64_in _ (by omega)) rfl rfl hb) ?_
      refine h_val rfl (.int .i64 p) (fun b w hb hH => exec_shl7 hn hpw rfl rfl rfl hb) ?_
      refine h_val rfl (.bool true) (fun b w hb hH => exec_cmp rfl rfl rfl (cmp_eql_t he) hb) ?_
      refine h_q hflS rfl ?_
      refine h_done (d_then rfl (d_reg ?_))
      refine h_q hflS rfl ?_
      refine h_done (d_ret (f_then_ret ?_))
      exact f_fin2 (.tmp rfl) (.tmp rfl) (fun w h => ⟨rfl, below0 h.up⟩) rfl
    · skip
      have he : s ≠ p := fun e => hc (hf.2 e)
      obtain ⟨x, rfl, hx⟩ : ∃ x, R = (x, 0) ∧ s - p = x := ⟨_, by rw [← hp]; unfold remM; rw [hm, hb, hpw]; simp [hc], rfl⟩
      refine d_reg ?_
      refine h_q hflS rfl ?_
      refine h_act (post := fun _ => []) rfl (a_call (ent_of Try.func22 (by kernel_rfl) rfl) (fun w hH => rright_any w s true h1) rfl rfl rfl) ?_; rintro ⟨⟩
      refine h_q hflS rfl ?_
      refine h_val rfl (.bool false) (fun b w hb hH => exec_cmp rfl rfl rfl (cmp_lss_f (by omega)) hb) ?_
      refine h_q hflS rfl ?_
      refine h_val rfl (.bool false) (fun b w hb hH => exec_cmp rfl rfl rfl (cmp_gtr_f (by omega)) hb) ?_
      refine h_q hflS rfl ?_
      refine h_done (d_else rfl (d_skip (f_to (d_seq (d_reg ?_)))))
      refine h_q hflS rfl ?_
      refine h_act (post := fun _ => []) rfl (a_call (ent_of Try.func24 (by kernel_rfl) rfl) (fun w hH => rhas_any w s n true hb) rfl rfl rfl) ?_; rintro ⟨⟩
      refine h_q hflS rfl ?_
      refine h_val rfl (.int .u64 n) (fun b w hb hH => exec_conv Try.underlying3 Try.underlying39 (IntWalk.u64_in _ (by omega)) rfl rfl hb) ?_
      refine h_val rfl (.int .i64 p) (fun b w hb hH => exec_shl7 hn hpw rfl rfl rfl hb) ?_
      refine h_val rfl (.bool false) (fun b w hb hH => exec_cmp rfl rfl rfl (cmp_eql_f he) hb) ?_
      refine h_q hflS rfl ?_
      refine h_done (d_else rfl (d_skip (f_to (d_reg ?_))))
      refine h_q hflS rfl ?_
      refine h_val rfl (.int .u64 n) (fun b w hb hH => exec_conv Try.underlying3 Try.underlying39 (IntWalk.u64_in _ (by omega)) rfl rfl hb) ?_
      refine h_val rfl (.int .i64 p) (fun b w hb hH => exec_shl7 hn hpw rfl rfl rfl hb) ?_
      refine h_val rfl (.int .i64 x) (fun b w hb hH => exec_ar rfl rfl rfl rfl ((IntWalk.i64_in _ (by omega)).trans hx) hb) ?_
      refine h_q hflS rfl ?_
      refine h_done (d_ret ?_)
      exact f_fin2 (.tmp rfl) (.tmp rfl) (fun w h => ⟨rfl, below0 h.up⟩) rfl
  · skip
    have hm : may s n = true := may_iff.2 ⟨h1, hn⟩
    obtain rfl : R = (0, 32) := by rw [← hp]; unfold remM; rw [hm, hb]; rfl
    refine d_reg ?_
    refine h_q hflS rfl ?_
    refine h_act (post := fun _ => []) rfl (a_call (ent_of Try.func22 (by kernel_rfl) rfl) (fun w hH => rright_any w s true h1) rfl rfl rfl) ?_; rintro ⟨⟩
    refine h_q hflS rfl ?_
    refine h_val rfl (.bool false) (fun b w hb hH => exec_cmp rfl rfl rfl (cmp_lss_f (by omega)) hb) ?_
    refine h_q hflS rfl ?_
    refine h_val rfl (.bool false) (fun b w hb hH => exec_cmp rfl rfl rfl (cmp_gtr_f (by omega)) hb) ?_
    refine h_q hflS rfl ?_
    refine h_done (d_else rfl (d_skip (f_to (d_seq (d_reg ?_)))))
    refine h_q hflS rfl ?_
    refine h_act (post := fun _ => []) rfl (a_call (ent_of Try.func24 (by kernel_rfl) rfl) (fun w hH => rhas_any w s n false hb) rfl rfl rfl) ?_; rintro ⟨⟩
    refine h_q hflS rfl ?_
    refine h_done (d_then rfl (d_reg ?_))
    refine h_q hflS rfl ?_
    refine h_done (d_ret (f_then_ret ?_))
    exact f_fin2 (.tmp rfl) (.tmp rfl) (fun w h => ⟨rfl, below0 h.up⟩) rfl
end Go.Proofs.Ytmcdjniebkfagaa.Sep
