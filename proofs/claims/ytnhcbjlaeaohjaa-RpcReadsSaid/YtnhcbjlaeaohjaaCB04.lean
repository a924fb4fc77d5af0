/-
  RpcA
-/
import Derived.Test.YtnhcbjlaeaohjaaCB01
import Derived.Test.YtnhcbjlaeaohjaaCB02
import Derived.Test.YtnhcbjlaeaohjaaCB03
set_option linter.unusedSimpArgs false
set_option linter.unusedVariables false

namespace Go.Proofs.Ytnhcbjlaeaohjaa.Sep
open Go.RowKit
open Go.Proofs.Ytnhcbjlaeaohjaa.Mem (Dist Blk Chg below0)

/-- a right set of nodes that is not empty -/
def memB (c : Int) : Bool := setB c && c != 0
/-- the program's fields of a kind -/
def fp (k : Int) : Nat := if k = 1 then 263 else if k = 2 then 289 else if k = 3 then 31 else if k = 4 then 35 else if k = 5 then 961 else if k = 6 then 193 else 0
theorem fp_lt (k : Int) : fp k < 1024 := by
  unfold fp
  repeat' split
  all_goals decide
theorem fp_off {k : Int} (h : ¬ (1 ≤ k ∧ k ≤ 6)) : fp k = 0 := by
  unfold fp
  repeat rw [if_neg (by omega)]
theorem kinds6 {k : Int} (h : 1 ≤ k ∧ k ≤ 6) : k = 1 ∨ k = 2 ∨ k = 3 ∨ k = 4 ∨ k = 5 ∨ k = 6 := by omega
theorem fp_zero (k : Int) : (fp k = 0 ↔ fm k = 0) := by
  by_cases h : 1 ≤ k ∧ k ≤ 6
  · rcases kinds6 h with rfl | rfl | rfl | rfl | rfl | rfl <;> decide
  · rw [fp_off h, fm_off h]
theorem and_i64' {p q : Nat} (hp : p < 1024) (hq : q < 1024) : bits .and .i64 (p : Int) (q : Int) = ((p &&& q : Nat) : Int) := by
  have e : ∀ z : Nat, z < 1024 → (BitVec.ofInt 64 (z : Int)).toNat = z := fun z hz => ofInt_u64 z (by omega)
  show IntKind.i64.wrap ((BitVec.ofInt 64 (p : Int) &&& BitVec.ofInt 64 (q : Int)).toNat : Int) = _
  rw [BitVec.toNat_and, e p hp, e q hq]
  have : p &&& q < 2 ^ 10 := Nat.and_lt_two_pow _ (by omega)
  rw [IntWalk.i64_in _ (by omega)]
theorem fp_index (k : Int) : wth (fp k) 2 = wth (fm k) 1 := by
  by_cases h : 1 ≤ k ∧ k ≤ 6
  · rcases kinds6 h with rfl | rfl | rfl | rfl | rfl | rfl <;> decide
  · rw [fp_off h, fm_off h]; rfl
theorem fp_logterm (k : Int) : wth (fp k) 4 = wth (fm k) 2 := by
  by_cases h : 1 ≤ k ∧ k ≤ 6
  · rcases kinds6 h with rfl | rfl | rfl | rfl | rfl | rfl <;> decide
  · rw [fp_off h, fm_off h]; rfl
theorem fp_commit (k : Int) : wth (fp k) 8 = wth (fm k) 4 := by
  by_cases h : 1 ≤ k ∧ k ≤ 6
  · rcases kinds6 h with rfl | rfl | rfl | rfl | rfl | rfl <;> decide
  · rw [fp_off h, fm_off h]; rfl
theorem fp_entries (k : Int) : wth (fp k) 16 = wth (fm k) 8 := by
  by_cases h : 1 ≤ k ∧ k ≤ 6
  · rcases kinds6 h with rfl | rfl | rfl | rfl | rfl | rfl <;> decide
  · rw [fp_off h, fm_off h]; rfl
theorem fp_refused (k : Int) : wth (fp k) 32 = wth (fm k) 16 := by
  by_cases h : 1 ≤ k ∧ k ≤ 6
  · rcases kinds6 h with rfl | rfl | rfl | rfl | rfl | rfl <;> decide
  · rw [fp_off h, fm_off h]; rfl
theorem fp_base (k : Int) : wth (fp k) 64 = wth (fm k) 32 := by
  by_cases h : 1 ≤ k ∧ k ≤ 6
  · rcases kinds6 h with rfl | rfl | rfl | rfl | rfl | rfl <;> decide
  · rw [fp_off h, fm_off h]; rfl
theorem fp_offset (k : Int) : wth (fp k) 128 = wth (fm k) 64 := by
  by_cases h : 1 ≤ k ∧ k ≤ 6
  · rcases kinds6 h with rfl | rfl | rfl | rfl | rfl | rfl <;> decide
  · rw [fp_off h, fm_off h]; rfl
theorem fp_last (k : Int) : wth (fp k) 256 = wth (fm k) 128 := by
  by_cases h : 1 ≤ k ∧ k ≤ 6
  · rcases kinds6 h with rfl | rfl | rfl | rfl | rfl | rfl <;> decide
  · rw [fp_off h, fm_off h]; rfl
theorem fp_data (k : Int) : wth (fp k) 512 = wth (fm k) 256 := by
  by_cases h : 1 ≤ k ∧ k ≤ 6
  · rcases kinds6 h with rfl | rfl | rfl | rfl | rfl | rfl <;> decide
  · rw [fp_off h, fm_off h]; rfl
theorem fp_term {k : Int} (h : fm k ≠ 0) : wth (fp k) 1 = true := by
  rcases fm_kinds h with rfl | rfl | rfl | rfl | rfl | rfl <;> decide

set_option maxRecDepth 100000 in
theorem number_r (w : World) (n : Int) (r : Bool) (hr : numB n = r) : Calls Try.prog 50 #[.int .u64 n] w fun e w' => e = .returned (.bool r) ∧ Below w.heap.size w w' := by
  refine d_in (args := [.int .u64 n]) 9 Try.func50 rfl rfl rfl ?_
  refine d_reg ?_
  refine h_q hflS rfl ?_
  refine h_done ?_
  have hc : n < 1 ∨ (1 ≤ n ∧ n ≤ 72057594037927935) ∨ 72057594037927935 < n := by omega
  rcases hc with h1 | ⟨h1, h2⟩ | h1
  · skip
    obtain rfl : r = false := by rw [← hr]; simp [numB]; omega
    refine d_reg ?_
    refine h_q hflS rfl ?_
    refine h_val rfl (.bool false) (fun b w hb hH => exec_cmp rfl rfl rfl (cmp_geq_f (by omega)) hb) ?_
    refine h_q hflS rfl ?_
    refine h_done (d_ret ?_)
    exact f_fin1 (.tmp rfl) (fun w h => ⟨rfl, below0 h.up⟩) rfl
  · skip
    obtain rfl : r = true := by rw [← hr]; simp [numB]; omega
    refine d_reg ?_
    refine h_q hflS rfl ?_
    refine h_val rfl (.bool true) (fun b w hb hH => exec_cmp rfl rfl rfl (cmp_geq_t (by omega)) hb) ?_
    refine h_q hflS rfl ?_
    refine h_val rfl (.bool true) (fun b w hb hH => exec_cmp rfl rfl rfl (cmp_leq_t (by omega)) hb) ?_
    refine h_q hflS rfl ?_
    refine h_done (d_ret ?_)
    exact f_fin1 (.tmp rfl) (fun w h => ⟨rfl, below0 h.up⟩) rfl
  · skip
    obtain rfl : r = false := by rw [← hr]; simp [numB]; omega
    refine d_reg ?_
    refine h_q hflS rfl ?_
    refine h_val rfl (.bool true) (fun b w hb hH => exec_cmp rfl rfl rfl (cmp_geq_t (by omega)) hb) ?_
    refine h_q hflS rfl ?_
    refine h_val rfl (.bool false) (fun b w hb hH => exec_cmp rfl rfl rfl (cmp_leq_f (by omega)) hb) ?_
    refine h_q hflS rfl ?_
    refine h_done (d_ret ?_)
    exact f_fin1 (.tmp rfl) (fun w h => ⟨rfl, below0 h.up⟩) rfl

set_option maxRecDepth 100000 in
theorem node_any (w : World) (n : Int) (r : Bool) (hr : nodeB n = r) : Calls Try.prog 47 #[.int .i64 n] w fun e w' => e = .returned (.bool r) ∧ Below w.heap.size w w' := by
  refine d_in (args := [.int .i64 n]) 9 Try.func47 rfl rfl rfl ?_
  refine d_reg ?_
  refine h_q hflS rfl ?_
  refine h_done ?_
  have hc : n < 1 ∨ (1 ≤ n ∧ n ≤ 7) ∨ 7 < n := by omega
  rcases hc with h1 | ⟨h1, h2⟩ | h1
  · skip
    obtain rfl : r = false := by rw [← hr]; simp [nodeB]; omega
    refine d_reg ?_
    refine h_q hflS rfl ?_
    refine h_val rfl (.bool false) (fun b w hb hH => exec_cmp rfl rfl rfl (cmp_geq_f (by omega)) hb) ?_
    refine h_q hflS rfl ?_
    refine h_done (d_ret ?_)
    exact f_fin1 (.tmp rfl) (fun w h => ⟨rfl, below0 h.up⟩) rfl
  · skip
    obtain rfl : r = true := by rw [← hr]; simp [nodeB]; omega
    refine d_reg ?_
    refine h_q hflS rfl ?_
    refine h_val rfl (.bool true) (fun b w hb hH => exec_cmp rfl rfl rfl (cmp_geq_t (by omega)) hb) ?_
    refine h_q hflS rfl ?_
    refine h_val rfl (.bool true) (fun b w hb hH => exec_cmp rfl rfl rfl (cmp_leq_t (by omega)) hb) ?_
    refine h_q hflS rfl ?_
    refine h_done (d_ret ?_)
    exact f_fin1 (.tmp rfl) (fun w h => ⟨rfl, below0 h.up⟩) rfl
  · skip
    obtain rfl : r = false := by rw [← hr]; simp [nodeB]; omega
    refine d_reg ?_
    refine h_q hflS rfl ?_
    refine h_val rfl (.bool true) (fun b w hb hH => exec_cmp rfl rfl rfl (cmp_geq_t (by omega)) hb) ?_
    refine h_q hflS rfl ?_
    refine h_val rfl (.bool false) (fun b w hb hH => exec_cmp rfl rfl rfl (cmp_leq_f (by omega)) hb) ?_
    refine h_q hflS rfl ?_
    refine h_done (d_ret ?_)
    exact f_fin1 (.tmp rfl) (fun w h => ⟨rfl, below0 h.up⟩) rfl

set_option maxRecDepth 100000 in
theorem members_any (w : World) (c : Int) (r : Bool) (hr : memB c = r) : Calls Try.prog 53 #[.int .i64 c] w fun e w' => e = .returned (.bool r) ∧ Below w.heap.size w w' := by
  refine d_in (args := [.int .i64 c]) 14 Try.func53 rfl rfl rfl ?_
  refine d_reg ?_
  refine h_q hflS rfl ?_
  refine h_done ?_
  have hc : c < 1 ∨ (1 ≤ c ∧ c ≤ 254 ∧ c % 2 = 0) ∨ (1 ≤ c ∧ c ≤ 254 ∧ c % 2 ≠ 0) ∨ 254 < c := by omega
  rcases hc with h1 | ⟨h1, h2, h3⟩ | ⟨h1, h2, h3⟩ | h1
  · skip
    obtain rfl : r = false := by rw [← hr]; simp [memB, setB]; omega
    refine d_reg ?_
    refine h_q hflS rfl ?_
    refine h_val rfl (.bool false) (fun b w hb hH => exec_cmp rfl rfl rfl (cmp_geq_f (by omega)) hb) ?_
    refine h_q hflS rfl ?_
    refine h_done (d_ret ?_)
    exact f_fin1 (.tmp rfl) (fun w h => ⟨rfl, below0 h.up⟩) rfl
  · skip
    obtain rfl : r = true := by rw [← hr]; simp [memB, setB]; omega
    refine d_reg ?_
    refine h_q hflS rfl ?_
    refine h_val rfl (.bool true) (fun b w hb hH => exec_cmp rfl rfl rfl (cmp_geq_t (by omega)) hb) ?_
    refine h_q hflS rfl ?_
    refine h_val rfl (.bool true) (fun b w hb hH => exec_cmp rfl rfl rfl (cmp_leq_t (by omega)) hb) ?_
    refine h_q hflS rfl ?_
    refine h_val rfl (.int .i64 (c % 2)) (fun b w hb hH => exec_remI rfl rfl rfl (by decide) (Int.tmod_eq_emod_of_nonneg (by omega)) hb) ?_
    refine h_val rfl (.bool true) (fun b w hb hH => exec_cmp rfl rfl rfl (cmp_eql_t h3) hb) ?_
    refine h_q hflS rfl ?_
    refine h_done (d_ret ?_)
    exact f_fin1 (.tmp rfl) (fun w h => ⟨rfl, below0 h.up⟩) rfl
  · skip
    obtain rfl : r = false := by rw [← hr]; simp [memB, setB]; omega
    refine d_reg ?_
    refine h_q hflS rfl ?_
    refine h_val rfl (.bool true) (fun b w hb hH => exec_cmp rfl rfl rfl (cmp_geq_t (by omega)) hb) ?_
    refine h_q hflS rfl ?_
    refine h_val rfl (.bool true) (fun b w hb hH => exec_cmp rfl rfl rfl (cmp_leq_t (by omega)) hb) ?_
    refine h_q hflS rfl ?_
    refine h_val rfl (.int .i64 (c % 2)) (fun b w hb hH => exec_remI rfl rfl rfl (by decide) (Int.tmod_eq_emod_of_nonneg (by omega)) hb) ?_
    refine h_val rfl (.bool false) (fun b w hb hH => exec_cmp rfl rfl rfl (cmp_eql_f h3) hb) ?_
    refine h_q hflS rfl ?_
    refine h_done (d_ret ?_)
    exact f_fin1 (.tmp rfl) (fun w h => ⟨rfl, below0 h.up⟩) rfl
  · skip
    obtain rfl : r = false := by rw [← hr]; simp [memB, setB]; omega
    refine d_reg ?_
    refine h_q hflS rfl ?_
    refine h_val rfl (.bool true) (fun b w hb hH => exec_cmp rfl rfl rfl (cmp_geq_t (by omega)) hb) ?_
    refine h_q hflS rfl ?_
    refine h_val rfl (.bool false) (fun b w hb hH => exec_cmp rfl rfl rfl (cmp_leq_f (by omega)) hb) ?_
    refine h_q hflS rfl ?_
    refine h_done (d_ret ?_)
    exact f_fin1 (.tmp rfl) (fun w h => ⟨rfl, below0 h.up⟩) rfl

set_option maxRecDepth 100000 in
theorem rset_any (w : World) (c : Int) (r : Bool) (hr : setB c = r) : Calls Try.prog 58 #[.int .i64 c] w fun e w' => e = .returned (.bool r) ∧ Below w.heap.size w w' := by
  refine d_in (args := [.int .i64 c]) 14 Try.func58 rfl rfl rfl ?_
  refine d_reg ?_
  refine h_q hflS rfl ?_
  refine h_done ?_
  have hc : c < 0 ∨ (0 ≤ c ∧ c ≤ 254 ∧ c % 2 = 0) ∨ (0 ≤ c ∧ c ≤ 254 ∧ c % 2 ≠ 0) ∨ 254 < c := by omega
  rcases hc with h1 | ⟨h1, h2, h3⟩ | ⟨h1, h2, h3⟩ | h1
  · skip
    obtain rfl : r = false := by rw [← hr]; simp [memB, setB]; omega
    refine d_reg ?_
    refine h_q hflS rfl ?_
    refine h_val rfl (.bool false) (fun b w hb hH => exec_cmp rfl rfl rfl (cmp_geq_f (by omega)) hb) ?_
    refine h_q hflS rfl ?_
    refine h_done (d_ret ?_)
    exact f_fin1 (.tmp rfl) (fun w h => ⟨rfl, below0 h.up⟩) rfl
  · skip
    obtain rfl : r = true := by rw [← hr]; simp [memB, setB]; omega
    refine d_reg ?_
    refine h_q hflS rfl ?_
    refine h_val rfl (.bool true) (fun b w hb hH => exec_cmp rfl rfl rfl (cmp_geq_t (by omega)) hb) ?_
    refine h_q hflS rfl ?_
    refine h_val rfl (.bool true) (fun b w hb hH => exec_cmp rfl rfl rfl (cmp_leq_t (by omega)) hb) ?_
    refine h_q hflS rfl ?_
    refine h_val rfl (.int .i64 (c % 2)) (fun b w hb hH => exec_remI rfl rfl rfl (by decide) (Int.tmod_eq_emod_of_nonneg (by omega)) hb) ?_
    refine h_val rfl (.bool true) (fun b w hb hH => exec_cmp rfl rfl rfl (cmp_eql_t h3) hb) ?_
    refine h_q hflS rfl ?_
    refine h_done (d_ret ?_)
    exact f_fin1 (.tmp rfl) (fun w h => ⟨rfl, below0 h.up⟩) rfl
  · skip
    obtain rfl : r = false := by rw [← hr]; simp [memB, setB]; omega
    refine d_reg ?_
    refine h_q hflS rfl ?_
    refine h_val rfl (.bool true) (fun b w hb hH => exec_cmp rfl rfl rfl (cmp_geq_t (by omega)) hb) ?_
    refine h_q hflS rfl ?_
    refine h_val rfl (.bool true) (fun b w hb hH => exec_cmp rfl rfl rfl (cmp_leq_t (by omega)) hb) ?_
    refine h_q hflS rfl ?_
    refine h_val rfl (.int .i64 (c % 2)) (fun b w hb hH => exec_remI rfl rfl rfl (by decide) (Int.tmod_eq_emod_of_nonneg (by omega)) hb) ?_
    refine h_val rfl (.bool false) (fun b w hb hH => exec_cmp rfl rfl rfl (cmp_eql_f h3) hb) ?_
    refine h_q hflS rfl ?_
    refine h_done (d_ret ?_)
    exact f_fin1 (.tmp rfl) (fun w h => ⟨rfl, below0 h.up⟩) rfl
  · skip
    obtain rfl : r = false := by rw [← hr]; simp [memB, setB]; omega
    refine d_reg ?_
    refine h_q hflS rfl ?_
    refine h_val rfl (.bool true) (fun b w hb hH => exec_cmp rfl rfl rfl (cmp_geq_t (by omega)) hb) ?_
    refine h_q hflS rfl ?_
    refine h_val rfl (.bool false) (fun b w hb hH => exec_cmp rfl rfl rfl (cmp_leq_f (by omega)) hb) ?_
    refine h_q hflS rfl ?_
    refine h_done (d_ret ?_)
    exact f_fin1 (.tmp rfl) (fun w h => ⟨rfl, below0 h.up⟩) rfl

set_option maxRecDepth 100000 in
theorem may_r (w : World) (has right zero r : Bool) (hr : mayB has right zero = r) : Calls Try.prog 48 #[.bool has, .bool right, .bool zero] w fun e w' => e = .returned (.bool r) ∧ Below w.heap.size w w' := by
  refine d_in (args := [.bool has, .bool right, .bool zero]) 10 Try.func48 rfl rfl rfl ?_
  refine d_reg ?_
  refine h_q hflS rfl ?_
  refine h_done (d_seq ?_)
  cases has
  · skip
    obtain rfl : zero = r := hr
    refine d_reg ?_
    refine h_q hflS rfl ?_
    refine h_done (d_else rfl (d_skip (f_to (d_reg ?_))))
    refine h_q hflS rfl ?_
    refine h_done (d_ret ?_)
    exact f_fin1 (.tmp rfl) (fun w h => ⟨rfl, below0 h.up⟩) rfl
  · skip
    obtain rfl : right = r := hr
    refine d_reg ?_
    refine h_q hflS rfl ?_
    refine h_done (d_then rfl (d_reg ?_))
    refine h_q hflS rfl ?_
    refine h_done (d_ret (f_then_ret ?_))
    exact f_fin1 (.tmp rfl) (fun w h => ⟨rfl, below0 h.up⟩) rfl

set_option maxRecDepth 100000 in
theorem with_r (w : World) (h f : Nat) (hh : h < 1024) (hf : f < 1024) (r : Bool) (hr : wth h f = r) : Calls Try.prog 49 #[.int .i64 (h : Int), .int .i64 (f : Int)] w fun e w' => e = .returned (.bool r) ∧ Below w.heap.size w w' := by
  refine d_in (args := [.int .i64 (h : Int), .int .i64 (f : Int)]) 9 Try.func49 rfl rfl rfl ?_
  refine d_reg ?_
  refine h_q hflS rfl ?_
  refine h_done ?_
  rcases Nat.eq_zero_or_pos (h &&& f) with h0 | h0
  · skip
    obtain rfl : r = false := by rw [← hr]; simp [wth, h0]
    refine d_reg ?_
    refine h_q hflS rfl ?_
    refine h_val rfl (.int .i64 ((h &&& f : Nat) : Int)) (fun b w hb hH => exec_and (and_i64' hh hf) rfl rfl rfl hb) ?_
    refine h_val rfl (.bool false) (fun b w hb hH => exec_cmp rfl rfl rfl (cmp_neq_f (by rw [h0]; rfl)) hb) ?_
    refine h_q hflS rfl ?_
    refine h_done (d_ret ?_)
    exact f_fin1 (.tmp rfl) (fun w h => ⟨rfl, below0 h.up⟩) rfl
  · skip
    obtain rfl : r = true := by rw [← hr]; simp [wth]; omega
    refine d_reg ?_
    refine h_q hflS rfl ?_
    refine h_val rfl (.int .i64 ((h &&& f : Nat) : Int)) (fun b w hb hH => exec_and (and_i64' hh hf) rfl rfl rfl hb) ?_
    refine h_val rfl (.bool true) (fun b w hb hH => exec_cmp rfl rfl rfl (cmp_neq_t (by omega)) hb) ?_
    refine h_q hflS rfl ?_
    refine h_done (d_ret ?_)
    exact f_fin1 (.tmp rfl) (fun w h => ⟨rfl, below0 h.up⟩) rfl

set_option maxRecDepth 100000 in
theorem fields_any (w : World) (k : Int) (h : Nat) (hh : fp k = h) : Calls Try.prog 37 #[.int .i64 k] w fun e w' => e = .returned (.int .i64 (h : Int)) ∧ Below w.heap.size w w' := by
  refine d_in (args := [.int .i64 k]) 29 Try.func37 rfl rfl rfl ?_
  refine d_reg ?_
  refine h_q hflS rfl ?_
  refine h_done (d_seq (d_reg ?_))
  refine h_q hflS rfl ?_
  refine h_done (d_block (d_seq (d_block (d_seq (d_block (d_seq (d_block (d_seq (d_block (d_seq (d_block (d_seq (d_block (d_seq (d_seq ?_)))))))))))))))
  have hk : k = 1 ∨ k = 2 ∨ k = 3 ∨ k = 4 ∨ k = 5 ∨ k = 6 ∨ ¬ (1 ≤ k ∧ k ≤ 6) := by omega
  rcases hk with rfl | rfl | rfl | rfl | rfl | rfl | hk
  · skip
    obtain rfl : h = 263 := hh.symm.trans rfl
    refine d_reg ?_
    refine h_q hflS rfl ?_
    refine h_val rfl (.bool true) (fun b w hb hH => exec_cmp rfl rfl rfl (cmp_eql_t (by decide)) hb) ?_
    refine h_q hflS rfl ?_
    refine h_done (d_then rfl (d_exit (f_then_exit (f_then_exit (f_block_exit (f_to (d_reg ?_)))))))
    refine h_q hflS rfl ?_
    refine h_val rfl (.int .i64 263) (fun b w hb hH => exec_or (by decide) rfl rfl rfl hb) ?_
    refine h_q hflS rfl ?_
    refine h_done (d_exit (f_block_other (by decide) (f_then_exit (f_block_other (by decide) (f_then_exit (f_block_other (by decide) (f_then_exit (f_block_other (by decide) (f_then_exit (f_block_other (by decide) (f_then_exit (f_block_exit (f_to (d_reg ?_))))))))))))))
    refine h_q hflS rfl ?_
    refine h_done (d_ret ?_)
    exact f_fin1 (.tmp rfl) (fun w h => ⟨rfl, below0 h.up⟩) rfl
  · skip
    obtain rfl : h = 289 := hh.symm.trans rfl
    refine d_reg ?_
    refine h_q hflS rfl ?_
    refine h_val rfl (.bool false) (fun b w hb hH => exec_cmp rfl rfl rfl (cmp_eql_f (by decide)) hb) ?_
    refine h_q hflS rfl ?_
    refine h_done (d_else rfl (d_skip (f_to (d_seq (d_reg ?_)))))
    refine h_q hflS rfl ?_
    refine h_val rfl (.bool true) (fun b w hb hH => exec_cmp rfl rfl rfl (cmp_eql_t (by decide)) hb) ?_
    refine h_q hflS rfl ?_
    refine h_done (d_then rfl (d_exit (f_then_exit (f_then_exit (f_block_other (by decide) (f_then_exit (f_block_exit (f_to (d_reg ?_)))))))))
    refine h_q hflS rfl ?_
    refine h_val rfl (.int .i64 289) (fun b w hb hH => exec_or (by decide) rfl rfl rfl hb) ?_
    refine h_q hflS rfl ?_
    refine h_done (d_exit (f_block_other (by decide) (f_then_exit (f_block_other (by decide) (f_then_exit (f_block_other (by decide) (f_then_exit (f_block_other (by decide) (f_then_exit (f_block_exit (f_to (d_reg ?_))))))))))))
    refine h_q hflS rfl ?_
    refine h_done (d_ret ?_)
    exact f_fin1 (.tmp rfl) (fun w h => ⟨rfl, below0 h.up⟩) rfl
  · skip
    obtain rfl : h = 31 := hh.symm.trans rfl
    refine d_reg ?_
    refine h_q hflS rfl ?_
    refine h_val rfl (.bool false) (fun b w hb hH => exec_cmp rfl rfl rfl (cmp_eql_f (by decide)) hb) ?_
    refine h_q hflS rfl ?_
    refine h_done (d_else rfl (d_skip (f_to (d_seq (d_reg ?_)))))
    refine h_q hflS rfl ?_
    refine h_val rfl (.bool false) (fun b w hb hH => exec_cmp rfl rfl rfl (cmp_eql_f (by decide)) hb) ?_
    refine h_q hflS rfl ?_
    refine h_done (d_else rfl (d_skip (f_to (d_seq (d_reg ?_)))))
    refine h_q hflS rfl ?_
    refine h_val rfl (.bool true) (fun b w hb hH => exec_cmp rfl rfl rfl (cmp_eql_t (by decide)) hb) ?_
    refine h_q hflS rfl ?_
    refine h_done (d_then rfl (d_exit (f_then_exit (f_then_exit (f_block_other (by decide) (f_then_exit (f_block_other (by decide) (f_then_exit (f_block_exit (f_to (d_reg ?_)))))))))))
    refine h_q hflS rfl ?_
    refine h_val rfl (.int .i64 31) (fun b w hb hH => exec_or (by decide) rfl rfl rfl hb) ?_
    refine h_q hflS rfl ?_
    refine h_done (d_exit (f_block_other (by decide) (f_then_exit (f_block_other (by decide) (f_then_exit (f_block_other (by decide) (f_then_exit (f_block_exit (f_to (d_reg ?_))))))))))
    refine h_q hflS rfl ?_
    refine h_done (d_ret ?_)
    exact f_fin1 (.tmp rfl) (fun w h => ⟨rfl, below0 h.up⟩) rfl
  · skip
    obtain rfl : h = 35 := hh.symm.trans rfl
    refine d_reg ?_
    refine h_q hflS rfl ?_
    refine h_val rfl (.bool false) (fun b w hb hH => exec_cmp rfl rfl rfl (cmp_eql_f (by decide)) hb) ?_
    refine h_q hflS rfl ?_
    refine h_done (d_else rfl (d_skip (f_to (d_seq (d_reg ?_)))))
    refine h_q hflS rfl ?_
    refine h_val rfl (.bool false) (fun b w hb hH => exec_cmp rfl rfl rfl (cmp_eql_f (by decide)) hb) ?_
    refine h_q hflS rfl ?_
    refine h_done (d_else rfl (d_skip (f_to (d_seq (d_reg ?_)))))
    refine h_q hflS rfl ?_
    refine h_val rfl (.bool false) (fun b w hb hH => exec_cmp rfl rfl rfl (cmp_eql_f (by decide)) hb) ?_
    refine h_q hflS rfl ?_
    refine h_done (d_else rfl (d_skip (f_to (d_seq (d_reg ?_)))))
    refine h_q hflS rfl ?_
    refine h_val rfl (.bool true) (fun b w hb hH => exec_cmp rfl rfl rfl (cmp_eql_t (by decide)) hb) ?_
    refine h_q hflS rfl ?_
    refine h_done (d_then rfl (d_exit (f_then_exit (f_then_exit (f_block_other (by decide) (f_then_exit (f_block_other (by decide) (f_then_exit (f_block_other (by decide) (f_then_exit (f_block_exit (f_to (d_reg ?_)))))))))))))
    refine h_q hflS rfl ?_
    refine h_val rfl (.int .i64 35) (fun b w hb hH => exec_or (by decide) rfl rfl rfl hb) ?_
    refine h_q hflS rfl ?_
    refine h_done (d_exit (f_block_other (by decide) (f_then_exit (f_block_other (by decide) (f_then_exit (f_block_exit (f_to (d_reg ?_))))))))
    refine h_q hflS rfl ?_
    refine h_done (d_ret ?_)
    exact f_fin1 (.tmp rfl) (fun w h => ⟨rfl, below0 h.up⟩) rfl
  · skip
    obtain rfl : h = 961 := hh.symm.trans rfl
    refine d_reg ?_
    refine h_q hflS rfl ?_
    refine h_val rfl (.bool false) (fun b w hb hH => exec_cmp rfl rfl rfl (cmp_eql_f (by decide)) hb) ?_
    refine h_q hflS rfl ?_
    refine h_done (d_else rfl (d_skip (f_to (d_seq (d_reg ?_)))))
    refine h_q hflS rfl ?_
    refine h_val rfl (.bool false) (fun b w hb hH => exec_cmp rfl rfl rfl (cmp_eql_f (by decide)) hb) ?_
    refine h_q hflS rfl ?_
    refine h_done (d_else rfl (d_skip (f_to (d_seq (d_reg ?_)))))
    refine h_q hflS rfl ?_
    refine h_val rfl (.bool false) (fun b w hb hH => exec_cmp rfl rfl rfl (cmp_eql_f (by decide)) hb) ?_
    refine h_q hflS rfl ?_
    refine h_done (d_else rfl (d_skip (f_to (d_seq (d_reg ?_)))))
    refine h_q hflS rfl ?_
    refine h_val rfl (.bool false) (fun b w hb hH => exec_cmp rfl rfl rfl (cmp_eql_f (by decide)) hb) ?_
    refine h_q hflS rfl ?_
    refine h_done (d_else rfl (d_skip (f_to (d_seq (d_reg ?_)))))
    refine h_q hflS rfl ?_
    refine h_val rfl (.bool true) (fun b w hb hH => exec_cmp rfl rfl rfl (cmp_eql_t (by decide)) hb) ?_
    refine h_q hflS rfl ?_
    refine h_done (d_then rfl (d_exit (f_then_exit (f_then_exit (f_block_other (by decide) (f_then_exit (f_block_other (by decide) (f_then_exit (f_block_other (by decide) (f_then_exit (f_block_other (by decide) (f_then_exit (f_block_exit (f_to (d_reg1 ?_)))))))))))))))
    refine h_q hflS rfl ?_
    refine h_val rfl (.int .i64 768) (fun b w hb hH => exec_or (by decide) rfl rfl rfl hb) ?_
    refine h_q hflS rfl ?_
    refine h_nil (f_block (f_to (d_reg ?_)))
    refine h_q hflS rfl ?_
    refine h_val rfl (.int .i64 961) (fun b w hb hH => exec_or (by decide) rfl rfl rfl hb) ?_
    refine h_q hflS rfl ?_
    refine h_done (d_exit (f_block_exit (f_to (d_reg ?_))))
    refine h_q hflS rfl ?_
    refine h_done (d_ret ?_)
    exact f_fin1 (.tmp rfl) (fun w h => ⟨rfl, below0 h.up⟩) rfl
  · skip
    obtain rfl : h = 193 := hh.symm.trans rfl
    refine d_reg ?_
    refine h_q hflS rfl ?_
    refine h_val rfl (.bool false) (fun b w hb hH => exec_cmp rfl rfl rfl (cmp_eql_f (by decide)) hb) ?_
    refine h_q hflS rfl ?_
    refine h_done (d_else rfl (d_skip (f_to (d_seq (d_reg ?_)))))
    refine h_q hflS rfl ?_
    refine h_val rfl (.bool false) (fun b w hb hH => exec_cmp rfl rfl rfl (cmp_eql_f (by decide)) hb) ?_
    refine h_q hflS rfl ?_
    refine h_done (d_else rfl (d_skip (f_to (d_seq (d_reg ?_)))))
    refine h_q hflS rfl ?_
    refine h_val rfl (.bool false) (fun b w hb hH => exec_cmp rfl rfl rfl (cmp_eql_f (by decide)) hb) ?_
    refine h_q hflS rfl ?_
    refine h_done (d_else rfl (d_skip (f_to (d_seq (d_reg ?_)))))
    refine h_q hflS rfl ?_
    refine h_val rfl (.bool false) (fun b w hb hH => exec_cmp rfl rfl rfl (cmp_eql_f (by decide)) hb) ?_
    refine h_q hflS rfl ?_
    refine h_done (d_else rfl (d_skip (f_to (d_seq (d_reg ?_)))))
    refine h_q hflS rfl ?_
    refine h_val rfl (.bool false) (fun b w hb hH => exec_cmp rfl rfl rfl (cmp_eql_f (by decide)) hb) ?_
    refine h_q hflS rfl ?_
    refine h_done (d_else rfl (d_skip (f_to (d_reg ?_))))
    refine h_q hflS rfl ?_
    refine h_val rfl (.bool true) (fun b w hb hH => exec_cmp rfl rfl rfl (cmp_eql_t (by decide)) hb) ?_
    refine h_q hflS rfl ?_
    refine h_done (d_then rfl (d_exit (f_then_exit (f_block_other (by decide) (f_then_exit (f_block_other (by decide) (f_then_exit (f_block_other (by decide) (f_then_exit (f_block_other (by decide) (f_then_exit (f_block_other (by decide) (f_then_exit (f_block_exit (f_to (d_reg ?_))))))))))))))))
    refine h_q hflS rfl ?_
    refine h_val rfl (.int .i64 193) (fun b w hb hH => exec_or (by decide) rfl rfl rfl hb) ?_
    refine h_q hflS rfl ?_
    refine h_done (d_exit (f_block_exit (f_to (d_reg ?_))))
    refine h_q hflS rfl ?_
    refine h_done (d_ret ?_)
    exact f_fin1 (.tmp rfl) (fun w h => ⟨rfl, below0 h.up⟩) rfl
  · skip
    obtain rfl : h = 0 := by rw [← hh]; exact fp_off (by omega)
    refine d_reg ?_
    refine h_q hflS rfl ?_
    refine h_val rfl (.bool false) (fun b w hb hH => exec_cmp rfl rfl rfl (cmp_eql_f (by omega)) hb) ?_
    refine h_q hflS rfl ?_
    refine h_done (d_else rfl (d_skip (f_to (d_seq (d_reg ?_)))))
    refine h_q hflS rfl ?_
    refine h_val rfl (.bool false) (fun b w hb hH => exec_cmp rfl rfl rfl (cmp_eql_f (by omega)) hb) ?_
    refine h_q hflS rfl ?_
    refine h_done (d_else rfl (d_skip (f_to (d_seq (d_reg ?_)))))
    refine h_q hflS rfl ?_
    refine h_val rfl (.bool false) (fun b w hb hH => exec_cmp rfl rfl rfl (cmp_eql_f (by omega)) hb) ?_
    refine h_q hflS rfl ?_
    refine h_done (d_else rfl (d_skip (f_to (d_seq (d_reg ?_)))))
    refine h_q hflS rfl ?_
    refine h_val rfl (.bool false) (fun b w hb hH => exec_cmp rfl rfl rfl (cmp_eql_f (by omega)) hb) ?_
    refine h_q hflS rfl ?_
    refine h_done (d_else rfl (d_skip (f_to (d_seq (d_reg ?_)))))
    refine h_q hflS rfl ?_
    refine h_val rfl (.bool false) (fun b w hb hH => exec_cmp rfl rfl rfl (cmp_eql_f (by omega)) hb) ?_
    refine h_q hflS rfl ?_
    refine h_done (d_else rfl (d_skip (f_to (d_reg ?_))))
    refine h_q hflS rfl ?_
    refine h_val rfl (.bool false) (fun b w hb hH => exec_cmp rfl rfl rfl (cmp_eql_f (by omega)) hb) ?_
    refine h_q hflS rfl ?_
    refine h_done (d_else rfl (d_skip (f_to (d_exit (f_block_other (by decide) (f_then_exit (f_block_other (by decide) (f_then_exit (f_block_other (by decide) (f_then_exit (f_block_other (by decide) (f_then_exit (f_block_other (by decide) (f_then_exit (f_block_other (by decide) (f_then_exit (f_block_exit (f_to (d_reg ?_)))))))))))))))))))
    refine h_q hflS rfl ?_
    refine h_done (d_ret ?_)
    exact f_fin1 (.tmp rfl) (fun w h => ⟨rfl, below0 h.up⟩) rfl

set_option maxRecDepth 100000 in
theorem rightE_any (w : World) (x : EntV) (hv : Sl8 w x.v x.e.d) (r : Bool) (hr : rightE x.e = r) : Calls Try.prog 20 #[.agg #[.int .i64 x.e.k, .int .u64 x.e.t, .int .u64 x.e.i, x.v, .int .i64 x.e.c]] w fun e w' => e = .returned (.bool r) ∧ Below w.heap.size w w' := by
  obtain ⟨v1, hv1⟩ : ∃ v1, numB x.e.t = v1 := ⟨_, rfl⟩
  obtain ⟨v2, hv2⟩ : ∃ v2, numB x.e.i = v2 := ⟨_, rfl⟩
  obtain ⟨v3, hv3⟩ : ∃ v3, kindE x.e = v3 := ⟨_, rfl⟩
  have hR : (v1 && (v2 && v3)) = r := by rw [← hr]; unfold rightE; rw [hv1, hv2, hv3]
  refine d_in (args := [.agg #[.int .i64 x.e.k, .int .u64 x.e.t, .int .u64 x.e.i, x.v, .int .i64 x.e.c]]) 54 Try.func20 rfl rfl rfl ?_
  refine d_reg ?_
  refine h_q hflS rfl ?_
  refine h_act (post := fun gx => [cell gx 36 #[.int .i64 x.e.k, .int .u64 x.e.t, .int .u64 x.e.i, x.v, .int .i64 x.e.c]]) rfl (a_box (cs := #[.int .i64 x.e.k, .int .u64 x.e.t, .int .u64 x.e.i, x.v, .int .i64 x.e.c]) rfl rfl rfl) ?_; rintro gx
  refine h_q hflS rfl ?_
  refine h_done (d_seq ?_)
  cases v1
  · skip
    obtain rfl : r = false := by rw [← hR]; rfl
    refine d_reg ?_
    refine h_q hflS rfl ?_
    refine h_val rfl (.int .u64 x.e.t) (fun b w hb hH => exec_load rfl rfl (reads_one ty_uint64 rfl) (hH.row 0 rfl) hb) ?_
    refine h_act (post := fun _ => [cell gx 36 #[.int .i64 x.e.k, .int .u64 x.e.t, .int .u64 x.e.i, x.v, .int .i64 x.e.c]]) rfl (a_call (ent_of Try.func50 (by kernel_rfl) rfl) (fun w hH => number_r w x.e.t false hv1) rfl rfl rfl) ?_; rintro ⟨⟩
    refine h_q hflS rfl ?_
    refine h_done (d_then rfl (d_reg ?_))
    refine h_q hflS rfl ?_
    refine h_done (d_ret (f_then_ret ?_))
    exact f_fin1 (.tmp rfl) (fun w h => ⟨rfl, below0 h.up⟩) rfl
  · skip
    cases v2
    · skip
      obtain rfl : r = false := by rw [← hR]; rfl
      refine d_reg ?_
      refine h_q hflS rfl ?_
      refine h_val rfl (.int .u64 x.e.t) (fun b w hb hH => exec_load rfl rfl (reads_one ty_uint64 rfl) (hH.row 0 rfl) hb) ?_
      refine h_act (post := fun _ => [cell gx 36 #[.int .i64 x.e.k, .int .u64 x.e.t, .int .u64 x.e.i, x.v, .int .i64 x.e.c]]) rfl (a_call (ent_of Try.func50 (by kernel_rfl) rfl) (fun w hH => number_r w x.e.t true hv1) rfl rfl rfl) ?_; rintro ⟨⟩
      refine h_q hflS rfl ?_
      refine h_val rfl (.int .u64 x.e.i) (fun b w hb hH => exec_load rfl rfl (reads_one ty_uint64 rfl) (hH.row 0 rfl) hb) ?_
      refine h_act (post := fun _ => [cell gx 36 #[.int .i64 x.e.k, .int .u64 x.e.t, .int .u64 x.e.i, x.v, .int .i64 x.e.c]]) rfl (a_call (ent_of Try.func50 (by kernel_rfl) rfl) (fun w hH => number_r w x.e.i false hv2) rfl rfl rfl) ?_; rintro ⟨⟩
      refine h_q hflS rfl ?_
      refine h_done (d_then rfl (d_reg ?_))
      refine h_q hflS rfl ?_
      refine h_done (d_ret (f_then_ret ?_))
      exact f_fin1 (.tmp rfl) (fun w h => ⟨rfl, below0 h.up⟩) rfl
    · skip
      refine d_reg ?_
      refine h_q hflS rfl ?_
      refine h_val rfl (.int .u64 x.e.t) (fun b w hb hH => exec_load rfl rfl (reads_one ty_uint64 rfl) (hH.row 0 rfl) hb) ?_
      refine h_act (post := fun _ => [cell gx 36 #[.int .i64 x.e.k, .int .u64 x.e.t, .int .u64 x.e.i, x.v, .int .i64 x.e.c]]) rfl (a_call (ent_of Try.func50 (by kernel_rfl) rfl) (fun w hH => number_r w x.e.t true hv1) rfl rfl rfl) ?_; rintro ⟨⟩
      refine h_q hflS rfl ?_
      refine h_val rfl (.int .u64 x.e.i) (fun b w hb hH => exec_load rfl rfl (reads_one ty_uint64 rfl) (hH.row 0 rfl) hb) ?_
      refine h_act (post := fun _ => [cell gx 36 #[.int .i64 x.e.k, .int .u64 x.e.t, .int .u64 x.e.i, x.v, .int .i64 x.e.c]]) rfl (a_call (ent_of Try.func50 (by kernel_rfl) rfl) (fun w hH => number_r w x.e.i true hv2) rfl rfl rfl) ?_; rintro ⟨⟩
      refine h_q hflS rfl ?_
      refine h_done (d_else rfl (d_skip (f_to (d_seq (d_reg ?_)))))
      refine h_q hflS rfl ?_
      refine h_val rfl (.int .i64 x.e.k) (fun b w hb hH => exec_load rfl rfl (reads_one ty_int rfl) (hH.row 0 rfl) hb) ?_
      refine h_done (d_block ?_)
      have hk : x.e.k = 0 ∨ x.e.k = 1 ∨ x.e.k = 2 ∨ (x.e.k ≠ 0 ∧ x.e.k ≠ 1 ∧ x.e.k ≠ 2) := by omega
      rcases hk with hk | hk | hk | hk
      · skip
        refine d_reg ?_
        refine h_q hflS rfl ?_
        refine h_val rfl (.bool true) (fun b w hb hH => exec_cmp rfl rfl rfl (cmp_eql_t hk) hb) ?_
        refine h_q hflS rfl ?_
        refine h_done (d_then rfl ?_)
        by_cases hd : x.e.d.length = 0
        · skip
          by_cases hc : x.e.c = 0
          · skip
            obtain rfl : r = true := by rw [← hR, ← hv3]; simp [kindE, hk, hc, List.eq_nil_of_length_eq_zero hd]
            refine d_reg ?_
            refine h_q hflS rfl ?_
            refine h_val rfl (x.v) (fun b w hb hH => exec_load rfl rfl (reads_one ty_s_uint8 rfl) (hH.row 0 rfl) hb) ?_
            refine h_val rfl (.int .i64 (x.e.d.length : Int)) (fun b w hb hH => e_slen ((arg80 hv hH).rd) Try.underlying26 rfl rfl hb) ?_
            refine h_val rfl (.bool true) (fun b w hb hH => exec_cmp rfl rfl rfl (cmp_eql_t (by omega)) hb) ?_
            refine h_q hflS rfl ?_
            refine h_val rfl (.int .i64 x.e.c) (fun b w hb hH => exec_load rfl rfl (reads_one ty_int rfl) (hH.row 0 rfl) hb) ?_
            refine h_val rfl (.bool true) (fun b w hb hH => exec_cmp rfl rfl rfl (cmp_eql_t hc) hb) ?_
            refine h_q hflS rfl ?_
            refine h_done (d_ret (f_block_ret (f_then_ret ?_)))
            exact f_fin1 (.tmp rfl) (fun w h => ⟨rfl, below0 h.up⟩) rfl
          · skip
            obtain rfl : r = false := by rw [← hR, ← hv3]; simp [kindE, hk, hc]
            refine d_reg ?_
            refine h_q hflS rfl ?_
            refine h_val rfl (x.v) (fun b w hb hH => exec_load rfl rfl (reads_one ty_s_uint8 rfl) (hH.row 0 rfl) hb) ?_
            refine h_val rfl (.int .i64 (x.e.d.length : Int)) (fun b w hb hH => e_slen ((arg80 hv hH).rd) Try.underlying26 rfl rfl hb) ?_
            refine h_val rfl (.bool true) (fun b w hb hH => exec_cmp rfl rfl rfl (cmp_eql_t (by omega)) hb) ?_
            refine h_q hflS rfl ?_
            refine h_val rfl (.int .i64 x.e.c) (fun b w hb hH => exec_load rfl rfl (reads_one ty_int rfl) (hH.row 0 rfl) hb) ?_
            refine h_val rfl (.bool false) (fun b w hb hH => exec_cmp rfl rfl rfl (cmp_eql_f hc) hb) ?_
            refine h_q hflS rfl ?_
            refine h_done (d_ret (f_block_ret (f_then_ret ?_)))
            exact f_fin1 (.tmp rfl) (fun w h => ⟨rfl, below0 h.up⟩) rfl
        · skip
          have hd0 : (x.e.d == []) = false := by cases hx : x.e.d with | nil => rw [hx] at hd; exact absurd rfl hd | cons => rfl
          obtain rfl : r = false := by rw [← hR, ← hv3]; simp [kindE, hk, hd0]
          refine d_reg ?_
          refine h_q hflS rfl ?_
          refine h_val rfl (x.v) (fun b w hb hH => exec_load rfl rfl (reads_one ty_s_uint8 rfl) (hH.row 0 rfl) hb) ?_
          refine h_val rfl (.int .i64 (x.e.d.length : Int)) (fun b w hb hH => e_slen ((arg80 hv hH).rd) Try.underlying26 rfl rfl hb) ?_
          refine h_val rfl (.bool false) (fun b w hb hH => exec_cmp rfl rfl rfl (cmp_eql_f (by omega)) hb) ?_
          refine h_q hflS rfl ?_
          refine h_done (d_ret (f_block_ret (f_then_ret ?_)))
          exact f_fin1 (.tmp rfl) (fun w h => ⟨rfl, below0 h.up⟩) rfl
      · skip
        refine d_reg ?_
        refine h_q hflS rfl ?_
        refine h_val rfl (.bool false) (fun b w hb hH => exec_cmp rfl rfl rfl (cmp_eql_f (by omega)) hb) ?_
        refine h_q hflS rfl ?_
        refine h_done (d_else rfl (d_reg ?_))
        refine h_q hflS rfl ?_
        refine h_val rfl (.bool true) (fun b w hb hH => exec_cmp rfl rfl rfl (cmp_eql_t hk) hb) ?_
        refine h_q hflS rfl ?_
        refine h_done (d_then rfl ?_)
        have hd : x.e.d.length < 1 ∨ 128 < x.e.d.length ∨ (1 ≤ x.e.d.length ∧ x.e.d.length ≤ 128) := by omega
        rcases hd with hd | hd | ⟨hd, hd2⟩
        · skip
          have hd0 : ¬ 1 ≤ x.e.d.length := by omega
          obtain rfl : r = false := by rw [← hR, ← hv3]; simp [kindE, hk, hd0]
          refine d_reg ?_
          refine h_q hflS rfl ?_
          refine h_val rfl (x.v) (fun b w hb hH => exec_load rfl rfl (reads_one ty_s_uint8 rfl) (hH.row 0 rfl) hb) ?_
          refine h_val rfl (.int .i64 (x.e.d.length : Int)) (fun b w hb hH => e_slen ((arg80 hv hH).rd) Try.underlying26 rfl rfl hb) ?_
          refine h_val rfl (.bool false) (fun b w hb hH => exec_cmp rfl rfl rfl (cmp_geq_f (by omega)) hb) ?_
          refine h_q hflS rfl ?_
          refine h_done (d_ret (f_block_ret (f_then_ret ?_)))
          exact f_fin1 (.tmp rfl) (fun w h => ⟨rfl, below0 h.up⟩) rfl
        · skip
          have hd0 : ¬ x.e.d.length ≤ 128 := by omega
          obtain rfl : r = false := by rw [← hR, ← hv3]; simp [kindE, hk, hd0]
          refine d_reg ?_
          refine h_q hflS rfl ?_
          refine h_val rfl (x.v) (fun b w hb hH => exec_load rfl rfl (reads_one ty_s_uint8 rfl) (hH.row 0 rfl) hb) ?_
          refine h_val rfl (.int .i64 (x.e.d.length : Int)) (fun b w hb hH => e_slen ((arg80 hv hH).rd) Try.underlying26 rfl rfl hb) ?_
          refine h_val rfl (.bool true) (fun b w hb hH => exec_cmp rfl rfl rfl (cmp_geq_t (by omega)) hb) ?_
          refine h_q hflS rfl ?_
          refine h_val rfl (x.v) (fun b w hb hH => exec_load rfl rfl (reads_one ty_s_uint8 rfl) (hH.row 0 rfl) hb) ?_
          refine h_val rfl (.int .i64 (x.e.d.length : Int)) (fun b w hb hH => e_slen ((arg80 hv hH).rd) Try.underlying26 rfl rfl hb) ?_
          refine h_val rfl (.bool false) (fun b w hb hH => exec_cmp rfl rfl rfl (cmp_leq_f (by omega)) hb) ?_
          refine h_q hflS rfl ?_
          refine h_done (d_ret (f_block_ret (f_then_ret ?_)))
          exact f_fin1 (.tmp rfl) (fun w h => ⟨rfl, below0 h.up⟩) rfl
        · skip
          by_cases hc : x.e.c = 0
          · skip
            obtain rfl : r = true := by rw [← hR, ← hv3]; simp [kindE, hk, hc, hd, hd2]
            refine d_reg ?_
            refine h_q hflS rfl ?_
            refine h_val rfl (x.v) (fun b w hb hH => exec_load rfl rfl (reads_one ty_s_uint8 rfl) (hH.row 0 rfl) hb) ?_
            refine h_val rfl (.int .i64 (x.e.d.length : Int)) (fun b w hb hH => e_slen ((arg80 hv hH).rd) Try.underlying26 rfl rfl hb) ?_
            refine h_val rfl (.bool true) (fun b w hb hH => exec_cmp rfl rfl rfl (cmp_geq_t (by omega)) hb) ?_
            refine h_q hflS rfl ?_
            refine h_val rfl (x.v) (fun b w hb hH => exec_load rfl rfl (reads_one ty_s_uint8 rfl) (hH.row 0 rfl) hb) ?_
            refine h_val rfl (.int .i64 (x.e.d.length : Int)) (fun b w hb hH => e_slen ((arg80 hv hH).rd) Try.underlying26 rfl rfl hb) ?_
            refine h_val rfl (.bool true) (fun b w hb hH => exec_cmp rfl rfl rfl (cmp_leq_t (by omega)) hb) ?_
            refine h_q hflS rfl ?_
            refine h_val rfl (.int .i64 x.e.c) (fun b w hb hH => exec_load rfl rfl (reads_one ty_int rfl) (hH.row 0 rfl) hb) ?_
            refine h_val rfl (.bool true) (fun b w hb hH => exec_cmp rfl rfl rfl (cmp_eql_t hc) hb) ?_
            refine h_q hflS rfl ?_
            refine h_done (d_ret (f_block_ret (f_then_ret ?_)))
            exact f_fin1 (.tmp rfl) (fun w h => ⟨rfl, below0 h.up⟩) rfl
          · skip
            obtain rfl : r = false := by rw [← hR, ← hv3]; simp [kindE, hk, hc]
            refine d_reg ?_
            refine h_q hflS rfl ?_
            refine h_val rfl (x.v) (fun b w hb hH => exec_load rfl rfl (reads_one ty_s_uint8 rfl) (hH.row 0 rfl) hb) ?_
            refine h_val rfl (.int .i64 (x.e.d.length : Int)) (fun b w hb hH => e_slen ((arg80 hv hH).rd) Try.underlying26 rfl rfl hb) ?_
            refine h_val rfl (.bool true) (fun b w hb hH => exec_cmp rfl rfl rfl (cmp_geq_t (by omega)) hb) ?_
            refine h_q hflS rfl ?_
            refine h_val rfl (x.v) (fun b w hb hH => exec_load rfl rfl (reads_one ty_s_uint8 rfl) (hH.row 0 rfl) hb) ?_
            refine h_val rfl (.int .i64 (x.e.d.length : Int)) (fun b w hb hH => e_slen ((arg80 hv hH).rd) Try.underlying26 rfl rfl hb) ?_
            refine h_val rfl (.bool true) (fun b w hb hH => exec_cmp rfl rfl rfl (cmp_leq_t (by omega)) hb) ?_
            refine h_q hflS rfl ?_
            refine h_val rfl (.int .i64 x.e.c) (fun b w hb hH => exec_load rfl rfl (reads_one ty_int rfl) (hH.row 0 rfl) hb) ?_
            refine h_val rfl (.bool false) (fun b w hb hH => exec_cmp rfl rfl rfl (cmp_eql_f hc) hb) ?_
            refine h_q hflS rfl ?_
            refine h_done (d_ret (f_block_ret (f_then_ret ?_)))
            exact f_fin1 (.tmp rfl) (fun w h => ⟨rfl, below0 h.up⟩) rfl
      · skip
        refine d_reg ?_
        refine h_q hflS rfl ?_
        refine h_val rfl (.bool false) (fun b w hb hH => exec_cmp rfl rfl rfl (cmp_eql_f (by omega)) hb) ?_
        refine h_q hflS rfl ?_
        refine h_done (d_else rfl (d_reg ?_))
        refine h_q hflS rfl ?_
        refine h_val rfl (.bool false) (fun b w hb hH => exec_cmp rfl rfl rfl (cmp_eql_f (by omega)) hb) ?_
        refine h_q hflS rfl ?_
        refine h_done (d_else rfl (d_reg ?_))
        refine h_q hflS rfl ?_
        refine h_val rfl (.bool true) (fun b w hb hH => exec_cmp rfl rfl rfl (cmp_eql_t hk) hb) ?_
        refine h_q hflS rfl ?_
        refine h_done (d_then rfl ?_)
        by_cases hd : x.e.d.length = 0
        · skip
          rcases Bool.eq_false_or_eq_true (memB x.e.c) with hs | hs
          · skip
            have hs2 := hs
            unfold memB at hs2
            simp only [Bool.and_eq_true, bne_iff_ne, ne_eq] at hs2
            obtain rfl : r = true := by rw [← hR, ← hv3]; simp [kindE, hk, hs2.1, hs2.2, List.eq_nil_of_length_eq_zero hd]
            refine d_reg ?_
            refine h_q hflS rfl ?_
            refine h_val rfl (x.v) (fun b w hb hH => exec_load rfl rfl (reads_one ty_s_uint8 rfl) (hH.row 0 rfl) hb) ?_
            refine h_val rfl (.int .i64 (x.e.d.length : Int)) (fun b w hb hH => e_slen ((arg80 hv hH).rd) Try.underlying26 rfl rfl hb) ?_
            refine h_val rfl (.bool true) (fun b w hb hH => exec_cmp rfl rfl rfl (cmp_eql_t (by omega)) hb) ?_
            refine h_q hflS rfl ?_
            refine h_val rfl (.int .i64 x.e.c) (fun b w hb hH => exec_load rfl rfl (reads_one ty_int rfl) (hH.row 0 rfl) hb) ?_
            refine h_act (post := fun _ => [cell gx 36 #[.int .i64 x.e.k, .int .u64 x.e.t, .int .u64 x.e.i, x.v, .int .i64 x.e.c]]) rfl (a_call (ent_of Try.func53 (by kernel_rfl) rfl) (fun w hH => members_any w x.e.c true hs) rfl rfl rfl) ?_; rintro ⟨⟩
            refine h_q hflS rfl ?_
            refine h_done (d_ret (f_block_ret (f_then_ret ?_)))
            exact f_fin1 (.tmp rfl) (fun w h => ⟨rfl, below0 h.up⟩) rfl
          · skip
            have hs2 : (setB x.e.c && x.e.c != 0) = false := hs
            obtain rfl : r = false := by rw [← hR, ← hv3]; simp only [kindE, hk, Bool.and_assoc, hs2]; simp
            refine d_reg ?_
            refine h_q hflS rfl ?_
            refine h_val rfl (x.v) (fun b w hb hH => exec_load rfl rfl (reads_one ty_s_uint8 rfl) (hH.row 0 rfl) hb) ?_
            refine h_val rfl (.int .i64 (x.e.d.length : Int)) (fun b w hb hH => e_slen ((arg80 hv hH).rd) Try.underlying26 rfl rfl hb) ?_
            refine h_val rfl (.bool true) (fun b w hb hH => exec_cmp rfl rfl rfl (cmp_eql_t (by omega)) hb) ?_
            refine h_q hflS rfl ?_
            refine h_val rfl (.int .i64 x.e.c) (fun b w hb hH => exec_load rfl rfl (reads_one ty_int rfl) (hH.row 0 rfl) hb) ?_
            refine h_act (post := fun _ => [cell gx 36 #[.int .i64 x.e.k, .int .u64 x.e.t, .int .u64 x.e.i, x.v, .int .i64 x.e.c]]) rfl (a_call (ent_of Try.func53 (by kernel_rfl) rfl) (fun w hH => members_any w x.e.c false hs) rfl rfl rfl) ?_; rintro ⟨⟩
            refine h_q hflS rfl ?_
            refine h_done (d_ret (f_block_ret (f_then_ret ?_)))
            exact f_fin1 (.tmp rfl) (fun w h => ⟨rfl, below0 h.up⟩) rfl
        · skip
          have hd0 : (x.e.d == []) = false := by cases hx : x.e.d with | nil => rw [hx] at hd; exact absurd rfl hd | cons => rfl
          obtain rfl : r = false := by rw [← hR, ← hv3]; simp [kindE, hk, hd0]
          refine d_reg ?_
          refine h_q hflS rfl ?_
          refine h_val rfl (x.v) (fun b w hb hH => exec_load rfl rfl (reads_one ty_s_uint8 rfl) (hH.row 0 rfl) hb) ?_
          refine h_val rfl (.int .i64 (x.e.d.length : Int)) (fun b w hb hH => e_slen ((arg80 hv hH).rd) Try.underlying26 rfl rfl hb) ?_
          refine h_val rfl (.bool false) (fun b w hb hH => exec_cmp rfl rfl rfl (cmp_eql_f (by omega)) hb) ?_
          refine h_q hflS rfl ?_
          refine h_done (d_ret (f_block_ret (f_then_ret ?_)))
          exact f_fin1 (.tmp rfl) (fun w h => ⟨rfl, below0 h.up⟩) rfl
      · skip
        obtain rfl : r = false := by rw [← hR, ← hv3]; simp [kindE, hk]
        refine d_reg ?_
        refine h_q hflS rfl ?_
        refine h_val rfl (.bool false) (fun b w hb hH => exec_cmp rfl rfl rfl (cmp_eql_f hk.1) hb) ?_
        refine h_q hflS rfl ?_
        refine h_done (d_else rfl (d_reg ?_))
        refine h_q hflS rfl ?_
        refine h_val rfl (.bool false) (fun b w hb hH => exec_cmp rfl rfl rfl (cmp_eql_f hk.2.1) hb) ?_
        refine h_q hflS rfl ?_
        refine h_done (d_else rfl (d_reg ?_))
        refine h_q hflS rfl ?_
        refine h_val rfl (.bool false) (fun b w hb hH => exec_cmp rfl rfl rfl (cmp_eql_f hk.2.2) hb) ?_
        refine h_q hflS rfl ?_
        refine h_done (d_else rfl (d_skip (f_block (f_to (d_reg ?_)))))
        refine h_q hflS rfl ?_
        refine h_done (d_ret ?_)
        exact f_fin1 (.tmp rfl) (fun w h => ⟨rfl, below0 h.up⟩) rfl

set_option maxRecDepth 100000 in
theorem rrightE_any (w : World) (x : EntV) (hv : Sl8 w x.v x.e.d) (r : Bool) (hr : rightE x.e = r) : Calls Try.prog 24 #[.agg #[.int .i64 x.e.k, .int .u64 x.e.t, .int .u64 x.e.i, x.v, .int .i64 x.e.c]] w fun e w' => e = .returned (.bool r) ∧ Below w.heap.size w w' := by
  obtain ⟨v1, hv1⟩ : ∃ v1, numB x.e.t = v1 := ⟨_, rfl⟩
  obtain ⟨v2, hv2⟩ : ∃ v2, numB x.e.i = v2 := ⟨_, rfl⟩
  obtain ⟨v3, hv3⟩ : ∃ v3, kindE x.e = v3 := ⟨_, rfl⟩
  have hR : (v1 && (v2 && v3)) = r := by rw [← hr]; unfold rightE; rw [hv1, hv2, hv3]
  refine d_in (args := [.agg #[.int .i64 x.e.k, .int .u64 x.e.t, .int .u64 x.e.i, x.v, .int .i64 x.e.c]]) 59 Try.func24 rfl rfl rfl ?_
  refine d_reg ?_
  refine h_q hflS rfl ?_
  refine h_act (post := fun gx => [cell gx 36 #[.int .i64 x.e.k, .int .u64 x.e.t, .int .u64 x.e.i, x.v, .int .i64 x.e.c]]) rfl (a_box (cs := #[.int .i64 x.e.k, .int .u64 x.e.t, .int .u64 x.e.i, x.v, .int .i64 x.e.c]) rfl rfl rfl) ?_; rintro gx
  refine h_q hflS rfl ?_
  refine h_done (d_seq ?_)
  cases v1
  · skip
    obtain rfl : r = false := by rw [← hR]; rfl
    refine d_reg ?_
    refine h_q hflS rfl ?_
    refine h_val rfl (.int .u64 x.e.t) (fun b w hb hH => exec_load rfl rfl (reads_one ty_uint64 rfl) (hH.row 0 rfl) hb) ?_
    refine h_act (post := fun _ => [cell gx 36 #[.int .i64 x.e.k, .int .u64 x.e.t, .int .u64 x.e.i, x.v, .int .i64 x.e.c]]) rfl (a_call (ent_of Try.func57 (by kernel_rfl) rfl) (fun w hH => rnumber_any w true x.e.t false (by simpa [mayB] using hv1)) rfl rfl rfl) ?_; rintro ⟨⟩
    refine h_q hflS rfl ?_
    refine h_done (d_then rfl (d_reg ?_))
    refine h_q hflS rfl ?_
    refine h_done (d_ret (f_then_ret ?_))
    exact f_fin1 (.tmp rfl) (fun w h => ⟨rfl, below0 h.up⟩) rfl
  · skip
    cases v2
    · skip
      obtain rfl : r = false := by rw [← hR]; rfl
      refine d_reg ?_
      refine h_q hflS rfl ?_
      refine h_val rfl (.int .u64 x.e.t) (fun b w hb hH => exec_load rfl rfl (reads_one ty_uint64 rfl) (hH.row 0 rfl) hb) ?_
      refine h_act (post := fun _ => [cell gx 36 #[.int .i64 x.e.k, .int .u64 x.e.t, .int .u64 x.e.i, x.v, .int .i64 x.e.c]]) rfl (a_call (ent_of Try.func57 (by kernel_rfl) rfl) (fun w hH => rnumber_any w true x.e.t true (by simpa [mayB] using hv1)) rfl rfl rfl) ?_; rintro ⟨⟩
      refine h_q hflS rfl ?_
      refine h_val rfl (.int .u64 x.e.i) (fun b w hb hH => exec_load rfl rfl (reads_one ty_uint64 rfl) (hH.row 0 rfl) hb) ?_
      refine h_act (post := fun _ => [cell gx 36 #[.int .i64 x.e.k, .int .u64 x.e.t, .int .u64 x.e.i, x.v, .int .i64 x.e.c]]) rfl (a_call (ent_of Try.func57 (by kernel_rfl) rfl) (fun w hH => rnumber_any w true x.e.i false (by simpa [mayB] using hv2)) rfl rfl rfl) ?_; rintro ⟨⟩
      refine h_q hflS rfl ?_
      refine h_done (d_then rfl (d_reg ?_))
      refine h_q hflS rfl ?_
      refine h_done (d_ret (f_then_ret ?_))
      exact f_fin1 (.tmp rfl) (fun w h => ⟨rfl, below0 h.up⟩) rfl
    · skip
      refine d_reg ?_
      refine h_q hflS rfl ?_
      refine h_val rfl (.int .u64 x.e.t) (fun b w hb hH => exec_load rfl rfl (reads_one ty_uint64 rfl) (hH.row 0 rfl) hb) ?_
      refine h_act (post := fun _ => [cell gx 36 #[.int .i64 x.e.k, .int .u64 x.e.t, .int .u64 x.e.i, x.v, .int .i64 x.e.c]]) rfl (a_call (ent_of Try.func57 (by kernel_rfl) rfl) (fun w hH => rnumber_any w true x.e.t true (by simpa [mayB] using hv1)) rfl rfl rfl) ?_; rintro ⟨⟩
      refine h_q hflS rfl ?_
      refine h_val rfl (.int .u64 x.e.i) (fun b w hb hH => exec_load rfl rfl (reads_one ty_uint64 rfl) (hH.row 0 rfl) hb) ?_
      refine h_act (post := fun _ => [cell gx 36 #[.int .i64 x.e.k, .int .u64 x.e.t, .int .u64 x.e.i, x.v, .int .i64 x.e.c]]) rfl (a_call (ent_of Try.func57 (by kernel_rfl) rfl) (fun w hH => rnumber_any w true x.e.i true (by simpa [mayB] using hv2)) rfl rfl rfl) ?_; rintro ⟨⟩
      refine h_q hflS rfl ?_
      refine h_done (d_else rfl (d_skip (f_to (d_seq (d_reg ?_)))))
      refine h_q hflS rfl ?_
      refine h_val rfl (.int .i64 x.e.k) (fun b w hb hH => exec_load rfl rfl (reads_one ty_int rfl) (hH.row 0 rfl) hb) ?_
      refine h_done (d_block ?_)
      have hk : x.e.k = 0 ∨ x.e.k = 1 ∨ x.e.k = 2 ∨ (x.e.k ≠ 0 ∧ x.e.k ≠ 1 ∧ x.e.k ≠ 2) := by omega
      rcases hk with hk | hk | hk | hk
      · skip
        refine d_reg ?_
        refine h_q hflS rfl ?_
        refine h_val rfl (.bool true) (fun b w hb hH => exec_cmp rfl rfl rfl (cmp_eql_t hk) hb) ?_
        refine h_q hflS rfl ?_
        refine h_done (d_then rfl ?_)
        by_cases hd : x.e.d.length = 0
        · skip
          by_cases hc : x.e.c = 0
          · skip
            obtain rfl : r = true := by rw [← hR, ← hv3]; simp [kindE, hk, hc, List.eq_nil_of_length_eq_zero hd]
            refine d_reg ?_
            refine h_q hflS rfl ?_
            refine h_val rfl (x.v) (fun b w hb hH => exec_load rfl rfl (reads_one ty_s_uint8 rfl) (hH.row 0 rfl) hb) ?_
            refine h_val rfl (.int .i64 (x.e.d.length : Int)) (fun b w hb hH => e_slen ((arg80 hv hH).rd) Try.underlying26 rfl rfl hb) ?_
            refine h_val rfl (.bool true) (fun b w hb hH => exec_cmp rfl rfl rfl (cmp_eql_t (by omega)) hb) ?_
            refine h_q hflS rfl ?_
            refine h_val rfl (.int .i64 x.e.c) (fun b w hb hH => exec_load rfl rfl (reads_one ty_int rfl) (hH.row 0 rfl) hb) ?_
            refine h_val rfl (.bool true) (fun b w hb hH => exec_cmp rfl rfl rfl (cmp_eql_t hc) hb) ?_
            refine h_q hflS rfl ?_
            refine h_done (d_ret (f_block_ret (f_then_ret ?_)))
            exact f_fin1 (.tmp rfl) (fun w h => ⟨rfl, below0 h.up⟩) rfl
          · skip
            obtain rfl : r = false := by rw [← hR, ← hv3]; simp [kindE, hk, hc]
            refine d_reg ?_
            refine h_q hflS rfl ?_
            refine h_val rfl (x.v) (fun b w hb hH => exec_load rfl rfl (reads_one ty_s_uint8 rfl) (hH.row 0 rfl) hb) ?_
            refine h_val rfl (.int .i64 (x.e.d.length : Int)) (fun b w hb hH => e_slen ((arg80 hv hH).rd) Try.underlying26 rfl rfl hb) ?_
            refine h_val rfl (.bool true) (fun b w hb hH => exec_cmp rfl rfl rfl (cmp_eql_t (by omega)) hb) ?_
            refine h_q hflS rfl ?_
            refine h_val rfl (.int .i64 x.e.c) (fun b w hb hH => exec_load rfl rfl (reads_one ty_int rfl) (hH.row 0 rfl) hb) ?_
            refine h_val rfl (.bool false) (fun b w hb hH => exec_cmp rfl rfl rfl (cmp_eql_f hc) hb) ?_
            refine h_q hflS rfl ?_
            refine h_done (d_ret (f_block_ret (f_then_ret ?_)))
            exact f_fin1 (.tmp rfl) (fun w h => ⟨rfl, below0 h.up⟩) rfl
        · skip
          have hd0 : (x.e.d == []) = false := by cases hx : x.e.d with | nil => rw [hx] at hd; exact absurd rfl hd | cons => rfl
          obtain rfl : r = false := by rw [← hR, ← hv3]; simp [kindE, hk, hd0]
          refine d_reg ?_
          refine h_q hflS rfl ?_
          refine h_val rfl (x.v) (fun b w hb hH => exec_load rfl rfl (reads_one ty_s_uint8 rfl) (hH.row 0 rfl) hb) ?_
          refine h_val rfl (.int .i64 (x.e.d.length : Int)) (fun b w hb hH => e_slen ((arg80 hv hH).rd) Try.underlying26 rfl rfl hb) ?_
          refine h_val rfl (.bool false) (fun b w hb hH => exec_cmp rfl rfl rfl (cmp_eql_f (by omega)) hb) ?_
          refine h_q hflS rfl ?_
          refine h_done (d_ret (f_block_ret (f_then_ret ?_)))
          exact f_fin1 (.tmp rfl) (fun w h => ⟨rfl, below0 h.up⟩) rfl
      · skip
        refine d_reg ?_
        refine h_q hflS rfl ?_
        refine h_val rfl (.bool false) (fun b w hb hH => exec_cmp rfl rfl rfl (cmp_eql_f (by omega)) hb) ?_
        refine h_q hflS rfl ?_
        refine h_done (d_else rfl (d_reg ?_))
        refine h_q hflS rfl ?_
        refine h_val rfl (.bool true) (fun b w hb hH => exec_cmp rfl rfl rfl (cmp_eql_t hk) hb) ?_
        refine h_q hflS rfl ?_
        refine h_done (d_then rfl ?_)
        have hd : x.e.d.length < 1 ∨ 128 < x.e.d.length ∨ (1 ≤ x.e.d.length ∧ x.e.d.length ≤ 128) := by omega
        rcases hd with hd | hd | ⟨hd, hd2⟩
        · skip
          have hd0 : ¬ 1 ≤ x.e.d.length := by omega
          obtain rfl : r = false := by rw [← hR, ← hv3]; simp [kindE, hk, hd0]
          refine d_reg ?_
          refine h_q hflS rfl ?_
          refine h_val rfl (x.v) (fun b w hb hH => exec_load rfl rfl (reads_one ty_s_uint8 rfl) (hH.row 0 rfl) hb) ?_
          refine h_val rfl (.int .i64 (x.e.d.length : Int)) (fun b w hb hH => e_slen ((arg80 hv hH).rd) Try.underlying26 rfl rfl hb) ?_
          refine h_val rfl (.bool false) (fun b w hb hH => exec_cmp rfl rfl rfl (cmp_geq_f (by omega)) hb) ?_
          refine h_q hflS rfl ?_
          refine h_done (d_ret (f_block_ret (f_then_ret ?_)))
          exact f_fin1 (.tmp rfl) (fun w h => ⟨rfl, below0 h.up⟩) rfl
        · skip
          have hd0 : ¬ x.e.d.length ≤ 128 := by omega
          obtain rfl : r = false := by rw [← hR, ← hv3]; simp [kindE, hk, hd0]
          refine d_reg ?_
          refine h_q hflS rfl ?_
          refine h_val rfl (x.v) (fun b w hb hH => exec_load rfl rfl (reads_one ty_s_uint8 rfl) (hH.row 0 rfl) hb) ?_
          refine h_val rfl (.int .i64 (x.e.d.length : Int)) (fun b w hb hH => e_slen ((arg80 hv hH).rd) Try.underlying26 rfl rfl hb) ?_
          refine h_val rfl (.bool true) (fun b w hb hH => exec_cmp rfl rfl rfl (cmp_geq_t (by omega)) hb) ?_
          refine h_q hflS rfl ?_
          refine h_val rfl (x.v) (fun b w hb hH => exec_load rfl rfl (reads_one ty_s_uint8 rfl) (hH.row 0 rfl) hb) ?_
          refine h_val rfl (.int .i64 (x.e.d.length : Int)) (fun b w hb hH => e_slen ((arg80 hv hH).rd) Try.underlying26 rfl rfl hb) ?_
          refine h_val rfl (.bool false) (fun b w hb hH => exec_cmp rfl rfl rfl (cmp_leq_f (by omega)) hb) ?_
          refine h_q hflS rfl ?_
          refine h_done (d_ret (f_block_ret (f_then_ret ?_)))
          exact f_fin1 (.tmp rfl) (fun w h => ⟨rfl, below0 h.up⟩) rfl
        · skip
          by_cases hc : x.e.c = 0
          · skip
            obtain rfl : r = true := by rw [← hR, ← hv3]; simp [kindE, hk, hc, hd, hd2]
            refine d_reg ?_
            refine h_q hflS rfl ?_
            refine h_val rfl (x.v) (fun b w hb hH => exec_load rfl rfl (reads_one ty_s_uint8 rfl) (hH.row 0 rfl) hb) ?_
            refine h_val rfl (.int .i64 (x.e.d.length : Int)) (fun b w hb hH => e_slen ((arg80 hv hH).rd) Try.underlying26 rfl rfl hb) ?_
            refine h_val rfl (.bool true) (fun b w hb hH => exec_cmp rfl rfl rfl (cmp_geq_t (by omega)) hb) ?_
            refine h_q hflS rfl ?_
            refine h_val rfl (x.v) (fun b w hb hH => exec_load rfl rfl (reads_one ty_s_uint8 rfl) (hH.row 0 rfl) hb) ?_
            refine h_val rfl (.int .i64 (x.e.d.length : Int)) (fun b w hb hH => e_slen ((arg80 hv hH).rd) Try.underlying26 rfl rfl hb) ?_
            refine h_val rfl (.bool true) (fun b w hb hH => exec_cmp rfl rfl rfl (cmp_leq_t (by omega)) hb) ?_
            refine h_q hflS rfl ?_
            refine h_val rfl (.int .i64 x.e.c) (fun b w hb hH => exec_load rfl rfl (reads_one ty_int rfl) (hH.row 0 rfl) hb) ?_
            refine h_val rfl (.bool true) (fun b w hb hH => exec_cmp rfl rfl rfl (cmp_eql_t hc) hb) ?_
            refine h_q hflS rfl ?_
            refine h_done (d_ret (f_block_ret (f_then_ret ?_)))
            exact f_fin1 (.tmp rfl) (fun w h => ⟨rfl, below0 h.up⟩) rfl
          · skip
            obtain rfl : r = false := by rw [← hR, ← hv3]; simp [kindE, hk, hc]
            refine d_reg ?_
            refine h_q hflS rfl ?_
            refine h_val rfl (x.v) (fun b w hb hH => exec_load rfl rfl (reads_one ty_s_uint8 rfl) (hH.row 0 rfl) hb) ?_
            refine h_val rfl (.int .i64 (x.e.d.length : Int)) (fun b w hb hH => e_slen ((arg80 hv hH).rd) Try.underlying26 rfl rfl hb) ?_
            refine h_val rfl (.bool true) (fun b w hb hH => exec_cmp rfl rfl rfl (cmp_geq_t (by omega)) hb) ?_
            refine h_q hflS rfl ?_
            refine h_val rfl (x.v) (fun b w hb hH => exec_load rfl rfl (reads_one ty_s_uint8 rfl) (hH.row 0 rfl) hb) ?_
            refine h_val rfl (.int .i64 (x.e.d.length : Int)) (fun b w hb hH => e_slen ((arg80 hv hH).rd) Try.underlying26 rfl rfl hb) ?_
            refine h_val rfl (.bool true) (fun b w hb hH => exec_cmp rfl rfl rfl (cmp_leq_t (by omega)) hb) ?_
            refine h_q hflS rfl ?_
            refine h_val rfl (.int .i64 x.e.c) (fun b w hb hH => exec_load rfl rfl (reads_one ty_int rfl) (hH.row 0 rfl) hb) ?_
            refine h_val rfl (.bool false) (fun b w hb hH => exec_cmp rfl rfl rfl (cmp_eql_f hc) hb) ?_
            refine h_q hflS rfl ?_
            refine h_done (d_ret (f_block_ret (f_then_ret ?_)))
            exact f_fin1 (.tmp rfl) (fun w h => ⟨rfl, below0 h.up⟩) rfl
      · skip
        refine d_reg ?_
        refine h_q hflS rfl ?_
        refine h_val rfl (.bool false) (fun b w hb hH => exec_cmp rfl rfl rfl (cmp_eql_f (by omega)) hb) ?_
        refine h_q hflS rfl ?_
        refine h_done (d_else rfl (d_reg ?_))
        refine h_q hflS rfl ?_
        refine h_val rfl (.bool false) (fun b w hb hH => exec_cmp rfl rfl rfl (cmp_eql_f (by omega)) hb) ?_
        refine h_q hflS rfl ?_
        refine h_done (d_else rfl (d_reg ?_))
        refine h_q hflS rfl ?_
        refine h_val rfl (.bool true) (fun b w hb hH => exec_cmp rfl rfl rfl (cmp_eql_t hk) hb) ?_
        refine h_q hflS rfl ?_
        refine h_done (d_then rfl ?_)
        by_cases hd : x.e.d.length = 0
        · skip
          have hs : setB x.e.c = false ∨ (setB x.e.c = true ∧ x.e.c = 0) ∨ (setB x.e.c = true ∧ x.e.c ≠ 0) := by cases setB x.e.c <;> simp; omega
          rcases hs with hs | ⟨hs, hc⟩ | ⟨hs, hc⟩
          · skip
            obtain rfl : r = false := by rw [← hR, ← hv3]; simp [kindE, hk, hs]
            refine d_reg ?_
            refine h_q hflS rfl ?_
            refine h_val rfl (x.v) (fun b w hb hH => exec_load rfl rfl (reads_one ty_s_uint8 rfl) (hH.row 0 rfl) hb) ?_
            refine h_val rfl (.int .i64 (x.e.d.length : Int)) (fun b w hb hH => e_slen ((arg80 hv hH).rd) Try.underlying26 rfl rfl hb) ?_
            refine h_val rfl (.bool true) (fun b w hb hH => exec_cmp rfl rfl rfl (cmp_eql_t (by omega)) hb) ?_
            refine h_q hflS rfl ?_
            refine h_val rfl (.int .i64 x.e.c) (fun b w hb hH => exec_load rfl rfl (reads_one ty_int rfl) (hH.row 0 rfl) hb) ?_
            refine h_act (post := fun _ => [cell gx 36 #[.int .i64 x.e.k, .int .u64 x.e.t, .int .u64 x.e.i, x.v, .int .i64 x.e.c]]) rfl (a_call (ent_of Try.func58 (by kernel_rfl) rfl) (fun w hH => rset_any w x.e.c false hs) rfl rfl rfl) ?_; rintro ⟨⟩
            refine h_q hflS rfl ?_
            refine h_done (d_ret (f_block_ret (f_then_ret ?_)))
            exact f_fin1 (.tmp rfl) (fun w h => ⟨rfl, below0 h.up⟩) rfl
          · skip
            obtain rfl : r = false := by rw [← hR, ← hv3]; simp [kindE, hk, hs, hc]
            refine d_reg ?_
            refine h_q hflS rfl ?_
            refine h_val rfl (x.v) (fun b w hb hH => exec_load rfl rfl (reads_one ty_s_uint8 rfl) (hH.row 0 rfl) hb) ?_
            refine h_val rfl (.int .i64 (x.e.d.length : Int)) (fun b w hb hH => e_slen ((arg80 hv hH).rd) Try.underlying26 rfl rfl hb) ?_
            refine h_val rfl (.bool true) (fun b w hb hH => exec_cmp rfl rfl rfl (cmp_eql_t (by omega)) hb) ?_
            refine h_q hflS rfl ?_
            refine h_val rfl (.int .i64 x.e.c) (fun b w hb hH => exec_load rfl rfl (reads_one ty_int rfl) (hH.row 0 rfl) hb) ?_
            refine h_act (post := fun _ => [cell gx 36 #[.int .i64 x.e.k, .int .u64 x.e.t, .int .u64 x.e.i, x.v, .int .i64 x.e.c]]) rfl (a_call (ent_of Try.func58 (by kernel_rfl) rfl) (fun w hH => rset_any w x.e.c true hs) rfl rfl rfl) ?_; rintro ⟨⟩
            refine h_q hflS rfl ?_
            refine h_val rfl (.int .i64 x.e.c) (fun b w hb hH => exec_load rfl rfl (reads_one ty_int rfl) (hH.row 0 rfl) hb) ?_
            refine h_val rfl (.bool false) (fun b w hb hH => exec_cmp rfl rfl rfl (cmp_neq_f hc) hb) ?_
            refine h_q hflS rfl ?_
            refine h_done (d_ret (f_block_ret (f_then_ret ?_)))
            exact f_fin1 (.tmp rfl) (fun w h => ⟨rfl, below0 h.up⟩) rfl
          · skip
            obtain rfl : r = true := by rw [← hR, ← hv3]; simp [kindE, hk, hs, hc, List.eq_nil_of_length_eq_zero hd]
            refine d_reg ?_
            refine h_q hflS rfl ?_
            refine h_val rfl (x.v) (fun b w hb hH => exec_load rfl rfl (reads_one ty_s_uint8 rfl) (hH.row 0 rfl) hb) ?_
            refine h_val rfl (.int .i64 (x.e.d.length : Int)) (fun b w hb hH => e_slen ((arg80 hv hH).rd) Try.underlying26 rfl rfl hb) ?_
            refine h_val rfl (.bool true) (fun b w hb hH => exec_cmp rfl rfl rfl (cmp_eql_t (by omega)) hb) ?_
            refine h_q hflS rfl ?_
            refine h_val rfl (.int .i64 x.e.c) (fun b w hb hH => exec_load rfl rfl (reads_one ty_int rfl) (hH.row 0 rfl) hb) ?_
            refine h_act (post := fun _ => [cell gx 36 #[.int .i64 x.e.k, .int .u64 x.e.t, .int .u64 x.e.i, x.v, .int .i64 x.e.c]]) rfl (a_call (ent_of Try.func58 (by kernel_rfl) rfl) (fun w hH => rset_any w x.e.c true hs) rfl rfl rfl) ?_; rintro ⟨⟩
            refine h_q hflS rfl ?_
            refine h_val rfl (.int .i64 x.e.c) (fun b w hb hH => exec_load rfl rfl (reads_one ty_int rfl) (hH.row 0 rfl) hb) ?_
            refine h_val rfl (.bool true) (fun b w hb hH => exec_cmp rfl rfl rfl (cmp_neq_t hc) hb) ?_
            refine h_q hflS rfl ?_
            refine h_done (d_ret (f_block_ret (f_then_ret ?_)))
            exact f_fin1 (.tmp rfl) (fun w h => ⟨rfl, below0 h.up⟩) rfl
        · skip
          have hd0 : (x.e.d == []) = false := by cases hx : x.e.d with | nil => rw [hx] at hd; exact absurd rfl hd | cons => rfl
          obtain rfl : r = false := by rw [← hR, ← hv3]; simp [kindE, hk, hd0]
          refine d_reg ?_
          refine h_q hflS rfl ?_
          refine h_val rfl (x.v) (fun b w hb hH => exec_load rfl rfl (reads_one ty_s_uint8 rfl) (hH.row 0 rfl) hb) ?_
          refine h_val rfl (.int .i64 (x.e.d.length : Int)) (fun b w hb hH => e_slen ((arg80 hv hH).rd) Try.underlying26 rfl rfl hb) ?_
          refine h_val rfl (.bool false) (fun b w hb hH => exec_cmp rfl rfl rfl (cmp_eql_f (by omega)) hb) ?_
          refine h_q hflS rfl ?_
          refine h_done (d_ret (f_block_ret (f_then_ret ?_)))
          exact f_fin1 (.tmp rfl) (fun w h => ⟨rfl, below0 h.up⟩) rfl
      · skip
        obtain rfl : r = false := by rw [← hR, ← hv3]; simp [kindE, hk]
        refine d_reg ?_
        refine h_q hflS rfl ?_
        refine h_val rfl (.bool false) (fun b w hb hH => exec_cmp rfl rfl rfl (cmp_eql_f hk.1) hb) ?_
        refine h_q hflS rfl ?_
        refine h_done (d_else rfl (d_reg ?_))
        refine h_q hflS rfl ?_
        refine h_val rfl (.bool false) (fun b w hb hH => exec_cmp rfl rfl rfl (cmp_eql_f hk.2.1) hb) ?_
        refine h_q hflS rfl ?_
        refine h_done (d_else rfl (d_reg ?_))
        refine h_q hflS rfl ?_
        refine h_val rfl (.bool false) (fun b w hb hH => exec_cmp rfl rfl rfl (cmp_eql_f hk.2.2) hb) ?_
        refine h_q hflS rfl ?_
        refine h_done (d_else rfl (d_skip (f_block (f_to (d_reg ?_)))))
        refine h_q hflS rfl ?_
        refine h_done (d_ret ?_)
        exact f_fin1 (.tmp rfl) (fun w h => ⟨rfl, below0 h.up⟩) rfl

set_option maxRecDepth 100000 in
theorem begins_any (w : World) (b0 b1 b2 : Int) (r : Bool) (hr : (numB b0 && numB b1 && setB b2 && b2 != 0) = r) : Calls Try.prog 52 #[.agg #[.int .u64 b0, .int .u64 b1, .int .i64 b2]] w fun e w' => e = .returned (.bool r) ∧ Below w.heap.size w w' := by
  obtain ⟨v1, hv1⟩ : ∃ v1, numB b0 = v1 := ⟨_, rfl⟩
  obtain ⟨v2, hv2⟩ : ∃ v2, numB b1 = v2 := ⟨_, rfl⟩
  obtain ⟨v3, hv3⟩ : ∃ v3, memB b2 = v3 := ⟨_, rfl⟩
  obtain ⟨v4, hv4⟩ : ∃ v4, setB b2 = v4 := ⟨_, rfl⟩
  have hR : (v1 && v2 && v3) = r := by rw [← hr, ← hv1, ← hv2, ← hv3]; unfold memB; simp only [Bool.and_assoc]
  refine d_in (args := [.agg #[.int .u64 b0, .int .u64 b1, .int .i64 b2]]) 16 Try.func52 rfl rfl rfl ?_
  refine d_reg ?_
  refine h_q hflS rfl ?_
  refine h_act (post := fun gb => [cell gb 25 #[.int .u64 b0, .int .u64 b1, .int .i64 b2]]) rfl (a_box (cs := #[.int .u64 b0, .int .u64 b1, .int .i64 b2]) rfl rfl rfl) ?_; rintro gb
  refine h_q hflS rfl ?_
  refine h_done ?_
  cases v1
  · skip
    obtain rfl : r = false := by rw [← hR]; rfl
    refine d_reg ?_
    refine h_q hflS rfl ?_
    refine h_val rfl (.int .u64 b0) (fun b w hb hH => exec_load rfl rfl (reads_one ty_uint64 rfl) (hH.row 0 rfl) hb) ?_
    refine h_act (post := fun _ => [cell gb 25 #[.int .u64 b0, .int .u64 b1, .int .i64 b2]]) rfl (a_call (ent_of Try.func50 (by kernel_rfl) rfl) (fun w hH => number_r w b0 false hv1) rfl rfl rfl) ?_; rintro ⟨⟩
    refine h_q hflS rfl ?_
    refine h_done (d_ret ?_)
    exact f_fin1 (.tmp rfl) (fun w h => ⟨rfl, below0 h.up⟩) rfl
  · skip
    cases v2
    · skip
      obtain rfl : r = false := by rw [← hR]; rfl
      refine d_reg ?_
      refine h_q hflS rfl ?_
      refine h_val rfl (.int .u64 b0) (fun b w hb hH => exec_load rfl rfl (reads_one ty_uint64 rfl) (hH.row 0 rfl) hb) ?_
      refine h_act (post := fun _ => [cell gb 25 #[.int .u64 b0, .int .u64 b1, .int .i64 b2]]) rfl (a_call (ent_of Try.func50 (by kernel_rfl) rfl) (fun w hH => number_r w b0 true hv1) rfl rfl rfl) ?_; rintro ⟨⟩
      refine h_q hflS rfl ?_
      refine h_val rfl (.int .u64 b1) (fun b w hb hH => exec_load rfl rfl (reads_one ty_uint64 rfl) (hH.row 0 rfl) hb) ?_
      refine h_act (post := fun _ => [cell gb 25 #[.int .u64 b0, .int .u64 b1, .int .i64 b2]]) rfl (a_call (ent_of Try.func50 (by kernel_rfl) rfl) (fun w hH => number_r w b1 false hv2) rfl rfl rfl) ?_; rintro ⟨⟩
      refine h_q hflS rfl ?_
      refine h_done (d_ret ?_)
      exact f_fin1 (.tmp rfl) (fun w h => ⟨rfl, below0 h.up⟩) rfl
    · skip
      obtain rfl : v3 = r := by rw [← hR]; rfl
      refine d_reg ?_
      refine h_q hflS rfl ?_
      refine h_val rfl (.int .u64 b0) (fun b w hb hH => exec_load rfl rfl (reads_one ty_uint64 rfl) (hH.row 0 rfl) hb) ?_
      refine h_act (post := fun _ => [cell gb 25 #[.int .u64 b0, .int .u64 b1, .int .i64 b2]]) rfl (a_call (ent_of Try.func50 (by kernel_rfl) rfl) (fun w hH => number_r w b0 true hv1) rfl rfl rfl) ?_; rintro ⟨⟩
      refine h_q hflS rfl ?_
      refine h_val rfl (.int .u64 b1) (fun b w hb hH => exec_load rfl rfl (reads_one ty_uint64 rfl) (hH.row 0 rfl) hb) ?_
      refine h_act (post := fun _ => [cell gb 25 #[.int .u64 b0, .int .u64 b1, .int .i64 b2]]) rfl (a_call (ent_of Try.func50 (by kernel_rfl) rfl) (fun w hH => number_r w b1 true hv2) rfl rfl rfl) ?_; rintro ⟨⟩
      refine h_q hflS rfl ?_
      refine h_val rfl (.int .i64 b2) (fun b w hb hH => exec_load rfl rfl (reads_one ty_int rfl) (hH.row 0 rfl) hb) ?_
      refine h_act (post := fun _ => [cell gb 25 #[.int .u64 b0, .int .u64 b1, .int .i64 b2]]) rfl (a_call (ent_of Try.func53 (by kernel_rfl) rfl) (fun w hH => members_any w b2 v3 hv3) rfl rfl rfl) ?_; rintro ⟨⟩
      refine h_q hflS rfl ?_
      refine h_done (d_ret ?_)
      exact f_fin1 (.tmp rfl) (fun w h => ⟨rfl, below0 h.up⟩) rfl

end Go.Proofs.Ytnhcbjlaeaohjaa.Sep
