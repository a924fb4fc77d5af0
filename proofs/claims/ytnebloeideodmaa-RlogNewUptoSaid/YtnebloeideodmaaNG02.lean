/-
  RpcA · RpcB · RpcC · App
-/
import Derived.Test.YtnebloeideodmaaND02
import Derived.Test.YtnebloeideodmaaNE01
import Derived.Test.YtnebloeideodmaaNG01
set_option linter.unusedSimpArgs false
set_option linter.unusedVariables false

namespace Go.Proofs.Ytnebloeideodmaa.Sep
open Go.RowKit
open Go.Proofs.Ytnebloeideodmaa.Mem (Dist Blk Chg below0)

/-- a right set of nodes that is not empty -/
def memB (c : Int) : Bool := setB c && c != 0
set_option maxRecDepth 100000 in
theorem number_r (w : World) (n : Int) (r : Bool) (hr : numB n = r) : Calls Try.prog 70 #[.int .u64 n] w fun e w' => e = .returned (.bool r) ∧ Below w.heap.size w w' := by
  refine d_in (args := [.int .u64 n]) 9 Try.func70 rfl rfl rfl ?_
  refine d_reg ?_
  refine h_q hflS rfl ?_
  refine h_done ?_
  have hc : n < 1 ∨ (1 ≤ n ∧ n ≤ 72057594037927935) ∨ 72057594037927935 < n := by omega
  rcases hc with h1 | ⟨h1, h2⟩ | h1
  · skip
    obtain rfl : r = false := by rw [← hr]; simp [numB]; omega
    refine d_reg ?_
    refine h_q hflS rfl ?_
    refine h_val rfl (.bool false) (fun b w hb hH => exec_cmp rfl rfl rfl (cmp_geq_f (by omega)) hb) ?_
    refine h_q hflS rfl ?_
    refine h_done (d_ret ?_)
    exact f_fin1 (.tmp rfl) (fun w h => ⟨rfl, below0 h.up⟩) rfl
  · skip
    obtain rfl : r = true := by rw [← hr]; simp [numB]; omega
    refine d_reg ?_
    refine h_q hflS rfl ?_
    refine h_val rfl (.bool true) (fun b w hb hH => exec_cmp rfl rfl rfl (cmp_geq_t (by omega)) hb) ?_
    refine h_q hflS rfl ?_
    refine h_val rfl (.bool true) (fun b w hb hH => exec_cmp rfl rfl rfl (cmp_leq_t (by omega)) hb) ?_
    refine h_q hflS rfl ?_
    refine h_done (d_ret ?_)
    exact f_fin1 (.tmp rfl) (fun w h => ⟨rfl, below0 h.up⟩) rfl
  · skip
    obtain rfl : r = false := by rw [← hr]; simp [numB]; omega
    refine d_reg ?_
    refine h_q hflS rfl ?_
    refine h_val rfl (.bool true) (fun b w hb hH => exec_cmp rfl rfl rfl (cmp_geq_t (by omega)) hb) ?_
    refine h_q hflS rfl ?_
    refine h_val rfl (.bool false) (fun b w hb hH => exec_cmp rfl rfl rfl (cmp_leq_f (by omega)) hb) ?_
    refine h_q hflS rfl ?_
    refine h_done (d_ret ?_)
    exact f_fin1 (.tmp rfl) (fun w h => ⟨rfl, below0 h.up⟩) rfl

set_option maxRecDepth 100000 in
theorem members_any (w : World) (c : Int) (r : Bool) (hr : memB c = r) : Calls Try.prog 71 #[.int .i64 c] w fun e w' => e = .returned (.bool r) ∧ Below w.heap.size w w' := by
  refine d_in (args := [.int .i64 c]) 14 Try.func71 rfl rfl rfl ?_
  refine d_reg ?_
  refine h_q hflS rfl ?_
  refine h_done ?_
  have hc : c < 1 ∨ (1 ≤ c ∧ c ≤ 254 ∧ c % 2 = 0) ∨ (1 ≤ c ∧ c ≤ 254 ∧ c % 2 ≠ 0) ∨ 254 < c := by omega
  rcases hc with h1 | ⟨h1, h2, h3⟩ | ⟨h1, h2, h3⟩ | h1
  · skip
    obtain rfl : r = false := by rw [← hr]; simp [memB, setB]; omega
    refine d_reg ?_
    refine h_q hflS rfl ?_
    refine h_val rfl (.bool false) (fun b w hb hH => exec_cmp rfl rfl rfl (cmp_geq_f (by omega)) hb) ?_
    refine h_q hflS rfl ?_
    refine h_done (d_ret ?_)
    exact f_fin1 (.tmp rfl) (fun w h => ⟨rfl, below0 h.up⟩) rfl
  · skip
    obtain rfl : r = true := by rw [← hr]; simp [memB, setB]; omega
    refine d_reg ?_
    refine h_q hflS rfl ?_
    refine h_val rfl (.bool true) (fun b w hb hH => exec_cmp rfl rfl rfl (cmp_geq_t (by omega)) hb) ?_
    refine h_q hflS rfl ?_
    refine h_val rfl (.bool true) (fun b w hb hH => exec_cmp rfl rfl rfl (cmp_leq_t (by omega)) hb) ?_
    refine h_q hflS rfl ?_
    refine h_val rfl (.int .i64 (c % 2)) (fun b w hb hH => exec_remI rfl rfl rfl (by decide) (Int.tmod_eq_emod_of_nonneg (by omega)) hb) ?_
    refine h_val rfl (.bool true) (fun b w hb hH => exec_cmp rfl rfl rfl (cmp_eql_t h3) hb) ?_
    refine h_q hflS rfl ?_
    refine h_done (d_ret ?_)
    exact f_fin1 (.tmp rfl) (fun w h => ⟨rfl, below0 h.up⟩) rfl
  · skip
    obtain rfl : r = false := by rw [← hr]; simp [memB, setB]; omega
    refine d_reg ?_
    refine h_q hflS rfl ?_
    refine h_val rfl (.bool true) (fun b w hb hH => exec_cmp rfl rfl rfl (cmp_geq_t (by omega)) hb) ?_
    refine h_q hflS rfl ?_
    refine h_val rfl (.bool true) (fun b w hb hH => exec_cmp rfl rfl rfl (cmp_leq_t (by omega)) hb) ?_
    refine h_q hflS rfl ?_
    refine h_val rfl (.int .i64 (c % 2)) (fun b w hb hH => exec_remI rfl rfl rfl (by decide) (Int.tmod_eq_emod_of_nonneg (by omega)) hb) ?_
    refine h_val rfl (.bool false) (fun b w hb hH => exec_cmp rfl rfl rfl (cmp_eql_f h3) hb) ?_
    refine h_q hflS rfl ?_
    refine h_done (d_ret ?_)
    exact f_fin1 (.tmp rfl) (fun w h => ⟨rfl, below0 h.up⟩) rfl
  · skip
    obtain rfl : r = false := by rw [← hr]; simp [memB, setB]; omega
    refine d_reg ?_
    refine h_q hflS rfl ?_
    refine h_val rfl (.bool true) (fun b w hb hH => exec_cmp rfl rfl rfl (cmp_geq_t (by omega)) hb) ?_
    refine h_q hflS rfl ?_
    refine h_val rfl (.bool false) (fun b w hb hH => exec_cmp rfl rfl rfl (cmp_leq_f (by omega)) hb) ?_
    refine h_q hflS rfl ?_
    refine h_done (d_ret ?_)
    exact f_fin1 (.tmp rfl) (fun w h => ⟨rfl, below0 h.up⟩) rfl

set_option maxRecDepth 100000 in
theorem rset_any (w : World) (c : Int) (r : Bool) (hr : setB c = r) : Calls Try.prog 75 #[.int .i64 c] w fun e w' => e = .returned (.bool r) ∧ Below w.heap.size w w' := by
  refine d_in (args := [.int .i64 c]) 14 Try.func75 rfl rfl rfl ?_
  refine d_reg ?_
  refine h_q hflS rfl ?_
  refine h_done ?_
  have hc : c < 0 ∨ (0 ≤ c ∧ c ≤ 254 ∧ c % 2 = 0) ∨ (0 ≤ c ∧ c ≤ 254 ∧ c % 2 ≠ 0) ∨ 254 < c := by omega
  rcases hc with h1 | ⟨h1, h2, h3⟩ | ⟨h1, h2, h3⟩ | h1
  · skip
    obtain rfl : r = false := by rw [← hr]; simp [memB, setB]; omega
    refine d_reg ?_
    refine h_q hflS rfl ?_
    refine h_val rfl (.bool false) (fun b w hb hH => exec_cmp rfl rfl rfl (cmp_geq_f (by omega)) hb) ?_
    refine h_q hflS rfl ?_
    refine h_done (d_ret ?_)
    exact f_fin1 (.tmp rfl) (fun w h => ⟨rfl, below0 h.up⟩) rfl
  · skip
    obtain rfl : r = true := by rw [← hr]; simp [memB, setB]; omega
    refine d_reg ?_
    refine h_q hflS rfl ?_
    refine h_val rfl (.bool true) (fun b w hb hH => exec_cmp rfl rfl rfl (cmp_geq_t (by omega)) hb) ?_
    refine h_q hflS rfl ?_
    refine h_val rfl (.bool true) (fun b w hb hH => exec_cmp rfl rfl rfl (cmp_leq_t (by omega)) hb) ?_
    refine h_q hflS rfl ?_
    refine h_val rfl (.int .i64 (c % 2)) (fun b w hb hH => exec_remI rfl rfl rfl (by decide) (Int.tmod_eq_emod_of_nonneg (by omega)) hb) ?_
    refine h_val rfl (.bool true) (fun b w hb hH => exec_cmp rfl rfl rfl (cmp_eql_t h3) hb) ?_
    refine h_q hflS rfl ?_
    refine h_done (d_ret ?_)
    exact f_fin1 (.tmp rfl) (fun w h => ⟨rfl, below0 h.up⟩) rfl
  · skip
    obtain rfl : r = false := by rw [← hr]; simp [memB, setB]; omega
    refine d_reg ?_
    refine h_q hflS rfl ?_
    refine h_val rfl (.bool true) (fun b w hb hH => exec_cmp rfl rfl rfl (cmp_geq_t (by omega)) hb) ?_
    refine h_q hflS rfl ?_
    refine h_val rfl (.bool true) (fun b w hb hH => exec_cmp rfl rfl rfl (cmp_leq_t (by omega)) hb) ?_
    refine h_q hflS rfl ?_
    refine h_val rfl (.int .i64 (c % 2)) (fun b w hb hH => exec_remI rfl rfl rfl (by decide) (Int.tmod_eq_emod_of_nonneg (by omega)) hb) ?_
    refine h_val rfl (.bool false) (fun b w hb hH => exec_cmp rfl rfl rfl (cmp_eql_f h3) hb) ?_
    refine h_q hflS rfl ?_
    refine h_done (d_ret ?_)
    exact f_fin1 (.tmp rfl) (fun w h => ⟨rfl, below0 h.up⟩) rfl
  · skip
    obtain rfl : r = false := by rw [← hr]; simp [memB, setB]; omega
    refine d_reg ?_
    refine h_q hflS rfl ?_
    refine h_val rfl (.bool true) (fun b w hb hH => exec_cmp rfl rfl rfl (cmp_geq_t (by omega)) hb) ?_
    refine h_q hflS rfl ?_
    refine h_val rfl (.bool false) (fun b w hb hH => exec_cmp rfl rfl rfl (cmp_leq_f (by omega)) hb) ?_
    refine h_q hflS rfl ?_
    refine h_done (d_ret ?_)
    exact f_fin1 (.tmp rfl) (fun w h => ⟨rfl, below0 h.up⟩) rfl

set_option maxRecDepth 100000 in
theorem rightE_any (w : World) (x : EntV) (hv : Sl8 w x.v x.e.d) (r : Bool) (hr : rightE x.e = r) : Calls Try.prog 60 #[.agg #[.int .i64 x.e.k, .int .u64 x.e.t, .int .u64 x.e.i, x.v, .int .i64 x.e.c]] w fun e w' => e = .returned (.bool r) ∧ Below w.heap.size w w' := by
  obtain ⟨v1, hv1⟩ : ∃ v1, numB x.e.t = v1 := ⟨_, rfl⟩
  obtain ⟨v2, hv2⟩ : ∃ v2, numB x.e.i = v2 := ⟨_, rfl⟩
  obtain ⟨v3, hv3⟩ : ∃ v3, kindE x.e = v3 := ⟨_, rfl⟩
  have hR : (v1 && (v2 && v3)) = r := by rw [← hr]; unfold rightE; rw [hv1, hv2, hv3]
  refine d_in (args := [.agg #[.int .i64 x.e.k, .int .u64 x.e.t, .int .u64 x.e.i, x.v, .int .i64 x.e.c]]) 54 Try.func60 rfl rfl rfl ?_
  refine d_reg ?_
  refine h_q hflS rfl ?_
  refine h_act (post := fun gx => [cell gx 32 #[.int .i64 x.e.k, .int .u64 x.e.t, .int .u64 x.e.i, x.v, .int .i64 x.e.c]]) rfl (a_box (cs := #[.int .i64 x.e.k, .int .u64 x.e.t, .int .u64 x.e.i, x.v, .int .i64 x.e.c]) rfl rfl rfl) ?_; rintro gx
  refine h_q hflS rfl ?_
  refine h_done (d_seq ?_)
  cases v1
  · skip
    obtain rfl : r = false := by rw [← hR]; rfl
    refine d_reg ?_
    refine h_q hflS rfl ?_
    refine h_val rfl (.int .u64 x.e.t) (fun b w hb hH => exec_load rfl rfl (reads_one ty_uint64 rfl) (hH.row 0 rfl) hb) ?_
    refine h_act (post := fun _ => [cell gx 32 #[.int .i64 x.e.k, .int .u64 x.e.t, .int .u64 x.e.i, x.v, .int .i64 x.e.c]]) rfl (a_call (ent_of Try.func70 (by kernel_rfl) rfl) (fun w hH => number_r w x.e.t false hv1) rfl rfl rfl) ?_; rintro ⟨⟩
    refine h_q hflS rfl ?_
    refine h_done (d_then rfl (d_reg ?_))
    refine h_q hflS rfl ?_
    refine h_done (d_ret (f_then_ret ?_))
    exact f_fin1 (.tmp rfl) (fun w h => ⟨rfl, below0 h.up⟩) rfl
  · skip
    cases v2
    · skip
      obtain rfl : r = false := by rw [← hR]; rfl
      refine d_reg ?_
      refine h_q hflS rfl ?_
      refine h_val rfl (.int .u64 x.e.t) (fun b w hb hH => exec_load rfl rfl (reads_one ty_uint64 rfl) (hH.row 0 rfl) hb) ?_
      refine h_act (post := fun _ => [cell gx 32 #[.int .i64 x.e.k, .int .u64 x.e.t, .int .u64 x.e.i, x.v, .int .i64 x.e.c]]) rfl (a_call (ent_of Try.func70 (by kernel_rfl) rfl) (fun w hH => number_r w x.e.t true hv1) rfl rfl rfl) ?_; rintro ⟨⟩
      refine h_q hflS rfl ?_
      refine h_val rfl (.int .u64 x.e.i) (fun b w hb hH => exec_load rfl rfl (reads_one ty_uint64 rfl) (hH.row 0 rfl) hb) ?_
      refine h_act (post := fun _ => [cell gx 32 #[.int .i64 x.e.k, .int .u64 x.e.t, .int .u64 x.e.i, x.v, .int .i64 x.e.c]]) rfl (a_call (ent_of Try.func70 (by kernel_rfl) rfl) (fun w hH => number_r w x.e.i false hv2) rfl rfl rfl) ?_; rintro ⟨⟩
      refine h_q hflS rfl ?_
      refine h_done (d_then rfl (d_reg ?_))
      refine h_q hflS rfl ?_
      refine h_done (d_ret (f_then_ret ?_))
      exact f_fin1 (.tmp rfl) (fun w h => ⟨rfl, below0 h.up⟩) rfl
    · skip
      refine d_reg ?_
      refine h_q hflS rfl ?_
      refine h_val rfl (.int .u64 x.e.t) (fun b w hb hH => exec_load rfl rfl (reads_one ty_uint64 rfl) (hH.row 0 rfl) hb) ?_
      refine h_act (post := fun _ => [cell gx 32 #[.int .i64 x.e.k, .int .u64 x.e.t, .int .u64 x.e.i, x.v, .int .i64 x.e.c]]) rfl (a_call (ent_of Try.func70 (by kernel_rfl) rfl) (fun w hH => number_r w x.e.t true hv1) rfl rfl rfl) ?_; rintro ⟨⟩
      refine h_q hflS rfl ?_
      refine h_val rfl (.int .u64 x.e.i) (fun b w hb hH => exec_load rfl rfl (reads_one ty_uint64 rfl) (hH.row 0 rfl) hb) ?_
      refine h_act (post := fun _ => [cell gx 32 #[.int .i64 x.e.k, .int .u64 x.e.t, .int .u64 x.e.i, x.v, .int .i64 x.e.c]]) rfl (a_call (ent_of Try.func70 (by kernel_rfl) rfl) (fun w hH => number_r w x.e.i true hv2) rfl rfl rfl) ?_; rintro ⟨⟩
      refine h_q hflS rfl ?_
      refine h_done (d_else rfl (d_skip (f_to (d_seq (d_reg ?_)))))
      refine h_q hflS rfl ?_
      refine h_val rfl (.int .i64 x.e.k) (fun b w hb hH => exec_load rfl rfl (reads_one ty_int rfl) (hH.row 0 rfl) hb) ?_
      refine h_done (d_block ?_)
      have hk : x.e.k = 0 ∨ x.e.k = 1 ∨ x.e.k = 2 ∨ (x.e.k ≠ 0 ∧ x.e.k ≠ 1 ∧ x.e.k ≠ 2) := by omega
      rcases hk with hk | hk | hk | hk
      · skip
        refine d_reg ?_
        refine h_q hflS rfl ?_
        refine h_val rfl (.bool true) (fun b w hb hH => exec_cmp rfl rfl rfl (cmp_eql_t hk) hb) ?_
        refine h_q hflS rfl ?_
        refine h_done (d_then rfl ?_)
        by_cases hd : x.e.d.length = 0
        · skip
          by_cases hc : x.e.c = 0
          · skip
            obtain rfl : r = true := by rw [← hR, ← hv3]; simp [kindE, hk, hc, List.eq_nil_of_length_eq_zero hd]
            refine d_reg ?_
            refine h_q hflS rfl ?_
            refine h_val rfl (x.v) (fun b w hb hH => exec_load rfl rfl (reads_one ty_s_uint8 rfl) (hH.row 0 rfl) hb) ?_
            refine h_val rfl (.int .i64 (x.e.d.length : Int)) (fun b w hb hH => e_slen ((arg80 hv hH).rd) Try.underlying30 rfl rfl hb) ?_
            refine h_val rfl (.bool true) (fun b w hb hH => exec_cmp rfl rfl rfl (cmp_eql_t (by omega)) hb) ?_
            refine h_q hflS rfl ?_
            refine h_val rfl (.int .i64 x.e.c) (fun b w hb hH => exec_load rfl rfl (reads_one ty_int rfl) (hH.row 0 rfl) hb) ?_
            refine h_val rfl (.bool true) (fun b w hb hH => exec_cmp rfl rfl rfl (cmp_eql_t hc) hb) ?_
            refine h_q hflS rfl ?_
            refine h_done (d_ret (f_block_ret (f_then_ret ?_)))
            exact f_fin1 (.tmp rfl) (fun w h => ⟨rfl, below0 h.up⟩) rfl
          · skip
            obtain rfl : r = false := by rw [← hR, ← hv3]; simp [kindE, hk, hc]
            refine d_reg ?_
            refine h_q hflS rfl ?_
            refine h_val rfl (x.v) (fun b w hb hH => exec_load rfl rfl (reads_one ty_s_uint8 rfl) (hH.row 0 rfl) hb) ?_
            refine h_val rfl (.int .i64 (x.e.d.length : Int)) (fun b w hb hH => e_slen ((arg80 hv hH).rd) Try.underlying30 rfl rfl hb) ?_
            refine h_val rfl (.bool true) (fun b w hb hH => exec_cmp rfl rfl rfl (cmp_eql_t (by omega)) hb) ?_
            refine h_q hflS rfl ?_
            refine h_val rfl (.int .i64 x.e.c) (fun b w hb hH => exec_load rfl rfl (reads_one ty_int rfl) (hH.row 0 rfl) hb) ?_
            refine h_val rfl (.bool false) (fun b w hb hH => exec_cmp rfl rfl rfl (cmp_eql_f hc) hb) ?_
            refine h_q hflS rfl ?_
            refine h_done (d_ret (f_block_ret (f_then_ret ?_)))
            exact f_fin1 (.tmp rfl) (fun w h => ⟨rfl, below0 h.up⟩) rfl
        · skip
          have hd0 : (x.e.d == []) = false := by cases hx : x.e.d with | nil => rw [hx] at hd; exact absurd rfl hd | cons => rfl
          obtain rfl : r = false := by rw [← hR, ← hv3]; simp [kindE, hk, hd0]
          refine d_reg ?_
          refine h_q hflS rfl ?_
          refine h_val rfl (x.v) (fun b w hb hH => exec_load rfl rfl (reads_one ty_s_uint8 rfl) (hH.row 0 rfl) hb) ?_
          refine h_val rfl (.int .i64 (x.e.d.length : Int)) (fun b w hb hH => e_slen ((arg80 hv hH).rd) Try.underlying30 rfl rfl hb) ?_
          refine h_val rfl (.bool false) (fun b w hb hH => exec_cmp rfl rfl rfl (cmp_eql_f (by omega)) hb) ?_
          refine h_q hflS rfl ?_
          refine h_done (d_ret (f_block_ret (f_then_ret ?_)))
          exact f_fin1 (.tmp rfl) (fun w h => ⟨rfl, below0 h.up⟩) rfl
      · skip
        refine d_reg ?_
        refine h_q hflS rfl ?_
        refine h_val rfl (.bool false) (fun b w hb hH => exec_cmp rfl rfl rfl (cmp_eql_f (by omega)) hb) ?_
        refine h_q hflS rfl ?_
        refine h_done (d_else rfl (d_reg ?_))
        refine h_q hflS rfl ?_
        refine h_val rfl (.bool true) (fun b w hb hH => exec_cmp rfl rfl rfl (cmp_eql_t hk) hb) ?_
        refine h_q hflS rfl ?_
        refine h_done (d_then rfl ?_)
        have hd : x.e.d.length < 1 ∨ 128 < x.e.d.length ∨ (1 ≤ x.e.d.length ∧ x.e.d.length ≤ 128) := by omega
        rcases hd with hd | hd | ⟨hd, hd2⟩
        · skip
          have hd0 : ¬ 1 ≤ x.e.d.length := by omega
          obtain rfl : r = false := by rw [← hR, ← hv3]; simp [kindE, hk, hd0]
          refine d_reg ?_
          refine h_q hflS rfl ?_
          refine h_val rfl (x.v) (fun b w hb hH => exec_load rfl rfl (reads_one ty_s_uint8 rfl) (hH.row 0 rfl) hb) ?_
          refine h_val rfl (.int .i64 (x.e.d.length : Int)) (fun b w hb hH => e_slen ((arg80 hv hH).rd) Try.underlying30 rfl rfl hb) ?_
          refine h_val rfl (.bool false) (fun b w hb hH => exec_cmp rfl rfl rfl (cmp_geq_f (by omega)) hb) ?_
          refine h_q hflS rfl ?_
          refine h_done (d_ret (f_block_ret (f_then_ret ?_)))
          exact f_fin1 (.tmp rfl) (fun w h => ⟨rfl, below0 h.up⟩) rfl
        · skip
          have hd0 : ¬ x.e.d.length ≤ 128 := by omega
          obtain rfl : r = false := by rw [← hR, ← hv3]; simp [kindE, hk, hd0]
          refine d_reg ?_
          refine h_q hflS rfl ?_
          refine h_val rfl (x.v) (fun b w hb hH => exec_load rfl rfl (reads_one ty_s_uint8 rfl) (hH.row 0 rfl) hb) ?_
          refine h_val rfl (.int .i64 (x.e.d.length : Int)) (fun b w hb hH => e_slen ((arg80 hv hH).rd) Try.underlying30 rfl rfl hb) ?_
          refine h_val rfl (.bool true) (fun b w hb hH => exec_cmp rfl rfl rfl (cmp_geq_t (by omega)) hb) ?_
          refine h_q hflS rfl ?_
          refine h_val rfl (x.v) (fun b w hb hH => exec_load rfl rfl (reads_one ty_s_uint8 rfl) (hH.row 0 rfl) hb) ?_
          refine h_val rfl (.int .i64 (x.e.d.length : Int)) (fun b w hb hH => e_slen ((arg80 hv hH).rd) Try.underlying30 rfl rfl hb) ?_
          refine h_val rfl (.bool false) (fun b w hb hH => exec_cmp rfl rfl rfl (cmp_leq_f (by omega)) hb) ?_
          refine h_q hflS rfl ?_
          refine h_done (d_ret (f_block_ret (f_then_ret ?_)))
          exact f_fin1 (.tmp rfl) (fun w h => ⟨rfl, below0 h.up⟩) rfl
        · skip
          by_cases hc : x.e.c = 0
          · skip
            obtain rfl : r = true := by rw [← hR, ← hv3]; simp [kindE, hk, hc, hd, hd2]
            refine d_reg ?_
            refine h_q hflS rfl ?_
            refine h_val rfl (x.v) (fun b w hb hH => exec_load rfl rfl (reads_one ty_s_uint8 rfl) (hH.row 0 rfl) hb) ?_
            refine h_val rfl (.int .i64 (x.e.d.length : Int)) (fun b w hb hH => e_slen ((arg80 hv hH).rd) Try.underlying30 rfl rfl hb) ?_
            refine h_val rfl (.bool true) (fun b w hb hH => exec_cmp rfl rfl rfl (cmp_geq_t (by omega)) hb) ?_
            refine h_q hflS rfl ?_
            refine h_val rfl (x.v) (fun b w hb hH => exec_load rfl rfl (reads_one ty_s_uint8 rfl) (hH.row 0 rfl) hb) ?_
            refine h_val rfl (.int .i64 (x.e.d.length : Int)) (fun b w hb hH => e_slen ((arg80 hv hH).rd) Try.underlying30 rfl rfl hb) ?_
            refine h_val rfl (.bool true) (fun b w hb hH => exec_cmp rfl rfl rfl (cmp_leq_t (by omega)) hb) ?_
            refine h_q hflS rfl ?_
            refine h_val rfl (.int .i64 x.e.c) (fun b w hb hH => exec_load rfl rfl (reads_one ty_int rfl) (hH.row 0 rfl) hb) ?_
            refine h_val rfl (.bool true) (fun b w hb hH => exec_cmp rfl rfl rfl (cmp_eql_t hc) hb) ?_
            refine h_q hflS rfl ?_
            refine h_done (d_ret (f_block_ret (f_then_ret ?_)))
            exact f_fin1 (.tmp rfl) (fun w h => ⟨rfl, below0 h.up⟩) rfl
          · skip
            obtain rfl : r = false := by rw [← hR, ← hv3]; simp [kindE, hk, hc]
            refine d_reg ?_
            refine h_q hflS rfl ?_
            refine h_val rfl (x.v) (fun b w hb hH => exec_load rfl rfl (reads_one ty_s_uint8 rfl) (hH.row 0 rfl) hb) ?_
            refine h_val rfl (.int .i64 (x.e.d.length : Int)) (fun b w hb hH => e_slen ((arg80 hv hH).rd) Try.underlying30 rfl rfl hb) ?_
            refine h_val rfl (.bool true) (fun b w hb hH => exec_cmp rfl rfl rfl (cmp_geq_t (by omega)) hb) ?_
            refine h_q hflS rfl ?_
            refine h_val rfl (x.v) (fun b w hb hH => exec_load rfl rfl (reads_one ty_s_uint8 rfl) (hH.row 0 rfl) hb) ?_
            refine h_val rfl (.int .i64 (x.e.d.length : Int)) (fun b w hb hH => e_slen ((arg80 hv hH).rd) Try.underlying30 rfl rfl hb) ?_
            refine h_val rfl (.bool true) (fun b w hb hH => exec_cmp rfl rfl rfl (cmp_leq_t (by omega)) hb) ?_
            refine h_q hflS rfl ?_
            refine h_val rfl (.int .i64 x.e.c) (fun b w hb hH => exec_load rfl rfl (reads_one ty_int rfl) (hH.row 0 rfl) hb) ?_
            refine h_val rfl (.bool false) (fun b w hb hH => exec_cmp rfl rfl rfl (cmp_eql_f hc) hb) ?_
            refine h_q hflS rfl ?_
            refine h_done (d_ret (f_block_ret (f_then_ret ?_)))
            exact f_fin1 (.tmp rfl) (fun w h => ⟨rfl, below0 h.up⟩) rfl
      · skip
        refine d_reg ?_
        refine h_q hflS rfl ?_
        refine h_val rfl (.bool false) (fun b w hb hH => exec_cmp rfl rfl rfl (cmp_eql_f (by omega)) hb) ?_
        refine h_q hflS rfl ?_
        refine h_done (d_else rfl (d_reg ?_))
        refine h_q hflS rfl ?_
        refine h_val rfl (.bool false) (fun b w hb hH => exec_cmp rfl rfl rfl (cmp_eql_f (by omega)) hb) ?_
        refine h_q hflS rfl ?_
        refine h_done (d_else rfl (d_reg ?_))
        refine h_q hflS rfl ?_
        refine h_val rfl (.bool true) (fun b w hb hH => exec_cmp rfl rfl rfl (cmp_eql_t hk) hb) ?_
        refine h_q hflS rfl ?_
        refine h_done (d_then rfl ?_)
        by_cases hd : x.e.d.length = 0
        · skip
          rcases Bool.eq_false_or_eq_true (memB x.e.c) with hs | hs
          · skip
            have hs2 := hs
            unfold memB at hs2
            simp only [Bool.and_eq_true, bne_iff_ne, ne_eq] at hs2
            obtain rfl : r = true := by rw [← hR, ← hv3]; simp [kindE, hk, hs2.1, hs2.2, List.eq_nil_of_length_eq_zero hd]
            refine d_reg ?_
            refine h_q hflS rfl ?_
            refine h_val rfl (x.v) (fun b w hb hH => exec_load rfl rfl (reads_one ty_s_uint8 rfl) (hH.row 0 rfl) hb) ?_
            refine h_val rfl (.int .i64 (x.e.d.length : Int)) (fun b w hb hH => e_slen ((arg80 hv hH).rd) Try.underlying30 rfl rfl hb) ?_
            refine h_val rfl (.bool true) (fun b w hb hH => exec_cmp rfl rfl rfl (cmp_eql_t (by omega)) hb) ?_
            refine h_q hflS rfl ?_
            refine h_val rfl (.int .i64 x.e.c) (fun b w hb hH => exec_load rfl rfl (reads_one ty_int rfl) (hH.row 0 rfl) hb) ?_
            refine h_act (post := fun _ => [cell gx 32 #[.int .i64 x.e.k, .int .u64 x.e.t, .int .u64 x.e.i, x.v, .int .i64 x.e.c]]) rfl (a_call (ent_of Try.func71 (by kernel_rfl) rfl) (fun w hH => members_any w x.e.c true hs) rfl rfl rfl) ?_; rintro ⟨⟩
            refine h_q hflS rfl ?_
            refine h_done (d_ret (f_block_ret (f_then_ret ?_)))
            exact f_fin1 (.tmp rfl) (fun w h => ⟨rfl, below0 h.up⟩) rfl
          · skip
            have hs2 : (setB x.e.c && x.e.c != 0) = false := hs
            obtain rfl : r = false := by rw [← hR, ← hv3]; simp only [kindE, hk, Bool.and_assoc, hs2]; simp
            refine d_reg ?_
            refine h_q hflS rfl ?_
            refine h_val rfl (x.v) (fun b w hb hH => exec_load rfl rfl (reads_one ty_s_uint8 rfl) (hH.row 0 rfl) hb) ?_
            refine h_val rfl (.int .i64 (x.e.d.length : Int)) (fun b w hb hH => e_slen ((arg80 hv hH).rd) Try.underlying30 rfl rfl hb) ?_
            refine h_val rfl (.bool true) (fun b w hb hH => exec_cmp rfl rfl rfl (cmp_eql_t (by omega)) hb) ?_
            refine h_q hflS rfl ?_
            refine h_val rfl (.int .i64 x.e.c) (fun b w hb hH => exec_load rfl rfl (reads_one ty_int rfl) (hH.row 0 rfl) hb) ?_
            refine h_act (post := fun _ => [cell gx 32 #[.int .i64 x.e.k, .int .u64 x.e.t, .int .u64 x.e.i, x.v, .int .i64 x.e.c]]) rfl (a_call (ent_of Try.func71 (by kernel_rfl) rfl) (fun w hH => members_any w x.e.c false hs) rfl rfl rfl) ?_; rintro ⟨⟩
            refine h_q hflS rfl ?_
            refine h_done (d_ret (f_block_ret (f_then_ret ?_)))
            exact f_fin1 (.tmp rfl) (fun w h => ⟨rfl, below0 h.up⟩) rfl
        · skip
          have hd0 : (x.e.d == []) = false := by cases hx : x.e.d with | nil => rw [hx] at hd; exact absurd rfl hd | cons => rfl
          obtain rfl : r = false := by rw [← hR, ← hv3]; simp [kindE, hk, hd0]
          refine d_reg ?_
          refine h_q hflS rfl ?_
          refine h_val rfl (x.v) (fun b w hb hH => exec_load rfl rfl (reads_one ty_s_uint8 rfl) (hH.row 0 rfl) hb) ?_
          refine h_val rfl (.int .i64 (x.e.d.length : Int)) (fun b w hb hH => e_slen ((arg80 hv hH).rd) Try.underlying30 rfl rfl hb) ?_
          refine h_val rfl (.bool false) (fun b w hb hH => exec_cmp rfl rfl rfl (cmp_eql_f (by omega)) hb) ?_
          refine h_q hflS rfl ?_
          refine h_done (d_ret (f_block_ret (f_then_ret ?_)))
          exact f_fin1 (.tmp rfl) (fun w h => ⟨rfl, below0 h.up⟩) rfl
      · skip
        obtain rfl : r = false := by rw [← hR, ← hv3]; simp [kindE, hk]
        refine d_reg ?_
        refine h_q hflS rfl ?_
        refine h_val rfl (.bool false) (fun b w hb hH => exec_cmp rfl rfl rfl (cmp_eql_f hk.1) hb) ?_
        refine h_q hflS rfl ?_
        refine h_done (d_else rfl (d_reg ?_))
        refine h_q hflS rfl ?_
        refine h_val rfl (.bool false) (fun b w hb hH => exec_cmp rfl rfl rfl (cmp_eql_f hk.2.1) hb) ?_
        refine h_q hflS rfl ?_
        refine h_done (d_else rfl (d_reg ?_))
        refine h_q hflS rfl ?_
        refine h_val rfl (.bool false) (fun b w hb hH => exec_cmp rfl rfl rfl (cmp_eql_f hk.2.2) hb) ?_
        refine h_q hflS rfl ?_
        refine h_done (d_else rfl (d_skip (f_block (f_to (d_reg ?_)))))
        refine h_q hflS rfl ?_
        refine h_done (d_ret ?_)
        exact f_fin1 (.tmp rfl) (fun w h => ⟨rfl, below0 h.up⟩) rfl

set_option maxRecDepth 100000 in
theorem rrightE_any (w : World) (x : EntV) (hv : Sl8 w x.v x.e.d) (r : Bool) (hr : rightE x.e = r) : Calls Try.prog 67 #[.agg #[.int .i64 x.e.k, .int .u64 x.e.t, .int .u64 x.e.i, x.v, .int .i64 x.e.c]] w fun e w' => e = .returned (.bool r) ∧ Below w.heap.size w w' := by
  obtain ⟨v1, hv1⟩ : ∃ v1, numB x.e.t = v1 := ⟨_, rfl⟩
  obtain ⟨v2, hv2⟩ : ∃ v2, numB x.e.i = v2 := ⟨_, rfl⟩
  obtain ⟨v3, hv3⟩ : ∃ v3, kindE x.e = v3 := ⟨_, rfl⟩
  have hR : (v1 && (v2 && v3)) = r := by rw [← hr]; unfold rightE; rw [hv1, hv2, hv3]
  refine d_in (args := [.agg #[.int .i64 x.e.k, .int .u64 x.e.t, .int .u64 x.e.i, x.v, .int .i64 x.e.c]]) 59 Try.func67 rfl rfl rfl ?_
  refine d_reg ?_
  refine h_q hflS rfl ?_
  refine h_act (post := fun gx => [cell gx 32 #[.int .i64 x.e.k, .int .u64 x.e.t, .int .u64 x.e.i, x.v, .int .i64 x.e.c]]) rfl (a_box (cs := #[.int .i64 x.e.k, .int .u64 x.e.t, .int .u64 x.e.i, x.v, .int .i64 x.e.c]) rfl rfl rfl) ?_; rintro gx
  refine h_q hflS rfl ?_
  refine h_done (d_seq ?_)
  cases v1
  · skip
    obtain rfl : r = false := by rw [← hR]; rfl
    refine d_reg ?_
    refine h_q hflS rfl ?_
    refine h_val rfl (.int .u64 x.e.t) (fun b w hb hH => exec_load rfl rfl (reads_one ty_uint64 rfl) (hH.row 0 rfl) hb) ?_
    refine h_act (post := fun _ => [cell gx 32 #[.int .i64 x.e.k, .int .u64 x.e.t, .int .u64 x.e.i, x.v, .int .i64 x.e.c]]) rfl (a_call (ent_of Try.func74 (by kernel_rfl) rfl) (fun w hH => rnumber_any w true x.e.t false (by simpa [mayB] using hv1)) rfl rfl rfl) ?_; rintro ⟨⟩
    refine h_q hflS rfl ?_
    refine h_done (d_then rfl (d_reg ?_))
    refine h_q hflS rfl ?_
    refine h_done (d_ret (f_then_ret ?_))
    exact f_fin1 (.tmp rfl) (fun w h => ⟨rfl, below0 h.up⟩) rfl
  · skip
    cases v2
    · skip
      obtain rfl : r = false := by rw [← hR]; rfl
      refine d_reg ?_
      refine h_q hflS rfl ?_
      refine h_val rfl (.int .u64 x.e.t) (fun b w hb hH => exec_load rfl rfl (reads_one ty_uint64 rfl) (hH.row 0 rfl) hb) ?_
      refine h_act (post := fun _ => [cell gx 32 #[.int .i64 x.e.k, .int .u64 x.e.t, .int .u64 x.e.i, x.v, .int .i64 x.e.c]]) rfl (a_call (ent_of Try.func74 (by kernel_rfl) rfl) (fun w hH => rnumber_any w true x.e.t true (by simpa [mayB] using hv1)) rfl rfl rfl) ?_; rintro ⟨⟩
      refine h_q hflS rfl ?_
      refine h_val rfl (.int .u64 x.e.i) (fun b w hb hH => exec_load rfl rfl (reads_one ty_uint64 rfl) (hH.row 0 rfl) hb) ?_
      refine h_act (post := fun _ => [cell gx 32 #[.int .i64 x.e.k, .int .u64 x.e.t, .int .u64 x.e.i, x.v, .int .i64 x.e.c]]) rfl (a_call (ent_of Try.func74 (by kernel_rfl) rfl) (fun w hH => rnumber_any w true x.e.i false (by simpa [mayB] using hv2)) rfl rfl rfl) ?_; rintro ⟨⟩
      refine h_q hflS rfl ?_
      refine h_done (d_then rfl (d_reg ?_))
      refine h_q hflS rfl ?_
      refine h_done (d_ret (f_then_ret ?_))
      exact f_fin1 (.tmp rfl) (fun w h => ⟨rfl, below0 h.up⟩) rfl
    · skip
      refine d_reg ?_
      refine h_q hflS rfl ?_
      refine h_val rfl (.int .u64 x.e.t) (fun b w hb hH => exec_load rfl rfl (reads_one ty_uint64 rfl) (hH.row 0 rfl) hb) ?_
      refine h_act (post := fun _ => [cell gx 32 #[.int .i64 x.e.k, .int .u64 x.e.t, .int .u64 x.e.i, x.v, .int .i64 x.e.c]]) rfl (a_call (ent_of Try.func74 (by kernel_rfl) rfl) (fun w hH => rnumber_any w true x.e.t true (by simpa [mayB] using hv1)) rfl rfl rfl) ?_; rintro ⟨⟩
      refine h_q hflS rfl ?_
      refine h_val rfl (.int .u64 x.e.i) (fun b w hb hH => exec_load rfl rfl (reads_one ty_uint64 rfl) (hH.row 0 rfl) hb) ?_
      refine h_act (post := fun _ => [cell gx 32 #[.int .i64 x.e.k, .int .u64 x.e.t, .int .u64 x.e.i, x.v, .int .i64 x.e.c]]) rfl (a_call (ent_of Try.func74 (by kernel_rfl) rfl) (fun w hH => rnumber_any w true x.e.i true (by simpa [mayB] using hv2)) rfl rfl rfl) ?_; rintro ⟨⟩
      refine h_q hflS rfl ?_
      refine h_done (d_else rfl (d_skip (f_to (d_seq (d_reg ?_)))))
      refine h_q hflS rfl ?_
      refine h_val rfl (.int .i64 x.e.k) (fun b w hb hH => exec_load rfl rfl (reads_one ty_int rfl) (hH.row 0 rfl) hb) ?_
      refine h_done (d_block ?_)
      have hk : x.e.k = 0 ∨ x.e.k = 1 ∨ x.e.k = 2 ∨ (x.e.k ≠ 0 ∧ x.e.k ≠ 1 ∧ x.e.k ≠ 2) := by omega
      rcases hk with hk | hk | hk | hk
      · skip
        refine d_reg ?_
        refine h_q hflS rfl ?_
        refine h_val rfl (.bool true) (fun b w hb hH => exec_cmp rfl rfl rfl (cmp_eql_t hk) hb) ?_
        refine h_q hflS rfl ?_
        refine h_done (d_then rfl ?_)
        by_cases hd : x.e.d.length = 0
        · skip
          by_cases hc : x.e.c = 0
          · skip
            obtain rfl : r = true := by rw [← hR, ← hv3]; simp [kindE, hk, hc, List.eq_nil_of_length_eq_zero hd]
            refine d_reg ?_
            refine h_q hflS rfl ?_
            refine h_val rfl (x.v) (fun b w hb hH => exec_load rfl rfl (reads_one ty_s_uint8 rfl) (hH.row 0 rfl) hb) ?_
            refine h_val rfl (.int .i64 (x.e.d.length : Int)) (fun b w hb hH => e_slen ((arg80 hv hH).rd) Try.underlying30 rfl rfl hb) ?_
            refine h_val rfl (.bool true) (fun b w hb hH => exec_cmp rfl rfl rfl (cmp_eql_t (by omega)) hb) ?_
            refine h_q hflS rfl ?_
            refine h_val rfl (.int .i64 x.e.c) (fun b w hb hH => exec_load rfl rfl (reads_one ty_int rfl) (hH.row 0 rfl) hb) ?_
            refine h_val rfl (.bool true) (fun b w hb hH => exec_cmp rfl rfl rfl (cmp_eql_t hc) hb) ?_
            refine h_q hflS rfl ?_
            refine h_done (d_ret (f_block_ret (f_then_ret ?_)))
            exact f_fin1 (.tmp rfl) (fun w h => ⟨rfl, below0 h.up⟩) rfl
          · skip
            obtain rfl : r = false := by rw [← hR, ← hv3]; simp [kindE, hk, hc]
            refine d_reg ?_
            refine h_q hflS rfl ?_
            refine h_val rfl (x.v) (fun b w hb hH => exec_load rfl rfl (reads_one ty_s_uint8 rfl) (hH.row 0 rfl) hb) ?_
            refine h_val rfl (.int .i64 (x.e.d.length : Int)) (fun b w hb hH => e_slen ((arg80 hv hH).rd) Try.underlying30 rfl rfl hb) ?_
            refine h_val rfl (.bool true) (fun b w hb hH => exec_cmp rfl rfl rfl (cmp_eql_t (by omega)) hb) ?_
            refine h_q hflS rfl ?_
            refine h_val rfl (.int .i64 x.e.c) (fun b w hb hH => exec_load rfl rfl (reads_one ty_int rfl) (hH.row 0 rfl) hb) ?_
            refine h_val rfl (.bool false) (fun b w hb hH => exec_cmp rfl rfl rfl (cmp_eql_f hc) hb) ?_
            refine h_q hflS rfl ?_
            refine h_done (d_ret (f_block_ret (f_then_ret ?_)))
            exact f_fin1 (.tmp rfl) (fun w h => ⟨rfl, below0 h.up⟩) rfl
        · skip
          have hd0 : (x.e.d == []) = false := by cases hx : x.e.d with | nil => rw [hx] at hd; exact absurd rfl hd | cons => rfl
          obtain rfl : r = false := by rw [← hR, ← hv3]; simp [kindE, hk, hd0]
          refine d_reg ?_
          refine h_q hflS rfl ?_
          refine h_val rfl (x.v) (fun b w hb hH => exec_load rfl rfl (reads_one ty_s_uint8 rfl) (hH.row 0 rfl) hb) ?_
          refine h_val rfl (.int .i64 (x.e.d.length : Int)) (fun b w hb hH => e_slen ((arg80 hv hH).rd) Try.underlying30 rfl rfl hb) ?_
          refine h_val rfl (.bool false) (fun b w hb hH => exec_cmp rfl rfl rfl (cmp_eql_f (by omega)) hb) ?_
          refine h_q hflS rfl ?_
          refine h_done (d_ret (f_block_ret (f_then_ret ?_)))
          exact f_fin1 (.tmp rfl) (fun w h => ⟨rfl, below0 h.up⟩) rfl
      · skip
        refine d_reg ?_
        refine h_q hflS rfl ?_
        refine h_val rfl (.bool false) (fun b w hb hH => exec_cmp rfl rfl rfl (cmp_eql_f (by omega)) hb) ?_
        refine h_q hflS rfl ?_
        refine h_done (d_else rfl (d_reg ?_))
        refine h_q hflS rfl ?_
        refine h_val rfl (.bool true) (fun b w hb hH => exec_cmp rfl rfl rfl (cmp_eql_t hk) hb) ?_
        refine h_q hflS rfl ?_
        refine h_done (d_then rfl ?_)
        have hd : x.e.d.length < 1 ∨ 128 < x.e.d.length ∨ (1 ≤ x.e.d.length ∧ x.e.d.length ≤ 128) := by omega
        rcases hd with hd | hd | ⟨hd, hd2⟩
        · skip
          have hd0 : ¬ 1 ≤ x.e.d.length := by omega
          obtain rfl : r = false := by rw [← hR, ← hv3]; simp [kindE, hk, hd0]
          refine d_reg ?_
          refine h_q hflS rfl ?_
          refine h_val rfl (x.v) (fun b w hb hH => exec_load rfl rfl (reads_one ty_s_uint8 rfl) (hH.row 0 rfl) hb) ?_
          refine h_val rfl (.int .i64 (x.e.d.length : Int)) (fun b w hb hH => e_slen ((arg80 hv hH).rd) Try.underlying30 rfl rfl hb) ?_
          refine h_val rfl (.bool false) (fun b w hb hH => exec_cmp rfl rfl rfl (cmp_geq_f (by omega)) hb) ?_
          refine h_q hflS rfl ?_
          refine h_done (d_ret (f_block_ret (f_then_ret ?_)))
          exact f_fin1 (.tmp rfl) (fun w h => ⟨rfl, below0 h.up⟩) rfl
        · skip
          have hd0 : ¬ x.e.d.length ≤ 128 := by omega
          obtain rfl : r = false := by rw [← hR, ← hv3]; simp [kindE, hk, hd0]
          refine d_reg ?_
          refine h_q hflS rfl ?_
          refine h_val rfl (x.v) (fun b w hb hH => exec_load rfl rfl (reads_one ty_s_uint8 rfl) (hH.row 0 rfl) hb) ?_
          refine h_val rfl (.int .i64 (x.e.d.length : Int)) (fun b w hb hH => e_slen ((arg80 hv hH).rd) Try.underlying30 rfl rfl hb) ?_
          refine h_val rfl (.bool true) (fun b w hb hH => exec_cmp rfl rfl rfl (cmp_geq_t (by omega)) hb) ?_
          refine h_q hflS rfl ?_
          refine h_val rfl (x.v) (fun b w hb hH => exec_load rfl rfl (reads_one ty_s_uint8 rfl) (hH.row 0 rfl) hb) ?_
          refine h_val rfl (.int .i64 (x.e.d.length : Int)) (fun b w hb hH => e_slen ((arg80 hv hH).rd) Try.underlying30 rfl rfl hb) ?_
          refine h_val rfl (.bool false) (fun b w hb hH => exec_cmp rfl rfl rfl (cmp_leq_f (by omega)) hb) ?_
          refine h_q hflS rfl ?_
          refine h_done (d_ret (f_block_ret (f_then_ret ?_)))
          exact f_fin1 (.tmp rfl) (fun w h => ⟨rfl, below0 h.up⟩) rfl
        · skip
          by_cases hc : x.e.c = 0
          · skip
            obtain rfl : r = true := by rw [← hR, ← hv3]; simp [kindE, hk, hc, hd, hd2]
            refine d_reg ?_
            refine h_q hflS rfl ?_
            refine h_val rfl (x.v) (fun b w hb hH => exec_load rfl rfl (reads_one ty_s_uint8 rfl) (hH.row 0 rfl) hb) ?_
            refine h_val rfl (.int .i64 (x.e.d.length : Int)) (fun b w hb hH => e_slen ((arg80 hv hH).rd) Try.underlying30 rfl rfl hb) ?_
            refine h_val rfl (.bool true) (fun b w hb hH => exec_cmp rfl rfl rfl (cmp_geq_t (by omega)) hb) ?_
            refine h_q hflS rfl ?_
            refine h_val rfl (x.v) (fun b w hb hH => exec_load rfl rfl (reads_one ty_s_uint8 rfl) (hH.row 0 rfl) hb) ?_
            refine h_val rfl (.int .i64 (x.e.d.length : Int)) (fun b w hb hH => e_slen ((arg80 hv hH).rd) Try.underlying30 rfl rfl hb) ?_
            refine h_val rfl (.bool true) (fun b w hb hH => exec_cmp rfl rfl rfl (cmp_leq_t (by omega)) hb) ?_
            refine h_q hflS rfl ?_
            refine h_val rfl (.int .i64 x.e.c) (fun b w hb hH => exec_load rfl rfl (reads_one ty_int rfl) (hH.row 0 rfl) hb) ?_
            refine h_val rfl (.bool true) (fun b w hb hH => exec_cmp rfl rfl rfl (cmp_eql_t hc) hb) ?_
            refine h_q hflS rfl ?_
            refine h_done (d_ret (f_block_ret (f_then_ret ?_)))
            exact f_fin1 (.tmp rfl) (fun w h => ⟨rfl, below0 h.up⟩) rfl
          · skip
            obtain rfl : r = false := by rw [← hR, ← hv3]; simp [kindE, hk, hc]
            refine d_reg ?_
            refine h_q hflS rfl ?_
            refine h_val rfl (x.v) (fun b w hb hH => exec_load rfl rfl (reads_one ty_s_uint8 rfl) (hH.row 0 rfl) hb) ?_
            refine h_val rfl (.int .i64 (x.e.d.length : Int)) (fun b w hb hH => e_slen ((arg80 hv hH).rd) Try.underlying30 rfl rfl hb) ?_
            refine h_val rfl (.bool true) (fun b w hb hH => exec_cmp rfl rfl rfl (cmp_geq_t (by omega)) hb) ?_
            refine h_q hflS rfl ?_
            refine h_val rfl (x.v) (fun b w hb hH => exec_load rfl rfl (reads_one ty_s_uint8 rfl) (hH.row 0 rfl) hb) ?_
            refine h_val rfl (.int .i64 (x.e.d.length : Int)) (fun b w hb hH => e_slen ((arg80 hv hH).rd) Try.underlying30 rfl rfl hb) ?_
            refine h_val rfl (.bool true) (fun b w hb hH => exec_cmp rfl rfl rfl (cmp_leq_t (by omega)) hb) ?_
            refine h_q hflS rfl ?_
            refine h_val rfl (.int .i64 x.e.c) (fun b w hb hH => exec_load rfl rfl (reads_one ty_int rfl) (hH.row 0 rfl) hb) ?_
            refine h_val rfl (.bool false) (fun b w hb hH => exec_cmp rfl rfl rfl (cmp_eql_f hc) hb) ?_
            refine h_q hflS rfl ?_
            refine h_done (d_ret (f_block_ret (f_then_ret ?_)))
            exact f_fin1 (.tmp rfl) (fun w h => ⟨rfl, below0 h.up⟩) rfl
      · skip
        refine d_reg ?_
        refine h_q hflS rfl ?_
        refine h_val rfl (.bool false) (fun b w hb hH => exec_cmp rfl rfl rfl (cmp_eql_f (by omega)) hb) ?_
        refine h_q hflS rfl ?_
        refine h_done (d_else rfl (d_reg ?_))
        refine h_q hflS rfl ?_
        refine h_val rfl (.bool false) (fun b w hb hH => exec_cmp rfl rfl rfl (cmp_eql_f (by omega)) hb) ?_
        refine h_q hflS rfl ?_
        refine h_done (d_else rfl (d_reg ?_))
        refine h_q hflS rfl ?_
        refine h_val rfl (.bool true) (fun b w hb hH => exec_cmp rfl rfl rfl (cmp_eql_t hk) hb) ?_
        refine h_q hflS rfl ?_
        refine h_done (d_then rfl ?_)
        by_cases hd : x.e.d.length = 0
        · skip
          have hs : setB x.e.c = false ∨ (setB x.e.c = true ∧ x.e.c = 0) ∨ (setB x.e.c = true ∧ x.e.c ≠ 0) := by cases setB x.e.c <;> simp; omega
          rcases hs with hs | ⟨hs, hc⟩ | ⟨hs, hc⟩
          · skip
            obtain rfl : r = false := by rw [← hR, ← hv3]; simp [kindE, hk, hs]
            refine d_reg ?_
            refine h_q hflS rfl ?_
            refine h_val rfl (x.v) (fun b w hb hH => exec_load rfl rfl (reads_one ty_s_uint8 rfl) (hH.row 0 rfl) hb) ?_
            refine h_val rfl (.int .i64 (x.e.d.length : Int)) (fun b w hb hH => e_slen ((arg80 hv hH).rd) Try.underlying30 rfl rfl hb) ?_
            refine h_val rfl (.bool true) (fun b w hb hH => exec_cmp rfl rfl rfl (cmp_eql_t (by omega)) hb) ?_
            refine h_q hflS rfl ?_
            refine h_val rfl (.int .i64 x.e.c) (fun b w hb hH => exec_load rfl rfl (reads_one ty_int rfl) (hH.row 0 rfl) hb) ?_
            refine h_act (post := fun _ => [cell gx 32 #[.int .i64 x.e.k, .int .u64 x.e.t, .int .u64 x.e.i, x.v, .int .i64 x.e.c]]) rfl (a_call (ent_of Try.func75 (by kernel_rfl) rfl) (fun w hH => rset_any w x.e.c false hs) rfl rfl rfl) ?_; rintro ⟨⟩
            refine h_q hflS rfl ?_
            refine h_done (d_ret (f_block_ret (f_then_ret ?_)))
            exact f_fin1 (.tmp rfl) (fun w h => ⟨rfl, below0 h.up⟩) rfl
          · skip
            obtain rfl : r = false := by rw [← hR, ← hv3]; simp [kindE, hk, hs, hc]
            refine d_reg ?_
            refine h_q hflS rfl ?_
            refine h_val rfl (x.v) (fun b w hb hH => exec_load rfl rfl (reads_one ty_s_uint8 rfl) (hH.row 0 rfl) hb) ?_
            refine h_val rfl (.int .i64 (x.e.d.length : Int)) (fun b w hb hH => e_slen ((arg80 hv hH).rd) Try.underlying30 rfl rfl hb) ?_
            refine h_val rfl (.bool true) (fun b w hb hH => exec_cmp rfl rfl rfl (cmp_eql_t (by omega)) hb) ?_
            refine h_q hflS rfl ?_
            refine h_val rfl (.int .i64 x.e.c) (fun b w hb hH => exec_load rfl rfl (reads_one ty_int rfl) (hH.row 0 rfl) hb) ?_
            refine h_act (post := fun _ => [cell gx 32 #[.int .i64 x.e.k, .int .u64 x.e.t, .int .u64 x.e.i, x.v, .int .i64 x.e.c]]) rfl (a_call (ent_of Try.func75 (by kernel_rfl) rfl) (fun w hH => rset_any w x.e.c true hs) rfl rfl rfl) ?_; rintro ⟨⟩
            refine h_q hflS rfl ?_
            refine h_val rfl (.int .i64 x.e.c) (fun b w hb hH => exec_load rfl rfl (reads_one ty_int rfl) (hH.row 0 rfl) hb) ?_
            refine h_val rfl (.bool false) (fun b w hb hH => exec_cmp rfl rfl rfl (cmp_neq_f hc) hb) ?_
            refine h_q hflS rfl ?_
            refine h_done (d_ret (f_block_ret (f_then_ret ?_)))
            exact f_fin1 (.tmp rfl) (fun w h => ⟨rfl, below0 h.up⟩) rfl
          · skip
            obtain rfl : r = true := by rw [← hR, ← hv3]; simp [kindE, hk, hs, hc, List.eq_nil_of_length_eq_zero hd]
            refine d_reg ?_
            refine h_q hflS rfl ?_
            refine h_val rfl (x.v) (fun b w hb hH => exec_load rfl rfl (reads_one ty_s_uint8 rfl) (hH.row 0 rfl) hb) ?_
            refine h_val rfl (.int .i64 (x.e.d.length : Int)) (fun b w hb hH => e_slen ((arg80 hv hH).rd) Try.underlying30 rfl rfl hb) ?_
            refine h_val rfl (.bool true) (fun b w hb hH => exec_cmp rfl rfl rfl (cmp_eql_t (by omega)) hb) ?_
            refine h_q hflS rfl ?_
            refine h_val rfl (.int .i64 x.e.c) (fun b w hb hH => exec_load rfl rfl (reads_one ty_int rfl) (hH.row 0 rfl) hb) ?_
            refine h_act (post := fun _ => [cell gx 32 #[.int .i64 x.e.k, .int .u64 x.e.t, .int .u64 x.e.i, x.v, .int .i64 x.e.c]]) rfl (a_call (ent_of Try.func75 (by kernel_rfl) rfl) (fun w hH => rset_any w x.e.c true hs) rfl rfl rfl) ?_; rintro ⟨⟩
            refine h_q hflS rfl ?_
            refine h_val rfl (.int .i64 x.e.c) (fun b w hb hH => exec_load rfl rfl (reads_one ty_int rfl) (hH.row 0 rfl) hb) ?_
            refine h_val rfl (.bool true) (fun b w hb hH => exec_cmp rfl rfl rfl (cmp_neq_t hc) hb) ?_
            refine h_q hflS rfl ?_
            refine h_done (d_ret (f_block_ret (f_then_ret ?_)))
            exact f_fin1 (.tmp rfl) (fun w h => ⟨rfl, below0 h.up⟩) rfl
        · skip
          have hd0 : (x.e.d == []) = false := by cases hx : x.e.d with | nil => rw [hx] at hd; exact absurd rfl hd | cons => rfl
          obtain rfl : r = false := by rw [← hR, ← hv3]; simp [kindE, hk, hd0]
          refine d_reg ?_
          refine h_q hflS rfl ?_
          refine h_val rfl (x.v) (fun b w hb hH => exec_load rfl rfl (reads_one ty_s_uint8 rfl) (hH.row 0 rfl) hb) ?_
          refine h_val rfl (.int .i64 (x.e.d.length : Int)) (fun b w hb hH => e_slen ((arg80 hv hH).rd) Try.underlying30 rfl rfl hb) ?_
          refine h_val rfl (.bool false) (fun b w hb hH => exec_cmp rfl rfl rfl (cmp_eql_f (by omega)) hb) ?_
          refine h_q hflS rfl ?_
          refine h_done (d_ret (f_block_ret (f_then_ret ?_)))
          exact f_fin1 (.tmp rfl) (fun w h => ⟨rfl, below0 h.up⟩) rfl
      · skip
        obtain rfl : r = false := by rw [← hR, ← hv3]; simp [kindE, hk]
        refine d_reg ?_
        refine h_q hflS rfl ?_
        refine h_val rfl (.bool false) (fun b w hb hH => exec_cmp rfl rfl rfl (cmp_eql_f hk.1) hb) ?_
        refine h_q hflS rfl ?_
        refine h_done (d_else rfl (d_reg ?_))
        refine h_q hflS rfl ?_
        refine h_val rfl (.bool false) (fun b w hb hH => exec_cmp rfl rfl rfl (cmp_eql_f hk.2.1) hb) ?_
        refine h_q hflS rfl ?_
        refine h_done (d_else rfl (d_reg ?_))
        refine h_q hflS rfl ?_
        refine h_val rfl (.bool false) (fun b w hb hH => exec_cmp rfl rfl rfl (cmp_eql_f hk.2.2) hb) ?_
        refine h_q hflS rfl ?_
        refine h_done (d_else rfl (d_skip (f_block (f_to (d_reg ?_)))))
        refine h_q hflS rfl ?_
        refine h_done (d_ret ?_)
        exact f_fin1 (.tmp rfl) (fun w h => ⟨rfl, below0 h.up⟩) rfl

set_option maxRecDepth 100000 in
theorem rbase_any (w : World) (b0 b1 b2 : Int) (r : Bool) (hr : (numB b0 && numB b1 && setB b2 && b2 != 0) = r) : Calls Try.prog 66 #[.agg #[.int .u64 b0, .int .u64 b1, .int .i64 b2]] w fun e w' => e = .returned (.bool r) ∧ Below w.heap.size w w' := by
  obtain ⟨v1, hv1⟩ : ∃ v1, numB b0 = v1 := ⟨_, rfl⟩
  obtain ⟨v2, hv2⟩ : ∃ v2, numB b1 = v2 := ⟨_, rfl⟩
  obtain ⟨v3, hv3⟩ : ∃ v3, memB b2 = v3 := ⟨_, rfl⟩
  obtain ⟨v4, hv4⟩ : ∃ v4, setB b2 = v4 := ⟨_, rfl⟩
  have hR : (v1 && v2 && v3) = r := by rw [← hr, ← hv1, ← hv2, ← hv3]; unfold memB; simp only [Bool.and_assoc]
  refine d_in (args := [.agg #[.int .u64 b0, .int .u64 b1, .int .i64 b2]]) 21 Try.func66 rfl rfl rfl ?_
  refine d_reg ?_
  refine h_q hflS rfl ?_
  refine h_act (post := fun gb => [cell gb 28 #[.int .u64 b0, .int .u64 b1, .int .i64 b2]]) rfl (a_box (cs := #[.int .u64 b0, .int .u64 b1, .int .i64 b2]) rfl rfl rfl) ?_; rintro gb
  refine h_q hflS rfl ?_
  refine h_done ?_
  cases v1
  · skip
    obtain rfl : r = false := by rw [← hR]; rfl
    refine d_reg ?_
    refine h_q hflS rfl ?_
    refine h_val rfl (.int .u64 b0) (fun b w hb hH => exec_load rfl rfl (reads_one ty_uint64 rfl) (hH.row 0 rfl) hb) ?_
    refine h_act (post := fun _ => [cell gb 28 #[.int .u64 b0, .int .u64 b1, .int .i64 b2]]) rfl (a_call (ent_of Try.func74 (by kernel_rfl) rfl) (fun w hH => rnumber_any w true b0 false (by simpa [mayB] using hv1)) rfl rfl rfl) ?_; rintro ⟨⟩
    refine h_q hflS rfl ?_
    refine h_done (d_ret ?_)
    exact f_fin1 (.tmp rfl) (fun w h => ⟨rfl, below0 h.up⟩) rfl
  · skip
    cases v2
    · skip
      obtain rfl : r = false := by rw [← hR]; rfl
      refine d_reg ?_
      refine h_q hflS rfl ?_
      refine h_val rfl (.int .u64 b0) (fun b w hb hH => exec_load rfl rfl (reads_one ty_uint64 rfl) (hH.row 0 rfl) hb) ?_
      refine h_act (post := fun _ => [cell gb 28 #[.int .u64 b0, .int .u64 b1, .int .i64 b2]]) rfl (a_call (ent_of Try.func74 (by kernel_rfl) rfl) (fun w hH => rnumber_any w true b0 true (by simpa [mayB] using hv1)) rfl rfl rfl) ?_; rintro ⟨⟩
      refine h_q hflS rfl ?_
      refine h_val rfl (.int .u64 b1) (fun b w hb hH => exec_load rfl rfl (reads_one ty_uint64 rfl) (hH.row 0 rfl) hb) ?_
      refine h_act (post := fun _ => [cell gb 28 #[.int .u64 b0, .int .u64 b1, .int .i64 b2]]) rfl (a_call (ent_of Try.func74 (by kernel_rfl) rfl) (fun w hH => rnumber_any w true b1 false (by simpa [mayB] using hv2)) rfl rfl rfl) ?_; rintro ⟨⟩
      refine h_q hflS rfl ?_
      refine h_done (d_ret ?_)
      exact f_fin1 (.tmp rfl) (fun w h => ⟨rfl, below0 h.up⟩) rfl
    · skip
      cases v4
      · skip
        obtain rfl : r = false := by rw [← hR, ← hv3]; simp [memB, hv4]
        refine d_reg ?_
        refine h_q hflS rfl ?_
        refine h_val rfl (.int .u64 b0) (fun b w hb hH => exec_load rfl rfl (reads_one ty_uint64 rfl) (hH.row 0 rfl) hb) ?_
        refine h_act (post := fun _ => [cell gb 28 #[.int .u64 b0, .int .u64 b1, .int .i64 b2]]) rfl (a_call (ent_of Try.func74 (by kernel_rfl) rfl) (fun w hH => rnumber_any w true b0 true (by simpa [mayB] using hv1)) rfl rfl rfl) ?_; rintro ⟨⟩
        refine h_q hflS rfl ?_
        refine h_val rfl (.int .u64 b1) (fun b w hb hH => exec_load rfl rfl (reads_one ty_uint64 rfl) (hH.row 0 rfl) hb) ?_
        refine h_act (post := fun _ => [cell gb 28 #[.int .u64 b0, .int .u64 b1, .int .i64 b2]]) rfl (a_call (ent_of Try.func74 (by kernel_rfl) rfl) (fun w hH => rnumber_any w true b1 true (by simpa [mayB] using hv2)) rfl rfl rfl) ?_; rintro ⟨⟩
        refine h_q hflS rfl ?_
        refine h_val rfl (.int .i64 b2) (fun b w hb hH => exec_load rfl rfl (reads_one ty_int rfl) (hH.row 0 rfl) hb) ?_
        refine h_act (post := fun _ => [cell gb 28 #[.int .u64 b0, .int .u64 b1, .int .i64 b2]]) rfl (a_call (ent_of Try.func75 (by kernel_rfl) rfl) (fun w hH => rset_any w b2 false hv4) rfl rfl rfl) ?_; rintro ⟨⟩
        refine h_q hflS rfl ?_
        refine h_done (d_ret ?_)
        exact f_fin1 (.tmp rfl) (fun w h => ⟨rfl, below0 h.up⟩) rfl
      · skip
        by_cases hc : b2 = 0
        · skip
          obtain rfl : r = false := by rw [← hR, ← hv3]; simp [memB, hc]
          refine d_reg ?_
          refine h_q hflS rfl ?_
          refine h_val rfl (.int .u64 b0) (fun b w hb hH => exec_load rfl rfl (reads_one ty_uint64 rfl) (hH.row 0 rfl) hb) ?_
          refine h_act (post := fun _ => [cell gb 28 #[.int .u64 b0, .int .u64 b1, .int .i64 b2]]) rfl (a_call (ent_of Try.func74 (by kernel_rfl) rfl) (fun w hH => rnumber_any w true b0 true (by simpa [mayB] using hv1)) rfl rfl rfl) ?_; rintro ⟨⟩
          refine h_q hflS rfl ?_
          refine h_val rfl (.int .u64 b1) (fun b w hb hH => exec_load rfl rfl (reads_one ty_uint64 rfl) (hH.row 0 rfl) hb) ?_
          refine h_act (post := fun _ => [cell gb 28 #[.int .u64 b0, .int .u64 b1, .int .i64 b2]]) rfl (a_call (ent_of Try.func74 (by kernel_rfl) rfl) (fun w hH => rnumber_any w true b1 true (by simpa [mayB] using hv2)) rfl rfl rfl) ?_; rintro ⟨⟩
          refine h_q hflS rfl ?_
          refine h_val rfl (.int .i64 b2) (fun b w hb hH => exec_load rfl rfl (reads_one ty_int rfl) (hH.row 0 rfl) hb) ?_
          refine h_act (post := fun _ => [cell gb 28 #[.int .u64 b0, .int .u64 b1, .int .i64 b2]]) rfl (a_call (ent_of Try.func75 (by kernel_rfl) rfl) (fun w hH => rset_any w b2 true hv4) rfl rfl rfl) ?_; rintro ⟨⟩
          refine h_q hflS rfl ?_
          refine h_val rfl (.int .i64 b2) (fun b w hb hH => exec_load rfl rfl (reads_one ty_int rfl) (hH.row 0 rfl) hb) ?_
          refine h_val rfl (.bool false) (fun b w hb hH => exec_cmp rfl rfl rfl (cmp_neq_f hc) hb) ?_
          refine h_q hflS rfl ?_
          refine h_done (d_ret ?_)
          exact f_fin1 (.tmp rfl) (fun w h => ⟨rfl, below0 h.up⟩) rfl
        · skip
          obtain rfl : r = true := by rw [← hR, ← hv3]; simp [memB, hv4, hc]
          refine d_reg ?_
          refine h_q hflS rfl ?_
          refine h_val rfl (.int .u64 b0) (fun b w hb hH => exec_load rfl rfl (reads_one ty_uint64 rfl) (hH.row 0 rfl) hb) ?_
          refine h_act (post := fun _ => [cell gb 28 #[.int .u64 b0, .int .u64 b1, .int .i64 b2]]) rfl (a_call (ent_of Try.func74 (by kernel_rfl) rfl) (fun w hH => rnumber_any w true b0 true (by simpa [mayB] using hv1)) rfl rfl rfl) ?_; rintro ⟨⟩
          refine h_q hflS rfl ?_
          refine h_val rfl (.int .u64 b1) (fun b w hb hH => exec_load rfl rfl (reads_one ty_uint64 rfl) (hH.row 0 rfl) hb) ?_
          refine h_act (post := fun _ => [cell gb 28 #[.int .u64 b0, .int .u64 b1, .int .i64 b2]]) rfl (a_call (ent_of Try.func74 (by kernel_rfl) rfl) (fun w hH => rnumber_any w true b1 true (by simpa [mayB] using hv2)) rfl rfl rfl) ?_; rintro ⟨⟩
          refine h_q hflS rfl ?_
          refine h_val rfl (.int .i64 b2) (fun b w hb hH => exec_load rfl rfl (reads_one ty_int rfl) (hH.row 0 rfl) hb) ?_
          refine h_act (post := fun _ => [cell gb 28 #[.int .u64 b0, .int .u64 b1, .int .i64 b2]]) rfl (a_call (ent_of Try.func75 (by kernel_rfl) rfl) (fun w hH => rset_any w b2 true hv4) rfl rfl rfl) ?_; rintro ⟨⟩
          refine h_q hflS rfl ?_
          refine h_val rfl (.int .i64 b2) (fun b w hb hH => exec_load rfl rfl (reads_one ty_int rfl) (hH.row 0 rfl) hb) ?_
          refine h_val rfl (.bool true) (fun b w hb hH => exec_cmp rfl rfl rfl (cmp_neq_t hc) hb) ?_
          refine h_q hflS rfl ?_
          refine h_done (d_ret ?_)
          exact f_fin1 (.tmp rfl) (fun w h => ⟨rfl, below0 h.up⟩) rfl

end Go.Proofs.Ytnebloeideodmaa.Sep

namespace Go.Proofs.Ytnebloeideodmaa.Sep
open Go.RowKit
open Go.Proofs.Ytnebloeideodmaa.Mem (Dist Blk Chg below0)

theorem sl8_cap {w : World} {A : Option Addr} {n c : Nat} {l : List UInt8} (h : Sl8 w (.slice A n c) l) : l.length ≤ c := by
  obtain ⟨A', c', e, hb⟩ := h
  simp only [Value.slice.injEq] at e
  obtain ⟨rfl, _, rfl⟩ := e
  exact hb.1
theorem Rd8.mid {X : Ass} {A : Option Addr} {c i j : Nat} {l : List UInt8} (h : Rd8 X (.slice A l.length c) l) (hij : i ≤ j) (hj : j ≤ l.length) : Rd8 X (.slice (if c = i then A else A.map (·.add i)) (j - i) (c - i)) ((l.take j).drop i) := fun rs w h1 h2 => by
  have h3 := (h rs w h1 h2).takes hj
  have hl : (l.take j).length = j := by rw [List.length_take]; omega
  have h4 := h3.drop (k := i) (by omega)
  rw [List.length_drop, hl] at h4
  exact h4
theorem sub_mid {A : Option Addr} {n c i j : Nat} : subv 1 (.slice A n c) i j = .slice (if c = i then A else A.map (·.add i)) (j - i) (c - i) := by
  show Value.slice (if c = i then A else A.map (·.add (i * 1))) (j - i) (c - i) = _
  rw [Nat.mul_one]
end Go.Proofs.Ytnebloeideodmaa.Sep

namespace Go.Proofs.Ytnebloeideodmaa.Sep
open Go.RowKit
open Go.Proofs.Ytnebloeideodmaa.Mem (Dist Blk Chg below0)

/-- where bytes lie -/
structure SlV where
  A : Option Addr
  c : Nat
end Go.Proofs.Ytnebloeideodmaa.Sep

namespace Go.Proofs.Ytnebloeideodmaa.Sep
open Go.RowKit
open Go.Proofs.Ytnebloeideodmaa.Mem (Dist Blk Chg)
section
variable {P : Program} {t e ty : TypeId} {k : Nat} {α : Type} {enc : α → List Value} {v u : Value} {l m : List α} {w w' : World} {rs : List RowT}
theorem run_appendK {nb : Nat} (hT : SliceT P t e k) (hb : (P.info? e).map (fun i => i.bytes) = some nb) (hb1 : 1 ≤ nb) (he : EncOf k enc) (h : Vec e k enc v l rs) (hr : RowsOf w rs) (hd : Dist rs) (hu : SlRd w k u m.length (flat enc m)) (hlen : (l.length + m.length) * nb ≤ 140737488355328) :
    ∃ v' w', (Builtin.append_ #[t, t] ty #[v, u]).run P w = .ok v' w' ∧ ∃ rs', Vec e k enc v' (l ++ m) rs' ∧ Chg w w' rs rs' := by
  obtain ⟨i, z, hi, hz, hk, hby, hzs, _⟩ := hT.inf
  have hbn : i.bytes = nb := by simpa [hi] using hb
  have hl1 : l.length + m.length ≤ 140737488355328 := Nat.le_trans (Nat.le_mul_of_pos_right _ hb1) hlen
  obtain ⟨hul, A, c, rfl, hA⟩ := hu
  have hu1 := flat_one he m
  rcases hA with ⟨rfl, hm⟩ | ⟨a, rfl, hcells⟩
  · have hm' : m = [] := List.length_eq_zero_iff.1 hm
    subst hm'
    refine ⟨v, w, ?_, rs, by simpa using h, ⟨Mod.refl _ _, hr, hd, fun x hx _ => ⟨x, hx, rfl⟩⟩⟩
    rcases h with ⟨h1, h2, h3⟩ | ⟨g, c', cs, h1, h2, h3, h4, h5, h6⟩
    · subst h1
      simp [Builtin.append_, run_underlying hT.ht, sizeOf, typeInfo, hi, Builtin.lenOf, Builtin.firstCells]
    · subst h1
      simp [Builtin.append_, run_underlying hT.ht, sizeOf, typeInfo, hi, Builtin.lenOf, Builtin.firstCells, h2, storeCells]
  · have hown : w.ownsRow 0 e k v l.length (flat enc l) := by
      refine ⟨flat_len he l, ?_⟩
      rcases h with ⟨h1, h2, h3⟩ | ⟨g, c', cs, h1, h2, h3, h4, h5, h6⟩
      · exact .inl ⟨h1, by rw [h2]; rfl⟩
      · subst h6
        exact .inr ⟨g, c', cs, h1, Nat.zero_le _, hr.1, h2, h3, h4, h5⟩
    obtain ⟨v', w', hrun, h2, h3, _, h5⟩ := run_append_own_at (P := P) w 0 t ty e i z k i.bytes hT.ht hi hz hk rfl hzs hT.pos v l.length (flat enc l) hown a m.length c (flat enc m) hul hcells hu1 (by unfold maxLen; omega)
      (by rw [hbn]; omega) (Nat.zero_le _)
    refine ⟨v', w', hrun, ?_⟩
    have hm : Mod (At v) w w' := Mod.of_grown h3 (fun k hk => hk)
    have hmB : Mod (Blk rs) w w' := hm.weaken fun j _ hj => by
      rcases h with ⟨h1, _, _⟩ | ⟨g, c', cs, h1, _, _, _, _, h6⟩
      · subst h1; unfold At at hj; simp [Value.ownBlock] at hj
      · subst h1; subst h6
        unfold At at hj
        simp [Value.ownBlock] at hj
        exact ⟨(g, tyR e, cs), by simp, hj⟩
    rcases h2.2 with ⟨h1, hn⟩ | ⟨g, c', cs, h1, _, hrow, hle, hmx, hsz, htk⟩
    · have : l ++ m = [] := List.length_eq_zero_iff.1 (by rw [List.length_append]; exact hn)
      exact ⟨[], .inl ⟨h1, this, rfl⟩, ⟨hmB, trivial, trivial, fun x hx => by simp at hx⟩⟩
    · refine ⟨[(g, tyR e, cs)], .inr ⟨g, c', cs, by rw [h1, List.length_append], by rw [List.length_append]; exact hle, hmx, hsz, by rw [List.length_append, flat_app]; exact htk, rfl⟩, ⟨hmB, ⟨hrow, trivial⟩, ⟨(fun _ h => by cases h), trivial⟩, fun x hx hlt => ?_⟩⟩
      have : x = (g, tyR e, cs) := by simpa using hx
      subst this
      rcases h5 with h5 | h5
      · subst h1
        rcases h with ⟨h1, _, _⟩ | ⟨g', c'', cs', h1, _, _, _, _, h6⟩
        · subst h1; simp [Value.ownBlock] at h5
        · subst h1; subst h6
          simp [Value.ownBlock] at h5
          exact ⟨(g', tyR e, cs'), by simp, h5.symm⟩
      · subst h1
        simp [Value.ownBlock] at h5
        exact absurd hlt (by show ¬ g < w.heap.size; omega)
variable {Q : Exit → Act → World → Prop} {n : Nat} {B : Nat → Prop} {w0 : World} {os : List Ass} {env : List (Nat × Value)} {o : Oper}
theorem a_appendK {nb : Nat} (i : Nat) (hT : SliceT P t e k) (he : EncOf k enc) (hb : (P.info? e).map (fun i => i.bytes) = some nb) (hb1 : 1 ≤ nb) (hi : os[i]? = some (Vec e k enc v l)) (m : List α) (hu : ∀ w, Hp B w0 w os → SlRd w k u m.length (flat enc m)) (hlen : (l.length + m.length) * nb ≤ 140737488355328) {x y : Operand} (ho : o.op = .call { callee := .builtin .append, args := #[x, y], argTypes := #[t, t] }) (hx : evs env x = some v) (hy : evs env y = some u) {r : List α} (hr : l ++ m = r) :
    Acts P Q n env B w0 os o (fun v : Value => v) (fun v' => os.set i (Vec e k enc v' r)) := fun act w hH hF K hK => by
  subst hr
  have hH' := hH
  obtain ⟨rs0, hp, hm⟩ := hH
  obtain ⟨a, z, b, e1, hz, hbb⟩ := hp.at_ hi
  subst e1
  have p : (a ++ (z ++ b)).Perm (z ++ (a ++ b)) := by rw [← List.append_assoc, ← List.append_assoc]; exact List.perm_append_comm.append_right b
  have h5 := hp_perm hm p
  have hd := dist_iff.1 h5.apart
  rw [List.map_append] at hd
  obtain ⟨v', w', hr, y', hy', hc⟩ := run_appendK (P := P) (ty := o.type) hT hb hb1 he hz (rows_iff.2 fun z hz => h5.rows.mem z (by simp [hz])) (dist_iff.2 (List.nodup_append.1 hd).1) (hu w hH') hlen
  have p' : (y' ++ (a ++ b)).Perm (a ++ (y' ++ b)) := by rw [← List.append_assoc, ← List.append_assoc]; exact List.perm_append_comm.append_right b
  refine a_val (w0 := w) act (exec_bi ho (vs := [v, u]) (by simp [evl, hx, hy]) (fun cs => ?_) hF) (hK v' w' ⟨_, hbb _ y' hy', hp_perm (hp_chg h5 hc) p'⟩)
  simp only [builtin, Sem.run_bind, Sem.run_pure, Result.andThen_ok, hr]
end
end Go.Proofs.Ytnebloeideodmaa.Sep
