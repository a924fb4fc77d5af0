/-
  RpcA · RpcB · RpcC · App · Bld
-/
import Derived.Test.YtaipejaeeohpkaaGreatDoorUA05
import Derived.Test.YtaipejaeeohpkaaGreatDoorUB02
import Derived.Test.YtaipejaeeohpkaaGreatDoorUB03
set_option linter.unusedSimpArgs false
set_option linter.unusedVariables false
set_option maxRecDepth 100000
namespace Go.Proofs.YtaipejaeeohpkaaGreatDoor.Sep
open Go.RowKit
open Go.Proofs.YtaipejaeeohpkaaGreatDoor.Mem (Dist Blk Chg below0)
def memB (c : Int) : Bool := setB c && c != 0
theorem number_r (w : World) (n : Int) (r : Bool) (hr : numB n = r) : Calls Tryz.prog 95 #[.int .u64 n] w fun e w' => e = .returned (.bool r) ∧ Below w.heap.size w w' := by
  refine d_in (args := [.int .u64 n]) 9 Tryz.func95 rfl rfl rfl ?_
  refine d_reg ?_
  refine h_q hflS rfl ?_
  refine h_done ?_
  have hc : n < 1 ∨ (1 ≤ n ∧ n ≤ 72057594037927935) ∨ 72057594037927935 < n := by omega
  rcases hc with h1 | ⟨h1, h2⟩ | h1
  · skip
    obtain rfl : r = false := by rw [← hr]; simp [numB]; omega
    refine d_reg ?_
    refine h_q hflS rfl ?_
    refine h_val rfl (.bool false) (fun b w hb hH => xCm rfl rfl rfl (cmp_geq_f (by omega)) hb) ?_
    refine h_q hflS rfl ?_
    refine h_done (d_ret ?_)
    exact f_fin1 (.tmp rfl) (fun w h => ⟨rfl, below0 h.up⟩) rfl
  · skip
    obtain rfl : r = true := by rw [← hr]; simp [numB]; omega
    refine d_reg ?_
    refine h_q hflS rfl ?_
    refine h_val rfl (.bool true) (fun b w hb hH => xCm rfl rfl rfl (cmp_geq_t (by omega)) hb) ?_
    refine h_q hflS rfl ?_
    refine h_val rfl (.bool true) (fun b w hb hH => xCm rfl rfl rfl (cmp_leq_t (by omega)) hb) ?_
    refine h_q hflS rfl ?_
    refine h_done (d_ret ?_)
    exact f_fin1 (.tmp rfl) (fun w h => ⟨rfl, below0 h.up⟩) rfl
  · skip
    obtain rfl : r = false := by rw [← hr]; simp [numB]; omega
    refine d_reg ?_
    refine h_q hflS rfl ?_
    refine h_val rfl (.bool true) (fun b w hb hH => xCm rfl rfl rfl (cmp_geq_t (by omega)) hb) ?_
    refine h_q hflS rfl ?_
    refine h_val rfl (.bool false) (fun b w hb hH => xCm rfl rfl rfl (cmp_leq_f (by omega)) hb) ?_
    refine h_q hflS rfl ?_
    refine h_done (d_ret ?_)
    exact f_fin1 (.tmp rfl) (fun w h => ⟨rfl, below0 h.up⟩) rfl
theorem members_any (w : World) (c : Int) (r : Bool) (hr : memB c = r) : Calls Tryz.prog 96 #[.int .i64 c] w fun e w' => e = .returned (.bool r) ∧ Below w.heap.size w w' := by
  refine d_in (args := [.int .i64 c]) 14 Tryz.func96 rfl rfl rfl ?_
  refine d_reg ?_
  refine h_q hflS rfl ?_
  refine h_done ?_
  have hc : c < 1 ∨ (1 ≤ c ∧ c ≤ 254 ∧ c % 2 = 0) ∨ (1 ≤ c ∧ c ≤ 254 ∧ c % 2 ≠ 0) ∨ 254 < c := by omega
  rcases hc with h1 | ⟨h1, h2, h3⟩ | ⟨h1, h2, h3⟩ | h1
  · skip
    obtain rfl : r = false := by rw [← hr]; simp [memB, setB]; omega
    refine d_reg ?_
    refine h_q hflS rfl ?_
    refine h_val rfl (.bool false) (fun b w hb hH => xCm rfl rfl rfl (cmp_geq_f (by omega)) hb) ?_
    refine h_q hflS rfl ?_
    refine h_done (d_ret ?_)
    exact f_fin1 (.tmp rfl) (fun w h => ⟨rfl, below0 h.up⟩) rfl
  · skip
    obtain rfl : r = true := by rw [← hr]; simp [memB, setB]; omega
    refine d_reg ?_
    refine h_q hflS rfl ?_
    refine h_val rfl (.bool true) (fun b w hb hH => xCm rfl rfl rfl (cmp_geq_t (by omega)) hb) ?_
    refine h_q hflS rfl ?_
    refine h_val rfl (.bool true) (fun b w hb hH => xCm rfl rfl rfl (cmp_leq_t (by omega)) hb) ?_
    refine h_q hflS rfl ?_
    refine h_val rfl (.int .i64 (c % 2)) (fun b w hb hH => exec_remI rfl rfl rfl (by decide) (Int.tmod_eq_emod_of_nonneg (by omega)) hb) ?_
    refine h_val rfl (.bool true) (fun b w hb hH => xCm rfl rfl rfl (cEt h3) hb) ?_
    refine h_q hflS rfl ?_
    refine h_done (d_ret ?_)
    exact f_fin1 (.tmp rfl) (fun w h => ⟨rfl, below0 h.up⟩) rfl
  · skip
    obtain rfl : r = false := by rw [← hr]; simp [memB, setB]; omega
    refine d_reg ?_
    refine h_q hflS rfl ?_
    refine h_val rfl (.bool true) (fun b w hb hH => xCm rfl rfl rfl (cmp_geq_t (by omega)) hb) ?_
    refine h_q hflS rfl ?_
    refine h_val rfl (.bool true) (fun b w hb hH => xCm rfl rfl rfl (cmp_leq_t (by omega)) hb) ?_
    refine h_q hflS rfl ?_
    refine h_val rfl (.int .i64 (c % 2)) (fun b w hb hH => exec_remI rfl rfl rfl (by decide) (Int.tmod_eq_emod_of_nonneg (by omega)) hb) ?_
    refine h_val rfl (.bool false) (fun b w hb hH => xCm rfl rfl rfl (cEf h3) hb) ?_
    refine h_q hflS rfl ?_
    refine h_done (d_ret ?_)
    exact f_fin1 (.tmp rfl) (fun w h => ⟨rfl, below0 h.up⟩) rfl
  · skip
    obtain rfl : r = false := by rw [← hr]; simp [memB, setB]; omega
    refine d_reg ?_
    refine h_q hflS rfl ?_
    refine h_val rfl (.bool true) (fun b w hb hH => xCm rfl rfl rfl (cmp_geq_t (by omega)) hb) ?_
    refine h_q hflS rfl ?_
    refine h_val rfl (.bool false) (fun b w hb hH => xCm rfl rfl rfl (cmp_leq_f (by omega)) hb) ?_
    refine h_q hflS rfl ?_
    refine h_done (d_ret ?_)
    exact f_fin1 (.tmp rfl) (fun w h => ⟨rfl, below0 h.up⟩) rfl
theorem rightE_any (w : World) (x : EntV) (hv : Sl8 w x.v x.e.d) (r : Bool) (hr : rightE x.e = r) : Calls Tryz.prog 44 #[.agg #[.int .i64 x.e.k, .int .u64 x.e.t, .int .u64 x.e.i, x.v, .int .i64 x.e.c]] w fun e w' => e = .returned (.bool r) ∧ Below w.heap.size w w' := by
  obtain ⟨v1, hv1⟩ : ∃ v1, numB x.e.t = v1 := ⟨_, rfl⟩
  obtain ⟨v2, hv2⟩ : ∃ v2, numB x.e.i = v2 := ⟨_, rfl⟩
  obtain ⟨v3, hv3⟩ : ∃ v3, kindE x.e = v3 := ⟨_, rfl⟩
  have hR : (v1 && (v2 && v3)) = r := by rw [← hr]; unfold rightE; rw [hv1, hv2, hv3]
  refine d_in (args := [.agg #[.int .i64 x.e.k, .int .u64 x.e.t, .int .u64 x.e.i, x.v, .int .i64 x.e.c]]) 54 Tryz.func44 rfl rfl rfl ?_
  refine d_reg ?_
  refine h_q hflS rfl ?_
  refine h_act (post := fun gx => [cell gx 34 #[.int .i64 x.e.k, .int .u64 x.e.t, .int .u64 x.e.i, x.v, .int .i64 x.e.c]]) rfl (a_box (cs := #[.int .i64 x.e.k, .int .u64 x.e.t, .int .u64 x.e.i, x.v, .int .i64 x.e.c]) rfl rfl rfl) ?_; rintro gx
  refine h_q hflS rfl ?_
  refine h_done (d_seq ?_)
  cases v1
  · skip
    obtain rfl : r = false := by rw [← hR]; rfl
    refine d_reg ?_
    refine h_q hflS rfl ?_
    refine h_val rfl (.int .u64 x.e.t) (fun b w hb hH => xLd rfl rfl (rOn ty_uint64 rfl) (hH.row 0 rfl) hb) ?_
    refine h_act (post := fun _ => [cell gx 34 #[.int .i64 x.e.k, .int .u64 x.e.t, .int .u64 x.e.i, x.v, .int .i64 x.e.c]]) rfl (a_call (ent_of Tryz.func95 (by kernel_rfl) rfl) (fun w hH => number_r w x.e.t false hv1) rfl rfl rfl) ?_; rintro ⟨⟩
    refine h_q hflS rfl ?_
    refine h_done (d_then rfl (d_reg ?_))
    refine h_q hflS rfl ?_
    refine h_done (d_ret (fTr ?_))
    exact f_fin1 (.tmp rfl) (fun w h => ⟨rfl, below0 h.up⟩) rfl
  · skip
    cases v2
    · skip
      obtain rfl : r = false := by rw [← hR]; rfl
      refine d_reg ?_
      refine h_q hflS rfl ?_
      refine h_val rfl (.int .u64 x.e.t) (fun b w hb hH => xLd rfl rfl (rOn ty_uint64 rfl) (hH.row 0 rfl) hb) ?_
      refine h_act (post := fun _ => [cell gx 34 #[.int .i64 x.e.k, .int .u64 x.e.t, .int .u64 x.e.i, x.v, .int .i64 x.e.c]]) rfl (a_call (ent_of Tryz.func95 (by kernel_rfl) rfl) (fun w hH => number_r w x.e.t true hv1) rfl rfl rfl) ?_; rintro ⟨⟩
      refine h_q hflS rfl ?_
      refine h_val rfl (.int .u64 x.e.i) (fun b w hb hH => xLd rfl rfl (rOn ty_uint64 rfl) (hH.row 0 rfl) hb) ?_
      refine h_act (post := fun _ => [cell gx 34 #[.int .i64 x.e.k, .int .u64 x.e.t, .int .u64 x.e.i, x.v, .int .i64 x.e.c]]) rfl (a_call (ent_of Tryz.func95 (by kernel_rfl) rfl) (fun w hH => number_r w x.e.i false hv2) rfl rfl rfl) ?_; rintro ⟨⟩
      refine h_q hflS rfl ?_
      refine h_done (d_then rfl (d_reg ?_))
      refine h_q hflS rfl ?_
      refine h_done (d_ret (fTr ?_))
      exact f_fin1 (.tmp rfl) (fun w h => ⟨rfl, below0 h.up⟩) rfl
    · skip
      refine d_reg ?_
      refine h_q hflS rfl ?_
      refine h_val rfl (.int .u64 x.e.t) (fun b w hb hH => xLd rfl rfl (rOn ty_uint64 rfl) (hH.row 0 rfl) hb) ?_
      refine h_act (post := fun _ => [cell gx 34 #[.int .i64 x.e.k, .int .u64 x.e.t, .int .u64 x.e.i, x.v, .int .i64 x.e.c]]) rfl (a_call (ent_of Tryz.func95 (by kernel_rfl) rfl) (fun w hH => number_r w x.e.t true hv1) rfl rfl rfl) ?_; rintro ⟨⟩
      refine h_q hflS rfl ?_
      refine h_val rfl (.int .u64 x.e.i) (fun b w hb hH => xLd rfl rfl (rOn ty_uint64 rfl) (hH.row 0 rfl) hb) ?_
      refine h_act (post := fun _ => [cell gx 34 #[.int .i64 x.e.k, .int .u64 x.e.t, .int .u64 x.e.i, x.v, .int .i64 x.e.c]]) rfl (a_call (ent_of Tryz.func95 (by kernel_rfl) rfl) (fun w hH => number_r w x.e.i true hv2) rfl rfl rfl) ?_; rintro ⟨⟩
      refine h_q hflS rfl ?_
      refine h_done (d_else rfl (d_skip (f_to (d_seq (d_reg ?_)))))
      refine h_q hflS rfl ?_
      refine h_val rfl (.int .i64 x.e.k) (fun b w hb hH => xLd rfl rfl (rOn ty_int rfl) (hH.row 0 rfl) hb) ?_
      refine h_done (d_block ?_)
      have hk : x.e.k = 0 ∨ x.e.k = 1 ∨ x.e.k = 2 ∨ (x.e.k ≠ 0 ∧ x.e.k ≠ 1 ∧ x.e.k ≠ 2) := by omega
      rcases hk with hk | hk | hk | hk
      · skip
        refine d_reg ?_
        refine h_q hflS rfl ?_
        refine h_val rfl (.bool true) (fun b w hb hH => xCm rfl rfl rfl (cEt hk) hb) ?_
        refine h_q hflS rfl ?_
        refine h_done (d_then rfl ?_)
        by_cases hd : x.e.d.length = 0
        · skip
          by_cases hc : x.e.c = 0
          · skip
            obtain rfl : r = true := by rw [← hR, ← hv3]; simp [kindE, hk, hc, List.eq_nil_of_length_eq_zero hd]
            refine d_reg ?_
            refine h_q hflS rfl ?_
            refine h_val rfl (x.v) (fun b w hb hH => xLd rfl rfl (rOn tyS8 rfl) (hH.row 0 rfl) hb) ?_
            refine h_val rfl (.int .i64 (x.e.d.length : Int)) (fun b w hb hH => e_slen ((arg80 hv hH).rd) Tryz.underlying30 rfl rfl hb) ?_
            refine h_val rfl (.bool true) (fun b w hb hH => xCm rfl rfl rfl (cEt (by omega)) hb) ?_
            refine h_q hflS rfl ?_
            refine h_val rfl (.int .i64 x.e.c) (fun b w hb hH => xLd rfl rfl (rOn ty_int rfl) (hH.row 0 rfl) hb) ?_
            refine h_val rfl (.bool true) (fun b w hb hH => xCm rfl rfl rfl (cEt hc) hb) ?_
            refine h_q hflS rfl ?_
            refine h_done (d_ret (f_block_ret (fTr ?_)))
            exact f_fin1 (.tmp rfl) (fun w h => ⟨rfl, below0 h.up⟩) rfl
          · skip
            obtain rfl : r = false := by rw [← hR, ← hv3]; simp [kindE, hk, hc]
            refine d_reg ?_
            refine h_q hflS rfl ?_
            refine h_val rfl (x.v) (fun b w hb hH => xLd rfl rfl (rOn tyS8 rfl) (hH.row 0 rfl) hb) ?_
            refine h_val rfl (.int .i64 (x.e.d.length : Int)) (fun b w hb hH => e_slen ((arg80 hv hH).rd) Tryz.underlying30 rfl rfl hb) ?_
            refine h_val rfl (.bool true) (fun b w hb hH => xCm rfl rfl rfl (cEt (by omega)) hb) ?_
            refine h_q hflS rfl ?_
            refine h_val rfl (.int .i64 x.e.c) (fun b w hb hH => xLd rfl rfl (rOn ty_int rfl) (hH.row 0 rfl) hb) ?_
            refine h_val rfl (.bool false) (fun b w hb hH => xCm rfl rfl rfl (cEf hc) hb) ?_
            refine h_q hflS rfl ?_
            refine h_done (d_ret (f_block_ret (fTr ?_)))
            exact f_fin1 (.tmp rfl) (fun w h => ⟨rfl, below0 h.up⟩) rfl
        · skip
          have hd0 : (x.e.d == []) = false := by cases hx : x.e.d with | nil => rw [hx] at hd; exact absurd rfl hd | cons => rfl
          obtain rfl : r = false := by rw [← hR, ← hv3]; simp [kindE, hk, hd0]
          refine d_reg ?_
          refine h_q hflS rfl ?_
          refine h_val rfl (x.v) (fun b w hb hH => xLd rfl rfl (rOn tyS8 rfl) (hH.row 0 rfl) hb) ?_
          refine h_val rfl (.int .i64 (x.e.d.length : Int)) (fun b w hb hH => e_slen ((arg80 hv hH).rd) Tryz.underlying30 rfl rfl hb) ?_
          refine h_val rfl (.bool false) (fun b w hb hH => xCm rfl rfl rfl (cEf (by omega)) hb) ?_
          refine h_q hflS rfl ?_
          refine h_done (d_ret (f_block_ret (fTr ?_)))
          exact f_fin1 (.tmp rfl) (fun w h => ⟨rfl, below0 h.up⟩) rfl
      · skip
        refine d_reg ?_
        refine h_q hflS rfl ?_
        refine h_val rfl (.bool false) (fun b w hb hH => xCm rfl rfl rfl (cEf (by omega)) hb) ?_
        refine h_q hflS rfl ?_
        refine h_done (d_else rfl (d_reg ?_))
        refine h_q hflS rfl ?_
        refine h_val rfl (.bool true) (fun b w hb hH => xCm rfl rfl rfl (cEt hk) hb) ?_
        refine h_q hflS rfl ?_
        refine h_done (d_then rfl ?_)
        have hd : x.e.d.length < 1 ∨ 128 < x.e.d.length ∨ (1 ≤ x.e.d.length ∧ x.e.d.length ≤ 128) := by omega
        rcases hd with hd | hd | ⟨hd, hd2⟩
        · skip
          have hd0 : ¬ 1 ≤ x.e.d.length := by omega
          obtain rfl : r = false := by rw [← hR, ← hv3]; simp [kindE, hk, hd0]
          refine d_reg ?_
          refine h_q hflS rfl ?_
          refine h_val rfl (x.v) (fun b w hb hH => xLd rfl rfl (rOn tyS8 rfl) (hH.row 0 rfl) hb) ?_
          refine h_val rfl (.int .i64 (x.e.d.length : Int)) (fun b w hb hH => e_slen ((arg80 hv hH).rd) Tryz.underlying30 rfl rfl hb) ?_
          refine h_val rfl (.bool false) (fun b w hb hH => xCm rfl rfl rfl (cmp_geq_f (by omega)) hb) ?_
          refine h_q hflS rfl ?_
          refine h_done (d_ret (f_block_ret (fTr ?_)))
          exact f_fin1 (.tmp rfl) (fun w h => ⟨rfl, below0 h.up⟩) rfl
        · skip
          have hd0 : ¬ x.e.d.length ≤ 128 := by omega
          obtain rfl : r = false := by rw [← hR, ← hv3]; simp [kindE, hk, hd0]
          refine d_reg ?_
          refine h_q hflS rfl ?_
          refine h_val rfl (x.v) (fun b w hb hH => xLd rfl rfl (rOn tyS8 rfl) (hH.row 0 rfl) hb) ?_
          refine h_val rfl (.int .i64 (x.e.d.length : Int)) (fun b w hb hH => e_slen ((arg80 hv hH).rd) Tryz.underlying30 rfl rfl hb) ?_
          refine h_val rfl (.bool true) (fun b w hb hH => xCm rfl rfl rfl (cmp_geq_t (by omega)) hb) ?_
          refine h_q hflS rfl ?_
          refine h_val rfl (x.v) (fun b w hb hH => xLd rfl rfl (rOn tyS8 rfl) (hH.row 0 rfl) hb) ?_
          refine h_val rfl (.int .i64 (x.e.d.length : Int)) (fun b w hb hH => e_slen ((arg80 hv hH).rd) Tryz.underlying30 rfl rfl hb) ?_
          refine h_val rfl (.bool false) (fun b w hb hH => xCm rfl rfl rfl (cmp_leq_f (by omega)) hb) ?_
          refine h_q hflS rfl ?_
          refine h_done (d_ret (f_block_ret (fTr ?_)))
          exact f_fin1 (.tmp rfl) (fun w h => ⟨rfl, below0 h.up⟩) rfl
        · skip
          by_cases hc : x.e.c = 0
          · skip
            obtain rfl : r = true := by rw [← hR, ← hv3]; simp [kindE, hk, hc, hd, hd2]
            refine d_reg ?_
            refine h_q hflS rfl ?_
            refine h_val rfl (x.v) (fun b w hb hH => xLd rfl rfl (rOn tyS8 rfl) (hH.row 0 rfl) hb) ?_
            refine h_val rfl (.int .i64 (x.e.d.length : Int)) (fun b w hb hH => e_slen ((arg80 hv hH).rd) Tryz.underlying30 rfl rfl hb) ?_
            refine h_val rfl (.bool true) (fun b w hb hH => xCm rfl rfl rfl (cmp_geq_t (by omega)) hb) ?_
            refine h_q hflS rfl ?_
            refine h_val rfl (x.v) (fun b w hb hH => xLd rfl rfl (rOn tyS8 rfl) (hH.row 0 rfl) hb) ?_
            refine h_val rfl (.int .i64 (x.e.d.length : Int)) (fun b w hb hH => e_slen ((arg80 hv hH).rd) Tryz.underlying30 rfl rfl hb) ?_
            refine h_val rfl (.bool true) (fun b w hb hH => xCm rfl rfl rfl (cmp_leq_t (by omega)) hb) ?_
            refine h_q hflS rfl ?_
            refine h_val rfl (.int .i64 x.e.c) (fun b w hb hH => xLd rfl rfl (rOn ty_int rfl) (hH.row 0 rfl) hb) ?_
            refine h_val rfl (.bool true) (fun b w hb hH => xCm rfl rfl rfl (cEt hc) hb) ?_
            refine h_q hflS rfl ?_
            refine h_done (d_ret (f_block_ret (fTr ?_)))
            exact f_fin1 (.tmp rfl) (fun w h => ⟨rfl, below0 h.up⟩) rfl
          · skip
            obtain rfl : r = false := by rw [← hR, ← hv3]; simp [kindE, hk, hc]
            refine d_reg ?_
            refine h_q hflS rfl ?_
            refine h_val rfl (x.v) (fun b w hb hH => xLd rfl rfl (rOn tyS8 rfl) (hH.row 0 rfl) hb) ?_
            refine h_val rfl (.int .i64 (x.e.d.length : Int)) (fun b w hb hH => e_slen ((arg80 hv hH).rd) Tryz.underlying30 rfl rfl hb) ?_
            refine h_val rfl (.bool true) (fun b w hb hH => xCm rfl rfl rfl (cmp_geq_t (by omega)) hb) ?_
            refine h_q hflS rfl ?_
            refine h_val rfl (x.v) (fun b w hb hH => xLd rfl rfl (rOn tyS8 rfl) (hH.row 0 rfl) hb) ?_
            refine h_val rfl (.int .i64 (x.e.d.length : Int)) (fun b w hb hH => e_slen ((arg80 hv hH).rd) Tryz.underlying30 rfl rfl hb) ?_
            refine h_val rfl (.bool true) (fun b w hb hH => xCm rfl rfl rfl (cmp_leq_t (by omega)) hb) ?_
            refine h_q hflS rfl ?_
            refine h_val rfl (.int .i64 x.e.c) (fun b w hb hH => xLd rfl rfl (rOn ty_int rfl) (hH.row 0 rfl) hb) ?_
            refine h_val rfl (.bool false) (fun b w hb hH => xCm rfl rfl rfl (cEf hc) hb) ?_
            refine h_q hflS rfl ?_
            refine h_done (d_ret (f_block_ret (fTr ?_)))
            exact f_fin1 (.tmp rfl) (fun w h => ⟨rfl, below0 h.up⟩) rfl
      · skip
        refine d_reg ?_
        refine h_q hflS rfl ?_
        refine h_val rfl (.bool false) (fun b w hb hH => xCm rfl rfl rfl (cEf (by omega)) hb) ?_
        refine h_q hflS rfl ?_
        refine h_done (d_else rfl (d_reg ?_))
        refine h_q hflS rfl ?_
        refine h_val rfl (.bool false) (fun b w hb hH => xCm rfl rfl rfl (cEf (by omega)) hb) ?_
        refine h_q hflS rfl ?_
        refine h_done (d_else rfl (d_reg ?_))
        refine h_q hflS rfl ?_
        refine h_val rfl (.bool true) (fun b w hb hH => xCm rfl rfl rfl (cEt hk) hb) ?_
        refine h_q hflS rfl ?_
        refine h_done (d_then rfl ?_)
        by_cases hd : x.e.d.length = 0
        · skip
          rcases Bool.eq_false_or_eq_true (memB x.e.c) with hs | hs
          · skip
            have hs2 := hs
            unfold memB at hs2
            simp only [Bool.and_eq_true, bne_iff_ne, ne_eq] at hs2
            obtain rfl : r = true := by rw [← hR, ← hv3]; simp [kindE, hk, hs2.1, hs2.2, List.eq_nil_of_length_eq_zero hd]
            refine d_reg ?_
            refine h_q hflS rfl ?_
            refine h_val rfl (x.v) (fun b w hb hH => xLd rfl rfl (rOn tyS8 rfl) (hH.row 0 rfl) hb) ?_
            refine h_val rfl (.int .i64 (x.e.d.length : Int)) (fun b w hb hH => e_slen ((arg80 hv hH).rd) Tryz.underlying30 rfl rfl hb) ?_
            refine h_val rfl (.bool true) (fun b w hb hH => xCm rfl rfl rfl (cEt (by omega)) hb) ?_
            refine h_q hflS rfl ?_
            refine h_val rfl (.int .i64 x.e.c) (fun b w hb hH => xLd rfl rfl (rOn ty_int rfl) (hH.row 0 rfl) hb) ?_
            refine h_act (post := fun _ => [cell gx 34 #[.int .i64 x.e.k, .int .u64 x.e.t, .int .u64 x.e.i, x.v, .int .i64 x.e.c]]) rfl (a_call (ent_of Tryz.func96 (by kernel_rfl) rfl) (fun w hH => members_any w x.e.c true hs) rfl rfl rfl) ?_; rintro ⟨⟩
            refine h_q hflS rfl ?_
            refine h_done (d_ret (f_block_ret (fTr ?_)))
            exact f_fin1 (.tmp rfl) (fun w h => ⟨rfl, below0 h.up⟩) rfl
          · skip
            have hs2 : (setB x.e.c && x.e.c != 0) = false := hs
            obtain rfl : r = false := by rw [← hR, ← hv3]; simp only [kindE, hk, Bool.and_assoc, hs2]; simp
            refine d_reg ?_
            refine h_q hflS rfl ?_
            refine h_val rfl (x.v) (fun b w hb hH => xLd rfl rfl (rOn tyS8 rfl) (hH.row 0 rfl) hb) ?_
            refine h_val rfl (.int .i64 (x.e.d.length : Int)) (fun b w hb hH => e_slen ((arg80 hv hH).rd) Tryz.underlying30 rfl rfl hb) ?_
            refine h_val rfl (.bool true) (fun b w hb hH => xCm rfl rfl rfl (cEt (by omega)) hb) ?_
            refine h_q hflS rfl ?_
            refine h_val rfl (.int .i64 x.e.c) (fun b w hb hH => xLd rfl rfl (rOn ty_int rfl) (hH.row 0 rfl) hb) ?_
            refine h_act (post := fun _ => [cell gx 34 #[.int .i64 x.e.k, .int .u64 x.e.t, .int .u64 x.e.i, x.v, .int .i64 x.e.c]]) rfl (a_call (ent_of Tryz.func96 (by kernel_rfl) rfl) (fun w hH => members_any w x.e.c false hs) rfl rfl rfl) ?_; rintro ⟨⟩
            refine h_q hflS rfl ?_
            refine h_done (d_ret (f_block_ret (fTr ?_)))
            exact f_fin1 (.tmp rfl) (fun w h => ⟨rfl, below0 h.up⟩) rfl
        · skip
          have hd0 : (x.e.d == []) = false := by cases hx : x.e.d with | nil => rw [hx] at hd; exact absurd rfl hd | cons => rfl
          obtain rfl : r = false := by rw [← hR, ← hv3]; simp [kindE, hk, hd0]
          refine d_reg ?_
          refine h_q hflS rfl ?_
          refine h_val rfl (x.v) (fun b w hb hH => xLd rfl rfl (rOn tyS8 rfl) (hH.row 0 rfl) hb) ?_
          refine h_val rfl (.int .i64 (x.e.d.length : Int)) (fun b w hb hH => e_slen ((arg80 hv hH).rd) Tryz.underlying30 rfl rfl hb) ?_
          refine h_val rfl (.bool false) (fun b w hb hH => xCm rfl rfl rfl (cEf (by omega)) hb) ?_
          refine h_q hflS rfl ?_
          refine h_done (d_ret (f_block_ret (fTr ?_)))
          exact f_fin1 (.tmp rfl) (fun w h => ⟨rfl, below0 h.up⟩) rfl
      · skip
        obtain rfl : r = false := by rw [← hR, ← hv3]; simp [kindE, hk]
        refine d_reg ?_
        refine h_q hflS rfl ?_
        refine h_val rfl (.bool false) (fun b w hb hH => xCm rfl rfl rfl (cEf hk.1) hb) ?_
        refine h_q hflS rfl ?_
        refine h_done (d_else rfl (d_reg ?_))
        refine h_q hflS rfl ?_
        refine h_val rfl (.bool false) (fun b w hb hH => xCm rfl rfl rfl (cEf hk.2.1) hb) ?_
        refine h_q hflS rfl ?_
        refine h_done (d_else rfl (d_reg ?_))
        refine h_q hflS rfl ?_
        refine h_val rfl (.bool false) (fun b w hb hH => xCm rfl rfl rfl (cEf hk.2.2) hb) ?_
        refine h_q hflS rfl ?_
        refine h_done (d_else rfl (d_skip (f_block (f_to (d_reg ?_)))))
        refine h_q hflS rfl ?_
        refine h_done (d_ret ?_)
        exact f_fin1 (.tmp rfl) (fun w h => ⟨rfl, below0 h.up⟩) rfl
end Go.Proofs.YtaipejaeeohpkaaGreatDoor.Sep
namespace Go.Proofs.YtaipejaeeohpkaaGreatDoor.Sep
open Go.RowKit
open Go.Proofs.YtaipejaeeohpkaaGreatDoor.Mem (Dist Blk Chg below0)
theorem sl8_cap {w : World} {A : Option Addr} {n c : Nat} {l : List UInt8} (h : Sl8 w (.slice A n c) l) : l.length ≤ c := by
 obtain ⟨A', c', e, hb⟩ := h
 simp only [Value.slice.injEq] at e
 obtain ⟨rfl, _, rfl⟩ := e
 exact hb.1
theorem Rd8.mid {X : Ass} {A : Option Addr} {c i j : Nat} {l : List UInt8} (h : Rd8 X (.slice A l.length c) l) (hij : i ≤ j) (hj : j ≤ l.length) : Rd8 X (.slice (if c = i then A else A.map (·.add i)) (j - i) (c - i)) ((l.take j).drop i) := fun rs w h1 h2 => by
  have h3 := (h rs w h1 h2).takes hj
  have hl : (l.take j).length = j := by rw [List.length_take]; omega
  have h4 := h3.drop (k := i) (by omega)
  rw [List.length_drop, hl] at h4
  exact h4
theorem sub_mid {A : Option Addr} {n c i j : Nat} : subv 1 (.slice A n c) i j = .slice (if c = i then A else A.map (·.add i)) (j - i) (c - i) := by
  show Value.slice (if c = i then A else A.map (·.add (i * 1))) (j - i) (c - i) = _
  rw [Nat.mul_one]
theorem rtext_fault {most n sz e : Nat} {l : List UInt8} {f : Nat} (hf : f = 0) (hv : vnum most l 0 0 = (n, sz, e)) (he : e ≠ 0) : rtext (most : Int) l f = ([], l, e) := by
 unfold rtext
 rw [if_neg (by simp [hf]), Int.toNat_natCast, hv, if_pos he]
theorem rtext_short {most n sz : Nat} {l : List UInt8} {f : Nat} (hf : f = 0) (hv : vnum most l 0 0 = (n, sz, 0)) (hn : l.length - sz < n) : rtext (most : Int) l f = ([], l, 10) := by
 unfold rtext
 rw [if_neg (by simp [hf]), Int.toNat_natCast, hv, if_neg (by simp), if_pos hn]
theorem rtext_fine {most n sz : Nat} {l : List UInt8} {f : Nat} (hf : f = 0) (hv : vnum most l 0 0 = (n, sz, 0)) (hn : ¬ l.length - sz < n) : rtext (most : Int) l f = ((l.drop sz).take n, l.drop (sz + n), f) := by
 unfold rtext
 rw [if_neg (by simp [hf]), Int.toNat_natCast, hv, if_neg (by simp), if_neg hn, hf]
theorem varint9 {w : World} {A : Option Addr} {c : Nat} {l : List UInt8} (h : Sl8 w (.slice A l.length c) l) (hl : l.length ≤ 140737488355328) (most : Nat) (hm : most < 18446744073709551616) (n sz e : Nat) (hv : vnum most l 0 0 = (n, sz, e)) : Calls Tryz.prog 197 #[.slice A l.length c, .int .u64 (most : Int)] w fun x w' => x = .returned (.tuple #[.int .u64 (n : Int), .int .i64 (sz : Int), .int .i64 (e : Int)]) ∧ Below w.heap.size w w' := varint8 h hl most hm (n, sz, e) hv
theorem vnum_le (most : Nat) (l : List UInt8) : (vnum most l 0 0).1 ≤ most := by
  rcases vnum_ends most l 0 0 (by omega) (by decide) with ⟨_, _, _, h, _⟩ | ⟨h, _⟩
  · exact h
  · rw [h]; exact Nat.zero_le _
theorem rd_text (g : Nat) (l : List UInt8) (f most : Nat) (hm : most ≤ 9223372036854775807) (R : List UInt8 × List UInt8 × Nat) (h : rtext (most : Int) l f = R) : Does Tryz.prog 169 #[.pointer (some ⟨g, 0, none⟩), .int .i64 (most : Int)] [RdT g l f] (fun (v : Value) => v) (fun (v : Value) => [RdT g R.2.1 R.2.2, Vec 5 1 encB v R.1]) := by
  refine d_ins (args := [.pointer (some ⟨g, 0, none⟩), .int .i64 (most : Int)]) 68 Tryz.func169 rfl rfl rfl ?_; intro w rs
  refine d_open 0 rfl RdT.open_ (fun _ => rfl) ?_; rintro ⟨⟨X, A, c⟩, hR, hL⟩
  refine WC2.keep (env' := [(0, .pointer (some ⟨g, 0, none⟩)), (1, .int .i64 (most : Int))]) ⟨rfl, rfl, trivial⟩ ?_
  refine WC2.mid [cell g 241 #[.slice A l.length c, .int .i64 (f : Int)], X] (.refl _) ?_
  refine d_reg ?_
  refine h_q hflS rfl ?_
  refine h_done (d_seq ?_)
  by_cases hf : f = 0
  · skip
    have hz := vnum_sz most l
    have hle := vnum_le most l
    obtain ⟨⟨n, sz, e2⟩, hv⟩ : ∃ R, vnum most l 0 0 = R := ⟨_, rfl⟩
    rw [hv] at hz hle
    simp only at hz hle
    refine d_reg ?_
    refine h_q hflS rfl ?_
    refine h_val rfl (.pointer (some ⟨g, 0, none⟩)) (fun b w hb hH => by exact xNc rfl rfl hb) ?_
    refine h_q hflS rfl ?_
    refine h_val rfl (.int .i64 (f : Int)) (fun b w hb hH => xLd rfl rfl (rOn ty_api_Errno rfl) (hH.row 0 rfl) hb) ?_
    refine h_val rfl (.bool false) (fun b w hb hH => xCm rfl rfl rfl (cmp_neq_f (by omega)) hb) ?_
    refine h_done (d_else rfl (d_skip (f_to (d_reg ?_))))
    refine h_q hflS rfl ?_
    refine h_val rfl (.pointer (some ⟨g, 0, none⟩)) (fun b w hb hH => by exact xNc rfl rfl hb) ?_
    refine h_q hflS rfl ?_
    refine h_val rfl (.slice A l.length c) (fun b w hb hH => xLd rfl rfl (rOn tyS8 rfl) (hH.row 0 rfl) hb) ?_
    refine h_q hflS rfl ?_
    refine h_val rfl (.int .i64 (most : Int)) (fun b w hb hH => exec_builtin2 rfl rfl (fun cs => (fun w cs => run_max2 (by rw [if_neg (by omega)]) _ _ w cs) w cs) hb) ?_
    refine h_val rfl (.int .u64 (most : Int)) (fun b w hb hH => exec_conv Tryz.underlying3 Tryz.underlying31 (IntWalk.u64_in _ (by omega)) rfl rfl hb) ?_
    refine h_act (post := fun _ => [cell g 241 #[.slice A l.length c, .int .i64 (f : Int)], X]) rfl (a_call (ent_of Tryz.func197 (by kernel_rfl) rfl) (fun w hH => varint9 (hH.rd8 1 rfl hR) hL most (by omega) n sz e2 hv) rfl rfl rfl) ?_; rintro ⟨⟩
    refine h_q hflS rfl ?_
    refine h_done (d_seq ?_)
    by_cases he : e2 = 0
    · skip
      subst he
      refine d_reg ?_
      refine h_q hflS rfl ?_
      refine h_val rfl (.bool false) (fun b w hb hH => xCm rfl rfl rfl (cmp_neq_f (by omega)) hb) ?_
      refine h_done (d_else rfl (d_skip (f_to (d_seq ?_))))
      by_cases hn : l.length - sz < n
      · skip
        obtain rfl : R = ([], l, 10) := h.symm.trans (rtext_short hf hv hn)
        refine d_reg ?_
        refine h_q hflS rfl ?_
        refine h_val rfl (.int .i64 (n : Int)) (fun b w hb hH => exec_conv Tryz.underlying31 Tryz.underlying3 (IntWalk.i64_in _ (by omega)) rfl rfl hb) ?_
        refine h_q hflS rfl ?_
        refine h_val rfl (.pointer (some ⟨g, 0, none⟩)) (fun b w hb hH => by exact xNc rfl rfl hb) ?_
        refine h_q hflS rfl ?_
        refine h_val rfl (.slice A l.length c) (fun b w hb hH => xLd rfl rfl (rOn tyS8 rfl) (hH.row 0 rfl) hb) ?_
        refine h_val rfl (.int .i64 (l.length : Int)) (fun b w hb hH => e_len sl_uint8 rfl rfl hH hb) ?_
        refine h_q hflS rfl ?_
        refine h_val rfl (.int .i64 ((l.length : Int) - (sz : Int))) (fun b w hb hH => exec_ar rfl rfl rfl rfl (IntWalk.i64_in _ (by omega)) hb) ?_
        refine h_val rfl (.bool true) (fun b w hb hH => xCm rfl rfl rfl (cmp_gtr_t (by omega)) hb) ?_
        refine h_done (d_then rfl (d_reg ?_))
        refine h_q hflS rfl ?_
        refine h_val rfl (.pointer (some ⟨g, 0, none⟩)) (fun b w hb hH => by exact xNc rfl rfl hb) ?_
        refine h_q hflS rfl ?_
        refine h_acts (post := fun _ => [cell g 241 #[.slice A l.length c, .int .i64 10], X]) rfl rfl (a_store 0 (v := .int .i64 10) #[.slice A l.length c, .int .i64 10] ty_api_Errno.2 rfl rfl rfl rfl rfl rfl rfl rfl rfl) ?_; rintro ⟨⟩
        refine h_done ?_
        refine d_close [0, 1] rfl (RdT.mk_ rfl hR hL) rfl ?_
        refine d_nilvec 5 1 encB ?_
        refine d_reg ?_
        refine h_q hflS rfl ?_
        refine h_done (d_ret (fTr ?_))
        exact f_fin1 (.tmp rfl) (fun w h => tells (.slice none 0 0) rfl [1, 0] rfl h sPr) rfl
      · skip
        obtain ⟨A2, hA2⟩ : ∃ A2, (if c = (sz + n) then A else A.map (·.add (sz + n))) = A2 := ⟨_, rfl⟩
        obtain ⟨l2, hl2⟩ : ∃ l2, l.drop (sz + n) = l2 := ⟨_, rfl⟩
        have hR2 : Rd8 X (.slice A2 l2.length (c - (sz + n))) l2 := by rw [← hA2, ← hl2]; exact hR.drop (by omega)
        have hn2 : l2.length = l.length - (sz + n) := by rw [← hl2, List.length_drop]
        have hL2 : l2.length ≤ 140737488355328 := by omega
        have hsub : subv 1 (.slice A l.length c) (sz + n) l.length = .slice A2 l2.length (c - (sz + n)) := by rw [← hA2]; exact sub_drop (by omega) (by omega)
        obtain ⟨A3, hA3⟩ : ∃ A3, (if c = sz then A else A.map (·.add sz)) = A3 := ⟨_, rfl⟩
        obtain ⟨l3, hl3⟩ : ∃ l3, (l.take (sz + n)).drop sz = l3 := ⟨_, rfl⟩
        have hR3 : Rd8 X (.slice A3 (sz + n - sz) (c - sz)) l3 := by rw [← hA3, ← hl3]; exact hR.mid (by omega) (by omega)
        have hsub3 : subv 1 (.slice A l.length c) sz (sz + n) = .slice A3 (sz + n - sz) (c - sz) := by rw [← hA3]; exact sub_mid
        have hl4 : (l.drop sz).take n = l3 := by rw [← hl3, List.drop_take, Nat.add_sub_cancel_left]
        have hl5 : l3.length ≤ 140737488355328 := by rw [← hl4, List.length_take, List.length_drop]; omega
        obtain rfl : R = (l3, l2, f) := by rw [← h, ← hl4, ← hl2]; exact rtext_fine hf hv hn
        refine d_reg ?_
        refine h_q hflS rfl ?_
        refine h_val rfl (.int .i64 (n : Int)) (fun b w hb hH => exec_conv Tryz.underlying31 Tryz.underlying3 (IntWalk.i64_in _ (by omega)) rfl rfl hb) ?_
        refine h_q hflS rfl ?_
        refine h_val rfl (.pointer (some ⟨g, 0, none⟩)) (fun b w hb hH => by exact xNc rfl rfl hb) ?_
        refine h_q hflS rfl ?_
        refine h_val rfl (.slice A l.length c) (fun b w hb hH => xLd rfl rfl (rOn tyS8 rfl) (hH.row 0 rfl) hb) ?_
        refine h_val rfl (.int .i64 (l.length : Int)) (fun b w hb hH => e_len sl_uint8 rfl rfl hH hb) ?_
        refine h_q hflS rfl ?_
        refine h_val rfl (.int .i64 ((l.length : Int) - (sz : Int))) (fun b w hb hH => exec_ar rfl rfl rfl rfl (IntWalk.i64_in _ (by omega)) hb) ?_
        refine h_val rfl (.bool false) (fun b w hb hH => xCm rfl rfl rfl (cmp_gtr_f (by omega)) hb) ?_
        refine h_done (d_else rfl (d_skip (f_to (d_reg ?_))))
        refine h_q hflS rfl ?_
        refine h_val rfl (.int .i64 (n : Int)) (fun b w hb hH => exec_conv Tryz.underlying31 Tryz.underlying3 (IntWalk.i64_in _ (by omega)) rfl rfl hb) ?_
        refine h_val rfl (.int .i64 ((sz + n : Nat) : Int)) (fun b w hb hH => exec_ar rfl rfl rfl rfl (by rw [IntWalk.i64_in _ (by omega)]; omega) hb) ?_
        refine h_q hflS rfl ?_
        refine h_done (d_reg ?_)
        refine h_q hflS rfl ?_
        refine h_val rfl (.pointer (some ⟨g, 0, none⟩)) (fun b w hb hH => by exact xNc rfl rfl hb) ?_
        refine h_q hflS rfl ?_
        refine h_val rfl (.slice A l.length c) (fun b w hb hH => xLd rfl rfl (rOn tyS8 rfl) (hH.row 0 rfl) hb) ?_
        refine h_q hflS rfl ?_
        refine h_val rfl (.slice A3 (sz + n - sz) (c - sz)) (fun b w hb hH => e_sub (i := sz) (j := (sz + n)) sl_uint8 hsub3 (by omega) (Nat.le_trans (by omega) (sl8_cap (A := A) (n := l.length) (c := c) (hH.rd8 1 rfl hR))) rfl rfl rfl rfl hH hb) ?_
        refine h_act (post := fun v9 => [Vec 5 1 encB v9 l3, cell g 241 #[.slice A l.length c, .int .i64 (f : Int)], X]) rfl (a_does (os' := fun v9 => [Vec 5 1 encB v9 l3, cell g 241 #[.slice A l.length c, .int .i64 (f : Int)], X]) [1] 0 (ent_of Tryz.func114 (by kernel_rfl) rfl) (clone8 hR3 hl5) rfl rfl rfl (fun _ => rfl) rfl rfl rfl) ?_; rintro v9
        refine h_q hflS rfl ?_
        refine h_done ?_
        refine WC2.keep (env' := [(0, .pointer (some ⟨g, 0, none⟩)), (4, .slice none 0 0), (8, .int .i64 ((sz + n : Nat) : Int)), (9, v9)]) ⟨rfl, rfl, rfl, rfl, trivial⟩ ?_
        refine d_reg ?_
        refine h_q hflS rfl ?_
        refine h_val rfl (.pointer (some ⟨g, 0, none⟩)) (fun b w hb hH => by exact xNc rfl rfl hb) ?_
        refine h_q hflS rfl ?_
        refine h_val rfl (.slice A l.length c) (fun b w hb hH => xLd rfl rfl (rOn tyS8 rfl) (hH.row 1 rfl) hb) ?_
        refine h_q hflS rfl ?_
        refine h_val rfl (.slice A2 l2.length (c - (sz + n))) (fun b w hb hH => e_sub_lo (i := (sz + n)) sl_uint8 hsub (by omega) rfl rfl rfl hH hb) ?_
        refine h_val rfl (.pointer (some ⟨g, 0, none⟩)) (fun b w hb hH => by exact xNc rfl rfl hb) ?_
        refine h_q hflS rfl ?_
        refine h_acts (post := fun _ => [Vec 5 1 encB v9 l3, cell g 241 #[.slice A2 l2.length (c - (sz + n)), .int .i64 (f : Int)], X]) rfl rfl (a_store 1 (v := .slice A2 l2.length (c - (sz + n))) #[.slice A2 l2.length (c - (sz + n)), .int .i64 (f : Int)] tyS8.2 rfl rfl rfl rfl rfl rfl rfl rfl rfl) ?_; rintro ⟨⟩
        refine h_done ?_
        refine d_close [1, 2] rfl (RdT.mk_ rfl hR2 hL2) rfl ?_
        refine d_reg ?_
        refine h_q hflS rfl ?_
        refine h_done (d_ret ?_)
        exact f_fin1 (.tmp rfl) (fun w h => tells v9 rfl [0, 1] rfl h sPr) rfl
    · skip
      obtain rfl : R = ([], l, e2) := h.symm.trans (rtext_fault hf hv he)
      refine d_reg ?_
      refine h_q hflS rfl ?_
      refine h_val rfl (.bool true) (fun b w hb hH => xCm rfl rfl rfl (cmp_neq_t (by omega)) hb) ?_
      refine h_done (d_then rfl (d_reg ?_))
      refine h_q hflS rfl ?_
      refine h_val rfl (.pointer (some ⟨g, 0, none⟩)) (fun b w hb hH => by exact xNc rfl rfl hb) ?_
      refine h_q hflS rfl ?_
      refine h_acts (post := fun _ => [cell g 241 #[.slice A l.length c, .int .i64 (e2 : Int)], X]) rfl rfl (a_store 0 (v := .int .i64 (e2 : Int)) #[.slice A l.length c, .int .i64 (e2 : Int)] ty_api_Errno.2 rfl rfl rfl rfl rfl rfl rfl rfl rfl) ?_; rintro ⟨⟩
      refine h_done ?_
      refine d_close [0, 1] rfl (RdT.mk_ rfl hR hL) rfl ?_
      refine d_nilvec 5 1 encB ?_
      refine d_reg ?_
      refine h_q hflS rfl ?_
      refine h_done (d_ret (fTr ?_))
      exact f_fin1 (.tmp rfl) (fun w h => tells (.slice none 0 0) rfl [1, 0] rfl h sPr) rfl
  · skip
    obtain rfl : R = ([], l, f) := h.symm.trans (rtext_stuck hf)
    refine d_reg ?_
    refine h_q hflS rfl ?_
    refine h_val rfl (.pointer (some ⟨g, 0, none⟩)) (fun b w hb hH => by exact xNc rfl rfl hb) ?_
    refine h_q hflS rfl ?_
    refine h_val rfl (.int .i64 (f : Int)) (fun b w hb hH => xLd rfl rfl (rOn ty_api_Errno rfl) (hH.row 0 rfl) hb) ?_
    refine h_val rfl (.bool true) (fun b w hb hH => xCm rfl rfl rfl (cmp_neq_t (by omega)) hb) ?_
    refine h_done (d_then rfl ?_)
    refine d_close [0, 1] rfl (RdT.mk_ rfl hR hL) rfl ?_
    refine d_nilvec 5 1 encB ?_
    refine d_reg ?_
    refine h_q hflS rfl ?_
    refine h_done (d_ret (fTr ?_))
    exact f_fin1 (.tmp rfl) (fun w h => tells (.slice none 0 0) rfl [1, 0] rfl h sPr) rfl
end Go.Proofs.YtaipejaeeohpkaaGreatDoor.Sep
namespace Go.Proofs.YtaipejaeeohpkaaGreatDoor.Sep
open Go.RowKit
open Go.Proofs.YtaipejaeeohpkaaGreatDoor.Mem (Dist Blk Chg below0)
structure SlV where
  A : Option Addr
  c : Nat
theorem decE_is {l : List UInt8} {e e' : EntD} {n n' : Nat} (h : decE l = (e', n')) (hD : decE l = (e, n)) : e' = e ∧ n' = n := by
 have := h.symm.trans hD
 simpa using this
theorem layE_none {e : EntD} (h : e.k = 0) : layE e = [UInt8.ofNat e.k.toNat] ++ layU e.t ++ layU e.i := by
 unfold layE tailE
 rw [if_neg (by omega), if_neg (by omega)]
 simp
theorem layE_cmd {e : EntD} (h : e.k = 1) : layE e = [UInt8.ofNat e.k.toNat] ++ layU e.t ++ layU e.i ++ layT e.d := by
 unfold layE tailE
 rw [if_pos h]
 simp
theorem layE_conf {e : EntD} (h : e.k = 2) : layE e = [UInt8.ofNat e.k.toNat] ++ layU e.t ++ layU e.i ++ [UInt8.ofNat e.c.toNat] := by
 unfold layE tailE
 rw [if_neg (by omega), if_pos h]
 simp
theorem laye_does (u : World) (x : EntV) (hv : Sl8 u x.v x.e.d) (hr : rightE x.e = true) : DoesU u Tryz.prog 97 #[.agg #[.int .i64 x.e.k, .int .u64 x.e.t, .int .u64 x.e.i, x.v, .int .i64 x.e.c]] [] (fun (v : Value) => .tuple #[v, .int .i64 0]) (fun (v : Value) => [Vec 5 1 encB v (layE x.e)]) := by
  obtain ⟨ht, hi, hk⟩ := rightE_iff hr
  have ht1 := layU_mlen ht.2
  have hi1 := layU_mlen hi.2
  obtain ⟨L0, hL0⟩ : ∃ L0, [UInt8.ofNat x.e.k.toNat] = L0 := ⟨_, rfl⟩
  obtain ⟨L1, hL1⟩ : ∃ L1, L0 ++ layU x.e.t = L1 := ⟨_, rfl⟩
  obtain ⟨L2, hL2⟩ : ∃ L2, L1 ++ layU x.e.i = L2 := ⟨_, rfl⟩
  obtain ⟨L3, hL3⟩ : ∃ L3, layE x.e = L3 := ⟨_, rfl⟩
  have n0 : L0.length = 1 := by rw [← hL0]; rfl
  have n1 : L1.length ≤ 9 := by rw [← hL1, List.length_append]; omega
  have n2 : L2.length ≤ 17 := by rw [← hL2, List.length_append]; omega
  have n3 : L3.length ≤ 147 := by rw [← hL3]; exact layE_len hr
  refine d_insU (args := [.agg #[.int .i64 x.e.k, .int .u64 x.e.t, .int .u64 x.e.i, x.v, .int .i64 x.e.c]]) 39 Tryz.func97 rfl rfl rfl ?_; intro w rs hU hS
  refine d_reg ?_
  refine h_q hflS rfl ?_
  refine h_act (post := fun gx => [cell gx 34 #[.int .i64 x.e.k, .int .u64 x.e.t, .int .u64 x.e.i, x.v, .int .i64 x.e.c]]) rfl (a_box (cs := #[.int .i64 x.e.k, .int .u64 x.e.t, .int .u64 x.e.i, x.v, .int .i64 x.e.c]) rfl rfl rfl) ?_; rintro gx
  refine h_q hflS rfl ?_
  refine h_done (d_seq (d_reg ?_))
  refine h_q hflS rfl ?_
  refine h_val rfl (.agg #[.int .i64 x.e.k, .int .u64 x.e.t, .int .u64 x.e.i, x.v, .int .i64 x.e.c]) (fun b w hb hH => xLd rfl rfl (rAg (cs := [.int .i64 x.e.k, .int .u64 x.e.t, .int .u64 x.e.i, x.v, .int .i64 x.e.c]) tyEn rfl) (hH.row 0 rfl) hb) ?_
  refine h_act (post := fun _ => [cell gx 34 #[.int .i64 x.e.k, .int .u64 x.e.t, .int .u64 x.e.i, x.v, .int .i64 x.e.c]]) rfl (a_call (ent_of Tryz.func44 (by kernel_rfl) rfl) (fun w hH => rightE_any w x (arg8 hv hU hS hH) true hr) rfl rfl rfl) ?_; rintro ⟨⟩
  refine h_q hflS rfl ?_
  refine h_done (d_else rfl (d_skip (f_to (d_reg ?_))))
  refine h_q hflS rfl ?_
  refine h_act (post := fun g => [WtT g ([]), cell gx 34 #[.int .i64 x.e.k, .int .u64 x.e.t, .int .u64 x.e.i, x.v, .int .i64 x.e.c]]) rfl (a_does (os' := fun g => [WtT g ([]), cell gx 34 #[.int .i64 x.e.k, .int .u64 x.e.t, .int .u64 x.e.i, x.v, .int .i64 x.e.c]]) [] 0 (ent_of Tryz.func141 (by kernel_rfl) rfl) (wt_new) rfl rfl rfl (fun _ => rfl) rfl rfl rfl) ?_; rintro g
  refine h_q hflS rfl ?_
  refine h_done (d_reg ?_)
  refine h_q hflS rfl ?_
  refine h_val rfl (.int .i64 x.e.k) (fun b w hb hH => xLd rfl rfl (rOn ty_int rfl) (hH.row 1 rfl) hb) ?_
  refine h_val rfl (.int .u8 x.e.k) (fun b w hb hH => exec_conv Tryz.underlying3 Tryz.underlying5 (IntWalk.u8_in _ (by omega)) rfl rfl hb) ?_
  refine h_act (post := fun _ => [WtT g L0, cell gx 34 #[.int .i64 x.e.k, .int .u64 x.e.t, .int .u64 x.e.i, x.v, .int .i64 x.e.c]]) rfl (a_does (os' := fun _ => [WtT g L0, cell gx 34 #[.int .i64 x.e.k, .int .u64 x.e.t, .int .u64 x.e.i, x.v, .int .i64 x.e.c]]) [0] 0 (ent_of Tryz.func142 (by kernel_rfl) rfl) (wt_byte g ([]) x.e.k (by omega) L0 (by rw [← hL0]; rfl) (by simp)) rfl rfl rfl (fun _ => rfl) rfl rfl rfl) ?_; rintro ⟨⟩
  refine h_done (d_reg ?_)
  refine h_q hflS rfl ?_
  refine h_val rfl (.int .u64 x.e.t) (fun b w hb hH => xLd rfl rfl (rOn ty_uint64 rfl) (hH.row 1 rfl) hb) ?_
  refine h_act (post := fun _ => [WtT g L1, cell gx 34 #[.int .i64 x.e.k, .int .u64 x.e.t, .int .u64 x.e.i, x.v, .int .i64 x.e.c]]) rfl (a_does (os' := fun _ => [WtT g L1, cell gx 34 #[.int .i64 x.e.k, .int .u64 x.e.t, .int .u64 x.e.i, x.v, .int .i64 x.e.c]]) [0] 0 (ent_of Tryz.func143 (by kernel_rfl) rfl) (wt_num g L0 x.e.t ⟨by omega, by omega⟩ L1 hL1 (by omega)) rfl rfl rfl (fun _ => rfl) rfl rfl rfl) ?_; rintro ⟨⟩
  refine h_done (d_reg ?_)
  refine h_q hflS rfl ?_
  refine h_val rfl (.int .u64 x.e.i) (fun b w hb hH => xLd rfl rfl (rOn ty_uint64 rfl) (hH.row 1 rfl) hb) ?_
  refine h_act (post := fun _ => [WtT g L2, cell gx 34 #[.int .i64 x.e.k, .int .u64 x.e.t, .int .u64 x.e.i, x.v, .int .i64 x.e.c]]) rfl (a_does (os' := fun _ => [WtT g L2, cell gx 34 #[.int .i64 x.e.k, .int .u64 x.e.t, .int .u64 x.e.i, x.v, .int .i64 x.e.c]]) [0] 0 (ent_of Tryz.func143 (by kernel_rfl) rfl) (wt_num g L1 x.e.i ⟨by omega, by omega⟩ L2 hL2 (by omega)) rfl rfl rfl (fun _ => rfl) rfl rfl rfl) ?_; rintro ⟨⟩
  refine h_done (d_seq (d_reg ?_))
  refine h_q hflS rfl ?_
  refine h_val rfl (.int .i64 x.e.k) (fun b w hb hH => xLd rfl rfl (rOn ty_int rfl) (hH.row 1 rfl) hb) ?_
  refine h_done (d_block ?_)
  rcases hk with ⟨hk, hd, hc⟩ | ⟨hk, hd, hd2, hc⟩ | ⟨hk, hd, hc, hc2, hc3⟩
  · skip
    obtain rfl : L2 = L3 := by rw [← hL3, layE_none hk, ← hL2, ← hL1, ← hL0]
    refine d_reg ?_
    refine h_q hflS rfl ?_
    refine h_val rfl (.bool false) (fun b w hb hH => xCm rfl rfl rfl (cEf (by omega)) hb) ?_
    refine h_q hflS rfl ?_
    refine h_done (d_else rfl (d_reg ?_))
    refine h_q hflS rfl ?_
    refine h_val rfl (.bool false) (fun b w hb hH => xCm rfl rfl rfl (cEf (by omega)) hb) ?_
    refine h_q hflS rfl ?_
    refine h_done (d_else rfl (d_skip (f_block (f_to (d_reg ?_)))))
    refine h_q hflS rfl ?_
    refine h_act (post := fun v => [Vec 5 1 encB v L2, WtT g L2, cell gx 34 #[.int .i64 x.e.k, .int .u64 x.e.t, .int .u64 x.e.i, x.v, .int .i64 x.e.c]]) rfl (a_does (os' := fun v => [Vec 5 1 encB v L2, WtT g L2, cell gx 34 #[.int .i64 x.e.k, .int .u64 x.e.t, .int .u64 x.e.i, x.v, .int .i64 x.e.c]]) [0] 0 (ent_of Tryz.func145 (by kernel_rfl) rfl) (wt_bytes g L2 (by omega)) rfl rfl rfl (fun _ => rfl) rfl rfl rfl) ?_; rintro v
    refine h_q hflS rfl ?_
    refine h_done (d_ret ?_)
    exact f_fin2 (.tmp rfl) (.tmp rfl) (fun w h => tells v rfl [0] rfl h (fun z hz => ⟨z, .refl _, by rw [hL3]; exact hz⟩)) rfl
  · skip
    refine d_reg ?_
    refine h_q hflS rfl ?_
    refine h_val rfl (.bool true) (fun b w hb hH => xCm rfl rfl rfl (cEt (by omega)) hb) ?_
    refine h_q hflS rfl ?_
    refine h_done (d_then rfl (d_reg1 ?_))
    refine h_q hflS rfl ?_
    refine h_val rfl (x.v) (fun b w hb hH => xLd rfl rfl (rOn tyS8 rfl) (hH.row 1 rfl) hb) ?_
    refine h_act (post := fun _ => [WtT g L3, cell gx 34 #[.int .i64 x.e.k, .int .u64 x.e.t, .int .u64 x.e.i, x.v, .int .i64 x.e.c]]) rfl (a_doesU hU hS (os' := fun _ => [WtT g L3, cell gx 34 #[.int .i64 x.e.k, .int .u64 x.e.t, .int .u64 x.e.i, x.v, .int .i64 x.e.c]]) [0] 0 (ent_of Tryz.func144 (by kernel_rfl) rfl) (wt_textU hv g L2 L3 (by rw [← hL3, layE_cmd hk, ← hL2, ← hL1, ← hL0]) (by omega)) rfl rfl rfl (fun _ => rfl) rfl rfl rfl) ?_; rintro ⟨⟩
    refine h_nil (f_block (f_to (d_reg ?_)))
    refine h_q hflS rfl ?_
    refine h_act (post := fun v => [Vec 5 1 encB v L3, WtT g L3, cell gx 34 #[.int .i64 x.e.k, .int .u64 x.e.t, .int .u64 x.e.i, x.v, .int .i64 x.e.c]]) rfl (a_does (os' := fun v => [Vec 5 1 encB v L3, WtT g L3, cell gx 34 #[.int .i64 x.e.k, .int .u64 x.e.t, .int .u64 x.e.i, x.v, .int .i64 x.e.c]]) [0] 0 (ent_of Tryz.func145 (by kernel_rfl) rfl) (wt_bytes g L3 (by omega)) rfl rfl rfl (fun _ => rfl) rfl rfl rfl) ?_; rintro v
    refine h_q hflS rfl ?_
    refine h_done (d_ret ?_)
    exact f_fin2 (.tmp rfl) (.tmp rfl) (fun w h => tells v rfl [0] rfl h (fun z hz => ⟨z, .refl _, by rw [hL3]; exact hz⟩)) rfl
  · skip
    refine d_reg ?_
    refine h_q hflS rfl ?_
    refine h_val rfl (.bool false) (fun b w hb hH => xCm rfl rfl rfl (cEf (by omega)) hb) ?_
    refine h_q hflS rfl ?_
    refine h_done (d_else rfl (d_reg ?_))
    refine h_q hflS rfl ?_
    refine h_val rfl (.bool true) (fun b w hb hH => xCm rfl rfl rfl (cEt (by omega)) hb) ?_
    refine h_q hflS rfl ?_
    refine h_done (d_then rfl (d_reg1 ?_))
    refine h_q hflS rfl ?_
    refine h_val rfl (.int .i64 x.e.c) (fun b w hb hH => xLd rfl rfl (rOn ty_int rfl) (hH.row 1 rfl) hb) ?_
    refine h_val rfl (.int .u8 x.e.c) (fun b w hb hH => exec_conv Tryz.underlying3 Tryz.underlying5 (IntWalk.u8_in _ (by omega)) rfl rfl hb) ?_
    refine h_act (post := fun _ => [WtT g L3, cell gx 34 #[.int .i64 x.e.k, .int .u64 x.e.t, .int .u64 x.e.i, x.v, .int .i64 x.e.c]]) rfl (a_does (os' := fun _ => [WtT g L3, cell gx 34 #[.int .i64 x.e.k, .int .u64 x.e.t, .int .u64 x.e.i, x.v, .int .i64 x.e.c]]) [0] 0 (ent_of Tryz.func142 (by kernel_rfl) rfl) (wt_byte g L2 x.e.c (by omega) L3 (by rw [← hL3, layE_conf hk, ← hL2, ← hL1, ← hL0]) (by omega)) rfl rfl rfl (fun _ => rfl) rfl rfl rfl) ?_; rintro ⟨⟩
    refine h_nil (f_block (f_to (d_reg ?_)))
    refine h_q hflS rfl ?_
    refine h_act (post := fun v => [Vec 5 1 encB v L3, WtT g L3, cell gx 34 #[.int .i64 x.e.k, .int .u64 x.e.t, .int .u64 x.e.i, x.v, .int .i64 x.e.c]]) rfl (a_does (os' := fun v => [Vec 5 1 encB v L3, WtT g L3, cell gx 34 #[.int .i64 x.e.k, .int .u64 x.e.t, .int .u64 x.e.i, x.v, .int .i64 x.e.c]]) [0] 0 (ent_of Tryz.func145 (by kernel_rfl) rfl) (wt_bytes g L3 (by omega)) rfl rfl rfl (fun _ => rfl) rfl rfl rfl) ?_; rintro v
    refine h_q hflS rfl ?_
    refine h_done (d_ret ?_)
    exact f_fin2 (.tmp rfl) (.tmp rfl) (fun w h => tells v rfl [0] rfl h (fun z hz => ⟨z, .refl _, by rw [hL3]; exact hz⟩)) rfl
end Go.Proofs.YtaipejaeeohpkaaGreatDoor.Sep
namespace Go.Proofs.YtaipejaeeohpkaaGreatDoor.Sep
open Go.RowKit
open Go.Proofs.YtaipejaeeohpkaaGreatDoor.Mem (Dist Blk Chg)
section
variable {P : Program} {t e ty : TypeId} {k : Nat} {α : Type} {enc : α → List Value} {v u : Value} {l m : List α} {w w' : World} {rs : List RowT}
theorem run_appendK {nb : Nat} (hT : SliceT P t e k) (hb : (P.info? e).map (fun i => i.bytes) = some nb) (hb1 : 1 ≤ nb) (he : EncOf k enc) (h : Vec e k enc v l rs) (hr : RowsOf w rs) (hd : Dist rs) (hu : SlRd w k u m.length (flat enc m)) (hlen : (l.length + m.length) * nb ≤ 140737488355328) :
    ∃ v' w', (Builtin.append_ #[t, t] ty #[v, u]).run P w = .ok v' w' ∧ ∃ rs', Vec e k enc v' (l ++ m) rs' ∧ Chg w w' rs rs' := by
  obtain ⟨i, z, hi, hz, hk, hby, hzs, _⟩ := hT.inf
  have hbn : i.bytes = nb := by simpa [hi] using hb
  have hl1 : l.length + m.length ≤ 140737488355328 := Nat.le_trans (Nat.le_mul_of_pos_right _ hb1) hlen
  obtain ⟨hul, A, c, rfl, hA⟩ := hu
  have hu1 := flat_one he m
  rcases hA with ⟨rfl, hm⟩ | ⟨a, rfl, hcells⟩
  · have hm' : m = [] := List.length_eq_zero_iff.1 hm
    subst hm'
    refine ⟨v, w, ?_, rs, by simpa using h, ⟨Mod.refl _ _, hr, hd, fun x hx _ => ⟨x, hx, rfl⟩⟩⟩
    rcases h with ⟨h1, h2, h3⟩ | ⟨g, c', cs, h1, h2, h3, h4, h5, h6⟩
    · subst h1
      simp [Builtin.append_, run_underlying hT.ht, sizeOf, typeInfo, hi, Builtin.lenOf, Builtin.firstCells]
    · subst h1
      simp [Builtin.append_, run_underlying hT.ht, sizeOf, typeInfo, hi, Builtin.lenOf, Builtin.firstCells, h2, storeCells]
  · have hown : w.ownsRow 0 e k v l.length (flat enc l) := by
      refine ⟨flat_len he l, ?_⟩
      rcases h with ⟨h1, h2, h3⟩ | ⟨g, c', cs, h1, h2, h3, h4, h5, h6⟩
      · exact .inl ⟨h1, by rw [h2]; rfl⟩
      · subst h6
        exact .inr ⟨g, c', cs, h1, Nat.zero_le _, hr.1, h2, h3, h4, h5⟩
    obtain ⟨v', w', hrun, h2, h3, _, h5⟩ := run_append_own_at (P := P) w 0 t ty e i z k i.bytes hT.ht hi hz hk rfl hzs hT.pos v l.length (flat enc l) hown a m.length c (flat enc m) hul hcells hu1 (by unfold maxLen; omega)
      (by rw [hbn]; omega) (Nat.zero_le _)
    refine ⟨v', w', hrun, ?_⟩
    have hm : Mod (At v) w w' := Mod.of_grown h3 (fun k hk => hk)
    have hmB : Mod (Blk rs) w w' := hm.weaken fun j _ hj => by
      rcases h with ⟨h1, _, _⟩ | ⟨g, c', cs, h1, _, _, _, _, h6⟩
      · subst h1; unfold At at hj; simp [Value.ownBlock] at hj
      · subst h1; subst h6
        unfold At at hj
        simp [Value.ownBlock] at hj
        exact ⟨(g, tyR e, cs), by simp, hj⟩
    rcases h2.2 with ⟨h1, hn⟩ | ⟨g, c', cs, h1, _, hrow, hle, hmx, hsz, htk⟩
    · have : l ++ m = [] := List.length_eq_zero_iff.1 (by rw [List.length_append]; exact hn)
      exact ⟨[], .inl ⟨h1, this, rfl⟩, ⟨hmB, trivial, trivial, fun x hx => by simp at hx⟩⟩
    · refine ⟨[(g, tyR e, cs)], .inr ⟨g, c', cs, by rw [h1, List.length_append], by rw [List.length_append]; exact hle, hmx, hsz, by rw [List.length_append, flat_app]; exact htk, rfl⟩, ⟨hmB, ⟨hrow, trivial⟩, ⟨(fun _ h => by cases h), trivial⟩, fun x hx hlt => ?_⟩⟩
      have : x = (g, tyR e, cs) := by simpa using hx
      subst this
      rcases h5 with h5 | h5
      · subst h1
        rcases h with ⟨h1, _, _⟩ | ⟨g', c'', cs', h1, _, _, _, _, h6⟩
        · subst h1; simp [Value.ownBlock] at h5
        · subst h1; subst h6
          simp [Value.ownBlock] at h5
          exact ⟨(g', tyR e, cs'), by simp, h5.symm⟩
      · subst h1
        simp [Value.ownBlock] at h5
        exact absurd hlt (by show ¬ g < w.heap.size; omega)
variable {Q : Exit → Act → World → Prop} {n : Nat} {B : Nat → Prop} {w0 : World} {os : List Ass} {env : List (Nat × Value)} {o : Oper}
theorem a_appendK {nb : Nat} (i : Nat) (hT : SliceT P t e k) (he : EncOf k enc) (hb : (P.info? e).map (fun i => i.bytes) = some nb) (hb1 : 1 ≤ nb) (hi : os[i]? = some (Vec e k enc v l)) (m : List α) (hu : ∀ w, Hp B w0 w os → SlRd w k u m.length (flat enc m)) (hlen : (l.length + m.length) * nb ≤ 140737488355328) {x y : Operand} (ho : o.op = .call { callee := .builtin .append, args := #[x, y], argTypes := #[t, t] }) (hx : evs env x = some v) (hy : evs env y = some u) {r : List α} (hr : l ++ m = r) :
  Acts P Q n env B w0 os o (fun v : Value => v) (fun v' => os.set i (Vec e k enc v' r)) := fun act w hH hF K hK => by
 subst hr
 have hH' := hH
 obtain ⟨rs0, hp, hm⟩ := hH
 obtain ⟨a, z, b, e1, hz, hbb⟩ := hp.at_ hi
 subst e1
 have p : (a ++ (z ++ b)).Perm (z ++ (a ++ b)) := by rw [← List.append_assoc, ← List.append_assoc]; exact List.perm_append_comm.append_right b
 have h5 := hp_perm hm p
 have hd := dist_iff.1 h5.apart
 rw [List.map_append] at hd
 obtain ⟨v', w', hr, y', hy', hc⟩ := run_appendK (P := P) (ty := o.type) hT hb hb1 he hz (rows_iff.2 fun z hz => h5.rows.mem z (by simp [hz])) (dist_iff.2 (List.nodup_append.1 hd).1) (hu w hH') hlen
 have p' : (y' ++ (a ++ b)).Perm (a ++ (y' ++ b)) := by rw [← List.append_assoc, ← List.append_assoc]; exact List.perm_append_comm.append_right b
 refine a_val (w0 := w) act (exec_bi ho (vs := [v, u]) (by simp [evl, hx, hy]) (fun cs => ?_) hF) (hK v' w' ⟨_, hbb _ y' hy', hp_perm (hp_chg h5 hc) p'⟩)
 simp only [builtin, Sem.run_bind, Sem.run_pure, Result.andThen_ok, hr]
end
end Go.Proofs.YtaipejaeeohpkaaGreatDoor.Sep
namespace Go.Proofs.YtaipejaeeohpkaaGreatDoor.Sep
open Go.RowKit
open Go.Proofs.YtaipejaeeohpkaaGreatDoor.Mem (Dist Blk Chg)
theorem fold_set : ∀ (ys : List Value) (n : Nat) (cs : Array Value), n + ys.length ≤ cs.size →
    ((ys.zipIdx n).foldl (fun (cs : Array Value) (p : Value × Nat) => cs.setIfInBounds p.2 p.1) cs).toList = cs.toList.take n ++ ys ++ cs.toList.drop (n + ys.length)
  | [], n, cs, _ => by simp
  | y :: ys, n, cs, h => by
    have hl : (y :: ys).length = ys.length + 1 := rfl
    have hn : n < cs.toList.length := by rw [Array.length_toList]; omega
    rw [List.zipIdx_cons, List.foldl_cons, fold_set ys (n + 1) _ (by rw [Array.size_setIfInBounds]; omega), Array.toList_setIfInBounds]
    have e1 : (cs.toList.set n y).take (n + 1) = cs.toList.take n ++ [y] := by
      rw [List.set_eq_take_append_cons_drop, if_pos hn, List.take_append, List.length_take, Nat.min_eq_left (by omega), List.take_of_length_le (by rw [List.length_take]; omega), show n + 1 - n = 1 by omega]
      rfl
    have e2 : (cs.toList.set n y).drop (n + 1 + ys.length) = cs.toList.drop (n + (ys.length + 1)) := by
      rw [List.drop_set, if_pos (by omega)]
      congr 1
      omega
    rw [e1, e2, hl]
    simp
variable {P : Program} {Q : Exit → Act → World → Prop} {n : Nat} {B : Nat → Prop} {w0 : World} {os : List Ass} {env : List (Nat × Value)} {o : Oper}
variable {t e : TypeId} {k : Nat} {α : Type} {enc : α → List Value}
theorem fill_one {v : Value} {cells : Array Value} (h : v.cells.size = cells.size) (hk : v.cells.size = k) : Instr.fill (fun i => some (i * k, k)) cells [(0, v)] = some v.cells := by
  have h1 : ¬ ((v.cells.size ≠ k || 0 * k + v.cells.size > cells.size) = true) := by simp [hk]; omega
  have h2 : (v.cells.zipIdx.foldl (fun (cs : Array Value) (p : Value × Nat) => cs.setIfInBounds (0 * k + p.2) p.1) cells) = v.cells := by
    have hf : (fun (cs : Array Value) (p : Value × Nat) => cs.setIfInBounds (0 * k + p.2) p.1) = fun cs p => cs.setIfInBounds p.2 p.1 := by
      funext cs p
      rw [Nat.zero_mul, Nat.zero_add]
    rw [hf, ← Array.foldl_toList, Array.toList_zipIdx]
    apply Array.toList_inj.1
    rw [fold_set _ 0 _ (by rw [Array.length_toList]; omega), Array.length_toList]
    simp [h]
  unfold Instr.fill
  simp only
  rw [if_neg h1]
  exact congrArg some h2
theorem run_buildK (hT : SliceT P t e k) (hk : k ≤ 4096) {x : Value} (hx : x.cells.size = k) (w : World) : (Instr.buildSlice t 1 #[(0, x)]).run P w = .ok (.slice (some ⟨w.heap.size, 0, none⟩) 1 1) (w.alloc (.cells x.cells e)) := by
 obtain ⟨inf, z, hinf, hz, hsz, _, hzs, _⟩ := hT.inf
 have hp := hT.pos
 have hf : Instr.fill (fun i => some (i * k, k)) ((Array.range k).map (fun j => z.cells[j % z.cells.size]!)) [(0, x)] = some x.cells := fill_one (by simp [hx]) hx
 have h1 : ¬ 1 * k > 2 ^ 24 := by omega
 have h2 : ¬ 1 * k = 0 := by omega
 simp only [Instr.buildSlice, run_underlying hT.ht, hT.sizeOf, Sem.run_bind, Sem.run_pure, Result.andThen_ok, if_neg h1, if_neg h2, zeroValue, typeInfo, hinf, hz]
 simp [newRow, zeroValue, typeInfo, hinf, hz, h1, h2]
 rw [hf]
 simp
theorem a_buildK (hT : SliceT P t e k) (hk : k ≤ 4096) (he : EncOf k enc) {x : Operand} {c : Value} (a : α) (hc : c.cells.toList = enc a) (ho : o.op = .buildSlice t 1 #[(0, x)]) (hx : evs env x = some c) : Acts P Q n env B w0 os o (fun v : Value => v) (fun v => Vec e k enc v [a] :: os) := fun b w hH hF K hK => by
 have hsz : c.cells.size = k := by rw [← he.len a, ← hc, Array.length_toList]
 have hrun : (execOp b.eval o).run P w = .ok (.value (.slice (some ⟨w.heap.size, 0, none⟩) 1 1)) (w.alloc (.cells c.cells e)) := by
  unfold execOp
  simp [ho, hF.evs hx, Sem.run_bind, run_buildK hT hk hsz]
 refine a_val (w0 := w) b hrun (hK _ _ ?_)
 have := hH.new e c.cells
 obtain ⟨rs, ⟨r1, r2, e1, h1, h2⟩, h3⟩ := this
 unfold cell at h1
 exact ⟨rs, ⟨r1, r2, e1, .inr ⟨w.heap.size, 1, c.cells, rfl, Nat.le_refl _, by unfold maxLen; omega, by simp [hsz], by rw [hc]; simp only [flat, List.flatMap_cons, List.flatMap_nil, List.append_nil, List.length_cons, List.length_nil, Nat.zero_add, Nat.one_mul]; exact List.take_of_length_le (by rw [he.len]; exact Nat.le_refl _), h1⟩, h2⟩, h3⟩
end Go.Proofs.YtaipejaeeohpkaaGreatDoor.Sep
