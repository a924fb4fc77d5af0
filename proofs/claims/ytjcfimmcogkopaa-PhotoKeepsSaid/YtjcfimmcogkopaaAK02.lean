/-
  PhA
-/
import Derived.Test.YtjcfimmcogkopaaAB02
import Derived.Test.YtjcfimmcogkopaaAB03
import Derived.Test.YtjcfimmcogkopaaAE01
import Derived.Test.YtjcfimmcogkopaaAE02
import Derived.Test.YtjcfimmcogkopaaAI01
import Derived.Test.YtjcfimmcogkopaaAK01
set_option linter.unusedSimpArgs false
set_option linter.unusedVariables false

namespace Go.Proofs.Ytjcfimmcogkopaa.Sep
open Go.RowKit
open Go.Proofs.Ytjcfimmcogkopaa.Mem (Dist Blk Chg below0)

set_option maxRecDepth 100000 in
theorem pnum (w : World) (n : Int) (r : Bool) (hr : numB n = r) : Calls Try.prog 24 #[.int .u64 n] w fun e w' => e = .returned (.bool r) ∧ Below w.heap.size w w' := by
  refine d_in (args := [.int .u64 n]) 9 Try.func24 rfl rfl rfl ?_
  unfold numB at hr
  refine d_reg ?_
  refine h_q hflU rfl ?_
  refine h_done ?_
  rcases Classical.em (n ≥ 1) with h1 | h1
  rcases Classical.em (n ≤ 72057594037927935) with h2 | h2
  · skip
    obtain rfl : r = true := by rw [← hr]; simp [h1, h2]
    refine d_reg ?_
    refine h_q hflU rfl ?_
    refine h_val rfl (.bool true) (fun b w hb hH => exec_cmp rfl rfl rfl (cmp_geq_t h1) hb) ?_
    refine h_q hflU rfl ?_
    refine h_val rfl (.bool true) (fun b w hb hH => exec_cmp rfl rfl rfl (cmp_leq_t h2) hb) ?_
    refine h_q hflU rfl ?_
    refine h_done (d_ret ?_)
    exact f_fin1 (.tmp rfl) (fun w h => ⟨rfl, below0 h.up⟩) rfl
  · skip
    obtain rfl : r = false := by rw [← hr]; simp [h2]
    refine d_reg ?_
    refine h_q hflU rfl ?_
    refine h_val rfl (.bool true) (fun b w hb hH => exec_cmp rfl rfl rfl (cmp_geq_t h1) hb) ?_
    refine h_q hflU rfl ?_
    refine h_val rfl (.bool false) (fun b w hb hH => exec_cmp rfl rfl rfl (cmp_leq_f (by omega)) hb) ?_
    refine h_q hflU rfl ?_
    refine h_done (d_ret ?_)
    exact f_fin1 (.tmp rfl) (fun w h => ⟨rfl, below0 h.up⟩) rfl
  · skip
    obtain rfl : r = false := by rw [← hr]; simp [h1]
    refine d_reg ?_
    refine h_q hflU rfl ?_
    refine h_val rfl (.bool false) (fun b w hb hH => exec_cmp rfl rfl rfl (cmp_geq_f (by omega)) hb) ?_
    refine h_q hflU rfl ?_
    refine h_done (d_ret ?_)
    exact f_fin1 (.tmp rfl) (fun w h => ⟨rfl, below0 h.up⟩) rfl

set_option maxRecDepth 100000 in
theorem pmem (w : World) (c : Int) (r : Bool) (hr : (setB c && (c != 0)) = r) : Calls Try.prog 25 #[.int .i64 c] w fun e w' => e = .returned (.bool r) ∧ Below w.heap.size w w' := by
  refine d_in (args := [.int .i64 c]) 14 Try.func25 rfl rfl rfl ?_
  have hr2 : (decide (c > 0) && (decide (c ≤ 254) && decide (c % 2 = 0))) = r := by rw [← hr, Bool.eq_iff_iff]; unfold setB; simp only [Bool.and_eq_true, decide_eq_true_eq, bne_iff_ne, ne_eq]; omega
  refine d_reg ?_
  refine h_q hflU rfl ?_
  refine h_done ?_
  rcases Classical.em (c > 0) with h1 | h1
  rcases Classical.em (c ≤ 254) with h2 | h2
  rcases Classical.em (c % 2 = 0) with h3 | h3
  · skip
    obtain rfl : r = true := by rw [← hr2]; simp [h1, h2, h3]
    refine d_reg ?_
    refine h_q hflU rfl ?_
    refine h_val rfl (.bool true) (fun b w hb hH => exec_cmp rfl rfl rfl (cmp_gtr_t h1) hb) ?_
    refine h_q hflU rfl ?_
    refine h_val rfl (.bool true) (fun b w hb hH => exec_cmp rfl rfl rfl (cmp_leq_t h2) hb) ?_
    refine h_q hflU rfl ?_
    refine h_val rfl (.int .i64 (c % 2)) (fun b w hb hH => exec_remI rfl rfl rfl (by decide) (tmodP (Int.le_of_lt h1)) hb) ?_
    refine h_val rfl (.bool true) (fun b w hb hH => exec_cmp rfl rfl rfl (cmp_eql_t h3) hb) ?_
    refine h_q hflU rfl ?_
    refine h_done (d_ret ?_)
    exact f_fin1 (.tmp rfl) (fun w h => ⟨rfl, below0 h.up⟩) rfl
  · skip
    obtain rfl : r = false := by rw [← hr2]; simp [h3]
    refine d_reg ?_
    refine h_q hflU rfl ?_
    refine h_val rfl (.bool true) (fun b w hb hH => exec_cmp rfl rfl rfl (cmp_gtr_t h1) hb) ?_
    refine h_q hflU rfl ?_
    refine h_val rfl (.bool true) (fun b w hb hH => exec_cmp rfl rfl rfl (cmp_leq_t h2) hb) ?_
    refine h_q hflU rfl ?_
    refine h_val rfl (.int .i64 (c % 2)) (fun b w hb hH => exec_remI rfl rfl rfl (by decide) (tmodP (Int.le_of_lt h1)) hb) ?_
    refine h_val rfl (.bool false) (fun b w hb hH => exec_cmp rfl rfl rfl (cmp_eql_f (by omega)) hb) ?_
    refine h_q hflU rfl ?_
    refine h_done (d_ret ?_)
    exact f_fin1 (.tmp rfl) (fun w h => ⟨rfl, below0 h.up⟩) rfl
  · skip
    obtain rfl : r = false := by rw [← hr2]; simp [h2]
    refine d_reg ?_
    refine h_q hflU rfl ?_
    refine h_val rfl (.bool true) (fun b w hb hH => exec_cmp rfl rfl rfl (cmp_gtr_t h1) hb) ?_
    refine h_q hflU rfl ?_
    refine h_val rfl (.bool false) (fun b w hb hH => exec_cmp rfl rfl rfl (cmp_leq_f (by omega)) hb) ?_
    refine h_q hflU rfl ?_
    refine h_done (d_ret ?_)
    exact f_fin1 (.tmp rfl) (fun w h => ⟨rfl, below0 h.up⟩) rfl
  · skip
    obtain rfl : r = false := by rw [← hr2]; simp [h1]
    refine d_reg ?_
    refine h_q hflU rfl ?_
    refine h_val rfl (.bool false) (fun b w hb hH => exec_cmp rfl rfl rfl (cmp_gtr_f (by omega)) hb) ?_
    refine h_q hflU rfl ?_
    refine h_done (d_ret ?_)
    exact f_fin1 (.tmp rfl) (fun w h => ⟨rfl, below0 h.up⟩) rfl

set_option maxRecDepth 100000 in
theorem pright (w : World) (i t c : Int) {A : Option Addr} {n cp : Nat} (r : Bool) (hr : (numB i && (numB t && ((setB c && (c != 0)) && decide (n ≤ 32768)))) = r) : Calls Try.prog 10 #[.agg #[.int .u64 i, .int .u64 t, .int .i64 c, .slice A n cp]] w fun e w' => e = .returned (.bool r) ∧ Below w.heap.size w w' := by
  refine d_in (args := [.agg #[.int .u64 i, .int .u64 t, .int .i64 c, .slice A n cp]]) 25 Try.func10 rfl rfl rfl ?_
  refine d_reg ?_
  refine h_q hflU rfl ?_
  refine h_act (post := fun g => [cell g 31 #[.int .u64 i, .int .u64 t, .int .i64 c, .slice A n cp]]) rfl (a_box (cs := #[.int .u64 i, .int .u64 t, .int .i64 c, .slice A n cp]) rfl rfl rfl) ?_; rintro g
  refine h_q hflU rfl ?_
  refine h_done ?_
  rcases hi : numB i with _ | _
  rotate_left
  rcases ht : numB t with _ | _
  rotate_left
  rcases hc : (setB c && (c != 0)) with _ | _
  rotate_left
  rcases Classical.em (n ≤ 32768) with hn | hn
  · skip
    obtain rfl : r = true := by rw [← hr, hi, ht, hc]; simp [hn]
    refine d_reg ?_
    refine h_q hflU rfl ?_
    refine h_val rfl (.int .u64 i) (fun b w hb hH => exec_load rfl rfl (reads_one ty_uint64 rfl) (hH.row 0 rfl) hb) ?_
    refine h_act (post := fun _ => [cell g 31 #[.int .u64 i, .int .u64 t, .int .i64 c, .slice A n cp]]) rfl (a_call (ent_of Try.func24 (by kernel_rfl) rfl) (fun w hH => pnum w i true hi) rfl rfl rfl) ?_; rintro ⟨⟩
    refine h_q hflU rfl ?_
    refine h_val rfl (.int .u64 t) (fun b w hb hH => exec_load rfl rfl (reads_one ty_uint64 rfl) (hH.row 0 rfl) hb) ?_
    refine h_act (post := fun _ => [cell g 31 #[.int .u64 i, .int .u64 t, .int .i64 c, .slice A n cp]]) rfl (a_call (ent_of Try.func24 (by kernel_rfl) rfl) (fun w hH => pnum w t true ht) rfl rfl rfl) ?_; rintro ⟨⟩
    refine h_q hflU rfl ?_
    refine h_val rfl (.int .i64 c) (fun b w hb hH => exec_load rfl rfl (reads_one ty_int rfl) (hH.row 0 rfl) hb) ?_
    refine h_act (post := fun _ => [cell g 31 #[.int .u64 i, .int .u64 t, .int .i64 c, .slice A n cp]]) rfl (a_call (ent_of Try.func25 (by kernel_rfl) rfl) (fun w hH => pmem w c true hc) rfl rfl rfl) ?_; rintro ⟨⟩
    refine h_q hflU rfl ?_
    refine h_val rfl (.slice A n cp) (fun b w hb hH => exec_load rfl rfl (reads_one ty_s_uint8 rfl) (hH.row 0 rfl) hb) ?_
    refine h_val rfl (.int .i64 (n : Int)) (fun b w hb hH => e_len sl_uint8 rfl rfl hH hb) ?_
    refine h_val rfl (.bool true) (fun b w hb hH => exec_cmp rfl rfl rfl (cmp_leq_t (by omega)) hb) ?_
    refine h_q hflU rfl ?_
    refine h_done (d_ret ?_)
    exact f_fin1 (.tmp rfl) (fun w h => ⟨rfl, below0 h.up⟩) rfl
  · skip
    obtain rfl : r = false := by rw [← hr, hi, ht, hc]; simp [hn]
    refine d_reg ?_
    refine h_q hflU rfl ?_
    refine h_val rfl (.int .u64 i) (fun b w hb hH => exec_load rfl rfl (reads_one ty_uint64 rfl) (hH.row 0 rfl) hb) ?_
    refine h_act (post := fun _ => [cell g 31 #[.int .u64 i, .int .u64 t, .int .i64 c, .slice A n cp]]) rfl (a_call (ent_of Try.func24 (by kernel_rfl) rfl) (fun w hH => pnum w i true hi) rfl rfl rfl) ?_; rintro ⟨⟩
    refine h_q hflU rfl ?_
    refine h_val rfl (.int .u64 t) (fun b w hb hH => exec_load rfl rfl (reads_one ty_uint64 rfl) (hH.row 0 rfl) hb) ?_
    refine h_act (post := fun _ => [cell g 31 #[.int .u64 i, .int .u64 t, .int .i64 c, .slice A n cp]]) rfl (a_call (ent_of Try.func24 (by kernel_rfl) rfl) (fun w hH => pnum w t true ht) rfl rfl rfl) ?_; rintro ⟨⟩
    refine h_q hflU rfl ?_
    refine h_val rfl (.int .i64 c) (fun b w hb hH => exec_load rfl rfl (reads_one ty_int rfl) (hH.row 0 rfl) hb) ?_
    refine h_act (post := fun _ => [cell g 31 #[.int .u64 i, .int .u64 t, .int .i64 c, .slice A n cp]]) rfl (a_call (ent_of Try.func25 (by kernel_rfl) rfl) (fun w hH => pmem w c true hc) rfl rfl rfl) ?_; rintro ⟨⟩
    refine h_q hflU rfl ?_
    refine h_val rfl (.slice A n cp) (fun b w hb hH => exec_load rfl rfl (reads_one ty_s_uint8 rfl) (hH.row 0 rfl) hb) ?_
    refine h_val rfl (.int .i64 (n : Int)) (fun b w hb hH => e_len sl_uint8 rfl rfl hH hb) ?_
    refine h_val rfl (.bool false) (fun b w hb hH => exec_cmp rfl rfl rfl (cmp_leq_f (by omega)) hb) ?_
    refine h_q hflU rfl ?_
    refine h_done (d_ret ?_)
    exact f_fin1 (.tmp rfl) (fun w h => ⟨rfl, below0 h.up⟩) rfl
  · skip
    obtain rfl : r = false := by rw [← hr, hi]; rfl
    refine d_reg ?_
    refine h_q hflU rfl ?_
    refine h_val rfl (.int .u64 i) (fun b w hb hH => exec_load rfl rfl (reads_one ty_uint64 rfl) (hH.row 0 rfl) hb) ?_
    refine h_act (post := fun _ => [cell g 31 #[.int .u64 i, .int .u64 t, .int .i64 c, .slice A n cp]]) rfl (a_call (ent_of Try.func24 (by kernel_rfl) rfl) (fun w hH => pnum w i false hi) rfl rfl rfl) ?_; rintro ⟨⟩
    refine h_q hflU rfl ?_
    refine h_done (d_ret ?_)
    exact f_fin1 (.tmp rfl) (fun w h => ⟨rfl, below0 h.up⟩) rfl
  · skip
    obtain rfl : r = false := by rw [← hr, hi, ht]; rfl
    refine d_reg ?_
    refine h_q hflU rfl ?_
    refine h_val rfl (.int .u64 i) (fun b w hb hH => exec_load rfl rfl (reads_one ty_uint64 rfl) (hH.row 0 rfl) hb) ?_
    refine h_act (post := fun _ => [cell g 31 #[.int .u64 i, .int .u64 t, .int .i64 c, .slice A n cp]]) rfl (a_call (ent_of Try.func24 (by kernel_rfl) rfl) (fun w hH => pnum w i true hi) rfl rfl rfl) ?_; rintro ⟨⟩
    refine h_q hflU rfl ?_
    refine h_val rfl (.int .u64 t) (fun b w hb hH => exec_load rfl rfl (reads_one ty_uint64 rfl) (hH.row 0 rfl) hb) ?_
    refine h_act (post := fun _ => [cell g 31 #[.int .u64 i, .int .u64 t, .int .i64 c, .slice A n cp]]) rfl (a_call (ent_of Try.func24 (by kernel_rfl) rfl) (fun w hH => pnum w t false ht) rfl rfl rfl) ?_; rintro ⟨⟩
    refine h_q hflU rfl ?_
    refine h_done (d_ret ?_)
    exact f_fin1 (.tmp rfl) (fun w h => ⟨rfl, below0 h.up⟩) rfl
  · skip
    obtain rfl : r = false := by rw [← hr, hi, ht, hc]; rfl
    refine d_reg ?_
    refine h_q hflU rfl ?_
    refine h_val rfl (.int .u64 i) (fun b w hb hH => exec_load rfl rfl (reads_one ty_uint64 rfl) (hH.row 0 rfl) hb) ?_
    refine h_act (post := fun _ => [cell g 31 #[.int .u64 i, .int .u64 t, .int .i64 c, .slice A n cp]]) rfl (a_call (ent_of Try.func24 (by kernel_rfl) rfl) (fun w hH => pnum w i true hi) rfl rfl rfl) ?_; rintro ⟨⟩
    refine h_q hflU rfl ?_
    refine h_val rfl (.int .u64 t) (fun b w hb hH => exec_load rfl rfl (reads_one ty_uint64 rfl) (hH.row 0 rfl) hb) ?_
    refine h_act (post := fun _ => [cell g 31 #[.int .u64 i, .int .u64 t, .int .i64 c, .slice A n cp]]) rfl (a_call (ent_of Try.func24 (by kernel_rfl) rfl) (fun w hH => pnum w t true ht) rfl rfl rfl) ?_; rintro ⟨⟩
    refine h_q hflU rfl ?_
    refine h_val rfl (.int .i64 c) (fun b w hb hH => exec_load rfl rfl (reads_one ty_int rfl) (hH.row 0 rfl) hb) ?_
    refine h_act (post := fun _ => [cell g 31 #[.int .u64 i, .int .u64 t, .int .i64 c, .slice A n cp]]) rfl (a_call (ent_of Try.func25 (by kernel_rfl) rfl) (fun w hH => pmem w c false hc) rfl rfl rfl) ?_; rintro ⟨⟩
    refine h_q hflU rfl ?_
    refine h_done (d_ret ?_)
    exact f_fin1 (.tmp rfl) (fun w h => ⟨rfl, below0 h.up⟩) rfl

theorem right_alt (s : SnV) : (numB s.i && (numB s.t && ((setB s.c && (s.c != 0)) && decide (s.d.length ≤ 32768)))) = rightP s := by unfold rightP; simp only [Bool.and_assoc]
theorem pright_ok (w : World) {s : SnV} {A : Option Addr} {cp : Nat} (r : Bool) (h : rightP s = r) : Calls Try.prog 10 #[.agg #[.int .u64 s.i, .int .u64 s.t, .int .i64 s.c, .slice A s.d.length cp]] w fun e w' => e = .returned (.bool r) ∧ Below w.heap.size w w' :=
  pright w _ _ _ r ((right_alt s).trans h)

set_option maxRecDepth 100000 in
theorem play_does {u : World} {s : SnV} {A : Option Addr} {cp : Nat} (hk : SnOk s) (hv : Sl8 u (.slice A s.d.length cp) s.d) : DoesU u Try.prog 22 #[.agg #[.int .u64 s.i, .int .u64 s.t, .int .i64 s.c, .slice A s.d.length cp]] [] (fun (v : Value) => v) (fun (v : Value) => [Vec 5 1 encB v (layP s)]) := by
  refine d_insU (args := [.agg #[.int .u64 s.i, .int .u64 s.t, .int .i64 s.c, .slice A s.d.length cp]]) 27 Try.func22 rfl rfl rfl ?_; intro w rs hU hS
  have h1 := hk.i
  have h2 := hk.t
  have h3 := hk.c
  have h5 := hk.d
  have e1 : (layU s.i).length ≤ 8 := vlay_length_pow 7 s.i.toNat (by omega)
  have e2 : (layU s.t).length ≤ 8 := vlay_length_pow 7 s.t.toNat (by omega)
  refine d_reg ?_
  refine h_q hflU rfl ?_
  refine h_act (post := fun g1 => [cell g1 31 #[.int .u64 s.i, .int .u64 s.t, .int .i64 s.c, .slice A s.d.length cp]]) rfl (a_box (cs := #[.int .u64 s.i, .int .u64 s.t, .int .i64 s.c, .slice A s.d.length cp]) rfl rfl rfl) ?_; rintro g1
  refine h_q hflU rfl ?_
  refine h_done (d_reg ?_)
  refine h_q hflU rfl ?_
  refine h_act (post := fun g => [WtT g ([]), cell g1 31 #[.int .u64 s.i, .int .u64 s.t, .int .i64 s.c, .slice A s.d.length cp]]) rfl (a_does (os' := fun g => [WtT g ([]), cell g1 31 #[.int .u64 s.i, .int .u64 s.t, .int .i64 s.c, .slice A s.d.length cp]]) [] 0 (ent_of Try.func41 (by kernel_rfl) rfl) (wt_new) rfl rfl rfl (fun _ => rfl) rfl rfl rfl) ?_; rintro g
  refine h_q hflU rfl ?_
  refine h_done (d_reg ?_)
  refine h_q hflU rfl ?_
  refine h_val rfl (.int .u64 s.i) (fun b w hb hH => exec_load rfl rfl (reads_one ty_uint64 rfl) (hH.row 1 rfl) hb) ?_
  refine h_act (post := fun _ => [WtT g (layU s.i), cell g1 31 #[.int .u64 s.i, .int .u64 s.t, .int .i64 s.c, .slice A s.d.length cp]]) rfl (a_does (os' := fun _ => [WtT g (layU s.i), cell g1 31 #[.int .u64 s.i, .int .u64 s.t, .int .i64 s.c, .slice A s.d.length cp]]) [0] 0 (ent_of Try.func42 (by kernel_rfl) rfl) (wt_num g [] s.i ⟨by omega, by omega⟩ (layU s.i) rfl (by simp)) rfl rfl rfl (fun _ => rfl) rfl rfl rfl) ?_; rintro ⟨⟩
  refine h_done (d_reg ?_)
  refine h_q hflU rfl ?_
  refine h_val rfl (.int .u64 s.t) (fun b w hb hH => exec_load rfl rfl (reads_one ty_uint64 rfl) (hH.row 1 rfl) hb) ?_
  refine h_act (post := fun _ => [WtT g (layU s.i ++ layU s.t), cell g1 31 #[.int .u64 s.i, .int .u64 s.t, .int .i64 s.c, .slice A s.d.length cp]]) rfl (a_does (os' := fun _ => [WtT g (layU s.i ++ layU s.t), cell g1 31 #[.int .u64 s.i, .int .u64 s.t, .int .i64 s.c, .slice A s.d.length cp]]) [0] 0 (ent_of Try.func42 (by kernel_rfl) rfl) (wt_num g (layU s.i) s.t ⟨by omega, by omega⟩ (layU s.i ++ layU s.t) rfl (by omega)) rfl rfl rfl (fun _ => rfl) rfl rfl rfl) ?_; rintro ⟨⟩
  refine h_done (d_reg ?_)
  refine h_q hflU rfl ?_
  refine h_val rfl (.int .i64 s.c) (fun b w hb hH => exec_load rfl rfl (reads_one ty_int rfl) (hH.row 1 rfl) hb) ?_
  refine h_val rfl (.int .u8 s.c) (fun b w hb hH => exec_conv Try.underlying3 Try.underlying5 (IntWalk.u8_in _ (by omega)) rfl rfl hb) ?_
  refine h_act (post := fun _ => [WtT g (layB (s.i, s.t, s.c)), cell g1 31 #[.int .u64 s.i, .int .u64 s.t, .int .i64 s.c, .slice A s.d.length cp]]) rfl (a_does (os' := fun _ => [WtT g (layB (s.i, s.t, s.c)), cell g1 31 #[.int .u64 s.i, .int .u64 s.t, .int .i64 s.c, .slice A s.d.length cp]]) [0] 0 (ent_of Try.func43 (by kernel_rfl) rfl) (wt_byte g (layU s.i ++ layU s.t) s.c ⟨by omega, by omega⟩ (layB (s.i, s.t, s.c)) (by unfold layB; simp) (by rw [List.length_append]; omega)) rfl rfl rfl (fun _ => rfl) rfl rfl rfl) ?_; rintro ⟨⟩
  refine h_done (d_reg ?_)
  refine h_q hflU rfl ?_
  refine h_val rfl (.slice A s.d.length cp) (fun b w hb hH => exec_load rfl rfl (reads_one ty_s_uint8 rfl) (hH.row 1 rfl) hb) ?_
  refine h_act (post := fun _ => [WtT g (layP s), cell g1 31 #[.int .u64 s.i, .int .u64 s.t, .int .i64 s.c, .slice A s.d.length cp]]) rfl (a_doesU hU hS (os' := fun _ => [WtT g (layP s), cell g1 31 #[.int .u64 s.i, .int .u64 s.t, .int .i64 s.c, .slice A s.d.length cp]]) [0] 0 (ent_of Try.func44 (by kernel_rfl) rfl) (wt_textU hv g (layB (s.i, s.t, s.c)) (layP s) rfl (by unfold layB; simp only [List.length_append, List.length_cons, List.length_nil]; omega)) rfl rfl rfl (fun _ => rfl) rfl rfl rfl) ?_; rintro ⟨⟩
  refine h_done (d_reg ?_)
  refine h_q hflU rfl ?_
  refine h_act (post := fun v => [Vec 5 1 encB v (layP s), WtT g (layP s), cell g1 31 #[.int .u64 s.i, .int .u64 s.t, .int .i64 s.c, .slice A s.d.length cp]]) rfl (a_does (os' := fun v => [Vec 5 1 encB v (layP s), WtT g (layP s), cell g1 31 #[.int .u64 s.i, .int .u64 s.t, .int .i64 s.c, .slice A s.d.length cp]]) [0] 0 (ent_of Try.func45 (by kernel_rfl) rfl) (wt_bytes g (layP s) (by have := layP_len hk; omega)) rfl rfl rfl (fun _ => rfl) rfl rfl rfl) ?_; rintro v
  refine h_q hflU rfl ?_
  refine h_done (d_ret ?_)
  exact f_fin1 (.tmp rfl) (fun w h => tells v rfl [0] rfl h same_parts) rfl

set_option maxRecDepth 100000 in
theorem pread_some {u : World} {v : Value} {l : List UInt8} (hv : Sl8 u v l) (hl : l.length ≤ 65536) {s : SnV} (ho : readP l = some s) : DoesU u Try.prog 35 #[v] [] (fun (x : Option Addr × Nat) => .tuple #[.agg #[.int .u64 s.i, .int .u64 s.t, .int .i64 s.c, .slice x.1 s.d.length x.2], .bool true]) (fun (x : Option Addr × Nat) => [Vec 5 1 encB (.slice x.1 s.d.length x.2) s.d]) := by
  obtain ⟨⟨n1, l1, f1⟩, h1⟩ : ∃ R, rnum 72057594037927935 l 0 = R := ⟨_, rfl⟩
  obtain ⟨⟨n2, l2, f2⟩, h2⟩ : ∃ R, rnum 72057594037927935 l1 f1 = R := ⟨_, rfl⟩
  obtain ⟨x3, l3, f3, h3⟩ := byteR 254 l2 f2
  obtain ⟨⟨d, l4, f4⟩, h4⟩ : ∃ R, rtext 32768 l3 f3 = R := ⟨_, rfl⟩
  obtain ⟨r5, h5⟩ : ∃ r, rend l4 f4 = r := ⟨_, rfl⟩
  have hx3 := x3.toNat_lt
  rw [readP_of (rbase_of h1 h2 h3) h4, h5] at ho
  obtain ⟨rr, hrr⟩ : ∃ rr, rightP ⟨(n1 : Int), (n2 : Int), (x3.toNat : Int), d⟩ = rr := ⟨_, rfl⟩
  rw [hrr] at ho
  have hr5 : r5 = 0 := by by_cases e : r5 = 0; exact e; rw [if_neg e] at ho; cases ho
  rw [if_pos hr5] at ho
  have hrt : rr = true := by by_cases e : rr = true; exact e; rw [if_neg e] at ho; cases ho
  rw [if_pos hrt] at ho
  subst hrt
  obtain rfl := Option.some.inj ho
  refine d_insU (args := [v]) 34 Try.func35 rfl rfl rfl ?_; intro w rs hU hS
  refine d_reg ?_
  refine h_q hflU rfl ?_
  refine h_act (post := fun g2 => [cell g2 31 #[.int .u64 0, .int .u64 0, .int .i64 0, .slice none 0 0]]) rfl (a_alloc ze_api_Snap rfl) ?_; rintro g2
  refine h_q hflU rfl ?_
  refine h_done (d_reg ?_)
  refine h_q hflU rfl ?_
  refine h_act (post := fun g => [RdT g l 0, cell g2 31 #[.int .u64 0, .int .u64 0, .int .i64 0, .slice none 0 0]]) rfl (a_doesU hU hS (os' := fun g => [RdT g l 0, cell g2 31 #[.int .u64 0, .int .u64 0, .int .i64 0, .slice none 0 0]]) [] 0 (ent_of Try.func48 (by kernel_rfl) rfl) (rd_new u v l hv (by omega)) rfl rfl rfl (fun _ => rfl) rfl rfl rfl) ?_; rintro g
  refine h_q hflU rfl ?_
  refine h_done (d_reg ?_)
  refine h_q hflU rfl ?_
  refine h_act (post := fun gs => [cell gs 31 #[.int .u64 0, .int .u64 0, .int .i64 0, .slice none 0 0], RdT g l 0, cell g2 31 #[.int .u64 0, .int .u64 0, .int .i64 0, .slice none 0 0]]) rfl (a_alloc ze_api_Snap rfl) ?_; rintro gs
  refine h_done (d_reg ?_)
  refine h_q hflU rfl ?_
  refine h_act (post := fun _ => [cell gs 31 #[.int .u64 0, .int .u64 0, .int .i64 0, .slice none 0 0], RdT g l1 f1, cell g2 31 #[.int .u64 0, .int .u64 0, .int .i64 0, .slice none 0 0]]) rfl (a_does (os' := fun _ => [cell gs 31 #[.int .u64 0, .int .u64 0, .int .i64 0, .slice none 0 0], RdT g l1 f1, cell g2 31 #[.int .u64 0, .int .u64 0, .int .i64 0, .slice none 0 0]]) [1] 0 (ent_of Try.func49 (by kernel_rfl) rfl) (rd_num g l 0 72057594037927935 (by decide) (n1, l1, f1) h1) rfl rfl rfl (fun _ => rfl) rfl rfl rfl) ?_; rintro ⟨⟩
  refine h_q hflU rfl ?_
  refine h_acts (post := fun _ => [cell gs 31 #[.int .u64 ((n1 : Nat) : Int), .int .u64 0, .int .i64 0, .slice none 0 0], RdT g l1 f1, cell g2 31 #[.int .u64 0, .int .u64 0, .int .i64 0, .slice none 0 0]]) rfl rfl (a_store 0 (v := .int .u64 ((n1 : Nat) : Int)) #[.int .u64 ((n1 : Nat) : Int), .int .u64 0, .int .i64 0, .slice none 0 0] ty_uint64.2 rfl rfl rfl rfl rfl rfl rfl rfl rfl) ?_; rintro ⟨⟩
  refine h_done (d_reg ?_)
  refine h_q hflU rfl ?_
  refine h_act (post := fun _ => [cell gs 31 #[.int .u64 ((n1 : Nat) : Int), .int .u64 0, .int .i64 0, .slice none 0 0], RdT g l2 f2, cell g2 31 #[.int .u64 0, .int .u64 0, .int .i64 0, .slice none 0 0]]) rfl (a_does (os' := fun _ => [cell gs 31 #[.int .u64 ((n1 : Nat) : Int), .int .u64 0, .int .i64 0, .slice none 0 0], RdT g l2 f2, cell g2 31 #[.int .u64 0, .int .u64 0, .int .i64 0, .slice none 0 0]]) [1] 0 (ent_of Try.func49 (by kernel_rfl) rfl) (rd_num g l1 f1 72057594037927935 (by decide) (n2, l2, f2) h2) rfl rfl rfl (fun _ => rfl) rfl rfl rfl) ?_; rintro ⟨⟩
  refine h_q hflU rfl ?_
  refine h_acts (post := fun _ => [cell gs 31 #[.int .u64 ((n1 : Nat) : Int), .int .u64 ((n2 : Nat) : Int), .int .i64 0, .slice none 0 0], RdT g l2 f2, cell g2 31 #[.int .u64 0, .int .u64 0, .int .i64 0, .slice none 0 0]]) rfl rfl (a_store 0 (v := .int .u64 ((n2 : Nat) : Int)) #[.int .u64 ((n1 : Nat) : Int), .int .u64 ((n2 : Nat) : Int), .int .i64 0, .slice none 0 0] ty_uint64.2 rfl rfl rfl rfl rfl rfl rfl rfl rfl) ?_; rintro ⟨⟩
  refine h_done (d_reg ?_)
  refine h_q hflU rfl ?_
  refine h_act (post := fun _ => [cell gs 31 #[.int .u64 ((n1 : Nat) : Int), .int .u64 ((n2 : Nat) : Int), .int .i64 0, .slice none 0 0], RdT g l3 f3, cell g2 31 #[.int .u64 0, .int .u64 0, .int .i64 0, .slice none 0 0]]) rfl (a_does (os' := fun _ => [cell gs 31 #[.int .u64 ((n1 : Nat) : Int), .int .u64 ((n2 : Nat) : Int), .int .i64 0, .slice none 0 0], RdT g l3 f3, cell g2 31 #[.int .u64 0, .int .u64 0, .int .i64 0, .slice none 0 0]]) [1] 0 (ent_of Try.func50 (by kernel_rfl) rfl) (rd_byte g l2 f2 254 (by decide) (x3.toNat, l3, f3) h3) rfl rfl rfl (fun _ => rfl) rfl rfl rfl) ?_; rintro ⟨⟩
  refine h_val rfl (.int .i64 (x3.toNat : Int)) (fun b w hb hH => exec_conv Try.underlying5 Try.underlying3 (IntWalk.i64_in _ (by omega)) rfl rfl hb) ?_
  refine h_q hflU rfl ?_
  refine h_acts (post := fun _ => [cell gs 31 #[.int .u64 ((n1 : Nat) : Int), .int .u64 ((n2 : Nat) : Int), .int .i64 (x3.toNat : Int), .slice none 0 0], RdT g l3 f3, cell g2 31 #[.int .u64 0, .int .u64 0, .int .i64 0, .slice none 0 0]]) rfl rfl (a_store 0 (v := .int .i64 (x3.toNat : Int)) #[.int .u64 ((n1 : Nat) : Int), .int .u64 ((n2 : Nat) : Int), .int .i64 (x3.toNat : Int), .slice none 0 0] ty_int.2 rfl rfl rfl rfl rfl rfl rfl rfl rfl) ?_; rintro ⟨⟩
  refine h_done (d_reg ?_)
  refine h_q hflU rfl ?_
  refine h_act (post := fun v9 => [Vec 5 1 encB v9 d, cell gs 31 #[.int .u64 ((n1 : Nat) : Int), .int .u64 ((n2 : Nat) : Int), .int .i64 (x3.toNat : Int), .slice none 0 0], RdT g l4 f4, cell g2 31 #[.int .u64 0, .int .u64 0, .int .i64 0, .slice none 0 0]]) rfl (a_does (os' := fun v9 => [Vec 5 1 encB v9 d, cell gs 31 #[.int .u64 ((n1 : Nat) : Int), .int .u64 ((n2 : Nat) : Int), .int .i64 (x3.toNat : Int), .slice none 0 0], RdT g l4 f4, cell g2 31 #[.int .u64 0, .int .u64 0, .int .i64 0, .slice none 0 0]]) [1] 0 (ent_of Try.func51 (by kernel_rfl) rfl) (rd_text g l3 f3 32768 (by decide) (d, l4, f4) h4) rfl rfl rfl (fun _ => rfl) rfl rfl rfl) ?_; rintro v9
  refine WL2.fact 0 rfl (fun _ h => Vec.is h) ?_; rintro ⟨A9, c9, rfl⟩
  refine h_q hflU rfl ?_
  refine h_acts (post := fun _ => [Vec 5 1 encB (.slice A9 d.length c9) d, cell gs 31 #[.int .u64 ((n1 : Nat) : Int), .int .u64 ((n2 : Nat) : Int), .int .i64 (x3.toNat : Int), .slice A9 d.length c9], RdT g l4 f4, cell g2 31 #[.int .u64 0, .int .u64 0, .int .i64 0, .slice none 0 0]]) rfl rfl (a_store 1 (v := .slice A9 d.length c9) #[.int .u64 ((n1 : Nat) : Int), .int .u64 ((n2 : Nat) : Int), .int .i64 (x3.toNat : Int), .slice A9 d.length c9] ty_s_uint8.2 rfl rfl rfl rfl rfl rfl rfl rfl rfl) ?_; rintro ⟨⟩
  refine h_done (d_seq (d_reg ?_))
  refine h_q hflU rfl ?_
  refine h_act (post := fun _ => [Vec 5 1 encB (.slice A9 d.length c9) d, cell gs 31 #[.int .u64 ((n1 : Nat) : Int), .int .u64 ((n2 : Nat) : Int), .int .i64 (x3.toNat : Int), .slice A9 d.length c9], RdT g l4 f4, cell g2 31 #[.int .u64 0, .int .u64 0, .int .i64 0, .slice none 0 0]]) rfl (a_does (os' := fun _ => [Vec 5 1 encB (.slice A9 d.length c9) d, cell gs 31 #[.int .u64 ((n1 : Nat) : Int), .int .u64 ((n2 : Nat) : Int), .int .i64 (x3.toNat : Int), .slice A9 d.length c9], RdT g l4 f4, cell g2 31 #[.int .u64 0, .int .u64 0, .int .i64 0, .slice none 0 0]]) [2] 0 (ent_of Try.func52 (by kernel_rfl) rfl) (rd_end g l4 f4 r5 h5) rfl rfl rfl (fun _ => rfl) rfl rfl rfl) ?_; rintro ⟨⟩
  refine h_val rfl (.bool false) (fun b w hb hH => exec_cmp rfl rfl rfl (cmp_neq_f (by omega)) hb) ?_
  refine h_q hflU rfl ?_
  refine h_val rfl (.agg #[.int .u64 ((n1 : Nat) : Int), .int .u64 ((n2 : Nat) : Int), .int .i64 (x3.toNat : Int), .slice A9 d.length c9]) (fun b w hb hH => exec_load rfl rfl (reads_agg (cs := [.int .u64 ((n1 : Nat) : Int), .int .u64 ((n2 : Nat) : Int), .int .i64 (x3.toNat : Int), .slice A9 d.length c9]) ty_api_Snap rfl) (hH.row 1 rfl) hb) ?_
  refine h_act (post := fun _ => [Vec 5 1 encB (.slice A9 d.length c9) d, cell gs 31 #[.int .u64 ((n1 : Nat) : Int), .int .u64 ((n2 : Nat) : Int), .int .i64 (x3.toNat : Int), .slice A9 d.length c9], RdT g l4 f4, cell g2 31 #[.int .u64 0, .int .u64 0, .int .i64 0, .slice none 0 0]]) rfl (a_call (ent_of Try.func10 (by kernel_rfl) rfl) (fun w hH => pright_ok (s := ⟨(n1 : Int), (n2 : Int), (x3.toNat : Int), d⟩) w true hrr) rfl rfl rfl) ?_; rintro ⟨⟩
  refine h_q hflU rfl ?_
  refine h_done (d_else rfl (d_skip (f_to (d_reg ?_))))
  refine h_q hflU rfl ?_
  refine h_val rfl (.agg #[.int .u64 ((n1 : Nat) : Int), .int .u64 ((n2 : Nat) : Int), .int .i64 (x3.toNat : Int), .slice A9 d.length c9]) (fun b w hb hH => exec_load rfl rfl (reads_agg (cs := [.int .u64 ((n1 : Nat) : Int), .int .u64 ((n2 : Nat) : Int), .int .i64 (x3.toNat : Int), .slice A9 d.length c9]) ty_api_Snap rfl) (hH.row 1 rfl) hb) ?_
  refine h_acts (post := fun _ => [Vec 5 1 encB (.slice A9 d.length c9) d, cell gs 31 #[.int .u64 ((n1 : Nat) : Int), .int .u64 ((n2 : Nat) : Int), .int .i64 (x3.toNat : Int), .slice A9 d.length c9], RdT g l4 f4, cell g2 31 #[.int .u64 ((n1 : Nat) : Int), .int .u64 ((n2 : Nat) : Int), .int .i64 (x3.toNat : Int), .slice A9 d.length c9]]) rfl rfl (a_store 3 (v := .agg #[.int .u64 ((n1 : Nat) : Int), .int .u64 ((n2 : Nat) : Int), .int .i64 (x3.toNat : Int), .slice A9 d.length c9]) #[.int .u64 ((n1 : Nat) : Int), .int .u64 ((n2 : Nat) : Int), .int .i64 (x3.toNat : Int), .slice A9 d.length c9] ty_api_Snap.2 rfl rfl rfl rfl rfl rfl rfl rfl rfl) ?_; rintro ⟨⟩
  refine h_q hflU rfl ?_
  refine h_done (d_ret ?_)
  exact f_fin2 (.cell 3 (v := .agg #[.int .u64 ((n1 : Nat) : Int), .int .u64 ((n2 : Nat) : Int), .int .i64 (x3.toNat : Int), .slice A9 d.length c9]) (reads_agg (cs := [.int .u64 ((n1 : Nat) : Int), .int .u64 ((n2 : Nat) : Int), .int .i64 (x3.toNat : Int), .slice A9 d.length c9]) ty_api_Snap rfl) rfl rfl) (.tmp rfl) (fun w h => tells (A9, c9) rfl [0] rfl h same_parts) rfl

set_option maxRecDepth 100000 in
theorem pread_none {u : World} {v : Value} {l : List UInt8} (hv : Sl8 u v l) (hl : l.length ≤ 65536) (ho : readP l = none) : DoesU u Try.prog 35 #[v] [] (fun (_ : Unit) => .tuple #[.agg #[.int .u64 0, .int .u64 0, .int .i64 0, .slice none 0 0], .bool false]) (fun (_ : Unit) => []) := by
  obtain ⟨⟨n1, l1, f1⟩, h1⟩ : ∃ R, rnum 72057594037927935 l 0 = R := ⟨_, rfl⟩
  obtain ⟨⟨n2, l2, f2⟩, h2⟩ : ∃ R, rnum 72057594037927935 l1 f1 = R := ⟨_, rfl⟩
  obtain ⟨x3, l3, f3, h3⟩ := byteR 254 l2 f2
  obtain ⟨⟨d, l4, f4⟩, h4⟩ : ∃ R, rtext 32768 l3 f3 = R := ⟨_, rfl⟩
  obtain ⟨r5, h5⟩ : ∃ r, rend l4 f4 = r := ⟨_, rfl⟩
  have hx3 := x3.toNat_lt
  rw [readP_of (rbase_of h1 h2 h3) h4, h5] at ho
  obtain ⟨rr, hrr⟩ : ∃ rr, rightP ⟨(n1 : Int), (n2 : Int), (x3.toNat : Int), d⟩ = rr := ⟨_, rfl⟩
  rw [hrr] at ho
  refine d_insU (args := [v]) 34 Try.func35 rfl rfl rfl ?_; intro w rs hU hS
  refine d_reg ?_
  refine h_q hflU rfl ?_
  refine h_act (post := fun g2 => [cell g2 31 #[.int .u64 0, .int .u64 0, .int .i64 0, .slice none 0 0]]) rfl (a_alloc ze_api_Snap rfl) ?_; rintro g2
  refine h_q hflU rfl ?_
  refine h_done (d_reg ?_)
  refine h_q hflU rfl ?_
  refine h_act (post := fun g => [RdT g l 0, cell g2 31 #[.int .u64 0, .int .u64 0, .int .i64 0, .slice none 0 0]]) rfl (a_doesU hU hS (os' := fun g => [RdT g l 0, cell g2 31 #[.int .u64 0, .int .u64 0, .int .i64 0, .slice none 0 0]]) [] 0 (ent_of Try.func48 (by kernel_rfl) rfl) (rd_new u v l hv (by omega)) rfl rfl rfl (fun _ => rfl) rfl rfl rfl) ?_; rintro g
  refine h_q hflU rfl ?_
  refine h_done (d_reg ?_)
  refine h_q hflU rfl ?_
  refine h_act (post := fun gs => [cell gs 31 #[.int .u64 0, .int .u64 0, .int .i64 0, .slice none 0 0], RdT g l 0, cell g2 31 #[.int .u64 0, .int .u64 0, .int .i64 0, .slice none 0 0]]) rfl (a_alloc ze_api_Snap rfl) ?_; rintro gs
  refine h_done (d_reg ?_)
  refine h_q hflU rfl ?_
  refine h_act (post := fun _ => [cell gs 31 #[.int .u64 0, .int .u64 0, .int .i64 0, .slice none 0 0], RdT g l1 f1, cell g2 31 #[.int .u64 0, .int .u64 0, .int .i64 0, .slice none 0 0]]) rfl (a_does (os' := fun _ => [cell gs 31 #[.int .u64 0, .int .u64 0, .int .i64 0, .slice none 0 0], RdT g l1 f1, cell g2 31 #[.int .u64 0, .int .u64 0, .int .i64 0, .slice none 0 0]]) [1] 0 (ent_of Try.func49 (by kernel_rfl) rfl) (rd_num g l 0 72057594037927935 (by decide) (n1, l1, f1) h1) rfl rfl rfl (fun _ => rfl) rfl rfl rfl) ?_; rintro ⟨⟩
  refine h_q hflU rfl ?_
  refine h_acts (post := fun _ => [cell gs 31 #[.int .u64 ((n1 : Nat) : Int), .int .u64 0, .int .i64 0, .slice none 0 0], RdT g l1 f1, cell g2 31 #[.int .u64 0, .int .u64 0, .int .i64 0, .slice none 0 0]]) rfl rfl (a_store 0 (v := .int .u64 ((n1 : Nat) : Int)) #[.int .u64 ((n1 : Nat) : Int), .int .u64 0, .int .i64 0, .slice none 0 0] ty_uint64.2 rfl rfl rfl rfl rfl rfl rfl rfl rfl) ?_; rintro ⟨⟩
  refine h_done (d_reg ?_)
  refine h_q hflU rfl ?_
  refine h_act (post := fun _ => [cell gs 31 #[.int .u64 ((n1 : Nat) : Int), .int .u64 0, .int .i64 0, .slice none 0 0], RdT g l2 f2, cell g2 31 #[.int .u64 0, .int .u64 0, .int .i64 0, .slice none 0 0]]) rfl (a_does (os' := fun _ => [cell gs 31 #[.int .u64 ((n1 : Nat) : Int), .int .u64 0, .int .i64 0, .slice none 0 0], RdT g l2 f2, cell g2 31 #[.int .u64 0, .int .u64 0, .int .i64 0, .slice none 0 0]]) [1] 0 (ent_of Try.func49 (by kernel_rfl) rfl) (rd_num g l1 f1 72057594037927935 (by decide) (n2, l2, f2) h2) rfl rfl rfl (fun _ => rfl) rfl rfl rfl) ?_; rintro ⟨⟩
  refine h_q hflU rfl ?_
  refine h_acts (post := fun _ => [cell gs 31 #[.int .u64 ((n1 : Nat) : Int), .int .u64 ((n2 : Nat) : Int), .int .i64 0, .slice none 0 0], RdT g l2 f2, cell g2 31 #[.int .u64 0, .int .u64 0, .int .i64 0, .slice none 0 0]]) rfl rfl (a_store 0 (v := .int .u64 ((n2 : Nat) : Int)) #[.int .u64 ((n1 : Nat) : Int), .int .u64 ((n2 : Nat) : Int), .int .i64 0, .slice none 0 0] ty_uint64.2 rfl rfl rfl rfl rfl rfl rfl rfl rfl) ?_; rintro ⟨⟩
  refine h_done (d_reg ?_)
  refine h_q hflU rfl ?_
  refine h_act (post := fun _ => [cell gs 31 #[.int .u64 ((n1 : Nat) : Int), .int .u64 ((n2 : Nat) : Int), .int .i64 0, .slice none 0 0], RdT g l3 f3, cell g2 31 #[.int .u64 0, .int .u64 0, .int .i64 0, .slice none 0 0]]) rfl (a_does (os' := fun _ => [cell gs 31 #[.int .u64 ((n1 : Nat) : Int), .int .u64 ((n2 : Nat) : Int), .int .i64 0, .slice none 0 0], RdT g l3 f3, cell g2 31 #[.int .u64 0, .int .u64 0, .int .i64 0, .slice none 0 0]]) [1] 0 (ent_of Try.func50 (by kernel_rfl) rfl) (rd_byte g l2 f2 254 (by decide) (x3.toNat, l3, f3) h3) rfl rfl rfl (fun _ => rfl) rfl rfl rfl) ?_; rintro ⟨⟩
  refine h_val rfl (.int .i64 (x3.toNat : Int)) (fun b w hb hH => exec_conv Try.underlying5 Try.underlying3 (IntWalk.i64_in _ (by omega)) rfl rfl hb) ?_
  refine h_q hflU rfl ?_
  refine h_acts (post := fun _ => [cell gs 31 #[.int .u64 ((n1 : Nat) : Int), .int .u64 ((n2 : Nat) : Int), .int .i64 (x3.toNat : Int), .slice none 0 0], RdT g l3 f3, cell g2 31 #[.int .u64 0, .int .u64 0, .int .i64 0, .slice none 0 0]]) rfl rfl (a_store 0 (v := .int .i64 (x3.toNat : Int)) #[.int .u64 ((n1 : Nat) : Int), .int .u64 ((n2 : Nat) : Int), .int .i64 (x3.toNat : Int), .slice none 0 0] ty_int.2 rfl rfl rfl rfl rfl rfl rfl rfl rfl) ?_; rintro ⟨⟩
  refine h_done (d_reg ?_)
  refine h_q hflU rfl ?_
  refine h_act (post := fun v9 => [Vec 5 1 encB v9 d, cell gs 31 #[.int .u64 ((n1 : Nat) : Int), .int .u64 ((n2 : Nat) : Int), .int .i64 (x3.toNat : Int), .slice none 0 0], RdT g l4 f4, cell g2 31 #[.int .u64 0, .int .u64 0, .int .i64 0, .slice none 0 0]]) rfl (a_does (os' := fun v9 => [Vec 5 1 encB v9 d, cell gs 31 #[.int .u64 ((n1 : Nat) : Int), .int .u64 ((n2 : Nat) : Int), .int .i64 (x3.toNat : Int), .slice none 0 0], RdT g l4 f4, cell g2 31 #[.int .u64 0, .int .u64 0, .int .i64 0, .slice none 0 0]]) [1] 0 (ent_of Try.func51 (by kernel_rfl) rfl) (rd_text g l3 f3 32768 (by decide) (d, l4, f4) h4) rfl rfl rfl (fun _ => rfl) rfl rfl rfl) ?_; rintro v9
  refine WL2.fact 0 rfl (fun _ h => Vec.is h) ?_; rintro ⟨A9, c9, rfl⟩
  refine h_q hflU rfl ?_
  refine h_acts (post := fun _ => [Vec 5 1 encB (.slice A9 d.length c9) d, cell gs 31 #[.int .u64 ((n1 : Nat) : Int), .int .u64 ((n2 : Nat) : Int), .int .i64 (x3.toNat : Int), .slice A9 d.length c9], RdT g l4 f4, cell g2 31 #[.int .u64 0, .int .u64 0, .int .i64 0, .slice none 0 0]]) rfl rfl (a_store 1 (v := .slice A9 d.length c9) #[.int .u64 ((n1 : Nat) : Int), .int .u64 ((n2 : Nat) : Int), .int .i64 (x3.toNat : Int), .slice A9 d.length c9] ty_s_uint8.2 rfl rfl rfl rfl rfl rfl rfl rfl rfl) ?_; rintro ⟨⟩
  refine h_done (d_seq ?_)
  rcases Nat.eq_zero_or_pos r5 with hr5 | hr5
  · skip
    have hrt : rr = false := by cases hrv : rr with | false => rfl | true => (exfalso; rw [if_pos hr5, if_pos hrv] at ho; cases ho)
    subst hrt
    refine d_reg ?_
    refine h_q hflU rfl ?_
    refine h_act (post := fun _ => [Vec 5 1 encB (.slice A9 d.length c9) d, cell gs 31 #[.int .u64 ((n1 : Nat) : Int), .int .u64 ((n2 : Nat) : Int), .int .i64 (x3.toNat : Int), .slice A9 d.length c9], RdT g l4 f4, cell g2 31 #[.int .u64 0, .int .u64 0, .int .i64 0, .slice none 0 0]]) rfl (a_does (os' := fun _ => [Vec 5 1 encB (.slice A9 d.length c9) d, cell gs 31 #[.int .u64 ((n1 : Nat) : Int), .int .u64 ((n2 : Nat) : Int), .int .i64 (x3.toNat : Int), .slice A9 d.length c9], RdT g l4 f4, cell g2 31 #[.int .u64 0, .int .u64 0, .int .i64 0, .slice none 0 0]]) [2] 0 (ent_of Try.func52 (by kernel_rfl) rfl) (rd_end g l4 f4 r5 h5) rfl rfl rfl (fun _ => rfl) rfl rfl rfl) ?_; rintro ⟨⟩
    refine h_val rfl (.bool false) (fun b w hb hH => exec_cmp rfl rfl rfl (cmp_neq_f (by omega)) hb) ?_
    refine h_q hflU rfl ?_
    refine h_val rfl (.agg #[.int .u64 ((n1 : Nat) : Int), .int .u64 ((n2 : Nat) : Int), .int .i64 (x3.toNat : Int), .slice A9 d.length c9]) (fun b w hb hH => exec_load rfl rfl (reads_agg (cs := [.int .u64 ((n1 : Nat) : Int), .int .u64 ((n2 : Nat) : Int), .int .i64 (x3.toNat : Int), .slice A9 d.length c9]) ty_api_Snap rfl) (hH.row 1 rfl) hb) ?_
    refine h_act (post := fun _ => [Vec 5 1 encB (.slice A9 d.length c9) d, cell gs 31 #[.int .u64 ((n1 : Nat) : Int), .int .u64 ((n2 : Nat) : Int), .int .i64 (x3.toNat : Int), .slice A9 d.length c9], RdT g l4 f4, cell g2 31 #[.int .u64 0, .int .u64 0, .int .i64 0, .slice none 0 0]]) rfl (a_call (ent_of Try.func10 (by kernel_rfl) rfl) (fun w hH => pright_ok (s := ⟨(n1 : Int), (n2 : Int), (x3.toNat : Int), d⟩) w false hrr) rfl rfl rfl) ?_; rintro ⟨⟩
    refine h_q hflU rfl ?_
    refine h_done (d_then rfl (d_reg ?_))
    refine h_q hflU rfl ?_
    refine h_val rfl (.agg #[.int .u64 0, .int .u64 0, .int .i64 0, .slice none 0 0]) (fun b w hb hH => exec_build rfl rfl (by kernel_rfl) hb) ?_
    refine h_acts (post := fun _ => [Vec 5 1 encB (.slice A9 d.length c9) d, cell gs 31 #[.int .u64 ((n1 : Nat) : Int), .int .u64 ((n2 : Nat) : Int), .int .i64 (x3.toNat : Int), .slice A9 d.length c9], RdT g l4 f4, cell g2 31 #[.int .u64 0, .int .u64 0, .int .i64 0, .slice none 0 0]]) rfl rfl (a_store 3 (v := .agg #[.int .u64 0, .int .u64 0, .int .i64 0, .slice none 0 0]) #[.int .u64 0, .int .u64 0, .int .i64 0, .slice none 0 0] ty_api_Snap.2 rfl rfl rfl rfl rfl rfl rfl rfl rfl) ?_; rintro ⟨⟩
    refine h_q hflU rfl ?_
    refine h_done (d_ret (f_then_ret ?_))
    exact f_fin2 (.cell 3 (v := .agg #[.int .u64 0, .int .u64 0, .int .i64 0, .slice none 0 0]) (reads_agg (cs := [.int .u64 0, .int .u64 0, .int .i64 0, .slice none 0 0]) ty_api_Snap rfl) rfl rfl) (.tmp rfl) (fun w h => tells () rfl [] rfl h same_parts) rfl
  · skip
    refine d_reg ?_
    refine h_q hflU rfl ?_
    refine h_act (post := fun _ => [Vec 5 1 encB (.slice A9 d.length c9) d, cell gs 31 #[.int .u64 ((n1 : Nat) : Int), .int .u64 ((n2 : Nat) : Int), .int .i64 (x3.toNat : Int), .slice A9 d.length c9], RdT g l4 f4, cell g2 31 #[.int .u64 0, .int .u64 0, .int .i64 0, .slice none 0 0]]) rfl (a_does (os' := fun _ => [Vec 5 1 encB (.slice A9 d.length c9) d, cell gs 31 #[.int .u64 ((n1 : Nat) : Int), .int .u64 ((n2 : Nat) : Int), .int .i64 (x3.toNat : Int), .slice A9 d.length c9], RdT g l4 f4, cell g2 31 #[.int .u64 0, .int .u64 0, .int .i64 0, .slice none 0 0]]) [2] 0 (ent_of Try.func52 (by kernel_rfl) rfl) (rd_end g l4 f4 r5 h5) rfl rfl rfl (fun _ => rfl) rfl rfl rfl) ?_; rintro ⟨⟩
    refine h_val rfl (.bool true) (fun b w hb hH => exec_cmp rfl rfl rfl (cmp_neq_t (by omega)) hb) ?_
    refine h_q hflU rfl ?_
    refine h_done (d_then rfl (d_reg ?_))
    refine h_q hflU rfl ?_
    refine h_val rfl (.agg #[.int .u64 0, .int .u64 0, .int .i64 0, .slice none 0 0]) (fun b w hb hH => exec_build rfl rfl (by kernel_rfl) hb) ?_
    refine h_acts (post := fun _ => [Vec 5 1 encB (.slice A9 d.length c9) d, cell gs 31 #[.int .u64 ((n1 : Nat) : Int), .int .u64 ((n2 : Nat) : Int), .int .i64 (x3.toNat : Int), .slice A9 d.length c9], RdT g l4 f4, cell g2 31 #[.int .u64 0, .int .u64 0, .int .i64 0, .slice none 0 0]]) rfl rfl (a_store 3 (v := .agg #[.int .u64 0, .int .u64 0, .int .i64 0, .slice none 0 0]) #[.int .u64 0, .int .u64 0, .int .i64 0, .slice none 0 0] ty_api_Snap.2 rfl rfl rfl rfl rfl rfl rfl rfl rfl) ?_; rintro ⟨⟩
    refine h_q hflU rfl ?_
    refine h_done (d_ret (f_then_ret ?_))
    exact f_fin2 (.cell 3 (v := .agg #[.int .u64 0, .int .u64 0, .int .i64 0, .slice none 0 0]) (reads_agg (cs := [.int .u64 0, .int .u64 0, .int .i64 0, .slice none 0 0]) ty_api_Snap rfl) rfl rfl) (.tmp rfl) (fun w h => tells () rfl [] rfl h same_parts) rfl

set_option maxRecDepth 100000 in
theorem prm_does {p : Nat} {d d1 : DiskD} {e : Nat} (hd : d.fit) (h : rmSD d = (d1, e)) : Does Try.prog 17 #[.pointer (some ⟨p, 0, none⟩)] [DiskT p d] (fun (_ : Unit) => .int .i64 (e : Int)) (fun (_ : Unit) => [DiskT p d1]) := by
  refine d_ins (args := [.pointer (some ⟨p, 0, none⟩)]) 14 Try.func17 rfl rfl rfl ?_; intro w rs
  obtain ⟨b, hb⟩ : ∃ b, (readD d snewN).getD [] = b := ⟨_, rfl⟩
  refine d_reg ?_
  refine h_q hflU rfl ?_
  refine h_done (d_seq ?_)
  rcases hok : (readD d snewN).isSome with _ | _
  · skip
    obtain ⟨rfl, rfl⟩ : d = d1 ∧ 0 = e := by unfold rmSD at h; rw [if_neg (by rw [hok]; simp)] at h; exact Prod.mk.inj h
    refine d_reg ?_
    refine h_q hflU rfl ?_
    refine h_act (post := fun bv => [Vec 5 1 encB bv b, DiskT p d]) rfl (a_does (os' := fun bv => [Vec 5 1 encB bv b, DiskT p d]) [0] 0 (ent_of Try.func18 (by kernel_rfl) rfl) (disk_read (n := snewN) hd hok hb) rfl rfl rfl (fun _ => rfl) rfl rfl rfl) ?_; rintro bv
    refine h_q hflU rfl ?_
    refine h_done (d_reg ?_)
    refine h_q hflU rfl ?_
    refine h_done (d_then rfl (d_reg ?_))
    refine h_q hflU rfl ?_
    refine h_done (d_ret (f_then_ret ?_))
    exact f_fin1 (.tmp rfl) (fun w h => tells () rfl [1] rfl h same_parts) rfl
  · skip
    have hdel : delD d snewN = (d1, e) := by unfold rmSD at h; rwa [if_pos hok] at h
    refine d_reg ?_
    refine h_q hflU rfl ?_
    refine h_act (post := fun bv => [Vec 5 1 encB bv b, DiskT p d]) rfl (a_does (os' := fun bv => [Vec 5 1 encB bv b, DiskT p d]) [0] 0 (ent_of Try.func18 (by kernel_rfl) rfl) (disk_read (n := snewN) hd hok hb) rfl rfl rfl (fun _ => rfl) rfl rfl rfl) ?_; rintro bv
    refine h_q hflU rfl ?_
    refine h_done (d_reg ?_)
    refine h_q hflU rfl ?_
    refine h_done (d_else rfl (d_skip (f_to (d_reg ?_))))
    refine h_q hflU rfl ?_
    refine h_act (post := fun _ => [Vec 5 1 encB bv b, DiskT p d1]) rfl (a_does (os' := fun _ => [Vec 5 1 encB bv b, DiskT p d1]) [1] 0 (ent_of Try.func31 (by kernel_rfl) rfl) (disk_remove (n := snewN) hd hdel) rfl rfl rfl (fun _ => rfl) rfl rfl rfl) ?_; rintro ⟨⟩
    refine h_q hflU rfl ?_
    refine h_done (d_ret ?_)
    exact f_fin1 (.tmp rfl) (fun w h => tells () rfl [1] rfl h same_parts) rfl
end Go.Proofs.Ytjcfimmcogkopaa.Sep
