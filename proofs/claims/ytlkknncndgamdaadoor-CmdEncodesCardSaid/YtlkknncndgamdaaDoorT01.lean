/-
  CmdT
-/
import Derived.Test.YtlkknncndgamdaaDoorE02
import Derived.Test.YtlkknncndgamdaaDoorI01
import Derived.Test.YtlkknncndgamdaaDoorS01
set_option linter.unusedSimpArgs false
set_option linter.unusedVariables false

namespace Go.Proofs.YtlkknncndgamdaaDoor.Sep
open Go.RowKit
open Go.Proofs.YtlkknncndgamdaaDoor.Mem (Dist Blk Chg below0)

def amtL (n : Int) : Int × Int × Int :=
  if (n.tdiv 7) % 24 = 0 then (0, n % 5000, (n.tdiv 13) % 19) else if (n.tdiv 7) % 24 = 1 then (9223372036854775807, 18446744073709551615, 2) else if (n.tdiv 7) % 24 = 2 then (-1, 18446744073709551615, 2) else if (n.tdiv 7) % 24 = 3 then (n % 4611686018427387904, n % 5000, 2) else (0, n % 5000, 2)
theorem amt_ok (n : Int) : I64 (amtL n).1 ∧ U64 (amtL n).2.1 ∧ 0 ≤ (amtL n).2.2 ∧ (amtL n).2.2 ≤ 18 := by
  unfold amtL I64 U64
  split
  · simp only; omega
  · split
    · simp only; omega
    · split
      · simp only; omega
      · split
        · simp only; omega
        · simp only; omega
theorem tdiv_i64 {n : Int} (h : I64 n) {m : Int} (hm : 1 < m) : I64 (n.tdiv m) := by
  have h1 : (n.tdiv m).natAbs ≤ n.natAbs := by rw [Int.natAbs_tdiv]; exact Nat.div_le_self _ _
  have h2 : (n.tdiv m).natAbs ≤ n.natAbs / 2 := by
    rw [Int.natAbs_tdiv]
    exact Nat.div_le_div_left (by omega) (by decide)
  unfold I64 at h ⊢
  omega
theorem tmod_pos {a b : Int} (h : 0 ≤ a) : a.tmod b = a % b := Int.tmod_eq_emod_of_nonneg h
theorem wrap_i64 (z : Int) : I64 (IntKind.i64.wrap z) := by
  unfold I64
  rw [IntKind.wrap_i64]
  omega

set_option maxRecDepth 100000 in
theorem amt_any (w : World) (n : Int) (hn : I64 n) (R : Int × Int × Int) (h : amtL n = R) : Calls Tryd.prog 41 #[.int .i64 n] w fun e w' => e = .returned (.agg #[.int .i64 R.1, .int .u64 R.2.1, .int .i64 R.2.2]) ∧ Below w.heap.size w w' := by
  have q1 := tdiv_i64 hn (m := 7) (by decide)
  have q2 := tdiv_i64 hn (m := 13) (by decide)
  obtain ⟨p, hp⟩ : ∃ p, n % 5000 = p := ⟨_, rfl⟩
  obtain ⟨d7, hd7⟩ : ∃ d7, n.tdiv 7 = d7 := ⟨_, rfl⟩
  obtain ⟨d13, hd13⟩ : ∃ d13, n.tdiv 13 = d13 := ⟨_, rfl⟩
  rw [hd7] at q1
  rw [hd13] at q2
  obtain ⟨r, hr⟩ : ∃ r, d7 % 24 = r := ⟨_, rfl⟩
  have hp0 : 0 ≤ p ∧ p < 5000 := by rw [← hp]; omega
  refine d_in (args := [.int .i64 n]) 33 Tryd.func41 rfl rfl rfl ?_
  refine d_reg ?_
  refine h_q hflS rfl ?_
  refine h_act (post := fun g1 => [cell g1 26 #[.int .i64 0, .int .u64 0, .int .i64 0]]) rfl (a_alloc ze_api_Dec rfl) ?_; rintro g1
  refine h_done (d_reg ?_)
  refine h_q hflS rfl ?_
  refine h_act (post := fun _ => [cell g1 26 #[.int .i64 0, .int .u64 0, .int .i64 0]]) rfl (a_call (ent_of Tryd.func36 (by kernel_rfl) rfl) (fun w hH => pick w n 5000 hn (by decide) hp) rfl rfl rfl) ?_; rintro ⟨⟩
  refine h_val rfl (.int .u64 p) (fun b w hb hH => exec_conv Tryd.underlying3 Tryd.underlying22 (IntWalk.u64_in _ (by omega)) rfl rfl hb) ?_
  refine h_val rfl (.agg #[.int .i64 0, .int .u64 p]) (fun b w hb hH => exec_build rfl rfl (by kernel_rfl) hb) ?_
  refine h_val rfl (.agg #[.int .i64 0, .int .u64 p, .int .i64 2]) (fun b w hb hH => exec_build rfl rfl (by kernel_rfl) hb) ?_
  refine h_act (post := fun ga => [cell ga 26 #[.int .i64 0, .int .u64 0, .int .i64 0], cell g1 26 #[.int .i64 0, .int .u64 0, .int .i64 0]]) rfl (a_alloc ze_api_Dec rfl) ?_; rintro ga
  refine h_acts (post := fun _ => [cell ga 26 #[.int .i64 0, .int .u64 p, .int .i64 2], cell g1 26 #[.int .i64 0, .int .u64 0, .int .i64 0]]) rfl rfl (a_store 0 (v := .agg #[.int .i64 0, .int .u64 p, .int .i64 2]) #[.int .i64 0, .int .u64 p, .int .i64 2] ty_api_Dec.2 rfl rfl rfl rfl rfl rfl rfl rfl rfl) ?_; rintro ⟨⟩
  refine h_done (d_seq (d_reg ?_))
  refine h_q hflS rfl ?_
  refine h_val rfl (.int .i64 d7) (fun b w hb hH => exec_quoI (by decide) (by rw [IntWalk.i64_in _ (by rw [hd7]; exact q1), hd7]) rfl rfl rfl hb) ?_
  refine h_act (post := fun _ => [cell ga 26 #[.int .i64 0, .int .u64 p, .int .i64 2], cell g1 26 #[.int .i64 0, .int .u64 0, .int .i64 0]]) rfl (a_call (ent_of Tryd.func36 (by kernel_rfl) rfl) (fun w hH => pick w d7 24 q1 (by decide) hr) rfl rfl rfl) ?_; rintro ⟨⟩
  refine h_done (d_block ?_)
  have hc : r = 0 ∨ r = 1 ∨ r = 2 ∨ r = 3 ∨ (r ≠ 0 ∧ r ≠ 1 ∧ r ≠ 2 ∧ r ≠ 3) := by omega
  rcases hc with rfl | rfl | rfl | rfl | ⟨n0, n1, n2, n3⟩
  · skip
    obtain rfl : R = (0, p, d13 % 19) := by rw [← h]; unfold amtL; rw [hd7, hr, hp, hd13]; simp
    refine d_reg ?_
    refine h_q hflS rfl ?_
    refine h_val rfl (.bool true) (fun b w hb hH => exec_cmp rfl rfl rfl (cmp_eql_t (by decide)) hb) ?_
    refine h_q hflS rfl ?_
    refine h_done (d_then rfl (d_reg1 ?_))
    refine h_q hflS rfl ?_
    refine h_val rfl (.int .i64 d13) (fun b w hb hH => exec_quoI (by decide) (by rw [IntWalk.i64_in _ (by rw [hd13]; exact q2), hd13]) rfl rfl rfl hb) ?_
    refine h_act (post := fun _ => [cell ga 26 #[.int .i64 0, .int .u64 p, .int .i64 2], cell g1 26 #[.int .i64 0, .int .u64 0, .int .i64 0]]) rfl (a_call (ent_of Tryd.func36 (by kernel_rfl) rfl) (fun w hH => pick w d13 19 q2 (by decide) rfl) rfl rfl rfl) ?_; rintro ⟨⟩
    refine h_q hflS rfl ?_
    refine h_acts (post := fun _ => [cell ga 26 #[.int .i64 0, .int .u64 p, .int .i64 (d13 % 19)], cell g1 26 #[.int .i64 0, .int .u64 0, .int .i64 0]]) rfl rfl (a_store 0 (v := .int .i64 (d13 % 19)) #[.int .i64 0, .int .u64 p, .int .i64 (d13 % 19)] ty_int.2 rfl rfl rfl rfl rfl rfl rfl rfl rfl) ?_; rintro ⟨⟩
    refine h_nil (f_block (f_to (d_reg ?_)))
    refine h_q hflS rfl ?_
    refine h_val rfl (.agg #[.int .i64 0, .int .u64 p, .int .i64 (d13 % 19)]) (fun b w hb hH => exec_load rfl rfl (reads_agg (cs := [.int .i64 0, .int .u64 p, .int .i64 (d13 % 19)]) ty_api_Dec rfl) (hH.row 0 rfl) hb) ?_
    refine h_acts (post := fun _ => [cell ga 26 #[.int .i64 0, .int .u64 p, .int .i64 (d13 % 19)], cell g1 26 #[.int .i64 0, .int .u64 p, .int .i64 (d13 % 19)]]) rfl rfl (a_store 1 (v := .agg #[.int .i64 0, .int .u64 p, .int .i64 (d13 % 19)]) #[.int .i64 0, .int .u64 p, .int .i64 (d13 % 19)] ty_api_Dec.2 rfl rfl rfl rfl rfl rfl rfl rfl rfl) ?_; rintro ⟨⟩
    refine h_done (d_ret ?_)
    exact f_fin1 (.cell 1 (v := .agg #[.int .i64 0, .int .u64 p, .int .i64 (d13 % 19)]) (reads_agg (cs := [.int .i64 0, .int .u64 p, .int .i64 (d13 % 19)]) ty_api_Dec rfl) rfl rfl) (fun w h => ⟨rfl, below0 h.up⟩) rfl
  · skip
    obtain rfl : R = (9223372036854775807, 18446744073709551615, 2) := by rw [← h]; unfold amtL; rw [hd7, hr]; simp
    refine d_reg ?_
    refine h_q hflS rfl ?_
    refine h_val rfl (.bool false) (fun b w hb hH => exec_cmp rfl rfl rfl (cmp_eql_f (by decide)) hb) ?_
    refine h_q hflS rfl ?_
    refine h_done (d_else rfl (d_reg ?_))
    refine h_q hflS rfl ?_
    refine h_val rfl (.bool true) (fun b w hb hH => exec_cmp rfl rfl rfl (cmp_eql_t (by decide)) hb) ?_
    refine h_q hflS rfl ?_
    refine h_done (d_then rfl (d_reg1 ?_))
    refine h_q hflS rfl ?_
    refine h_val rfl (.agg #[.int .i64 9223372036854775807, .int .u64 18446744073709551615]) (fun b w hb hH => exec_build rfl rfl (by kernel_rfl) hb) ?_
    refine h_q hflS rfl ?_
    refine h_acts (post := fun _ => [cell ga 26 #[.int .i64 9223372036854775807, .int .u64 18446744073709551615, .int .i64 2], cell g1 26 #[.int .i64 0, .int .u64 0, .int .i64 0]]) rfl rfl (a_store 0 (v := .agg #[.int .i64 9223372036854775807, .int .u64 18446744073709551615]) #[.int .i64 9223372036854775807, .int .u64 18446744073709551615, .int .i64 2] ty_api_Wide.2 rfl rfl rfl rfl rfl rfl rfl rfl rfl) ?_; rintro ⟨⟩
    refine h_nil (f_block (f_to (d_reg ?_)))
    refine h_q hflS rfl ?_
    refine h_val rfl (.agg #[.int .i64 9223372036854775807, .int .u64 18446744073709551615, .int .i64 2]) (fun b w hb hH => exec_load rfl rfl (reads_agg (cs := [.int .i64 9223372036854775807, .int .u64 18446744073709551615, .int .i64 2]) ty_api_Dec rfl) (hH.row 0 rfl) hb) ?_
    refine h_acts (post := fun _ => [cell ga 26 #[.int .i64 9223372036854775807, .int .u64 18446744073709551615, .int .i64 2], cell g1 26 #[.int .i64 9223372036854775807, .int .u64 18446744073709551615, .int .i64 2]]) rfl rfl (a_store 1 (v := .agg #[.int .i64 9223372036854775807, .int .u64 18446744073709551615, .int .i64 2]) #[.int .i64 9223372036854775807, .int .u64 18446744073709551615, .int .i64 2] ty_api_Dec.2 rfl rfl rfl rfl rfl rfl rfl rfl rfl) ?_; rintro ⟨⟩
    refine h_done (d_ret ?_)
    exact f_fin1 (.cell 1 (v := .agg #[.int .i64 9223372036854775807, .int .u64 18446744073709551615, .int .i64 2]) (reads_agg (cs := [.int .i64 9223372036854775807, .int .u64 18446744073709551615, .int .i64 2]) ty_api_Dec rfl) rfl rfl) (fun w h => ⟨rfl, below0 h.up⟩) rfl
  · skip
    obtain rfl : R = (-1, 18446744073709551615, 2) := by rw [← h]; unfold amtL; rw [hd7, hr]; simp
    refine d_reg ?_
    refine h_q hflS rfl ?_
    refine h_val rfl (.bool false) (fun b w hb hH => exec_cmp rfl rfl rfl (cmp_eql_f (by decide)) hb) ?_
    refine h_q hflS rfl ?_
    refine h_done (d_else rfl (d_reg ?_))
    refine h_q hflS rfl ?_
    refine h_val rfl (.bool false) (fun b w hb hH => exec_cmp rfl rfl rfl (cmp_eql_f (by decide)) hb) ?_
    refine h_q hflS rfl ?_
    refine h_done (d_else rfl (d_reg ?_))
    refine h_q hflS rfl ?_
    refine h_val rfl (.bool true) (fun b w hb hH => exec_cmp rfl rfl rfl (cmp_eql_t (by decide)) hb) ?_
    refine h_q hflS rfl ?_
    refine h_done (d_then rfl (d_reg1 ?_))
    refine h_q hflS rfl ?_
    refine h_val rfl (.agg #[.int .i64 (-1), .int .u64 18446744073709551615]) (fun b w hb hH => exec_build rfl rfl (by kernel_rfl) hb) ?_
    refine h_q hflS rfl ?_
    refine h_acts (post := fun _ => [cell ga 26 #[.int .i64 (-1), .int .u64 18446744073709551615, .int .i64 2], cell g1 26 #[.int .i64 0, .int .u64 0, .int .i64 0]]) rfl rfl (a_store 0 (v := .agg #[.int .i64 (-1), .int .u64 18446744073709551615]) #[.int .i64 (-1), .int .u64 18446744073709551615, .int .i64 2] ty_api_Wide.2 rfl rfl rfl rfl rfl rfl rfl rfl rfl) ?_; rintro ⟨⟩
    refine h_nil (f_block (f_to (d_reg ?_)))
    refine h_q hflS rfl ?_
    refine h_val rfl (.agg #[.int .i64 (-1), .int .u64 18446744073709551615, .int .i64 2]) (fun b w hb hH => exec_load rfl rfl (reads_agg (cs := [.int .i64 (-1), .int .u64 18446744073709551615, .int .i64 2]) ty_api_Dec rfl) (hH.row 0 rfl) hb) ?_
    refine h_acts (post := fun _ => [cell ga 26 #[.int .i64 (-1), .int .u64 18446744073709551615, .int .i64 2], cell g1 26 #[.int .i64 (-1), .int .u64 18446744073709551615, .int .i64 2]]) rfl rfl (a_store 1 (v := .agg #[.int .i64 (-1), .int .u64 18446744073709551615, .int .i64 2]) #[.int .i64 (-1), .int .u64 18446744073709551615, .int .i64 2] ty_api_Dec.2 rfl rfl rfl rfl rfl rfl rfl rfl rfl) ?_; rintro ⟨⟩
    refine h_done (d_ret ?_)
    exact f_fin1 (.cell 1 (v := .agg #[.int .i64 (-1), .int .u64 18446744073709551615, .int .i64 2]) (reads_agg (cs := [.int .i64 (-1), .int .u64 18446744073709551615, .int .i64 2]) ty_api_Dec rfl) rfl rfl) (fun w h => ⟨rfl, below0 h.up⟩) rfl
  · skip
    obtain rfl : R = (n % 4611686018427387904, p, 2) := by rw [← h]; unfold amtL; rw [hd7, hr, hp]; simp
    refine d_reg ?_
    refine h_q hflS rfl ?_
    refine h_val rfl (.bool false) (fun b w hb hH => exec_cmp rfl rfl rfl (cmp_eql_f (by decide)) hb) ?_
    refine h_q hflS rfl ?_
    refine h_done (d_else rfl (d_reg ?_))
    refine h_q hflS rfl ?_
    refine h_val rfl (.bool false) (fun b w hb hH => exec_cmp rfl rfl rfl (cmp_eql_f (by decide)) hb) ?_
    refine h_q hflS rfl ?_
    refine h_done (d_else rfl (d_reg ?_))
    refine h_q hflS rfl ?_
    refine h_val rfl (.bool false) (fun b w hb hH => exec_cmp rfl rfl rfl (cmp_eql_f (by decide)) hb) ?_
    refine h_q hflS rfl ?_
    refine h_done (d_else rfl (d_reg ?_))
    refine h_q hflS rfl ?_
    refine h_val rfl (.bool true) (fun b w hb hH => exec_cmp rfl rfl rfl (cmp_eql_t (by decide)) hb) ?_
    refine h_q hflS rfl ?_
    refine h_done (d_then rfl (d_reg1 ?_))
    refine h_q hflS rfl ?_
    refine h_act (post := fun _ => [cell ga 26 #[.int .i64 0, .int .u64 p, .int .i64 2], cell g1 26 #[.int .i64 0, .int .u64 0, .int .i64 0]]) rfl (a_call (ent_of Tryd.func36 (by kernel_rfl) rfl) (fun w hH => pick w n 4611686018427387904 hn (by decide) rfl) rfl rfl rfl) ?_; rintro ⟨⟩
    refine h_q hflS rfl ?_
    refine h_acts (post := fun _ => [cell ga 26 #[.int .i64 (n % 4611686018427387904), .int .u64 p, .int .i64 2], cell g1 26 #[.int .i64 0, .int .u64 0, .int .i64 0]]) rfl rfl (a_store 0 (v := .int .i64 (n % 4611686018427387904)) #[.int .i64 (n % 4611686018427387904), .int .u64 p, .int .i64 2] ty_int64.2 rfl rfl rfl rfl rfl rfl rfl rfl rfl) ?_; rintro ⟨⟩
    refine h_nil (f_block (f_to (d_reg ?_)))
    refine h_q hflS rfl ?_
    refine h_val rfl (.agg #[.int .i64 (n % 4611686018427387904), .int .u64 p, .int .i64 2]) (fun b w hb hH => exec_load rfl rfl (reads_agg (cs := [.int .i64 (n % 4611686018427387904), .int .u64 p, .int .i64 2]) ty_api_Dec rfl) (hH.row 0 rfl) hb) ?_
    refine h_acts (post := fun _ => [cell ga 26 #[.int .i64 (n % 4611686018427387904), .int .u64 p, .int .i64 2], cell g1 26 #[.int .i64 (n % 4611686018427387904), .int .u64 p, .int .i64 2]]) rfl rfl (a_store 1 (v := .agg #[.int .i64 (n % 4611686018427387904), .int .u64 p, .int .i64 2]) #[.int .i64 (n % 4611686018427387904), .int .u64 p, .int .i64 2] ty_api_Dec.2 rfl rfl rfl rfl rfl rfl rfl rfl rfl) ?_; rintro ⟨⟩
    refine h_done (d_ret ?_)
    exact f_fin1 (.cell 1 (v := .agg #[.int .i64 (n % 4611686018427387904), .int .u64 p, .int .i64 2]) (reads_agg (cs := [.int .i64 (n % 4611686018427387904), .int .u64 p, .int .i64 2]) ty_api_Dec rfl) rfl rfl) (fun w h => ⟨rfl, below0 h.up⟩) rfl
  · skip
    obtain rfl : R = (0, p, 2) := by rw [← h]; unfold amtL; rw [hd7, hr, hp, if_neg n0, if_neg n1, if_neg n2, if_neg n3]
    refine d_reg ?_
    refine h_q hflS rfl ?_
    refine h_val rfl (.bool false) (fun b w hb hH => exec_cmp rfl rfl rfl (cmp_eql_f n0) hb) ?_
    refine h_q hflS rfl ?_
    refine h_done (d_else rfl (d_reg ?_))
    refine h_q hflS rfl ?_
    refine h_val rfl (.bool false) (fun b w hb hH => exec_cmp rfl rfl rfl (cmp_eql_f n1) hb) ?_
    refine h_q hflS rfl ?_
    refine h_done (d_else rfl (d_reg ?_))
    refine h_q hflS rfl ?_
    refine h_val rfl (.bool false) (fun b w hb hH => exec_cmp rfl rfl rfl (cmp_eql_f n2) hb) ?_
    refine h_q hflS rfl ?_
    refine h_done (d_else rfl (d_reg ?_))
    refine h_q hflS rfl ?_
    refine h_val rfl (.bool false) (fun b w hb hH => exec_cmp rfl rfl rfl (cmp_eql_f n3) hb) ?_
    refine h_q hflS rfl ?_
    refine h_done (d_else rfl (d_skip (f_block (f_to (d_reg ?_)))))
    refine h_q hflS rfl ?_
    refine h_val rfl (.agg #[.int .i64 0, .int .u64 p, .int .i64 2]) (fun b w hb hH => exec_load rfl rfl (reads_agg (cs := [.int .i64 0, .int .u64 p, .int .i64 2]) ty_api_Dec rfl) (hH.row 0 rfl) hb) ?_
    refine h_acts (post := fun _ => [cell ga 26 #[.int .i64 0, .int .u64 p, .int .i64 2], cell g1 26 #[.int .i64 0, .int .u64 p, .int .i64 2]]) rfl rfl (a_store 1 (v := .agg #[.int .i64 0, .int .u64 p, .int .i64 2]) #[.int .i64 0, .int .u64 p, .int .i64 2] ty_api_Dec.2 rfl rfl rfl rfl rfl rfl rfl rfl rfl) ?_; rintro ⟨⟩
    refine h_done (d_ret ?_)
    exact f_fin1 (.cell 1 (v := .agg #[.int .i64 0, .int .u64 p, .int .i64 2]) (reads_agg (cs := [.int .i64 0, .int .u64 p, .int .i64 2]) ty_api_Dec rfl) rfl rfl) (fun w h => ⟨rfl, below0 h.up⟩) rfl

set_option maxRecDepth 100000 in
theorem Has_any (w : World) (s wd : List UInt8) (r : Bool) (hr : hasB s wd = r) (hs : s.length ≤ 9223372036854775806) : Calls Tryd.prog 40 #[.string (bs s), .string (bs wd)] w fun e w' => e = .returned (.bool r) ∧ Below w.heap.size w w' := by
  refine d_in (args := [.string (bs s), .string (bs wd)]) 8 Tryd.func40 rfl rfl rfl ?_
  refine d_reg ?_
  refine h_q hflS rfl ?_
  refine h_done (d_reg ?_)
  refine h_q hflS rfl ?_
  refine h_act (post := fun _ => []) rfl (a_call (ent_of Tryd.func25 (by kernel_rfl) rfl) (fun w hH => has_any w s wd r hr hs) rfl rfl rfl) ?_; rintro ⟨⟩
  refine h_q hflS rfl ?_
  refine h_done (d_ret ?_)
  exact f_fin1 (.tmp rfl) (fun w h => ⟨rfl, below0 h.up⟩) rfl

def coinL (i : Nat) : List UInt8 := if i = 0 then [69, 85, 82] else if i = 1 then [74, 80, 89] else [85, 83, 68]
theorem coin_name (i : Nat) : nameB (coinL i) = true := by
  unfold coinL
  split
  · decide
  · split <;> decide
/-- the table of names is there -/
def Coins (w : World) : Prop := ∀ i, i < 3 → w.cell? ⟨0, i, none⟩ = some (.string (bs (coinL i)))
theorem Coins.up {w0 w : World} {os : List Ass} (h : Coins w0) (hH : Hp Nil w0 w os) : Coins w := fun i hi => cell_arg (h i hi) (Below.refl _ _) (fun _ h => h.elim) hH
def pickI (b : Bool) (x : Int) : Int := match b with | true => x | false => 0
def pickL (b : Bool) (x : List UInt8) : List UInt8 := match b with | true => x | false => []
def pickD (b : Bool) (x : Int × Int × Int) : Int × Int × Int := match b with | true => x | false => (0, 0, 0)
def pickE (b : Bool) (x y : Int) : Int := match b with | true => x | false => y
def idx3 (z : Int) : Nat := (IntKind.i64.wrap z % 3).toNat
/-- a command that may be, of a raw one -/
def handC (c : CmdD) : CmdD :=
  ⟨1 + c.k % 11, 1 + c.s % 3, pickI (1 + c.k % 11 != 1) (1 + c.q % 7), pickE (1 + c.k % 11 == 2) (c.a % 4) (pickI (wth (fo (1 + c.k % 11)) 4) (1 + c.a % 4)), pickI (wth (fo (1 + c.k % 11)) 8) (1 + c.b % 4),
    (pickD (wth (fo (1 + c.k % 11)) 16) (amtL c.sc)).1, (pickD (wth (fo (1 + c.k % 11)) 16) (amtL c.sc)).2.1, (pickD (wth (fo (1 + c.k % 11)) 16) (amtL c.sc)).2.2,
    pickL (wth (fo (1 + c.k % 11)) 32) (coinL (idx3 ((c.x.length : Int) + c.a % 7))), pickL (wth (fo (1 + c.k % 11)) 64) (coinL (idx3 ((c.y.length : Int) + c.b % 7)))⟩
theorem pickL_len (b : Bool) (i : Nat) : (pickL b (coinL i)).length ≤ 3 := by
  cases b
  · exact Nat.zero_le _
  · show (coinL i).length ≤ 3
    unfold coinL
    split
    · decide
    · split <;> decide
theorem handC_ok (c : CmdD) (ho : c.ok) : (handC c).ok := by
  have hk : 0 ≤ c.k % 11 ∧ c.k % 11 < 11 := by omega
  have hd : I64 (pickD (wth (fo (1 + c.k % 11)) 16) (amtL c.sc)).1 ∧ U64 (pickD (wth (fo (1 + c.k % 11)) 16) (amtL c.sc)).2.1 ∧ I64 (pickD (wth (fo (1 + c.k % 11)) 16) (amtL c.sc)).2.2 := by
    cases wth (fo (1 + c.k % 11)) 16
    · exact (⟨⟨by decide, by decide⟩, ⟨by decide, by decide⟩, ⟨by decide, by decide⟩⟩ : I64 0 ∧ U64 0 ∧ I64 0)
    · have := amt_ok c.sc
      exact ⟨this.1, this.2.1, by show -9223372036854775808 ≤ (amtL c.sc).2.2; omega, by show (amtL c.sc).2.2 ≤ _; omega⟩
  have hI : ∀ (b : Bool) (x : Int), U64 x → U64 (pickI b x) := fun b x h => by cases b; exact (⟨by decide, by decide⟩ : U64 0); exact h
  have u4 : ∀ x : Int, U64 (1 + x % 4) := fun x => ⟨by omega, by omega⟩
  refine ⟨⟨by show -9223372036854775808 ≤ 1 + c.k % 11; omega, by show 1 + c.k % 11 ≤ _; omega⟩, ⟨by show 0 ≤ 1 + c.s % 3; omega, by show 1 + c.s % 3 ≤ _; omega⟩, hI _ _ ⟨by omega, by omega⟩, ?_, hI _ _ (u4 _), hd.1, hd.2.1, hd.2.2, Nat.le_trans (pickL_len _ _) (by decide), Nat.le_trans (pickL_len _ _) (by decide)⟩
  show U64 (pickE _ _ _)
  cases (1 + c.k % 11 == 2)
  · exact hI _ _ (u4 _)
  · exact ⟨by show 0 ≤ c.a % 4; omega, by show c.a % 4 ≤ _; omega⟩
theorem handC_right (c : CmdD) : rightB (handC c) = true := by
  have hk : 1 ≤ 1 + c.k % 11 ∧ 1 + c.k % 11 ≤ 11 := by omega
  obtain ⟨k, hkk⟩ : ∃ k, 1 + c.k % 11 = k := ⟨_, rfl⟩
  have n3 : numB (1 + c.s % 3) = true := by simp [numB]; omega
  have n7 : numB (1 + c.q % 7) = true := by simp [numB]; omega
  have ha := amt_ok c.sc
  have hs : scB (amtL c.sc).2.2 = true := by simp [scB]; omega
  have hx := coin_name (idx3 ((c.x.length : Int) + c.a % 7))
  have hy := coin_name (idx3 ((c.y.length : Int) + c.b % 7))
  unfold rightB handC
  simp only [hkk]
  rw [hkk] at hk
  rcases kinds_of hk with rfl | rfl | rfl | rfl | rfl | rfl | rfl | rfl | rfl | rfl | rfl <;> simp [fo, wth, mayB, pickI, pickL, pickD, pickE, zeroD, n3, n7, hs, hx, hy]

set_option maxHeartbeats 2000000 in
set_option maxRecDepth 100000 in
theorem handcmd_any (w : World) (hcn : Coins w) (c : CmdD) (ho : c.ok) (d : CmdD) (hd : handC c = d) : Calls Tryd.prog 16 #[.agg #[.int .i64 c.k, .int .u64 c.s, .int .u64 c.q, .int .u64 c.a, .int .u64 c.b, .int .i64 c.hi, .int .u64 c.lo, .int .i64 c.sc, .string (bs c.x), .string (bs c.y)]] w fun e w' => e = .returned (.agg #[.int .i64 d.k, .int .u64 d.s, .int .u64 d.q, .int .u64 d.a, .int .u64 d.b, .int .i64 d.hi, .int .u64 d.lo, .int .i64 d.sc, .string (bs d.x), .string (bs d.y)]) ∧ Below w.heap.size w w' := by
  obtain ⟨k, hk⟩ : ∃ k, 1 + c.k % 11 = k := ⟨_, rfl⟩
  obtain ⟨s1, hs1⟩ : ∃ s1, 1 + c.s % 3 = s1 := ⟨_, rfl⟩
  have hk1 : 1 ≤ k ∧ k ≤ 11 := by omega
  obtain ⟨h, hh⟩ : ∃ h, fo k = h := ⟨_, rfl⟩
  obtain ⟨b3, hb3⟩ : ∃ b3, wth h 4 = b3 := ⟨_, rfl⟩
  obtain ⟨b4, hb4⟩ : ∃ b4, wth h 8 = b4 := ⟨_, rfl⟩
  obtain ⟨b5, hb5⟩ : ∃ b5, wth h 16 = b5 := ⟨_, rfl⟩
  obtain ⟨b6, hb6⟩ : ∃ b6, wth h 32 = b6 := ⟨_, rfl⟩
  obtain ⟨b7, hb7⟩ : ∃ b7, wth h 64 = b7 := ⟨_, rfl⟩
  obtain ⟨bq, hbq⟩ : ∃ bq, (k != 1) = bq := ⟨_, rfl⟩
  obtain ⟨be, hbe⟩ : ∃ be, (k == 2) = be := ⟨_, rfl⟩
  obtain ⟨q1, hq1⟩ : ∃ q1, pickI bq (1 + c.q % 7) = q1 := ⟨_, rfl⟩
  obtain ⟨a1, ha1⟩ : ∃ a1, pickE be (c.a % 4) (pickI b3 (1 + c.a % 4)) = a1 := ⟨_, rfl⟩
  obtain ⟨d1, hd1⟩ : ∃ d1, pickI b4 (1 + c.b % 4) = d1 := ⟨_, rfl⟩
  obtain ⟨⟨hi, lo, sc⟩, hD⟩ : ∃ R, pickD b5 (amtL c.sc) = R := ⟨_, rfl⟩
  obtain ⟨zx, hzx⟩ : ∃ zx, IntKind.i64.wrap ((c.x.length : Int) + c.a % 7) = zx := ⟨_, rfl⟩
  obtain ⟨zy, hzy⟩ : ∃ zy, IntKind.i64.wrap ((c.y.length : Int) + c.b % 7) = zy := ⟨_, rfl⟩
  have wx : I64 zx := by rw [← hzx]; exact wrap_i64 _
  have wy : I64 zy := by rw [← hzy]; exact wrap_i64 _
  obtain ⟨nx, hnx⟩ : ∃ nx : Nat, zx % 3 = (nx : Int) := ⟨(zx % 3).toNat, by omega⟩
  have lx : nx < 3 := by omega
  obtain ⟨x1, hx1⟩ : ∃ x1, pickL b6 (coinL nx) = x1 := ⟨_, rfl⟩
  obtain ⟨ny, hny⟩ : ∃ ny : Nat, zy % 3 = (ny : Int) := ⟨(zy % 3).toNat, by omega⟩
  have ly : ny < 3 := by omega
  obtain ⟨y1, hy1⟩ : ∃ y1, pickL b7 (coinL ny) = y1 := ⟨_, rfl⟩
  have e6 : idx3 ((c.x.length : Int) + c.a % 7) = nx := by unfold idx3; rw [hzx]; omega
  have e7 : idx3 ((c.y.length : Int) + c.b % 7) = ny := by unfold idx3; rw [hzy]; omega
  obtain rfl : d = ⟨k, s1, q1, a1, d1, hi, lo, sc, x1, y1⟩ := by
    rw [← hd]
    unfold handC
    rw [hk, hh, hb3, hb4, hb5, hb6, hb7, hbq, hbe, e6, e7, hs1, hq1, ha1, hd1, hD, hx1, hy1]
  have cq : cmpB .neq k 1 = some bq := by rw [← hbq]; rfl
  have ce : cmpB .eql k 2 = some be := by rw [← hbe]; rfl
  obtain ⟨l, hl⟩ : ∃ l, ofL k = l := ⟨_, rfl⟩
  have hll : l.length ≤ 9223372036854775806 := by have := ofL_len k; rw [hl] at this; omega
  have ha3 : hasB l [97] = b3 := by rw [← hl, has_a, hh, hb3]
  have ha4 : hasB l [98] = b4 := by rw [← hl, has_b, hh, hb4]
  have ha5 : hasB l [97, 109, 111, 117, 110, 116] = b5 := by rw [← hl, has_amount, hh, hb5]
  have ha6 : hasB l [120] = b6 := by rw [← hl, has_x, hh, hb6]
  have ha7 : hasB l [121] = b7 := by rw [← hl, has_y, hh, hb7]
  refine d_in (args := [.agg #[.int .i64 c.k, .int .u64 c.s, .int .u64 c.q, .int .u64 c.a, .int .u64 c.b, .int .i64 c.hi, .int .u64 c.lo, .int .i64 c.sc, .string (bs c.x), .string (bs c.y)]]) 82 Tryd.func16 rfl rfl rfl ?_
  refine d_reg ?_
  refine h_q hflS rfl ?_
  refine h_act (post := fun g1 => [cell g1 28 #[.int .i64 c.k, .int .u64 c.s, .int .u64 c.q, .int .u64 c.a, .int .u64 c.b, .int .i64 c.hi, .int .u64 c.lo, .int .i64 c.sc, .string (bs c.x), .string (bs c.y)]]) rfl (a_box (cs := #[.int .i64 c.k, .int .u64 c.s, .int .u64 c.q, .int .u64 c.a, .int .u64 c.b, .int .i64 c.hi, .int .u64 c.lo, .int .i64 c.sc, .string (bs c.x), .string (bs c.y)]) rfl rfl rfl) ?_; rintro g1
  refine h_act (post := fun g2 => [cell g2 28 #[.int .i64 0, .int .u64 0, .int .u64 0, .int .u64 0, .int .u64 0, .int .i64 0, .int .u64 0, .int .i64 0, .string { data := #[] }, .string { data := #[] }], cell g1 28 #[.int .i64 c.k, .int .u64 c.s, .int .u64 c.q, .int .u64 c.a, .int .u64 c.b, .int .i64 c.hi, .int .u64 c.lo, .int .i64 c.sc, .string (bs c.x), .string (bs c.y)]]) rfl (a_alloc ze_api_Cmd rfl) ?_; rintro g2
  refine h_done (d_seq ?_)
  refine d_par 10 1 [⟨.quiet, 0, fun _ => .pointer (some ⟨g1, 0, none⟩), []⟩, ⟨.quiet, 0, fun _ => .int .i64 c.k, [0]⟩, ⟨.call, 1, fun _ => .int .i64 (c.k % 11), [1]⟩, ⟨.quiet, 1, fun _ => .int .i64 k, [2]⟩, ⟨.quiet, 0, fun _ => .pointer (some ⟨g1, 1, none⟩), []⟩, ⟨.quiet, 0, fun _ => .int .u64 c.s, [4]⟩, ⟨.quiet, 0, fun _ => .int .u64 (c.s % 3), [5]⟩, ⟨.quiet, 0, fun _ => .int .u64 s1, [6]⟩, ⟨.quiet, 1, fun _ => .agg #[.int .i64 k, .int .u64 s1, .int .u64 0, .int .u64 0, .int .u64 0, .int .i64 0, .int .u64 0, .int .i64 0, .string { data := #[] }, .string { data := #[] }], [3, 7]⟩, ⟨.alloc 28 #[.int .i64 0, .int .u64 0, .int .u64 0, .int .u64 0, .int .u64 0, .int .i64 0, .int .u64 0, .int .i64 0, .string { data := #[] }, .string { data := #[] }], 0, fun _ => undef, []⟩] [(1, .pointer (some ⟨g1, 0, none⟩)), (2, .pointer (some ⟨g2, 0, none⟩))] (by kernel_rfl) (by kernel_rfl) ⟨rfl, rfl, trivial⟩ ?_ ?_
  · skip
    refine o_cons (o_q hflS (fun _ _ => rfl) (fun _ _ => rfl)) ?_
    refine o_cons (o_load 1 (reads_one ty_int rfl) (fun _ _ => rfl) rfl (fun _ _ => rfl) rfl) ?_
    refine o_cons (o_call (ent_of Tryd.func36 (by kernel_rfl) rfl) (fun w hU => pick w c.k 11 ho.k (by decide) rfl) (fun _ _ => rfl) rfl (fun _ _ => rfl) (fun _ _ => rfl)) ?_
    refine o_cons (o_ar (by rw [hk]; exact IntWalk.i64_in _ (by omega)) (fun _ _ => rfl) rfl (fun _ _ => rfl) (fun _ _ => rfl) rfl) ?_
    refine o_cons (o_q hflS (fun _ _ => rfl) (fun _ _ => rfl)) ?_
    refine o_cons (o_load 1 (reads_one ty_uint64 rfl) (fun _ _ => rfl) rfl (fun _ _ => rfl) rfl) ?_
    refine o_cons (o_val (fun _ _ => rfl) (fun w hH σ g b W hU hb => by exact exec_remI rfl rfl rfl (by decide) (tmod_pos ho.s.1) hb)) ?_
    refine o_cons (o_ar (by rw [hs1]; exact IntWalk.u64_in _ (by omega)) (fun _ _ => rfl) rfl (fun _ _ => rfl) (fun _ _ => rfl) rfl) ?_
    refine o_cons (o_build (vs := [(0, .int .i64 k), (1, .int .u64 s1)]) (cs := #[.int .i64 k, .int .u64 s1, .int .u64 0, .int .u64 0, .int .u64 0, .int .i64 0, .int .u64 0, .int .i64 0, .string { data := #[] }, .string { data := #[] }]) (by kernel_rfl) (fun _ _ => rfl) rfl (fun _ _ => rfl)) ?_
    refine o_cons (o_alloc ze_api_Cmd rfl rfl) ?_
    exact o_nil
  intro σ1 gs1
  refine WL2.keep (env' := [(1, .pointer (some ⟨g1, 0, none⟩)), (2, .pointer (some ⟨g2, 0, none⟩)), (13, .agg #[.int .i64 k, .int .u64 s1, .int .u64 0, .int .u64 0, .int .u64 0, .int .i64 0, .int .u64 0, .int .i64 0, .string { data := #[] }, .string { data := #[] }]), (3, .pointer (some ⟨(gs1 9), 0, none⟩))]) ⟨rfl, rfl, rfl, rfl, trivial⟩ ?_
  refine h_q hflS rfl ?_
  refine h_acts (post := fun _ => [cell (gs1 9) 28 #[.int .i64 k, .int .u64 s1, .int .u64 0, .int .u64 0, .int .u64 0, .int .i64 0, .int .u64 0, .int .i64 0, .string { data := #[] }, .string { data := #[] }], cell g2 28 #[.int .i64 0, .int .u64 0, .int .u64 0, .int .u64 0, .int .u64 0, .int .i64 0, .int .u64 0, .int .i64 0, .string { data := #[] }, .string { data := #[] }], cell g1 28 #[.int .i64 c.k, .int .u64 c.s, .int .u64 c.q, .int .u64 c.a, .int .u64 c.b, .int .i64 c.hi, .int .u64 c.lo, .int .i64 c.sc, .string (bs c.x), .string (bs c.y)]]) rfl rfl (a_store 0 (v := .agg #[.int .i64 k, .int .u64 s1, .int .u64 0, .int .u64 0, .int .u64 0, .int .i64 0, .int .u64 0, .int .i64 0, .string { data := #[] }, .string { data := #[] }]) #[.int .i64 k, .int .u64 s1, .int .u64 0, .int .u64 0, .int .u64 0, .int .i64 0, .int .u64 0, .int .i64 0, .string { data := #[] }, .string { data := #[] }] ty_api_Cmd.2 rfl rfl rfl rfl rfl rfl rfl rfl rfl) ?_; rintro ⟨⟩
  refine h_nil ?_
  generalize gs1 9 = gc
  refine f_to (d_reg ?_)
  refine h_q hflS rfl ?_
  refine h_val rfl (.int .i64 k) (fun b w hb hH => exec_load rfl rfl (reads_one ty_int rfl) (hH.row 0 rfl) hb) ?_
  refine h_act (post := fun _ => [cell gc 28 #[.int .i64 k, .int .u64 s1, .int .u64 0, .int .u64 0, .int .u64 0, .int .i64 0, .int .u64 0, .int .i64 0, .string { data := #[] }, .string { data := #[] }], cell g2 28 #[.int .i64 0, .int .u64 0, .int .u64 0, .int .u64 0, .int .u64 0, .int .i64 0, .int .u64 0, .int .i64 0, .string { data := #[] }, .string { data := #[] }], cell g1 28 #[.int .i64 c.k, .int .u64 c.s, .int .u64 c.q, .int .u64 c.a, .int .u64 c.b, .int .i64 c.hi, .int .u64 c.lo, .int .i64 c.sc, .string (bs c.x), .string (bs c.y)]]) rfl (a_call (ent_of Tryd.func23 (by kernel_rfl) rfl) (fun w hH => of_any w k l hl) rfl rfl rfl) ?_; rintro ⟨⟩
  refine h_q hflS rfl ?_
  refine h_done (d_seq (d_reg ?_))
  refine h_q hflS rfl ?_
  refine h_val rfl (.int .i64 k) (fun b w hb hH => exec_load rfl rfl (reads_one ty_int rfl) (hH.row 0 rfl) hb) ?_
  refine h_val rfl (.bool bq) (fun b w hb hH => exec_cmp rfl rfl rfl cq hb) ?_
  refine h_done ?_
  refine d_mid [(1, .pointer (some ⟨g1, 0, none⟩)), (2, .pointer (some ⟨g2, 0, none⟩)), (3, .pointer (some ⟨gc, 0, none⟩)), (4, .string (bs l))] [cell gc 28 #[.int .i64 k, .int .u64 s1, .int .u64 q1, .int .u64 0, .int .u64 0, .int .i64 0, .int .u64 0, .int .i64 0, .string (bs ([])), .string (bs ([]))], cell g2 28 #[.int .i64 0, .int .u64 0, .int .u64 0, .int .u64 0, .int .u64 0, .int .i64 0, .int .u64 0, .int .i64 0, .string { data := #[] }, .string { data := #[] }], cell g1 28 #[.int .i64 c.k, .int .u64 c.s, .int .u64 c.q, .int .u64 c.a, .int .u64 c.b, .int .i64 c.hi, .int .u64 c.lo, .int .i64 c.sc, .string (bs c.x), .string (bs c.y)]] ?_ ?_
  · skip
    cases bq
    · skip
      obtain rfl : 0 = q1 := hq1
      refine d_else rfl (d_skip ?_)
      exact f_mid 0 ⟨rfl, rfl, rfl, rfl, trivial⟩ rfl
    · skip
      refine d_then rfl (d_reg1 ?_)
      refine h_q hflS rfl ?_
      refine h_val rfl (.int .u64 c.q) (fun b w hb hH => exec_load rfl rfl (reads_one ty_uint64 rfl) (hH.row 2 rfl) hb) ?_
      refine h_val rfl (.int .u64 (c.q % 7)) (fun b w hb hH => exec_remI rfl rfl rfl (by decide) (tmod_pos ho.q.1) hb) ?_
      refine h_val rfl (.int .u64 q1) (fun b w hb hH => exec_ar rfl rfl rfl rfl (by rw [IntWalk.u64_in _ (by omega)]; exact hq1) hb) ?_
      refine h_q hflS rfl ?_
      refine h_acts (post := fun _ => [cell gc 28 #[.int .i64 k, .int .u64 s1, .int .u64 q1, .int .u64 0, .int .u64 0, .int .i64 0, .int .u64 0, .int .i64 0, .string { data := #[] }, .string { data := #[] }], cell g2 28 #[.int .i64 0, .int .u64 0, .int .u64 0, .int .u64 0, .int .u64 0, .int .i64 0, .int .u64 0, .int .i64 0, .string { data := #[] }, .string { data := #[] }], cell g1 28 #[.int .i64 c.k, .int .u64 c.s, .int .u64 c.q, .int .u64 c.a, .int .u64 c.b, .int .i64 c.hi, .int .u64 c.lo, .int .i64 c.sc, .string (bs c.x), .string (bs c.y)]]) rfl rfl (a_store 0 (v := .int .u64 q1) #[.int .i64 k, .int .u64 s1, .int .u64 q1, .int .u64 0, .int .u64 0, .int .i64 0, .int .u64 0, .int .i64 0, .string { data := #[] }, .string { data := #[] }] ty_uint64.2 rfl rfl rfl rfl rfl rfl rfl rfl rfl) ?_; rintro ⟨⟩
      refine h_nil ?_
      exact f_mid 0 ⟨rfl, rfl, rfl, rfl, trivial⟩ rfl
  refine f_to (d_seq (d_reg ?_))
  refine h_q hflS rfl ?_
  refine h_val rfl (.int .i64 k) (fun b w hb hH => exec_load rfl rfl (reads_one ty_int rfl) (hH.row 0 rfl) hb) ?_
  refine h_val rfl (.bool be) (fun b w hb hH => exec_cmp rfl rfl rfl ce hb) ?_
  refine h_done ?_
  refine d_mid [(1, .pointer (some ⟨g1, 0, none⟩)), (2, .pointer (some ⟨g2, 0, none⟩)), (3, .pointer (some ⟨gc, 0, none⟩)), (4, .string (bs l))] [cell gc 28 #[.int .i64 k, .int .u64 s1, .int .u64 q1, .int .u64 a1, .int .u64 0, .int .i64 0, .int .u64 0, .int .i64 0, .string (bs ([])), .string (bs ([]))], cell g2 28 #[.int .i64 0, .int .u64 0, .int .u64 0, .int .u64 0, .int .u64 0, .int .i64 0, .int .u64 0, .int .i64 0, .string { data := #[] }, .string { data := #[] }], cell g1 28 #[.int .i64 c.k, .int .u64 c.s, .int .u64 c.q, .int .u64 c.a, .int .u64 c.b, .int .i64 c.hi, .int .u64 c.lo, .int .i64 c.sc, .string (bs c.x), .string (bs c.y)]] ?_ ?_
  · skip
    cases be
    · skip
      refine d_else rfl (d_reg ?_)
      refine h_q hflS rfl ?_
      refine h_act (post := fun _ => [cell gc 28 #[.int .i64 k, .int .u64 s1, .int .u64 q1, .int .u64 0, .int .u64 0, .int .i64 0, .int .u64 0, .int .i64 0, .string (bs ([])), .string (bs ([]))], cell g2 28 #[.int .i64 0, .int .u64 0, .int .u64 0, .int .u64 0, .int .u64 0, .int .i64 0, .int .u64 0, .int .i64 0, .string { data := #[] }, .string { data := #[] }], cell g1 28 #[.int .i64 c.k, .int .u64 c.s, .int .u64 c.q, .int .u64 c.a, .int .u64 c.b, .int .i64 c.hi, .int .u64 c.lo, .int .i64 c.sc, .string (bs c.x), .string (bs c.y)]]) rfl (a_call (ent_of Tryd.func40 (by kernel_rfl) rfl) (fun w hH => Has_any w l [97] b3 ha3 hll) rfl rfl rfl) ?_; rintro ⟨⟩
      refine h_done ?_
      refine d_mid [(1, .pointer (some ⟨g1, 0, none⟩)), (2, .pointer (some ⟨g2, 0, none⟩)), (3, .pointer (some ⟨gc, 0, none⟩)), (4, .string (bs l))] [cell gc 28 #[.int .i64 k, .int .u64 s1, .int .u64 q1, .int .u64 a1, .int .u64 0, .int .i64 0, .int .u64 0, .int .i64 0, .string (bs ([])), .string (bs ([]))], cell g2 28 #[.int .i64 0, .int .u64 0, .int .u64 0, .int .u64 0, .int .u64 0, .int .i64 0, .int .u64 0, .int .i64 0, .string { data := #[] }, .string { data := #[] }], cell g1 28 #[.int .i64 c.k, .int .u64 c.s, .int .u64 c.q, .int .u64 c.a, .int .u64 c.b, .int .i64 c.hi, .int .u64 c.lo, .int .i64 c.sc, .string (bs c.x), .string (bs c.y)]] ?_ ?_
      · skip
        cases b3
        · skip
          obtain rfl : 0 = a1 := ha1
          refine d_else rfl (d_skip ?_)
          exact f_mid 0 ⟨rfl, rfl, rfl, rfl, trivial⟩ rfl
        · skip
          refine d_then rfl (d_reg1 ?_)
          refine h_q hflS rfl ?_
          refine h_val rfl (.int .u64 c.a) (fun b w hb hH => exec_load rfl rfl (reads_one ty_uint64 rfl) (hH.row 2 rfl) hb) ?_
          refine h_val rfl (.int .u64 (c.a % 4)) (fun b w hb hH => exec_remI rfl rfl rfl (by decide) (tmod_pos ho.a.1) hb) ?_
          refine h_val rfl (.int .u64 a1) (fun b w hb hH => exec_ar rfl rfl rfl rfl (by rw [IntWalk.u64_in _ (by omega)]; exact ha1) hb) ?_
          refine h_q hflS rfl ?_
          refine h_acts (post := fun _ => [cell gc 28 #[.int .i64 k, .int .u64 s1, .int .u64 q1, .int .u64 a1, .int .u64 0, .int .i64 0, .int .u64 0, .int .i64 0, .string (bs ([])), .string (bs ([]))], cell g2 28 #[.int .i64 0, .int .u64 0, .int .u64 0, .int .u64 0, .int .u64 0, .int .i64 0, .int .u64 0, .int .i64 0, .string { data := #[] }, .string { data := #[] }], cell g1 28 #[.int .i64 c.k, .int .u64 c.s, .int .u64 c.q, .int .u64 c.a, .int .u64 c.b, .int .i64 c.hi, .int .u64 c.lo, .int .i64 c.sc, .string (bs c.x), .string (bs c.y)]]) rfl rfl (a_store 0 (v := .int .u64 a1) #[.int .i64 k, .int .u64 s1, .int .u64 q1, .int .u64 a1, .int .u64 0, .int .i64 0, .int .u64 0, .int .i64 0, .string (bs ([])), .string (bs ([]))] ty_uint64.2 rfl rfl rfl rfl rfl rfl rfl rfl rfl) ?_; rintro ⟨⟩
          refine h_nil ?_
          exact f_mid 0 ⟨rfl, rfl, rfl, rfl, trivial⟩ rfl
      exact f_mid 0 ⟨rfl, rfl, rfl, rfl, trivial⟩ rfl
    · skip
      obtain rfl : c.a % 4 = a1 := ha1
      refine d_then rfl (d_reg1 ?_)
      refine h_q hflS rfl ?_
      refine h_val rfl (.int .u64 c.a) (fun b w hb hH => exec_load rfl rfl (reads_one ty_uint64 rfl) (hH.row 2 rfl) hb) ?_
      refine h_val rfl (.int .u64 (c.a % 4)) (fun b w hb hH => exec_remI rfl rfl rfl (by decide) (tmod_pos ho.a.1) hb) ?_
      refine h_q hflS rfl ?_
      refine h_acts (post := fun _ => [cell gc 28 #[.int .i64 k, .int .u64 s1, .int .u64 q1, .int .u64 (c.a % 4), .int .u64 0, .int .i64 0, .int .u64 0, .int .i64 0, .string (bs ([])), .string (bs ([]))], cell g2 28 #[.int .i64 0, .int .u64 0, .int .u64 0, .int .u64 0, .int .u64 0, .int .i64 0, .int .u64 0, .int .i64 0, .string { data := #[] }, .string { data := #[] }], cell g1 28 #[.int .i64 c.k, .int .u64 c.s, .int .u64 c.q, .int .u64 c.a, .int .u64 c.b, .int .i64 c.hi, .int .u64 c.lo, .int .i64 c.sc, .string (bs c.x), .string (bs c.y)]]) rfl rfl (a_store 0 (v := .int .u64 (c.a % 4)) #[.int .i64 k, .int .u64 s1, .int .u64 q1, .int .u64 (c.a % 4), .int .u64 0, .int .i64 0, .int .u64 0, .int .i64 0, .string (bs ([])), .string (bs ([]))] ty_uint64.2 rfl rfl rfl rfl rfl rfl rfl rfl rfl) ?_; rintro ⟨⟩
      refine h_nil ?_
      exact f_mid 0 ⟨rfl, rfl, rfl, rfl, trivial⟩ rfl
  refine f_to (d_seq (d_reg ?_))
  refine h_q hflS rfl ?_
  refine h_act (post := fun _ => [cell gc 28 #[.int .i64 k, .int .u64 s1, .int .u64 q1, .int .u64 a1, .int .u64 0, .int .i64 0, .int .u64 0, .int .i64 0, .string (bs ([])), .string (bs ([]))], cell g2 28 #[.int .i64 0, .int .u64 0, .int .u64 0, .int .u64 0, .int .u64 0, .int .i64 0, .int .u64 0, .int .i64 0, .string { data := #[] }, .string { data := #[] }], cell g1 28 #[.int .i64 c.k, .int .u64 c.s, .int .u64 c.q, .int .u64 c.a, .int .u64 c.b, .int .i64 c.hi, .int .u64 c.lo, .int .i64 c.sc, .string (bs c.x), .string (bs c.y)]]) rfl (a_call (ent_of Tryd.func40 (by kernel_rfl) rfl) (fun w hH => Has_any w l [98] b4 ha4 hll) rfl rfl rfl) ?_; rintro ⟨⟩
  refine h_done ?_
  refine d_mid [(1, .pointer (some ⟨g1, 0, none⟩)), (2, .pointer (some ⟨g2, 0, none⟩)), (3, .pointer (some ⟨gc, 0, none⟩)), (4, .string (bs l))] [cell gc 28 #[.int .i64 k, .int .u64 s1, .int .u64 q1, .int .u64 a1, .int .u64 d1, .int .i64 0, .int .u64 0, .int .i64 0, .string (bs ([])), .string (bs ([]))], cell g2 28 #[.int .i64 0, .int .u64 0, .int .u64 0, .int .u64 0, .int .u64 0, .int .i64 0, .int .u64 0, .int .i64 0, .string { data := #[] }, .string { data := #[] }], cell g1 28 #[.int .i64 c.k, .int .u64 c.s, .int .u64 c.q, .int .u64 c.a, .int .u64 c.b, .int .i64 c.hi, .int .u64 c.lo, .int .i64 c.sc, .string (bs c.x), .string (bs c.y)]] ?_ ?_
  · skip
    cases b4
    · skip
      obtain rfl : 0 = d1 := hd1
      refine d_else rfl (d_skip ?_)
      exact f_mid 0 ⟨rfl, rfl, rfl, rfl, trivial⟩ rfl
    · skip
      refine d_then rfl (d_reg1 ?_)
      refine h_q hflS rfl ?_
      refine h_val rfl (.int .u64 c.b) (fun b w hb hH => exec_load rfl rfl (reads_one ty_uint64 rfl) (hH.row 2 rfl) hb) ?_
      refine h_val rfl (.int .u64 (c.b % 4)) (fun b w hb hH => exec_remI rfl rfl rfl (by decide) (tmod_pos ho.b.1) hb) ?_
      refine h_val rfl (.int .u64 d1) (fun b w hb hH => exec_ar rfl rfl rfl rfl (by rw [IntWalk.u64_in _ (by omega)]; exact hd1) hb) ?_
      refine h_q hflS rfl ?_
      refine h_acts (post := fun _ => [cell gc 28 #[.int .i64 k, .int .u64 s1, .int .u64 q1, .int .u64 a1, .int .u64 d1, .int .i64 0, .int .u64 0, .int .i64 0, .string (bs ([])), .string (bs ([]))], cell g2 28 #[.int .i64 0, .int .u64 0, .int .u64 0, .int .u64 0, .int .u64 0, .int .i64 0, .int .u64 0, .int .i64 0, .string { data := #[] }, .string { data := #[] }], cell g1 28 #[.int .i64 c.k, .int .u64 c.s, .int .u64 c.q, .int .u64 c.a, .int .u64 c.b, .int .i64 c.hi, .int .u64 c.lo, .int .i64 c.sc, .string (bs c.x), .string (bs c.y)]]) rfl rfl (a_store 0 (v := .int .u64 d1) #[.int .i64 k, .int .u64 s1, .int .u64 q1, .int .u64 a1, .int .u64 d1, .int .i64 0, .int .u64 0, .int .i64 0, .string (bs ([])), .string (bs ([]))] ty_uint64.2 rfl rfl rfl rfl rfl rfl rfl rfl rfl) ?_; rintro ⟨⟩
      refine h_nil ?_
      exact f_mid 0 ⟨rfl, rfl, rfl, rfl, trivial⟩ rfl
  refine f_to (d_seq (d_reg ?_))
  refine h_q hflS rfl ?_
  refine h_act (post := fun _ => [cell gc 28 #[.int .i64 k, .int .u64 s1, .int .u64 q1, .int .u64 a1, .int .u64 d1, .int .i64 0, .int .u64 0, .int .i64 0, .string (bs ([])), .string (bs ([]))], cell g2 28 #[.int .i64 0, .int .u64 0, .int .u64 0, .int .u64 0, .int .u64 0, .int .i64 0, .int .u64 0, .int .i64 0, .string { data := #[] }, .string { data := #[] }], cell g1 28 #[.int .i64 c.k, .int .u64 c.s, .int .u64 c.q, .int .u64 c.a, .int .u64 c.b, .int .i64 c.hi, .int .u64 c.lo, .int .i64 c.sc, .string (bs c.x), .string (bs c.y)]]) rfl (a_call (ent_of Tryd.func40 (by kernel_rfl) rfl) (fun w hH => Has_any w l [97, 109, 111, 117, 110, 116] b5 ha5 hll) rfl rfl rfl) ?_; rintro ⟨⟩
  refine h_done ?_
  refine d_mid [(1, .pointer (some ⟨g1, 0, none⟩)), (2, .pointer (some ⟨g2, 0, none⟩)), (3, .pointer (some ⟨gc, 0, none⟩)), (4, .string (bs l))] [cell gc 28 #[.int .i64 k, .int .u64 s1, .int .u64 q1, .int .u64 a1, .int .u64 d1, .int .i64 hi, .int .u64 lo, .int .i64 sc, .string (bs ([])), .string (bs ([]))], cell g2 28 #[.int .i64 0, .int .u64 0, .int .u64 0, .int .u64 0, .int .u64 0, .int .i64 0, .int .u64 0, .int .i64 0, .string { data := #[] }, .string { data := #[] }], cell g1 28 #[.int .i64 c.k, .int .u64 c.s, .int .u64 c.q, .int .u64 c.a, .int .u64 c.b, .int .i64 c.hi, .int .u64 c.lo, .int .i64 c.sc, .string (bs c.x), .string (bs c.y)]] ?_ ?_
  · skip
    cases b5
    · skip
      obtain ⟨rfl, rfl, rfl⟩ : 0 = hi ∧ 0 = lo ∧ 0 = sc := by simpa [pickD] using hD
      refine d_else rfl (d_skip ?_)
      exact f_mid 0 ⟨rfl, rfl, rfl, rfl, trivial⟩ rfl
    · skip
      refine d_then rfl (d_reg1 ?_)
      refine h_q hflS rfl ?_
      refine h_val rfl (.int .i64 c.sc) (fun b w hb hH => exec_load rfl rfl (reads_one ty_int rfl) (hH.row 2 rfl) hb) ?_
      refine h_act (post := fun _ => [cell gc 28 #[.int .i64 k, .int .u64 s1, .int .u64 q1, .int .u64 a1, .int .u64 d1, .int .i64 0, .int .u64 0, .int .i64 0, .string (bs ([])), .string (bs ([]))], cell g2 28 #[.int .i64 0, .int .u64 0, .int .u64 0, .int .u64 0, .int .u64 0, .int .i64 0, .int .u64 0, .int .i64 0, .string { data := #[] }, .string { data := #[] }], cell g1 28 #[.int .i64 c.k, .int .u64 c.s, .int .u64 c.q, .int .u64 c.a, .int .u64 c.b, .int .i64 c.hi, .int .u64 c.lo, .int .i64 c.sc, .string (bs c.x), .string (bs c.y)]]) rfl (a_call (ent_of Tryd.func41 (by kernel_rfl) rfl) (fun w hH => amt_any w c.sc ho.sc (hi, lo, sc) hD) rfl rfl rfl) ?_; rintro ⟨⟩
      refine h_q hflS rfl ?_
      refine h_acts (post := fun _ => [cell gc 28 #[.int .i64 k, .int .u64 s1, .int .u64 q1, .int .u64 a1, .int .u64 d1, .int .i64 hi, .int .u64 lo, .int .i64 sc, .string (bs ([])), .string (bs ([]))], cell g2 28 #[.int .i64 0, .int .u64 0, .int .u64 0, .int .u64 0, .int .u64 0, .int .i64 0, .int .u64 0, .int .i64 0, .string { data := #[] }, .string { data := #[] }], cell g1 28 #[.int .i64 c.k, .int .u64 c.s, .int .u64 c.q, .int .u64 c.a, .int .u64 c.b, .int .i64 c.hi, .int .u64 c.lo, .int .i64 c.sc, .string (bs c.x), .string (bs c.y)]]) rfl rfl (a_store 0 (v := .agg #[.int .i64 hi, .int .u64 lo, .int .i64 sc]) #[.int .i64 k, .int .u64 s1, .int .u64 q1, .int .u64 a1, .int .u64 d1, .int .i64 hi, .int .u64 lo, .int .i64 sc, .string (bs ([])), .string (bs ([]))] ty_api_Dec.2 rfl rfl rfl rfl rfl rfl rfl rfl rfl) ?_; rintro ⟨⟩
      refine h_nil ?_
      exact f_mid 0 ⟨rfl, rfl, rfl, rfl, trivial⟩ rfl
  refine f_to (d_seq (d_reg ?_))
  refine h_q hflS rfl ?_
  refine h_act (post := fun _ => [cell gc 28 #[.int .i64 k, .int .u64 s1, .int .u64 q1, .int .u64 a1, .int .u64 d1, .int .i64 hi, .int .u64 lo, .int .i64 sc, .string (bs ([])), .string (bs ([]))], cell g2 28 #[.int .i64 0, .int .u64 0, .int .u64 0, .int .u64 0, .int .u64 0, .int .i64 0, .int .u64 0, .int .i64 0, .string { data := #[] }, .string { data := #[] }], cell g1 28 #[.int .i64 c.k, .int .u64 c.s, .int .u64 c.q, .int .u64 c.a, .int .u64 c.b, .int .i64 c.hi, .int .u64 c.lo, .int .i64 c.sc, .string (bs c.x), .string (bs c.y)]]) rfl (a_call (ent_of Tryd.func40 (by kernel_rfl) rfl) (fun w hH => Has_any w l [120] b6 ha6 hll) rfl rfl rfl) ?_; rintro ⟨⟩
  refine h_done ?_
  refine d_mid [(1, .pointer (some ⟨g1, 0, none⟩)), (2, .pointer (some ⟨g2, 0, none⟩)), (3, .pointer (some ⟨gc, 0, none⟩)), (4, .string (bs l))] [cell gc 28 #[.int .i64 k, .int .u64 s1, .int .u64 q1, .int .u64 a1, .int .u64 d1, .int .i64 hi, .int .u64 lo, .int .i64 sc, .string (bs x1), .string (bs ([]))], cell g2 28 #[.int .i64 0, .int .u64 0, .int .u64 0, .int .u64 0, .int .u64 0, .int .i64 0, .int .u64 0, .int .i64 0, .string { data := #[] }, .string { data := #[] }], cell g1 28 #[.int .i64 c.k, .int .u64 c.s, .int .u64 c.q, .int .u64 c.a, .int .u64 c.b, .int .i64 c.hi, .int .u64 c.lo, .int .i64 c.sc, .string (bs c.x), .string (bs c.y)]] ?_ ?_
  · skip
    cases b6
    · skip
      obtain rfl : [] = x1 := hx1
      refine d_else rfl (d_skip ?_)
      exact f_mid 0 ⟨rfl, rfl, rfl, rfl, trivial⟩ rfl
    · skip
      obtain rfl : coinL nx = x1 := hx1
      refine d_then rfl (d_reg1 ?_)
      refine h_q hflS rfl ?_
      refine h_val rfl (.string (bs c.x)) (fun b w hb hH => exec_load rfl rfl (reads_one ty_string rfl) (hH.row 2 rfl) hb) ?_
      refine h_val rfl (.int .i64 (c.x.length : Int)) (fun b w hb hH => exec_builtin2 rfl rfl (fun cs => (fun w cs => run_len_bs Tryd.underlying9 _ _ w cs) w cs) hb) ?_
      refine h_q hflS rfl ?_
      refine h_val rfl (.int .u64 c.a) (fun b w hb hH => exec_load rfl rfl (reads_one ty_uint64 rfl) (hH.row 2 rfl) hb) ?_
      refine h_val rfl (.int .u64 (c.a % 7)) (fun b w hb hH => exec_remI rfl rfl rfl (by decide) (tmod_pos ho.a.1) hb) ?_
      refine h_val rfl (.int .i64 (c.a % 7)) (fun b w hb hH => exec_conv Tryd.underlying22 Tryd.underlying3 (IntWalk.i64_in _ (by omega)) rfl rfl hb) ?_
      refine h_val rfl (.int .i64 zx) (fun b w hb hH => exec_wrapadd hzx rfl rfl rfl hb) ?_
      refine h_act (post := fun _ => [cell gc 28 #[.int .i64 k, .int .u64 s1, .int .u64 q1, .int .u64 a1, .int .u64 d1, .int .i64 hi, .int .u64 lo, .int .i64 sc, .string (bs ([])), .string (bs ([]))], cell g2 28 #[.int .i64 0, .int .u64 0, .int .u64 0, .int .u64 0, .int .u64 0, .int .i64 0, .int .u64 0, .int .i64 0, .string { data := #[] }, .string { data := #[] }], cell g1 28 #[.int .i64 c.k, .int .u64 c.s, .int .u64 c.q, .int .u64 c.a, .int .u64 c.b, .int .i64 c.hi, .int .u64 c.lo, .int .i64 c.sc, .string (bs c.x), .string (bs c.y)]]) rfl (a_call (ent_of Tryd.func36 (by kernel_rfl) rfl) (fun w hH => pick w zx 3 wx (by decide) hnx) rfl rfl rfl) ?_; rintro ⟨⟩
      refine h_val rfl (.pointer (some ⟨0, 0 + nx, none⟩)) (fun b w hb hH => exec_idx (off := 0) (k := nx) (ix_of_3_string nx lx) rfl rfl rfl hb) ?_
      refine h_val rfl (.string (bs (coinL nx))) (fun b w hb hH => exec_gload ty_string (by rw [Nat.zero_add]; exact hcn.up hH nx lx) rfl rfl hb) ?_
      refine h_q hflS rfl ?_
      refine h_acts (post := fun _ => [cell gc 28 #[.int .i64 k, .int .u64 s1, .int .u64 q1, .int .u64 a1, .int .u64 d1, .int .i64 hi, .int .u64 lo, .int .i64 sc, .string (bs (coinL nx)), .string (bs ([]))], cell g2 28 #[.int .i64 0, .int .u64 0, .int .u64 0, .int .u64 0, .int .u64 0, .int .i64 0, .int .u64 0, .int .i64 0, .string { data := #[] }, .string { data := #[] }], cell g1 28 #[.int .i64 c.k, .int .u64 c.s, .int .u64 c.q, .int .u64 c.a, .int .u64 c.b, .int .i64 c.hi, .int .u64 c.lo, .int .i64 c.sc, .string (bs c.x), .string (bs c.y)]]) rfl rfl (a_store 0 (v := .string (bs (coinL nx))) #[.int .i64 k, .int .u64 s1, .int .u64 q1, .int .u64 a1, .int .u64 d1, .int .i64 hi, .int .u64 lo, .int .i64 sc, .string (bs (coinL nx)), .string (bs ([]))] ty_string.2 rfl rfl rfl rfl rfl rfl rfl rfl rfl) ?_; rintro ⟨⟩
      refine h_nil ?_
      exact f_mid 0 ⟨rfl, rfl, rfl, rfl, trivial⟩ rfl
  refine f_to (d_seq (d_reg ?_))
  refine h_q hflS rfl ?_
  refine h_act (post := fun _ => [cell gc 28 #[.int .i64 k, .int .u64 s1, .int .u64 q1, .int .u64 a1, .int .u64 d1, .int .i64 hi, .int .u64 lo, .int .i64 sc, .string (bs x1), .string (bs ([]))], cell g2 28 #[.int .i64 0, .int .u64 0, .int .u64 0, .int .u64 0, .int .u64 0, .int .i64 0, .int .u64 0, .int .i64 0, .string { data := #[] }, .string { data := #[] }], cell g1 28 #[.int .i64 c.k, .int .u64 c.s, .int .u64 c.q, .int .u64 c.a, .int .u64 c.b, .int .i64 c.hi, .int .u64 c.lo, .int .i64 c.sc, .string (bs c.x), .string (bs c.y)]]) rfl (a_call (ent_of Tryd.func40 (by kernel_rfl) rfl) (fun w hH => Has_any w l [121] b7 ha7 hll) rfl rfl rfl) ?_; rintro ⟨⟩
  refine h_done ?_
  refine d_mid [(2, .pointer (some ⟨g2, 0, none⟩)), (3, .pointer (some ⟨gc, 0, none⟩))] [cell gc 28 #[.int .i64 k, .int .u64 s1, .int .u64 q1, .int .u64 a1, .int .u64 d1, .int .i64 hi, .int .u64 lo, .int .i64 sc, .string (bs x1), .string (bs y1)], cell g2 28 #[.int .i64 0, .int .u64 0, .int .u64 0, .int .u64 0, .int .u64 0, .int .i64 0, .int .u64 0, .int .i64 0, .string { data := #[] }, .string { data := #[] }], cell g1 28 #[.int .i64 c.k, .int .u64 c.s, .int .u64 c.q, .int .u64 c.a, .int .u64 c.b, .int .i64 c.hi, .int .u64 c.lo, .int .i64 c.sc, .string (bs c.x), .string (bs c.y)]] ?_ ?_
  · skip
    cases b7
    · skip
      obtain rfl : [] = y1 := hy1
      refine d_else rfl (d_skip ?_)
      exact f_mid 0 ⟨rfl, rfl, trivial⟩ rfl
    · skip
      obtain rfl : coinL ny = y1 := hy1
      refine d_then rfl (d_reg1 ?_)
      refine h_q hflS rfl ?_
      refine h_val rfl (.string (bs c.y)) (fun b w hb hH => exec_load rfl rfl (reads_one ty_string rfl) (hH.row 2 rfl) hb) ?_
      refine h_val rfl (.int .i64 (c.y.length : Int)) (fun b w hb hH => exec_builtin2 rfl rfl (fun cs => (fun w cs => run_len_bs Tryd.underlying9 _ _ w cs) w cs) hb) ?_
      refine h_q hflS rfl ?_
      refine h_val rfl (.int .u64 c.b) (fun b w hb hH => exec_load rfl rfl (reads_one ty_uint64 rfl) (hH.row 2 rfl) hb) ?_
      refine h_val rfl (.int .u64 (c.b % 7)) (fun b w hb hH => exec_remI rfl rfl rfl (by decide) (tmod_pos ho.b.1) hb) ?_
      refine h_val rfl (.int .i64 (c.b % 7)) (fun b w hb hH => exec_conv Tryd.underlying22 Tryd.underlying3 (IntWalk.i64_in _ (by omega)) rfl rfl hb) ?_
      refine h_val rfl (.int .i64 zy) (fun b w hb hH => exec_wrapadd hzy rfl rfl rfl hb) ?_
      refine h_act (post := fun _ => [cell gc 28 #[.int .i64 k, .int .u64 s1, .int .u64 q1, .int .u64 a1, .int .u64 d1, .int .i64 hi, .int .u64 lo, .int .i64 sc, .string (bs x1), .string (bs ([]))], cell g2 28 #[.int .i64 0, .int .u64 0, .int .u64 0, .int .u64 0, .int .u64 0, .int .i64 0, .int .u64 0, .int .i64 0, .string { data := #[] }, .string { data := #[] }], cell g1 28 #[.int .i64 c.k, .int .u64 c.s, .int .u64 c.q, .int .u64 c.a, .int .u64 c.b, .int .i64 c.hi, .int .u64 c.lo, .int .i64 c.sc, .string (bs c.x), .string (bs c.y)]]) rfl (a_call (ent_of Tryd.func36 (by kernel_rfl) rfl) (fun w hH => pick w zy 3 wy (by decide) hny) rfl rfl rfl) ?_; rintro ⟨⟩
      refine h_val rfl (.pointer (some ⟨0, 0 + ny, none⟩)) (fun b w hb hH => exec_idx (off := 0) (k := ny) (ix_of_3_string ny ly) rfl rfl rfl hb) ?_
      refine h_val rfl (.string (bs (coinL ny))) (fun b w hb hH => exec_gload ty_string (by rw [Nat.zero_add]; exact hcn.up hH ny ly) rfl rfl hb) ?_
      refine h_q hflS rfl ?_
      refine h_acts (post := fun _ => [cell gc 28 #[.int .i64 k, .int .u64 s1, .int .u64 q1, .int .u64 a1, .int .u64 d1, .int .i64 hi, .int .u64 lo, .int .i64 sc, .string (bs x1), .string (bs (coinL ny))], cell g2 28 #[.int .i64 0, .int .u64 0, .int .u64 0, .int .u64 0, .int .u64 0, .int .i64 0, .int .u64 0, .int .i64 0, .string { data := #[] }, .string { data := #[] }], cell g1 28 #[.int .i64 c.k, .int .u64 c.s, .int .u64 c.q, .int .u64 c.a, .int .u64 c.b, .int .i64 c.hi, .int .u64 c.lo, .int .i64 c.sc, .string (bs c.x), .string (bs c.y)]]) rfl rfl (a_store 0 (v := .string (bs (coinL ny))) #[.int .i64 k, .int .u64 s1, .int .u64 q1, .int .u64 a1, .int .u64 d1, .int .i64 hi, .int .u64 lo, .int .i64 sc, .string (bs x1), .string (bs (coinL ny))] ty_string.2 rfl rfl rfl rfl rfl rfl rfl rfl rfl) ?_; rintro ⟨⟩
      refine h_nil ?_
      exact f_mid 0 ⟨rfl, rfl, trivial⟩ rfl
  refine f_to (d_reg ?_)
  refine h_q hflS rfl ?_
  refine h_val rfl (.agg #[.int .i64 k, .int .u64 s1, .int .u64 q1, .int .u64 a1, .int .u64 d1, .int .i64 hi, .int .u64 lo, .int .i64 sc, .string (bs x1), .string (bs y1)]) (fun b w hb hH => exec_load rfl rfl (reads_agg (cs := [.int .i64 k, .int .u64 s1, .int .u64 q1, .int .u64 a1, .int .u64 d1, .int .i64 hi, .int .u64 lo, .int .i64 sc, .string (bs x1), .string (bs y1)]) ty_api_Cmd rfl) (hH.row 0 rfl) hb) ?_
  refine h_acts (post := fun _ => [cell gc 28 #[.int .i64 k, .int .u64 s1, .int .u64 q1, .int .u64 a1, .int .u64 d1, .int .i64 hi, .int .u64 lo, .int .i64 sc, .string (bs x1), .string (bs y1)], cell g2 28 #[.int .i64 k, .int .u64 s1, .int .u64 q1, .int .u64 a1, .int .u64 d1, .int .i64 hi, .int .u64 lo, .int .i64 sc, .string (bs x1), .string (bs y1)], cell g1 28 #[.int .i64 c.k, .int .u64 c.s, .int .u64 c.q, .int .u64 c.a, .int .u64 c.b, .int .i64 c.hi, .int .u64 c.lo, .int .i64 c.sc, .string (bs c.x), .string (bs c.y)]]) rfl rfl (a_store 1 (v := .agg #[.int .i64 k, .int .u64 s1, .int .u64 q1, .int .u64 a1, .int .u64 d1, .int .i64 hi, .int .u64 lo, .int .i64 sc, .string (bs x1), .string (bs y1)]) #[.int .i64 k, .int .u64 s1, .int .u64 q1, .int .u64 a1, .int .u64 d1, .int .i64 hi, .int .u64 lo, .int .i64 sc, .string (bs x1), .string (bs y1)] ty_api_Cmd.2 rfl rfl rfl rfl rfl rfl rfl rfl rfl) ?_; rintro ⟨⟩
  refine h_done (d_ret ?_)
  exact f_fin1 (.cell 1 (v := .agg #[.int .i64 k, .int .u64 s1, .int .u64 q1, .int .u64 a1, .int .u64 d1, .int .i64 hi, .int .u64 lo, .int .i64 sc, .string (bs x1), .string (bs y1)]) (reads_agg (cs := [.int .i64 k, .int .u64 s1, .int .u64 q1, .int .u64 a1, .int .u64 d1, .int .i64 hi, .int .u64 lo, .int .i64 sc, .string (bs x1), .string (bs y1)]) ty_api_Cmd rfl) rfl rfl) (fun w h => ⟨rfl, below0 h.up⟩) rfl

def shapeC (is : Bool) (c : CmdD) : CmdD := match is with | true => handC c | false => c
theorem shapeC_ok (is : Bool) (c : CmdD) (ho : c.ok) : (shapeC is c).ok := by
  cases is
  · exact ho
  · exact handC_ok c ho

set_option maxRecDepth 100000 in
theorem shaped_any (w : World) (hcn : Coins w) (c : CmdD) (ho : c.ok) (is : Bool) (d : CmdD) (hd : shapeC is c = d) : Calls Tryd.prog 7 #[.agg #[.int .i64 c.k, .int .u64 c.s, .int .u64 c.q, .int .u64 c.a, .int .u64 c.b, .int .i64 c.hi, .int .u64 c.lo, .int .i64 c.sc, .string (bs c.x), .string (bs c.y)], .bool is] w fun e w' => e = .returned (.agg #[.int .i64 d.k, .int .u64 d.s, .int .u64 d.q, .int .u64 d.a, .int .u64 d.b, .int .i64 d.hi, .int .u64 d.lo, .int .i64 d.sc, .string (bs d.x), .string (bs d.y)]) ∧ Below w.heap.size w w' := by
  refine d_in (args := [.agg #[.int .i64 c.k, .int .u64 c.s, .int .u64 c.q, .int .u64 c.a, .int .u64 c.b, .int .i64 c.hi, .int .u64 c.lo, .int .i64 c.sc, .string (bs c.x), .string (bs c.y)], .bool is]) 9 Tryd.func7 rfl rfl rfl ?_
  refine d_reg ?_
  refine h_q hflS rfl ?_
  refine h_act (post := fun g1 => [cell g1 28 #[.int .i64 c.k, .int .u64 c.s, .int .u64 c.q, .int .u64 c.a, .int .u64 c.b, .int .i64 c.hi, .int .u64 c.lo, .int .i64 c.sc, .string (bs c.x), .string (bs c.y)]]) rfl (a_box (cs := #[.int .i64 c.k, .int .u64 c.s, .int .u64 c.q, .int .u64 c.a, .int .u64 c.b, .int .i64 c.hi, .int .u64 c.lo, .int .i64 c.sc, .string (bs c.x), .string (bs c.y)]) rfl rfl rfl) ?_; rintro g1
  refine h_act (post := fun g2 => [cell g2 28 #[.int .i64 0, .int .u64 0, .int .u64 0, .int .u64 0, .int .u64 0, .int .i64 0, .int .u64 0, .int .i64 0, .string { data := #[] }, .string { data := #[] }], cell g1 28 #[.int .i64 c.k, .int .u64 c.s, .int .u64 c.q, .int .u64 c.a, .int .u64 c.b, .int .i64 c.hi, .int .u64 c.lo, .int .i64 c.sc, .string (bs c.x), .string (bs c.y)]]) rfl (a_alloc ze_api_Cmd rfl) ?_; rintro g2
  refine h_done (d_seq ?_)
  cases is
  · skip
    obtain rfl : c = d := hd
    refine d_reg ?_
    refine h_q hflS rfl ?_
    refine h_done (d_else rfl (d_skip (f_to (d_reg ?_))))
    refine h_q hflS rfl ?_
    refine h_val rfl (.agg #[.int .i64 c.k, .int .u64 c.s, .int .u64 c.q, .int .u64 c.a, .int .u64 c.b, .int .i64 c.hi, .int .u64 c.lo, .int .i64 c.sc, .string (bs c.x), .string (bs c.y)]) (fun b w hb hH => exec_load rfl rfl (reads_agg (cs := [.int .i64 c.k, .int .u64 c.s, .int .u64 c.q, .int .u64 c.a, .int .u64 c.b, .int .i64 c.hi, .int .u64 c.lo, .int .i64 c.sc, .string (bs c.x), .string (bs c.y)]) ty_api_Cmd rfl) (hH.row 1 rfl) hb) ?_
    refine h_acts (post := fun _ => [cell g2 28 #[.int .i64 c.k, .int .u64 c.s, .int .u64 c.q, .int .u64 c.a, .int .u64 c.b, .int .i64 c.hi, .int .u64 c.lo, .int .i64 c.sc, .string (bs c.x), .string (bs c.y)], cell g1 28 #[.int .i64 c.k, .int .u64 c.s, .int .u64 c.q, .int .u64 c.a, .int .u64 c.b, .int .i64 c.hi, .int .u64 c.lo, .int .i64 c.sc, .string (bs c.x), .string (bs c.y)]]) rfl rfl (a_store 0 (v := .agg #[.int .i64 c.k, .int .u64 c.s, .int .u64 c.q, .int .u64 c.a, .int .u64 c.b, .int .i64 c.hi, .int .u64 c.lo, .int .i64 c.sc, .string (bs c.x), .string (bs c.y)]) #[.int .i64 c.k, .int .u64 c.s, .int .u64 c.q, .int .u64 c.a, .int .u64 c.b, .int .i64 c.hi, .int .u64 c.lo, .int .i64 c.sc, .string (bs c.x), .string (bs c.y)] ty_api_Cmd.2 rfl rfl rfl rfl rfl rfl rfl rfl rfl) ?_; rintro ⟨⟩
    refine h_done (d_ret ?_)
    exact f_fin1 (.cell 0 (v := .agg #[.int .i64 c.k, .int .u64 c.s, .int .u64 c.q, .int .u64 c.a, .int .u64 c.b, .int .i64 c.hi, .int .u64 c.lo, .int .i64 c.sc, .string (bs c.x), .string (bs c.y)]) (reads_agg (cs := [.int .i64 c.k, .int .u64 c.s, .int .u64 c.q, .int .u64 c.a, .int .u64 c.b, .int .i64 c.hi, .int .u64 c.lo, .int .i64 c.sc, .string (bs c.x), .string (bs c.y)]) ty_api_Cmd rfl) rfl rfl) (fun w h => ⟨rfl, below0 h.up⟩) rfl
  · skip
    refine d_reg ?_
    refine h_q hflS rfl ?_
    refine h_done (d_then rfl (d_reg ?_))
    refine h_q hflS rfl ?_
    refine h_val rfl (.agg #[.int .i64 c.k, .int .u64 c.s, .int .u64 c.q, .int .u64 c.a, .int .u64 c.b, .int .i64 c.hi, .int .u64 c.lo, .int .i64 c.sc, .string (bs c.x), .string (bs c.y)]) (fun b w hb hH => exec_load rfl rfl (reads_agg (cs := [.int .i64 c.k, .int .u64 c.s, .int .u64 c.q, .int .u64 c.a, .int .u64 c.b, .int .i64 c.hi, .int .u64 c.lo, .int .i64 c.sc, .string (bs c.x), .string (bs c.y)]) ty_api_Cmd rfl) (hH.row 1 rfl) hb) ?_
    refine h_act (post := fun _ => [cell g2 28 #[.int .i64 0, .int .u64 0, .int .u64 0, .int .u64 0, .int .u64 0, .int .i64 0, .int .u64 0, .int .i64 0, .string { data := #[] }, .string { data := #[] }], cell g1 28 #[.int .i64 c.k, .int .u64 c.s, .int .u64 c.q, .int .u64 c.a, .int .u64 c.b, .int .i64 c.hi, .int .u64 c.lo, .int .i64 c.sc, .string (bs c.x), .string (bs c.y)]]) rfl (a_call (ent_of Tryd.func16 (by kernel_rfl) rfl) (fun w hH => handcmd_any w (hcn.up hH) c ho d hd) rfl rfl rfl) ?_; rintro ⟨⟩
    refine h_acts (post := fun _ => [cell g2 28 #[.int .i64 d.k, .int .u64 d.s, .int .u64 d.q, .int .u64 d.a, .int .u64 d.b, .int .i64 d.hi, .int .u64 d.lo, .int .i64 d.sc, .string (bs d.x), .string (bs d.y)], cell g1 28 #[.int .i64 c.k, .int .u64 c.s, .int .u64 c.q, .int .u64 c.a, .int .u64 c.b, .int .i64 c.hi, .int .u64 c.lo, .int .i64 c.sc, .string (bs c.x), .string (bs c.y)]]) rfl rfl (a_store 0 (v := .agg #[.int .i64 d.k, .int .u64 d.s, .int .u64 d.q, .int .u64 d.a, .int .u64 d.b, .int .i64 d.hi, .int .u64 d.lo, .int .i64 d.sc, .string (bs d.x), .string (bs d.y)]) #[.int .i64 d.k, .int .u64 d.s, .int .u64 d.q, .int .u64 d.a, .int .u64 d.b, .int .i64 d.hi, .int .u64 d.lo, .int .i64 d.sc, .string (bs d.x), .string (bs d.y)] ty_api_Cmd.2 rfl rfl rfl rfl rfl rfl rfl rfl rfl) ?_; rintro ⟨⟩
    refine h_done (d_ret (f_then_ret ?_))
    exact f_fin1 (.cell 0 (v := .agg #[.int .i64 d.k, .int .u64 d.s, .int .u64 d.q, .int .u64 d.a, .int .u64 d.b, .int .i64 d.hi, .int .u64 d.lo, .int .i64 d.sc, .string (bs d.x), .string (bs d.y)]) (reads_agg (cs := [.int .i64 d.k, .int .u64 d.s, .int .u64 d.q, .int .u64 d.a, .int .u64 d.b, .int .i64 d.hi, .int .u64 d.lo, .int .i64 d.sc, .string (bs d.x), .string (bs d.y)]) ty_api_Cmd rfl) rfl rfl) (fun w h => ⟨rfl, below0 h.up⟩) rfl
end Go.Proofs.YtlkknncndgamdaaDoor.Sep
