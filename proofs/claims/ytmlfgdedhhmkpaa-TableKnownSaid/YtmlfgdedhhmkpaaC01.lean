/-
  TyT · TabS
-/
import Derived.Test.YtmlfgdedhhmkpaaB03
import Derived.Test.YtmlfgdedhhmkpaaChecked
set_option linter.unusedSimpArgs false
set_option linter.unusedVariables false

namespace Go.Proofs.Ytmlfgdedhhmkpaa.Sep
open Go.RowKit
open Go.Proofs.Ytmlfgdedhhmkpaa.Mem (Dist Blk Chg below0)
theorem ty_p_table_Table_of_string_int : OneOf Try.prog 26 := oneOf Try.underlying26 rfl (by kernel_rfl)
theorem ty_s_int : OneOf Try.prog 45 := oneOf Try.underlying45 rfl (by kernel_rfl)
theorem ty_s_string : OneOf Try.prog 65 := oneOf Try.underlying65 rfl (by kernel_rfl)
theorem ty_s_uint64 : OneOf Try.prog 44 := oneOf Try.underlying44 rfl (by kernel_rfl)
theorem ty_bool : OneOf Try.prog 4 := oneOf Try.underlying4 rfl (by kernel_rfl)
theorem ze_bool : Zero Try.prog 4 #[.bool false] := zero_of (z := .bool false) (by kernel_rfl) rfl
theorem ty_int : OneOf Try.prog 3 := oneOf Try.underlying3 rfl (by kernel_rfl)
theorem ze_int : Zero Try.prog 3 #[.int .i64 0] := zero_of (z := .int .i64 0) (by kernel_rfl) rfl
theorem ty_string : OneOf Try.prog 9 := oneOf Try.underlying9 rfl (by kernel_rfl)
theorem ty_uint64 : OneOf Try.prog 42 := oneOf Try.underlying42 rfl (by kernel_rfl)
theorem fd_bursarlaw4_Step_0 : FieldAt Try.prog 50 0 0 := fun g off w => by kernel_rfl
theorem fd_bursarlaw4_Step_1 : FieldAt Try.prog 50 1 1 := fun g off w => by kernel_rfl
theorem fd_bursarlaw4_Step_2 : FieldAt Try.prog 50 2 2 := fun g off w => by kernel_rfl
theorem fd_bursarlaw4_Step_3 : FieldAt Try.prog 50 3 3 := fun g off w => by kernel_rfl
theorem fd_bursarref4_IntTable_0 : FieldAt Try.prog 47 0 0 := fun g off w => by kernel_rfl
theorem fd_bursarref4_IntTable_1 : FieldAt Try.prog 47 1 1 := fun g off w => by kernel_rfl
theorem fd_bursarref4_IntTable_2 : FieldAt Try.prog 47 2 2 := fun g off w => by kernel_rfl
theorem fd_table_Table_of_int_int_0 : FieldAt Try.prog 71 0 0 := fun g off w => by kernel_rfl
theorem fd_table_Table_of_string_int_0 : FieldAt Try.prog 73 0 0 := fun g off w => by kernel_rfl
theorem fd_table_Table_of_string_int_1 : FieldAt Try.prog 73 1 1 := fun g off w => by kernel_rfl
theorem fd_table_Table_of_string_int_2 : FieldAt Try.prog 73 2 2 := fun g off w => by kernel_rfl
theorem fd_table_Table_of_uint64_int_0 : FieldAt Try.prog 85 0 0 := fun g off w => by kernel_rfl
theorem fd_table_Table_of_uint64_int_1 : FieldAt Try.prog 85 1 1 := fun g off w => by kernel_rfl
theorem fd_table_Table_of_uint64_int_2 : FieldAt Try.prog 85 2 2 := fun g off w => by kernel_rfl
theorem fd_table_Table_of_uint64_string_0 : FieldAt Try.prog 95 0 0 := fun g off w => by kernel_rfl
theorem fd_table_Table_of_uint64_string_1 : FieldAt Try.prog 95 1 1 := fun g off w => by kernel_rfl
theorem fd_table_Table_of_uint64_string_2 : FieldAt Try.prog 95 2 2 := fun g off w => by kernel_rfl
theorem sl_int : SliceT Try.prog 45 3 1 := sliceT_of (z := .int .i64 0) Try.underlying45 (by kernel_rfl) rfl rfl (by decide)
theorem sl_string : SliceT Try.prog 65 9 1 := sliceT_of (z := .string { data := #[] }) Try.underlying65 (by kernel_rfl) rfl rfl (by decide)
theorem sl_uint64 : SliceT Try.prog 44 42 1 := sliceT_of (z := .int .u64 0) Try.underlying44 (by kernel_rfl) rfl rfl (by decide)
def flS : List ((Nat × Nat) × Nat) := [((50, 0), 0), ((50, 1), 1), ((50, 2), 2), ((50, 3), 3), ((47, 0), 0), ((47, 1), 1), ((47, 2), 2), ((71, 0), 0), ((73, 0), 0), ((73, 1), 1), ((73, 2), 2), ((85, 0), 0), ((85, 1), 1), ((85, 2), 2), ((95, 0), 0), ((95, 1), 1), ((95, 2), 2)]
theorem hflS : Flds Try.prog flS := flds_of ⟨fd_bursarlaw4_Step_0, fd_bursarlaw4_Step_1, fd_bursarlaw4_Step_2, fd_bursarlaw4_Step_3, fd_bursarref4_IntTable_0, fd_bursarref4_IntTable_1, fd_bursarref4_IntTable_2, fd_table_Table_of_int_int_0, fd_table_Table_of_string_int_0, fd_table_Table_of_string_int_1, fd_table_Table_of_string_int_2, fd_table_Table_of_uint64_int_0, fd_table_Table_of_uint64_int_1, fd_table_Table_of_uint64_int_2, fd_table_Table_of_uint64_string_0, fd_table_Table_of_uint64_string_1, fd_table_Table_of_uint64_string_2, trivial⟩
end Go.Proofs.Ytmlfgdedhhmkpaa.Sep

namespace Go.Proofs.Ytmlfgdedhhmkpaa.Sep
open Go.RowKit
open Go.Proofs.Ytmlfgdedhhmkpaa.Mem (Dist Blk Chg below0)

theorem isnanc_uint64 (w : World) (x : Int) : Calls Try.prog 70 #[.int .u64 x] w fun e w' => e = .returned (.bool false) ∧ Below w.heap.size w w' := by
  refine d_in (args := [.int .u64 x]) 6 Try.func70 rfl rfl rfl ?_
  refine d_reg ?_
  refine h_q hflS rfl ?_
  refine h_done (d_reg ?_)
  refine h_q hflS rfl ?_
  refine h_val rfl (.bool false) (fun b w hb hH => exec_cmp rfl rfl rfl (cmp_neq_f (by simp)) hb) ?_
  refine h_q hflS rfl ?_
  refine h_done (d_ret ?_)
  exact f_fin1 (.tmp rfl) (fun w h => ⟨rfl, below0 h.up⟩) rfl

theorem isnan_uint64 (w : World) (x : Int) : Calls Try.prog 64 #[.int .u64 x] w fun e w' => e = .returned (.bool false) ∧ Below w.heap.size w w' := by
  refine d_in (args := [.int .u64 x]) 6 Try.func64 rfl rfl rfl ?_
  refine d_reg ?_
  refine h_q hflS rfl ?_
  refine h_done (d_reg ?_)
  refine h_q hflS rfl ?_
  refine h_val rfl (.bool false) (fun b w hb hH => exec_cmp rfl rfl rfl (cmp_neq_f (by simp)) hb) ?_
  refine h_q hflS rfl ?_
  refine h_done (d_ret ?_)
  exact f_fin1 (.tmp rfl) (fun w h => ⟨rfl, below0 h.up⟩) rfl

theorem less_uint64 (w : World) (x y : Int) {b : Bool} (hL : ltI x y = b) : Calls Try.prog 63 #[.int .u64 x, .int .u64 y] w fun e w' => e = .returned (.bool b) ∧ Below w.heap.size w w' := by
  refine d_in (args := [.int .u64 x, .int .u64 y]) 17 Try.func63 rfl rfl rfl ?_
  refine d_reg ?_
  refine h_q hflS rfl ?_
  refine h_done (d_reg ?_)
  refine h_q hflS rfl ?_
  refine h_act (post := fun _ => []) rfl (a_call (ent_of Try.func70 (by kernel_rfl) rfl) (fun w hH => isnanc_uint64 _ x) rfl rfl rfl) ?_; rintro ⟨⟩
  refine h_q hflS rfl ?_
  refine h_val rfl (.bool (ltI x y)) (fun b w hb hH => exec_cmp rfl rfl rfl rfl hb) ?_
  refine h_q hflS rfl ?_
  refine h_done (d_ret ?_)
  exact f_fin1 (.tmp rfl) (fun w h => ⟨by rw [hL], below0 h.up⟩) rfl

theorem search_uint64 (v : Value) (l : List (Int)) (k : Int) (hS : Srt ltI l) (hl : l.length ≤ 1099511627776) : Does Try.prog 49 #[v, .int .u64 k] [Vec 42 1 encU v l] (fun (_ : Unit) => .tuple #[.int .i64 (pos ltI l k : Int), .bool (has ltI l k)]) (fun (_ : Unit) => [Vec 42 1 encU v l]) := by
  refine d_ins (args := [v, .int .u64 k]) 54 Try.func49 rfl rfl rfl ?_; intro w rs
  refine d_reg ?_
  refine h_q hflS rfl ?_
  refine h_done (d_reg ?_)
  refine h_q hflS rfl ?_
  refine h_val rfl (.int .i64 (l.length : Int)) (fun b w hb hH => e_vlen 0 Try.underlying44 rfl rfl rfl hH hb) ?_
  refine h_q hflS rfl ?_
  refine h_done (d_reg ?_)
  refine h_q hflS rfl ?_
  refine h_done (d_seq (d_block ?_))
  refine d_loop (α := Nat × Nat) (fun (i, j) => [(0, v), (1, .int .u64 k), (4, .int .i64 0), (5, .bool false), (6, .int .i64 (l.length : Int)), (7, .int .i64 ((i : Nat) : Int)), (8, .int .i64 ((j : Nat) : Int))]) (fun (i, j) => [Vec 42 1 encU v l]) (fun (i, j) => i ≤ j ∧ j ≤ l.length ∧ (∀ q x, q < i → l[q]? = some x → ltI x k = true) ∧ (∀ q x, j ≤ q → l[q]? = some x → ltI x k = false)) (fun (i, j) => j - i) (0, l.length) ⟨Nat.zero_le _, Nat.le_refl _, (fun q x hq => absurd hq (Nat.not_lt_zero _)), (fun q x hq hx => by rw [List.getElem?_eq_none hq] at hx; cases hx)⟩ ⟨rfl, rfl, rfl, rfl, rfl, rfl, rfl, trivial⟩ rfl ?_
  rintro ⟨i, j⟩ hI
  refine WC2.at_ (env' := [(0, v), (1, .int .u64 k), (4, .int .i64 0), (5, .bool false), (6, .int .i64 (l.length : Int)), (7, .int .i64 ((i : Nat) : Int)), (8, .int .i64 ((j : Nat) : Int))]) (rs' := [Vec 42 1 encU v l]) ⟨rfl, rfl, rfl, rfl, rfl, rfl, rfl, trivial⟩ rfl ?_
  have hI1 : i ≤ j := hI.1
  have hI2 : j ≤ l.length := hI.2.1
  refine d_seq ?_
  by_cases hc : i < j
  · skip
    obtain ⟨h, eh⟩ : ∃ h, h = (i + j) / 2 := ⟨_, rfl⟩
    have hih : i ≤ h := by omega
    have hhj : h < j := by omega
    obtain ⟨x, hx⟩ : ∃ x, l[h]? = some x := ⟨_, List.getElem?_eq_getElem (show h < l.length by omega)⟩
    refine d_reg ?_
    refine h_q hflS rfl ?_
    refine h_val rfl (.bool true) (fun b w hb hH => exec_cmp rfl rfl rfl (cmp_lss_t (by omega)) hb) ?_
    refine h_done (d_then rfl (d_skip (f_to (d_block (d_reg ?_)))))
    refine h_q hflS rfl ?_
    refine h_val rfl (.int .i64 ((i + j : Nat) : Int)) (fun b w hb hH => exec_ar rfl rfl rfl rfl (by rw [IntWalk.i64_in _ (by omega)]; omega) hb) ?_
    refine h_val rfl (.int .u64 ((i + j : Nat) : Int)) (fun b w hb hH => by exact exec_conv Try.underlying3 Try.underlying96 (IntWalk.u64_in _ (by omega)) rfl rfl hb) ?_
    refine h_val rfl (.int .u64 ((h : Nat) : Int)) (fun b w hb hH => exec_shr1 (by omega) (by omega) rfl rfl rfl hb) ?_
    refine h_val rfl (.int .i64 ((h : Nat) : Int)) (fun b w hb hH => by exact exec_conv Try.underlying96 Try.underlying3 (IntWalk.i64_in _ (by omega)) rfl rfl hb) ?_
    refine h_q hflS rfl ?_
    refine h_done ?_
    rcases Bool.eq_false_or_eq_true (ltI x k) with hL | hL
    · skip
      refine d_reg ?_
      refine h_q hflS rfl ?_
      refine h_val rfl (elp v (h * 1)) (fun b w hb hH => e_vidx 0 sl_uint64 okU rfl h (by omega) rfl rfl rfl hH hb) ?_
      refine h_val rfl (.int .u64 x) (fun b w hb hH => e_vload1 0 ty_uint64 okU rfl h (a := x) hx rfl rfl rfl hH hb) ?_
      refine h_q hflS rfl ?_
      refine h_act (post := fun _ => [Vec 42 1 encU v l]) rfl (a_call (ent_of Try.func63 (by kernel_rfl) rfl) (fun w hH => less_uint64 _ x k hL) rfl rfl rfl) ?_; rintro ⟨⟩
      refine h_done (d_then rfl (d_reg1 ?_))
      refine h_q hflS rfl ?_
      refine h_val rfl (.int .i64 ((h + 1 : Nat) : Int)) (fun b w hb hH => exec_ar rfl rfl rfl rfl (by rw [IntWalk.i64_in _ (by omega)]; omega) hb) ?_
      refine h_q hflS rfl ?_
      refine h_nil (f_block ?_)
      exact f_again (h + 1, j) 0 ⟨by omega, by omega, hS.below ordI hx hL, hI.2.2.2⟩ (by show j - (h + 1) < j - i; omega) ⟨rfl, rfl, rfl, rfl, rfl, rfl, rfl, trivial⟩ rfl
    · skip
      refine d_reg ?_
      refine h_q hflS rfl ?_
      refine h_val rfl (elp v (h * 1)) (fun b w hb hH => e_vidx 0 sl_uint64 okU rfl h (by omega) rfl rfl rfl hH hb) ?_
      refine h_val rfl (.int .u64 x) (fun b w hb hH => e_vload1 0 ty_uint64 okU rfl h (a := x) hx rfl rfl rfl hH hb) ?_
      refine h_q hflS rfl ?_
      refine h_act (post := fun _ => [Vec 42 1 encU v l]) rfl (a_call (ent_of Try.func63 (by kernel_rfl) rfl) (fun w hH => less_uint64 _ x k hL) rfl rfl rfl) ?_; rintro ⟨⟩
      refine h_done (d_else rfl (d_reg1 ?_))
      refine h_q hflS rfl ?_
      refine h_nil (f_block ?_)
      exact f_again (i, h) 0 ⟨by omega, by omega, hI.2.2.1, hS.above ordI hx hL⟩ (by show h - i < j - i; omega) ⟨rfl, rfl, rfl, rfl, rfl, rfl, rfl, trivial⟩ rfl
  · skip
    obtain rfl : i = j := by omega
    have hp := pos_eq (by omega) hI.2.2.1 (fun x hx => hI.2.2.2 i x (Nat.le_refl _) hx)
    refine d_reg ?_
    refine h_q hflS rfl ?_
    refine h_val rfl (.bool false) (fun b w hb hH => exec_cmp rfl rfl rfl (cmp_lss_f (by omega)) hb) ?_
    refine h_done (d_else rfl (d_exit (f_then_exit (f_then_exit (f_block_exit (f_to ?_))))))
    rcases Nat.lt_or_ge i l.length with hn | hn
    · skip
      obtain ⟨x, hx⟩ : ∃ x, l[i]? = some x := ⟨_, List.getElem?_eq_getElem hn⟩
      by_cases hk : x = k
      · skip
        subst hk
        refine d_reg ?_
        refine h_q hflS rfl ?_
        refine h_val rfl (.bool true) (fun b w hb hH => exec_cmp rfl rfl rfl (cmp_lss_t (by omega)) hb) ?_
        refine h_q hflS rfl ?_
        refine h_val rfl (elp v (i * 1)) (fun b w hb hH => e_vidx 0 sl_uint64 okU rfl i hn rfl rfl rfl hH hb) ?_
        refine h_val rfl (.int .u64 x) (fun b w hb hH => e_vload1 0 ty_uint64 okU rfl i (a := x) hx rfl rfl rfl hH hb) ?_
        refine h_q hflS rfl ?_
        refine h_val rfl (.bool true) (fun b w hb hH => exec_cmp rfl rfl rfl (cmp_eql_t rfl) hb) ?_
        refine h_q hflS rfl ?_
        refine h_done (d_ret ?_)
        exact f_fin2 (.tmp rfl) (.tmp rfl) (fun w h => tells () (by rw [hp, has_t (by rw [hp]; exact hx)]) [0] rfl h same_parts) rfl
      · skip
        refine d_reg ?_
        refine h_q hflS rfl ?_
        refine h_val rfl (.bool true) (fun b w hb hH => exec_cmp rfl rfl rfl (cmp_lss_t (by omega)) hb) ?_
        refine h_q hflS rfl ?_
        refine h_val rfl (elp v (i * 1)) (fun b w hb hH => e_vidx 0 sl_uint64 okU rfl i hn rfl rfl rfl hH hb) ?_
        refine h_val rfl (.int .u64 x) (fun b w hb hH => e_vload1 0 ty_uint64 okU rfl i (a := x) hx rfl rfl rfl hH hb) ?_
        refine h_q hflS rfl ?_
        refine h_val rfl (.bool false) (fun b w hb hH => exec_cmp rfl rfl rfl (cmp_eql_f (by omega)) hb) ?_
        refine h_q hflS rfl ?_
        refine h_val rfl (elp v (i * 1)) (fun b w hb hH => e_vidx 0 sl_uint64 okU rfl i hn rfl rfl rfl hH hb) ?_
        refine h_val rfl (.int .u64 x) (fun b w hb hH => e_vload1 0 ty_uint64 okU rfl i (a := x) hx rfl rfl rfl hH hb) ?_
        refine h_act (post := fun _ => [Vec 42 1 encU v l]) rfl (a_call (ent_of Try.func64 (by kernel_rfl) rfl) (fun w hH => isnan_uint64 _ x) rfl rfl rfl) ?_; rintro ⟨⟩
        refine h_q hflS rfl ?_
        refine h_done (d_ret ?_)
        exact f_fin2 (.tmp rfl) (.tmp rfl) (fun w h => tells () (by rw [hp, has_f (fun y hy => by rw [hp, hx] at hy; cases hy; exact hk)]) [0] rfl h same_parts) rfl
    · skip
      refine d_reg ?_
      refine h_q hflS rfl ?_
      refine h_val rfl (.bool false) (fun b w hb hH => exec_cmp rfl rfl rfl (cmp_lss_f (by omega)) hb) ?_
      refine h_q hflS rfl ?_
      refine h_done (d_ret ?_)
      exact f_fin2 (.tmp rfl) (.tmp rfl) (fun w h => tells () (by rw [hp, has_f (fun y hy => by rw [hp, List.getElem?_eq_none hn] at hy; cases hy)]) [0] rfl h same_parts) rfl

theorem isnanc_string (w : World) (x : List UInt8) : Calls Try.prog 67 #[.string (bs x)] w fun e w' => e = .returned (.bool false) ∧ Below w.heap.size w w' := by
  refine d_in (args := [.string (bs x)]) 6 Try.func67 rfl rfl rfl ?_
  refine d_reg ?_
  refine h_q hflS rfl ?_
  refine h_done (d_reg ?_)
  refine h_q hflS rfl ?_
  refine h_val rfl (.bool false) (fun b w hb hH => exec_sneq (by simp) rfl rfl rfl hb) ?_
  refine h_q hflS rfl ?_
  refine h_done (d_ret ?_)
  exact f_fin1 (.tmp rfl) (fun w h => ⟨rfl, below0 h.up⟩) rfl

theorem isnan_string (w : World) (x : List UInt8) : Calls Try.prog 56 #[.string (bs x)] w fun e w' => e = .returned (.bool false) ∧ Below w.heap.size w w' := by
  refine d_in (args := [.string (bs x)]) 6 Try.func56 rfl rfl rfl ?_
  refine d_reg ?_
  refine h_q hflS rfl ?_
  refine h_done (d_reg ?_)
  refine h_q hflS rfl ?_
  refine h_val rfl (.bool false) (fun b w hb hH => exec_sneq (by simp) rfl rfl rfl hb) ?_
  refine h_q hflS rfl ?_
  refine h_done (d_ret ?_)
  exact f_fin1 (.tmp rfl) (fun w h => ⟨rfl, below0 h.up⟩) rfl

theorem less_string (w : World) (x y : List UInt8) {b : Bool} (hL : ltS x y = b) : Calls Try.prog 55 #[.string (bs x), .string (bs y)] w fun e w' => e = .returned (.bool b) ∧ Below w.heap.size w w' := by
  refine d_in (args := [.string (bs x), .string (bs y)]) 17 Try.func55 rfl rfl rfl ?_
  refine d_reg ?_
  refine h_q hflS rfl ?_
  refine h_done (d_reg ?_)
  refine h_q hflS rfl ?_
  refine h_act (post := fun _ => []) rfl (a_call (ent_of Try.func67 (by kernel_rfl) rfl) (fun w hH => isnanc_string _ x) rfl rfl rfl) ?_; rintro ⟨⟩
  refine h_q hflS rfl ?_
  refine h_val rfl (.bool (ltS x y)) (fun b w hb hH => exec_slss rfl rfl rfl hb) ?_
  refine h_q hflS rfl ?_
  refine h_done (d_ret ?_)
  exact f_fin1 (.tmp rfl) (fun w h => ⟨by rw [hL], below0 h.up⟩) rfl

theorem search_string (v : Value) (l : List (List UInt8)) (k : List UInt8) (hS : Srt ltS l) (hl : l.length ≤ 1099511627776) : Does Try.prog 35 #[v, .string (bs k)] [Vec 9 1 encS v l] (fun (_ : Unit) => .tuple #[.int .i64 (pos ltS l k : Int), .bool (has ltS l k)]) (fun (_ : Unit) => [Vec 9 1 encS v l]) := by
  refine d_ins (args := [v, .string (bs k)]) 54 Try.func35 rfl rfl rfl ?_; intro w rs
  refine d_reg ?_
  refine h_q hflS rfl ?_
  refine h_done (d_reg ?_)
  refine h_q hflS rfl ?_
  refine h_val rfl (.int .i64 (l.length : Int)) (fun b w hb hH => e_vlen 0 Try.underlying65 rfl rfl rfl hH hb) ?_
  refine h_q hflS rfl ?_
  refine h_done (d_reg ?_)
  refine h_q hflS rfl ?_
  refine h_done (d_seq (d_block ?_))
  refine d_loop (α := Nat × Nat) (fun (i, j) => [(0, v), (1, .string (bs k)), (4, .int .i64 0), (5, .bool false), (6, .int .i64 (l.length : Int)), (7, .int .i64 ((i : Nat) : Int)), (8, .int .i64 ((j : Nat) : Int))]) (fun (i, j) => [Vec 9 1 encS v l]) (fun (i, j) => i ≤ j ∧ j ≤ l.length ∧ (∀ q x, q < i → l[q]? = some x → ltS x k = true) ∧ (∀ q x, j ≤ q → l[q]? = some x → ltS x k = false)) (fun (i, j) => j - i) (0, l.length) ⟨Nat.zero_le _, Nat.le_refl _, (fun q x hq => absurd hq (Nat.not_lt_zero _)), (fun q x hq hx => by rw [List.getElem?_eq_none hq] at hx; cases hx)⟩ ⟨rfl, rfl, rfl, rfl, rfl, rfl, rfl, trivial⟩ rfl ?_
  rintro ⟨i, j⟩ hI
  refine WC2.at_ (env' := [(0, v), (1, .string (bs k)), (4, .int .i64 0), (5, .bool false), (6, .int .i64 (l.length : Int)), (7, .int .i64 ((i : Nat) : Int)), (8, .int .i64 ((j : Nat) : Int))]) (rs' := [Vec 9 1 encS v l]) ⟨rfl, rfl, rfl, rfl, rfl, rfl, rfl, trivial⟩ rfl ?_
  have hI1 : i ≤ j := hI.1
  have hI2 : j ≤ l.length := hI.2.1
  refine d_seq ?_
  by_cases hc : i < j
  · skip
    obtain ⟨h, eh⟩ : ∃ h, h = (i + j) / 2 := ⟨_, rfl⟩
    have hih : i ≤ h := by omega
    have hhj : h < j := by omega
    obtain ⟨x, hx⟩ : ∃ x, l[h]? = some x := ⟨_, List.getElem?_eq_getElem (show h < l.length by omega)⟩
    refine d_reg ?_
    refine h_q hflS rfl ?_
    refine h_val rfl (.bool true) (fun b w hb hH => exec_cmp rfl rfl rfl (cmp_lss_t (by omega)) hb) ?_
    refine h_done (d_then rfl (d_skip (f_to (d_block (d_reg ?_)))))
    refine h_q hflS rfl ?_
    refine h_val rfl (.int .i64 ((i + j : Nat) : Int)) (fun b w hb hH => exec_ar rfl rfl rfl rfl (by rw [IntWalk.i64_in _ (by omega)]; omega) hb) ?_
    refine h_val rfl (.int .u64 ((i + j : Nat) : Int)) (fun b w hb hH => by exact exec_conv Try.underlying3 Try.underlying96 (IntWalk.u64_in _ (by omega)) rfl rfl hb) ?_
    refine h_val rfl (.int .u64 ((h : Nat) : Int)) (fun b w hb hH => exec_shr1 (by omega) (by omega) rfl rfl rfl hb) ?_
    refine h_val rfl (.int .i64 ((h : Nat) : Int)) (fun b w hb hH => by exact exec_conv Try.underlying96 Try.underlying3 (IntWalk.i64_in _ (by omega)) rfl rfl hb) ?_
    refine h_q hflS rfl ?_
    refine h_done ?_
    rcases Bool.eq_false_or_eq_true (ltS x k) with hL | hL
    · skip
      refine d_reg ?_
      refine h_q hflS rfl ?_
      refine h_val rfl (elp v (h * 1)) (fun b w hb hH => e_vidx 0 sl_string okS rfl h (by omega) rfl rfl rfl hH hb) ?_
      refine h_val rfl (.string (bs x)) (fun b w hb hH => e_vload1 0 ty_string okS rfl h (a := x) hx rfl rfl rfl hH hb) ?_
      refine h_q hflS rfl ?_
      refine h_act (post := fun _ => [Vec 9 1 encS v l]) rfl (a_call (ent_of Try.func55 (by kernel_rfl) rfl) (fun w hH => less_string _ x k hL) rfl rfl rfl) ?_; rintro ⟨⟩
      refine h_done (d_then rfl (d_reg1 ?_))
      refine h_q hflS rfl ?_
      refine h_val rfl (.int .i64 ((h + 1 : Nat) : Int)) (fun b w hb hH => exec_ar rfl rfl rfl rfl (by rw [IntWalk.i64_in _ (by omega)]; omega) hb) ?_
      refine h_q hflS rfl ?_
      refine h_nil (f_block ?_)
      exact f_again (h + 1, j) 0 ⟨by omega, by omega, hS.below ordS hx hL, hI.2.2.2⟩ (by show j - (h + 1) < j - i; omega) ⟨rfl, rfl, rfl, rfl, rfl, rfl, rfl, trivial⟩ rfl
    · skip
      refine d_reg ?_
      refine h_q hflS rfl ?_
      refine h_val rfl (elp v (h * 1)) (fun b w hb hH => e_vidx 0 sl_string okS rfl h (by omega) rfl rfl rfl hH hb) ?_
      refine h_val rfl (.string (bs x)) (fun b w hb hH => e_vload1 0 ty_string okS rfl h (a := x) hx rfl rfl rfl hH hb) ?_
      refine h_q hflS rfl ?_
      refine h_act (post := fun _ => [Vec 9 1 encS v l]) rfl (a_call (ent_of Try.func55 (by kernel_rfl) rfl) (fun w hH => less_string _ x k hL) rfl rfl rfl) ?_; rintro ⟨⟩
      refine h_done (d_else rfl (d_reg1 ?_))
      refine h_q hflS rfl ?_
      refine h_nil (f_block ?_)
      exact f_again (i, h) 0 ⟨by omega, by omega, hI.2.2.1, hS.above ordS hx hL⟩ (by show h - i < j - i; omega) ⟨rfl, rfl, rfl, rfl, rfl, rfl, rfl, trivial⟩ rfl
  · skip
    obtain rfl : i = j := by omega
    have hp := pos_eq (by omega) hI.2.2.1 (fun x hx => hI.2.2.2 i x (Nat.le_refl _) hx)
    refine d_reg ?_
    refine h_q hflS rfl ?_
    refine h_val rfl (.bool false) (fun b w hb hH => exec_cmp rfl rfl rfl (cmp_lss_f (by omega)) hb) ?_
    refine h_done (d_else rfl (d_exit (f_then_exit (f_then_exit (f_block_exit (f_to ?_))))))
    rcases Nat.lt_or_ge i l.length with hn | hn
    · skip
      obtain ⟨x, hx⟩ : ∃ x, l[i]? = some x := ⟨_, List.getElem?_eq_getElem hn⟩
      by_cases hk : x = k
      · skip
        subst hk
        refine d_reg ?_
        refine h_q hflS rfl ?_
        refine h_val rfl (.bool true) (fun b w hb hH => exec_cmp rfl rfl rfl (cmp_lss_t (by omega)) hb) ?_
        refine h_q hflS rfl ?_
        refine h_val rfl (elp v (i * 1)) (fun b w hb hH => e_vidx 0 sl_string okS rfl i hn rfl rfl rfl hH hb) ?_
        refine h_val rfl (.string (bs x)) (fun b w hb hH => e_vload1 0 ty_string okS rfl i (a := x) hx rfl rfl rfl hH hb) ?_
        refine h_q hflS rfl ?_
        refine h_val rfl (.bool true) (fun b w hb hH => exec_same rfl rfl rfl (by simp) hb) ?_
        refine h_q hflS rfl ?_
        refine h_done (d_ret ?_)
        exact f_fin2 (.tmp rfl) (.tmp rfl) (fun w h => tells () (by rw [hp, has_t (by rw [hp]; exact hx)]) [0] rfl h same_parts) rfl
      · skip
        refine d_reg ?_
        refine h_q hflS rfl ?_
        refine h_val rfl (.bool true) (fun b w hb hH => exec_cmp rfl rfl rfl (cmp_lss_t (by omega)) hb) ?_
        refine h_q hflS rfl ?_
        refine h_val rfl (elp v (i * 1)) (fun b w hb hH => e_vidx 0 sl_string okS rfl i hn rfl rfl rfl hH hb) ?_
        refine h_val rfl (.string (bs x)) (fun b w hb hH => e_vload1 0 ty_string okS rfl i (a := x) hx rfl rfl rfl hH hb) ?_
        refine h_q hflS rfl ?_
        refine h_val rfl (.bool false) (fun b w hb hH => exec_same rfl rfl rfl (by simpa using hk) hb) ?_
        refine h_q hflS rfl ?_
        refine h_val rfl (elp v (i * 1)) (fun b w hb hH => e_vidx 0 sl_string okS rfl i hn rfl rfl rfl hH hb) ?_
        refine h_val rfl (.string (bs x)) (fun b w hb hH => e_vload1 0 ty_string okS rfl i (a := x) hx rfl rfl rfl hH hb) ?_
        refine h_act (post := fun _ => [Vec 9 1 encS v l]) rfl (a_call (ent_of Try.func56 (by kernel_rfl) rfl) (fun w hH => isnan_string _ x) rfl rfl rfl) ?_; rintro ⟨⟩
        refine h_q hflS rfl ?_
        refine h_done (d_ret ?_)
        exact f_fin2 (.tmp rfl) (.tmp rfl) (fun w h => tells () (by rw [hp, has_f (fun y hy => by rw [hp, hx] at hy; cases hy; exact hk)]) [0] rfl h same_parts) rfl
    · skip
      refine d_reg ?_
      refine h_q hflS rfl ?_
      refine h_val rfl (.bool false) (fun b w hb hH => exec_cmp rfl rfl rfl (cmp_lss_f (by omega)) hb) ?_
      refine h_q hflS rfl ?_
      refine h_done (d_ret ?_)
      exact f_fin2 (.tmp rfl) (.tmp rfl) (fun w h => tells () (by rw [hp, has_f (fun y hy => by rw [hp, List.getElem?_eq_none hn] at hy; cases hy)]) [0] rfl h same_parts) rfl
end Go.Proofs.Ytmlfgdedhhmkpaa.Sep
