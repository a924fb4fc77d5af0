/-
  RpcF1
-/
import Derived.Test.YtnhcbjlaeaohjaaBB01
import Derived.Test.YtnhcbjlaeaohjaaBC01
set_option linter.unusedSimpArgs false
set_option linter.unusedVariables false

namespace Go.Proofs.Ytnhcbjlaeaohjaa.Sep
open Go.RowKit
open Go.Proofs.Ytnhcbjlaeaohjaa.Mem (Dist Blk Chg below0)

/-- the fields of a kind of message, as words -/
def ofM (k : Int) : List UInt8 := if k = 1 then [105, 110, 100, 101, 120, 32, 108, 111, 103, 116, 101, 114, 109, 32, 108, 97, 115, 116] else if k = 2 then [114, 101, 102, 117, 115, 101, 100, 32, 108, 97, 115, 116] else if k = 3 then [105, 110, 100, 101, 120, 32, 108, 111, 103, 116, 101, 114, 109, 32, 99, 111, 109, 109, 105, 116, 32, 101, 110, 116, 114, 105, 101, 115] else if k = 4 then [105, 110, 100, 101, 120, 32, 114, 101, 102, 117, 115, 101, 100] else if k = 5 then [98, 97, 115, 101, 32, 111, 102, 102, 115, 101, 116, 32, 108, 97, 115, 116, 32, 100, 97, 116, 97] else if k = 6 then [98, 97, 115, 101, 32, 111, 102, 102, 115, 101, 116] else []
theorem ofM_off {k : Int} (h : ¬ (1 ≤ k ∧ k ≤ 6)) : ofM k = [] := by
  unfold ofM
  repeat rw [if_neg (by omega)]
theorem ofM_len (k : Int) : (ofM k).length ≤ 40 := by
  by_cases h : 1 ≤ k ∧ k ≤ 6
  · rcases kinds6 h with rfl | rfl | rfl | rfl | rfl | rfl <;> decide
  · rw [ofM_off h]; decide
theorem ofM_ne (k : Int) : (ofM k == []) = !(fm k != 0) := by
  by_cases h : 1 ≤ k ∧ k ≤ 6
  · rcases kinds6 h with rfl | rfl | rfl | rfl | rfl | rfl <;> decide
  · rw [ofM_off h, fm_off h]; rfl
theorem hasM_index (k : Int) : hasB (ofM k) [105, 110, 100, 101, 120] = wth (fm k) 1 := by
  by_cases h : 1 ≤ k ∧ k ≤ 6
  · rcases kinds6 h with rfl | rfl | rfl | rfl | rfl | rfl <;> decide
  · rw [ofM_off h, fm_off h]; decide
theorem hasM_logterm (k : Int) : hasB (ofM k) [108, 111, 103, 116, 101, 114, 109] = wth (fm k) 2 := by
  by_cases h : 1 ≤ k ∧ k ≤ 6
  · rcases kinds6 h with rfl | rfl | rfl | rfl | rfl | rfl <;> decide
  · rw [ofM_off h, fm_off h]; decide
theorem hasM_commit (k : Int) : hasB (ofM k) [99, 111, 109, 109, 105, 116] = wth (fm k) 4 := by
  by_cases h : 1 ≤ k ∧ k ≤ 6
  · rcases kinds6 h with rfl | rfl | rfl | rfl | rfl | rfl <;> decide
  · rw [ofM_off h, fm_off h]; decide
theorem hasM_entries (k : Int) : hasB (ofM k) [101, 110, 116, 114, 105, 101, 115] = wth (fm k) 8 := by
  by_cases h : 1 ≤ k ∧ k ≤ 6
  · rcases kinds6 h with rfl | rfl | rfl | rfl | rfl | rfl <;> decide
  · rw [ofM_off h, fm_off h]; decide
theorem hasM_refused (k : Int) : hasB (ofM k) [114, 101, 102, 117, 115, 101, 100] = wth (fm k) 16 := by
  by_cases h : 1 ≤ k ∧ k ≤ 6
  · rcases kinds6 h with rfl | rfl | rfl | rfl | rfl | rfl <;> decide
  · rw [ofM_off h, fm_off h]; decide
theorem hasM_base (k : Int) : hasB (ofM k) [98, 97, 115, 101] = wth (fm k) 32 := by
  by_cases h : 1 ≤ k ∧ k ≤ 6
  · rcases kinds6 h with rfl | rfl | rfl | rfl | rfl | rfl <;> decide
  · rw [ofM_off h, fm_off h]; decide
theorem hasM_offset (k : Int) : hasB (ofM k) [111, 102, 102, 115, 101, 116] = wth (fm k) 64 := by
  by_cases h : 1 ≤ k ∧ k ≤ 6
  · rcases kinds6 h with rfl | rfl | rfl | rfl | rfl | rfl <;> decide
  · rw [ofM_off h, fm_off h]; decide
theorem hasM_last (k : Int) : hasB (ofM k) [108, 97, 115, 116] = wth (fm k) 128 := by
  by_cases h : 1 ≤ k ∧ k ≤ 6
  · rcases kinds6 h with rfl | rfl | rfl | rfl | rfl | rfl <;> decide
  · rw [ofM_off h, fm_off h]; decide
theorem hasM_data (k : Int) : hasB (ofM k) [100, 97, 116, 97] = wth (fm k) 256 := by
  by_cases h : 1 ≤ k ∧ k ≤ 6
  · rcases kinds6 h with rfl | rfl | rfl | rfl | rfl | rfl <;> decide
  · rw [ofM_off h, fm_off h]; decide

set_option maxRecDepth 100000 in
theorem ofM_any (w : World) (k : Int) (l : List UInt8) (hl : ofM k = l) : Calls Try.prog 66 #[.int .i64 k] w fun e w' => e = .returned (.string (bs l)) ∧ Below w.heap.size w w' := by
  refine d_in (args := [.int .i64 k]) 14 Try.func66 rfl rfl rfl ?_
  refine d_reg ?_
  refine h_q hflS rfl ?_
  refine h_done ?_
  have hk : k = 1 ∨ k = 2 ∨ k = 3 ∨ k = 4 ∨ k = 5 ∨ k = 6 ∨ k < 1 ∨ k > 6 := by omega
  rcases hk with rfl | rfl | rfl | rfl | rfl | rfl | hk | hk
  · skip
    obtain rfl : l = [105, 110, 100, 101, 120, 32, 108, 111, 103, 116, 101, 114, 109, 32, 108, 97, 115, 116] := hl.symm.trans rfl
    refine d_reg ?_
    refine h_q hflS rfl ?_
    refine h_val rfl (.agg #[.string (bs ([])), .string (bs ([105, 110, 100, 101, 120, 32, 108, 111, 103, 116, 101, 114, 109, 32, 108, 97, 115, 116])), .string (bs ([114, 101, 102, 117, 115, 101, 100, 32, 108, 97, 115, 116])), .string (bs ([105, 110, 100, 101, 120, 32, 108, 111, 103, 116, 101, 114, 109, 32, 99, 111, 109, 109, 105, 116, 32, 101, 110, 116, 114, 105, 101, 115])), .string (bs ([105, 110, 100, 101, 120, 32, 114, 101, 102, 117, 115, 101, 100])), .string (bs ([98, 97, 115, 101, 32, 111, 102, 102, 115, 101, 116, 32, 108, 97, 115, 116, 32, 100, 97, 116, 97])), .string (bs ([98, 97, 115, 101, 32, 111, 102, 102, 115, 101, 116]))]) (fun b w hb hH => exec_build (cs := #[.string (bs ([])), .string (bs ([105, 110, 100, 101, 120, 32, 108, 111, 103, 116, 101, 114, 109, 32, 108, 97, 115, 116])), .string (bs ([114, 101, 102, 117, 115, 101, 100, 32, 108, 97, 115, 116])), .string (bs ([105, 110, 100, 101, 120, 32, 108, 111, 103, 116, 101, 114, 109, 32, 99, 111, 109, 109, 105, 116, 32, 101, 110, 116, 114, 105, 101, 115])), .string (bs ([105, 110, 100, 101, 120, 32, 114, 101, 102, 117, 115, 101, 100])), .string (bs ([98, 97, 115, 101, 32, 111, 102, 102, 115, 101, 116, 32, 108, 97, 115, 116, 32, 100, 97, 116, 97])), .string (bs ([98, 97, 115, 101, 32, 111, 102, 102, 115, 101, 116]))]) rfl rfl (by kernel_rfl) hb) ?_
    refine h_act (post := fun g1 => [cell g1 107 #[.string { data := #[] }, .string { data := #[] }, .string { data := #[] }, .string { data := #[] }, .string { data := #[] }, .string { data := #[] }, .string { data := #[] }]]) rfl (a_alloc ze_of_7_string rfl) ?_; rintro g1
    refine h_acts (post := fun _ => [cell g1 107 #[.string (bs ([])), .string (bs ([105, 110, 100, 101, 120, 32, 108, 111, 103, 116, 101, 114, 109, 32, 108, 97, 115, 116])), .string (bs ([114, 101, 102, 117, 115, 101, 100, 32, 108, 97, 115, 116])), .string (bs ([105, 110, 100, 101, 120, 32, 108, 111, 103, 116, 101, 114, 109, 32, 99, 111, 109, 109, 105, 116, 32, 101, 110, 116, 114, 105, 101, 115])), .string (bs ([105, 110, 100, 101, 120, 32, 114, 101, 102, 117, 115, 101, 100])), .string (bs ([98, 97, 115, 101, 32, 111, 102, 102, 115, 101, 116, 32, 108, 97, 115, 116, 32, 100, 97, 116, 97])), .string (bs ([98, 97, 115, 101, 32, 111, 102, 102, 115, 101, 116]))]]) rfl rfl (a_store 0 (v := .agg #[.string (bs ([])), .string (bs ([105, 110, 100, 101, 120, 32, 108, 111, 103, 116, 101, 114, 109, 32, 108, 97, 115, 116])), .string (bs ([114, 101, 102, 117, 115, 101, 100, 32, 108, 97, 115, 116])), .string (bs ([105, 110, 100, 101, 120, 32, 108, 111, 103, 116, 101, 114, 109, 32, 99, 111, 109, 109, 105, 116, 32, 101, 110, 116, 114, 105, 101, 115])), .string (bs ([105, 110, 100, 101, 120, 32, 114, 101, 102, 117, 115, 101, 100])), .string (bs ([98, 97, 115, 101, 32, 111, 102, 102, 115, 101, 116, 32, 108, 97, 115, 116, 32, 100, 97, 116, 97])), .string (bs ([98, 97, 115, 101, 32, 111, 102, 102, 115, 101, 116]))]) #[.string (bs ([])), .string (bs ([105, 110, 100, 101, 120, 32, 108, 111, 103, 116, 101, 114, 109, 32, 108, 97, 115, 116])), .string (bs ([114, 101, 102, 117, 115, 101, 100, 32, 108, 97, 115, 116])), .string (bs ([105, 110, 100, 101, 120, 32, 108, 111, 103, 116, 101, 114, 109, 32, 99, 111, 109, 109, 105, 116, 32, 101, 110, 116, 114, 105, 101, 115])), .string (bs ([105, 110, 100, 101, 120, 32, 114, 101, 102, 117, 115, 101, 100])), .string (bs ([98, 97, 115, 101, 32, 111, 102, 102, 115, 101, 116, 32, 108, 97, 115, 116, 32, 100, 97, 116, 97])), .string (bs ([98, 97, 115, 101, 32, 111, 102, 102, 115, 101, 116]))] ty_of_7_string.2 rfl rfl rfl rfl rfl rfl rfl rfl rfl) ?_; rintro ⟨⟩
    refine h_done (d_seq (d_reg ?_))
    refine h_q hflS rfl ?_
    refine h_val rfl (.bool false) (fun b w hb hH => exec_cmp rfl rfl rfl (cmp_lss_f (by decide)) hb) ?_
    refine h_q hflS rfl ?_
    refine h_val rfl (.bool false) (fun b w hb hH => exec_cmp rfl rfl rfl (cmp_gtr_f (by decide)) hb) ?_
    refine h_q hflS rfl ?_
    refine h_done (d_else rfl (d_skip (f_to (d_reg ?_))))
    refine h_q hflS rfl ?_
    refine h_val rfl (.pointer (some ⟨g1, 1, none⟩)) (fun b w hb hH => exec_idx (off := 0) (k := 1) (ix_of_7_string 1 (by decide)) rfl rfl rfl hb) ?_
    refine h_val rfl (.string (bs ([105, 110, 100, 101, 120, 32, 108, 111, 103, 116, 101, 114, 109, 32, 108, 97, 115, 116]))) (fun b w hb hH => exec_load rfl rfl (reads_one ty_string rfl) (hH.row 0 rfl) hb) ?_
    refine h_q hflS rfl ?_
    refine h_done (d_ret ?_)
    exact f_fin1 (.tmp rfl) (fun w h => ⟨rfl, below0 h.up⟩) rfl
  · skip
    obtain rfl : l = [114, 101, 102, 117, 115, 101, 100, 32, 108, 97, 115, 116] := hl.symm.trans rfl
    refine d_reg ?_
    refine h_q hflS rfl ?_
    refine h_val rfl (.agg #[.string (bs ([])), .string (bs ([105, 110, 100, 101, 120, 32, 108, 111, 103, 116, 101, 114, 109, 32, 108, 97, 115, 116])), .string (bs ([114, 101, 102, 117, 115, 101, 100, 32, 108, 97, 115, 116])), .string (bs ([105, 110, 100, 101, 120, 32, 108, 111, 103, 116, 101, 114, 109, 32, 99, 111, 109, 109, 105, 116, 32, 101, 110, 116, 114, 105, 101, 115])), .string (bs ([105, 110, 100, 101, 120, 32, 114, 101, 102, 117, 115, 101, 100])), .string (bs ([98, 97, 115, 101, 32, 111, 102, 102, 115, 101, 116, 32, 108, 97, 115, 116, 32, 100, 97, 116, 97])), .string (bs ([98, 97, 115, 101, 32, 111, 102, 102, 115, 101, 116]))]) (fun b w hb hH => exec_build (cs := #[.string (bs ([])), .string (bs ([105, 110, 100, 101, 120, 32, 108, 111, 103, 116, 101, 114, 109, 32, 108, 97, 115, 116])), .string (bs ([114, 101, 102, 117, 115, 101, 100, 32, 108, 97, 115, 116])), .string (bs ([105, 110, 100, 101, 120, 32, 108, 111, 103, 116, 101, 114, 109, 32, 99, 111, 109, 109, 105, 116, 32, 101, 110, 116, 114, 105, 101, 115])), .string (bs ([105, 110, 100, 101, 120, 32, 114, 101, 102, 117, 115, 101, 100])), .string (bs ([98, 97, 115, 101, 32, 111, 102, 102, 115, 101, 116, 32, 108, 97, 115, 116, 32, 100, 97, 116, 97])), .string (bs ([98, 97, 115, 101, 32, 111, 102, 102, 115, 101, 116]))]) rfl rfl (by kernel_rfl) hb) ?_
    refine h_act (post := fun g2 => [cell g2 107 #[.string { data := #[] }, .string { data := #[] }, .string { data := #[] }, .string { data := #[] }, .string { data := #[] }, .string { data := #[] }, .string { data := #[] }]]) rfl (a_alloc ze_of_7_string rfl) ?_; rintro g2
    refine h_acts (post := fun _ => [cell g2 107 #[.string (bs ([])), .string (bs ([105, 110, 100, 101, 120, 32, 108, 111, 103, 116, 101, 114, 109, 32, 108, 97, 115, 116])), .string (bs ([114, 101, 102, 117, 115, 101, 100, 32, 108, 97, 115, 116])), .string (bs ([105, 110, 100, 101, 120, 32, 108, 111, 103, 116, 101, 114, 109, 32, 99, 111, 109, 109, 105, 116, 32, 101, 110, 116, 114, 105, 101, 115])), .string (bs ([105, 110, 100, 101, 120, 32, 114, 101, 102, 117, 115, 101, 100])), .string (bs ([98, 97, 115, 101, 32, 111, 102, 102, 115, 101, 116, 32, 108, 97, 115, 116, 32, 100, 97, 116, 97])), .string (bs ([98, 97, 115, 101, 32, 111, 102, 102, 115, 101, 116]))]]) rfl rfl (a_store 0 (v := .agg #[.string (bs ([])), .string (bs ([105, 110, 100, 101, 120, 32, 108, 111, 103, 116, 101, 114, 109, 32, 108, 97, 115, 116])), .string (bs ([114, 101, 102, 117, 115, 101, 100, 32, 108, 97, 115, 116])), .string (bs ([105, 110, 100, 101, 120, 32, 108, 111, 103, 116, 101, 114, 109, 32, 99, 111, 109, 109, 105, 116, 32, 101, 110, 116, 114, 105, 101, 115])), .string (bs ([105, 110, 100, 101, 120, 32, 114, 101, 102, 117, 115, 101, 100])), .string (bs ([98, 97, 115, 101, 32, 111, 102, 102, 115, 101, 116, 32, 108, 97, 115, 116, 32, 100, 97, 116, 97])), .string (bs ([98, 97, 115, 101, 32, 111, 102, 102, 115, 101, 116]))]) #[.string (bs ([])), .string (bs ([105, 110, 100, 101, 120, 32, 108, 111, 103, 116, 101, 114, 109, 32, 108, 97, 115, 116])), .string (bs ([114, 101, 102, 117, 115, 101, 100, 32, 108, 97, 115, 116])), .string (bs ([105, 110, 100, 101, 120, 32, 108, 111, 103, 116, 101, 114, 109, 32, 99, 111, 109, 109, 105, 116, 32, 101, 110, 116, 114, 105, 101, 115])), .string (bs ([105, 110, 100, 101, 120, 32, 114, 101, 102, 117, 115, 101, 100])), .string (bs ([98, 97, 115, 101, 32, 111, 102, 102, 115, 101, 116, 32, 108, 97, 115, 116, 32, 100, 97, 116, 97])), .string (bs ([98, 97, 115, 101, 32, 111, 102, 102, 115, 101, 116]))] ty_of_7_string.2 rfl rfl rfl rfl rfl rfl rfl rfl rfl) ?_; rintro ⟨⟩
    refine h_done (d_seq (d_reg ?_))
    refine h_q hflS rfl ?_
    refine h_val rfl (.bool false) (fun b w hb hH => exec_cmp rfl rfl rfl (cmp_lss_f (by decide)) hb) ?_
    refine h_q hflS rfl ?_
    refine h_val rfl (.bool false) (fun b w hb hH => exec_cmp rfl rfl rfl (cmp_gtr_f (by decide)) hb) ?_
    refine h_q hflS rfl ?_
    refine h_done (d_else rfl (d_skip (f_to (d_reg ?_))))
    refine h_q hflS rfl ?_
    refine h_val rfl (.pointer (some ⟨g2, 2, none⟩)) (fun b w hb hH => exec_idx (off := 0) (k := 2) (ix_of_7_string 2 (by decide)) rfl rfl rfl hb) ?_
    refine h_val rfl (.string (bs ([114, 101, 102, 117, 115, 101, 100, 32, 108, 97, 115, 116]))) (fun b w hb hH => exec_load rfl rfl (reads_one ty_string rfl) (hH.row 0 rfl) hb) ?_
    refine h_q hflS rfl ?_
    refine h_done (d_ret ?_)
    exact f_fin1 (.tmp rfl) (fun w h => ⟨rfl, below0 h.up⟩) rfl
  · skip
    obtain rfl : l = [105, 110, 100, 101, 120, 32, 108, 111, 103, 116, 101, 114, 109, 32, 99, 111, 109, 109, 105, 116, 32, 101, 110, 116, 114, 105, 101, 115] := hl.symm.trans rfl
    refine d_reg ?_
    refine h_q hflS rfl ?_
    refine h_val rfl (.agg #[.string (bs ([])), .string (bs ([105, 110, 100, 101, 120, 32, 108, 111, 103, 116, 101, 114, 109, 32, 108, 97, 115, 116])), .string (bs ([114, 101, 102, 117, 115, 101, 100, 32, 108, 97, 115, 116])), .string (bs ([105, 110, 100, 101, 120, 32, 108, 111, 103, 116, 101, 114, 109, 32, 99, 111, 109, 109, 105, 116, 32, 101, 110, 116, 114, 105, 101, 115])), .string (bs ([105, 110, 100, 101, 120, 32, 114, 101, 102, 117, 115, 101, 100])), .string (bs ([98, 97, 115, 101, 32, 111, 102, 102, 115, 101, 116, 32, 108, 97, 115, 116, 32, 100, 97, 116, 97])), .string (bs ([98, 97, 115, 101, 32, 111, 102, 102, 115, 101, 116]))]) (fun b w hb hH => exec_build (cs := #[.string (bs ([])), .string (bs ([105, 110, 100, 101, 120, 32, 108, 111, 103, 116, 101, 114, 109, 32, 108, 97, 115, 116])), .string (bs ([114, 101, 102, 117, 115, 101, 100, 32, 108, 97, 115, 116])), .string (bs ([105, 110, 100, 101, 120, 32, 108, 111, 103, 116, 101, 114, 109, 32, 99, 111, 109, 109, 105, 116, 32, 101, 110, 116, 114, 105, 101, 115])), .string (bs ([105, 110, 100, 101, 120, 32, 114, 101, 102, 117, 115, 101, 100])), .string (bs ([98, 97, 115, 101, 32, 111, 102, 102, 115, 101, 116, 32, 108, 97, 115, 116, 32, 100, 97, 116, 97])), .string (bs ([98, 97, 115, 101, 32, 111, 102, 102, 115, 101, 116]))]) rfl rfl (by kernel_rfl) hb) ?_
    refine h_act (post := fun g3 => [cell g3 107 #[.string { data := #[] }, .string { data := #[] }, .string { data := #[] }, .string { data := #[] }, .string { data := #[] }, .string { data := #[] }, .string { data := #[] }]]) rfl (a_alloc ze_of_7_string rfl) ?_; rintro g3
    refine h_acts (post := fun _ => [cell g3 107 #[.string (bs ([])), .string (bs ([105, 110, 100, 101, 120, 32, 108, 111, 103, 116, 101, 114, 109, 32, 108, 97, 115, 116])), .string (bs ([114, 101, 102, 117, 115, 101, 100, 32, 108, 97, 115, 116])), .string (bs ([105, 110, 100, 101, 120, 32, 108, 111, 103, 116, 101, 114, 109, 32, 99, 111, 109, 109, 105, 116, 32, 101, 110, 116, 114, 105, 101, 115])), .string (bs ([105, 110, 100, 101, 120, 32, 114, 101, 102, 117, 115, 101, 100])), .string (bs ([98, 97, 115, 101, 32, 111, 102, 102, 115, 101, 116, 32, 108, 97, 115, 116, 32, 100, 97, 116, 97])), .string (bs ([98, 97, 115, 101, 32, 111, 102, 102, 115, 101, 116]))]]) rfl rfl (a_store 0 (v := .agg #[.string (bs ([])), .string (bs ([105, 110, 100, 101, 120, 32, 108, 111, 103, 116, 101, 114, 109, 32, 108, 97, 115, 116])), .string (bs ([114, 101, 102, 117, 115, 101, 100, 32, 108, 97, 115, 116])), .string (bs ([105, 110, 100, 101, 120, 32, 108, 111, 103, 116, 101, 114, 109, 32, 99, 111, 109, 109, 105, 116, 32, 101, 110, 116, 114, 105, 101, 115])), .string (bs ([105, 110, 100, 101, 120, 32, 114, 101, 102, 117, 115, 101, 100])), .string (bs ([98, 97, 115, 101, 32, 111, 102, 102, 115, 101, 116, 32, 108, 97, 115, 116, 32, 100, 97, 116, 97])), .string (bs ([98, 97, 115, 101, 32, 111, 102, 102, 115, 101, 116]))]) #[.string (bs ([])), .string (bs ([105, 110, 100, 101, 120, 32, 108, 111, 103, 116, 101, 114, 109, 32, 108, 97, 115, 116])), .string (bs ([114, 101, 102, 117, 115, 101, 100, 32, 108, 97, 115, 116])), .string (bs ([105, 110, 100, 101, 120, 32, 108, 111, 103, 116, 101, 114, 109, 32, 99, 111, 109, 109, 105, 116, 32, 101, 110, 116, 114, 105, 101, 115])), .string (bs ([105, 110, 100, 101, 120, 32, 114, 101, 102, 117, 115, 101, 100])), .string (bs ([98, 97, 115, 101, 32, 111, 102, 102, 115, 101, 116, 32, 108, 97, 115, 116, 32, 100, 97, 116, 97])), .string (bs ([98, 97, 115, 101, 32, 111, 102, 102, 115, 101, 116]))] ty_of_7_string.2 rfl rfl rfl rfl rfl rfl rfl rfl rfl) ?_; rintro ⟨⟩
    refine h_done (d_seq (d_reg ?_))
    refine h_q hflS rfl ?_
    refine h_val rfl (.bool false) (fun b w hb hH => exec_cmp rfl rfl rfl (cmp_lss_f (by decide)) hb) ?_
    refine h_q hflS rfl ?_
    refine h_val rfl (.bool false) (fun b w hb hH => exec_cmp rfl rfl rfl (cmp_gtr_f (by decide)) hb) ?_
    refine h_q hflS rfl ?_
    refine h_done (d_else rfl (d_skip (f_to (d_reg ?_))))
    refine h_q hflS rfl ?_
    refine h_val rfl (.pointer (some ⟨g3, 3, none⟩)) (fun b w hb hH => exec_idx (off := 0) (k := 3) (ix_of_7_string 3 (by decide)) rfl rfl rfl hb) ?_
    refine h_val rfl (.string (bs ([105, 110, 100, 101, 120, 32, 108, 111, 103, 116, 101, 114, 109, 32, 99, 111, 109, 109, 105, 116, 32, 101, 110, 116, 114, 105, 101, 115]))) (fun b w hb hH => exec_load rfl rfl (reads_one ty_string rfl) (hH.row 0 rfl) hb) ?_
    refine h_q hflS rfl ?_
    refine h_done (d_ret ?_)
    exact f_fin1 (.tmp rfl) (fun w h => ⟨rfl, below0 h.up⟩) rfl
  · skip
    obtain rfl : l = [105, 110, 100, 101, 120, 32, 114, 101, 102, 117, 115, 101, 100] := hl.symm.trans rfl
    refine d_reg ?_
    refine h_q hflS rfl ?_
    refine h_val rfl (.agg #[.string (bs ([])), .string (bs ([105, 110, 100, 101, 120, 32, 108, 111, 103, 116, 101, 114, 109, 32, 108, 97, 115, 116])), .string (bs ([114, 101, 102, 117, 115, 101, 100, 32, 108, 97, 115, 116])), .string (bs ([105, 110, 100, 101, 120, 32, 108, 111, 103, 116, 101, 114, 109, 32, 99, 111, 109, 109, 105, 116, 32, 101, 110, 116, 114, 105, 101, 115])), .string (bs ([105, 110, 100, 101, 120, 32, 114, 101, 102, 117, 115, 101, 100])), .string (bs ([98, 97, 115, 101, 32, 111, 102, 102, 115, 101, 116, 32, 108, 97, 115, 116, 32, 100, 97, 116, 97])), .string (bs ([98, 97, 115, 101, 32, 111, 102, 102, 115, 101, 116]))]) (fun b w hb hH => exec_build (cs := #[.string (bs ([])), .string (bs ([105, 110, 100, 101, 120, 32, 108, 111, 103, 116, 101, 114, 109, 32, 108, 97, 115, 116])), .string (bs ([114, 101, 102, 117, 115, 101, 100, 32, 108, 97, 115, 116])), .string (bs ([105, 110, 100, 101, 120, 32, 108, 111, 103, 116, 101, 114, 109, 32, 99, 111, 109, 109, 105, 116, 32, 101, 110, 116, 114, 105, 101, 115])), .string (bs ([105, 110, 100, 101, 120, 32, 114, 101, 102, 117, 115, 101, 100])), .string (bs ([98, 97, 115, 101, 32, 111, 102, 102, 115, 101, 116, 32, 108, 97, 115, 116, 32, 100, 97, 116, 97])), .string (bs ([98, 97, 115, 101, 32, 111, 102, 102, 115, 101, 116]))]) rfl rfl (by kernel_rfl) hb) ?_
    refine h_act (post := fun g4 => [cell g4 107 #[.string { data := #[] }, .string { data := #[] }, .string { data := #[] }, .string { data := #[] }, .string { data := #[] }, .string { data := #[] }, .string { data := #[] }]]) rfl (a_alloc ze_of_7_string rfl) ?_; rintro g4
    refine h_acts (post := fun _ => [cell g4 107 #[.string (bs ([])), .string (bs ([105, 110, 100, 101, 120, 32, 108, 111, 103, 116, 101, 114, 109, 32, 108, 97, 115, 116])), .string (bs ([114, 101, 102, 117, 115, 101, 100, 32, 108, 97, 115, 116])), .string (bs ([105, 110, 100, 101, 120, 32, 108, 111, 103, 116, 101, 114, 109, 32, 99, 111, 109, 109, 105, 116, 32, 101, 110, 116, 114, 105, 101, 115])), .string (bs ([105, 110, 100, 101, 120, 32, 114, 101, 102, 117, 115, 101, 100])), .string (bs ([98, 97, 115, 101, 32, 111, 102, 102, 115, 101, 116, 32, 108, 97, 115, 116, 32, 100, 97, 116, 97])), .string (bs ([98, 97, 115, 101, 32, 111, 102, 102, 115, 101, 116]))]]) rfl rfl (a_store 0 (v := .agg #[.string (bs ([])), .string (bs ([105, 110, 100, 101, 120, 32, 108, 111, 103, 116, 101, 114, 109, 32, 108, 97, 115, 116])), .string (bs ([114, 101, 102, 117, 115, 101, 100, 32, 108, 97, 115, 116])), .string (bs ([105, 110, 100, 101, 120, 32, 108, 111, 103, 116, 101, 114, 109, 32, 99, 111, 109, 109, 105, 116, 32, 101, 110, 116, 114, 105, 101, 115])), .string (bs ([105, 110, 100, 101, 120, 32, 114, 101, 102, 117, 115, 101, 100])), .string (bs ([98, 97, 115, 101, 32, 111, 102, 102, 115, 101, 116, 32, 108, 97, 115, 116, 32, 100, 97, 116, 97])), .string (bs ([98, 97, 115, 101, 32, 111, 102, 102, 115, 101, 116]))]) #[.string (bs ([])), .string (bs ([105, 110, 100, 101, 120, 32, 108, 111, 103, 116, 101, 114, 109, 32, 108, 97, 115, 116])), .string (bs ([114, 101, 102, 117, 115, 101, 100, 32, 108, 97, 115, 116])), .string (bs ([105, 110, 100, 101, 120, 32, 108, 111, 103, 116, 101, 114, 109, 32, 99, 111, 109, 109, 105, 116, 32, 101, 110, 116, 114, 105, 101, 115])), .string (bs ([105, 110, 100, 101, 120, 32, 114, 101, 102, 117, 115, 101, 100])), .string (bs ([98, 97, 115, 101, 32, 111, 102, 102, 115, 101, 116, 32, 108, 97, 115, 116, 32, 100, 97, 116, 97])), .string (bs ([98, 97, 115, 101, 32, 111, 102, 102, 115, 101, 116]))] ty_of_7_string.2 rfl rfl rfl rfl rfl rfl rfl rfl rfl) ?_; rintro ⟨⟩
    refine h_done (d_seq (d_reg ?_))
    refine h_q hflS rfl ?_
    refine h_val rfl (.bool false) (fun b w hb hH => exec_cmp rfl rfl rfl (cmp_lss_f (by decide)) hb) ?_
    refine h_q hflS rfl ?_
    refine h_val rfl (.bool false) (fun b w hb hH => exec_cmp rfl rfl rfl (cmp_gtr_f (by decide)) hb) ?_
    refine h_q hflS rfl ?_
    refine h_done (d_else rfl (d_skip (f_to (d_reg ?_))))
    refine h_q hflS rfl ?_
    refine h_val rfl (.pointer (some ⟨g4, 4, none⟩)) (fun b w hb hH => exec_idx (off := 0) (k := 4) (ix_of_7_string 4 (by decide)) rfl rfl rfl hb) ?_
    refine h_val rfl (.string (bs ([105, 110, 100, 101, 120, 32, 114, 101, 102, 117, 115, 101, 100]))) (fun b w hb hH => exec_load rfl rfl (reads_one ty_string rfl) (hH.row 0 rfl) hb) ?_
    refine h_q hflS rfl ?_
    refine h_done (d_ret ?_)
    exact f_fin1 (.tmp rfl) (fun w h => ⟨rfl, below0 h.up⟩) rfl
  · skip
    obtain rfl : l = [98, 97, 115, 101, 32, 111, 102, 102, 115, 101, 116, 32, 108, 97, 115, 116, 32, 100, 97, 116, 97] := hl.symm.trans rfl
    refine d_reg ?_
    refine h_q hflS rfl ?_
    refine h_val rfl (.agg #[.string (bs ([])), .string (bs ([105, 110, 100, 101, 120, 32, 108, 111, 103, 116, 101, 114, 109, 32, 108, 97, 115, 116])), .string (bs ([114, 101, 102, 117, 115, 101, 100, 32, 108, 97, 115, 116])), .string (bs ([105, 110, 100, 101, 120, 32, 108, 111, 103, 116, 101, 114, 109, 32, 99, 111, 109, 109, 105, 116, 32, 101, 110, 116, 114, 105, 101, 115])), .string (bs ([105, 110, 100, 101, 120, 32, 114, 101, 102, 117, 115, 101, 100])), .string (bs ([98, 97, 115, 101, 32, 111, 102, 102, 115, 101, 116, 32, 108, 97, 115, 116, 32, 100, 97, 116, 97])), .string (bs ([98, 97, 115, 101, 32, 111, 102, 102, 115, 101, 116]))]) (fun b w hb hH => exec_build (cs := #[.string (bs ([])), .string (bs ([105, 110, 100, 101, 120, 32, 108, 111, 103, 116, 101, 114, 109, 32, 108, 97, 115, 116])), .string (bs ([114, 101, 102, 117, 115, 101, 100, 32, 108, 97, 115, 116])), .string (bs ([105, 110, 100, 101, 120, 32, 108, 111, 103, 116, 101, 114, 109, 32, 99, 111, 109, 109, 105, 116, 32, 101, 110, 116, 114, 105, 101, 115])), .string (bs ([105, 110, 100, 101, 120, 32, 114, 101, 102, 117, 115, 101, 100])), .string (bs ([98, 97, 115, 101, 32, 111, 102, 102, 115, 101, 116, 32, 108, 97, 115, 116, 32, 100, 97, 116, 97])), .string (bs ([98, 97, 115, 101, 32, 111, 102, 102, 115, 101, 116]))]) rfl rfl (by kernel_rfl) hb) ?_
    refine h_act (post := fun g5 => [cell g5 107 #[.string { data := #[] }, .string { data := #[] }, .string { data := #[] }, .string { data := #[] }, .string { data := #[] }, .string { data := #[] }, .string { data := #[] }]]) rfl (a_alloc ze_of_7_string rfl) ?_; rintro g5
    refine h_acts (post := fun _ => [cell g5 107 #[.string (bs ([])), .string (bs ([105, 110, 100, 101, 120, 32, 108, 111, 103, 116, 101, 114, 109, 32, 108, 97, 115, 116])), .string (bs ([114, 101, 102, 117, 115, 101, 100, 32, 108, 97, 115, 116])), .string (bs ([105, 110, 100, 101, 120, 32, 108, 111, 103, 116, 101, 114, 109, 32, 99, 111, 109, 109, 105, 116, 32, 101, 110, 116, 114, 105, 101, 115])), .string (bs ([105, 110, 100, 101, 120, 32, 114, 101, 102, 117, 115, 101, 100])), .string (bs ([98, 97, 115, 101, 32, 111, 102, 102, 115, 101, 116, 32, 108, 97, 115, 116, 32, 100, 97, 116, 97])), .string (bs ([98, 97, 115, 101, 32, 111, 102, 102, 115, 101, 116]))]]) rfl rfl (a_store 0 (v := .agg #[.string (bs ([])), .string (bs ([105, 110, 100, 101, 120, 32, 108, 111, 103, 116, 101, 114, 109, 32, 108, 97, 115, 116])), .string (bs ([114, 101, 102, 117, 115, 101, 100, 32, 108, 97, 115, 116])), .string (bs ([105, 110, 100, 101, 120, 32, 108, 111, 103, 116, 101, 114, 109, 32, 99, 111, 109, 109, 105, 116, 32, 101, 110, 116, 114, 105, 101, 115])), .string (bs ([105, 110, 100, 101, 120, 32, 114, 101, 102, 117, 115, 101, 100])), .string (bs ([98, 97, 115, 101, 32, 111, 102, 102, 115, 101, 116, 32, 108, 97, 115, 116, 32, 100, 97, 116, 97])), .string (bs ([98, 97, 115, 101, 32, 111, 102, 102, 115, 101, 116]))]) #[.string (bs ([])), .string (bs ([105, 110, 100, 101, 120, 32, 108, 111, 103, 116, 101, 114, 109, 32, 108, 97, 115, 116])), .string (bs ([114, 101, 102, 117, 115, 101, 100, 32, 108, 97, 115, 116])), .string (bs ([105, 110, 100, 101, 120, 32, 108, 111, 103, 116, 101, 114, 109, 32, 99, 111, 109, 109, 105, 116, 32, 101, 110, 116, 114, 105, 101, 115])), .string (bs ([105, 110, 100, 101, 120, 32, 114, 101, 102, 117, 115, 101, 100])), .string (bs ([98, 97, 115, 101, 32, 111, 102, 102, 115, 101, 116, 32, 108, 97, 115, 116, 32, 100, 97, 116, 97])), .string (bs ([98, 97, 115, 101, 32, 111, 102, 102, 115, 101, 116]))] ty_of_7_string.2 rfl rfl rfl rfl rfl rfl rfl rfl rfl) ?_; rintro ⟨⟩
    refine h_done (d_seq (d_reg ?_))
    refine h_q hflS rfl ?_
    refine h_val rfl (.bool false) (fun b w hb hH => exec_cmp rfl rfl rfl (cmp_lss_f (by decide)) hb) ?_
    refine h_q hflS rfl ?_
    refine h_val rfl (.bool false) (fun b w hb hH => exec_cmp rfl rfl rfl (cmp_gtr_f (by decide)) hb) ?_
    refine h_q hflS rfl ?_
    refine h_done (d_else rfl (d_skip (f_to (d_reg ?_))))
    refine h_q hflS rfl ?_
    refine h_val rfl (.pointer (some ⟨g5, 5, none⟩)) (fun b w hb hH => exec_idx (off := 0) (k := 5) (ix_of_7_string 5 (by decide)) rfl rfl rfl hb) ?_
    refine h_val rfl (.string (bs ([98, 97, 115, 101, 32, 111, 102, 102, 115, 101, 116, 32, 108, 97, 115, 116, 32, 100, 97, 116, 97]))) (fun b w hb hH => exec_load rfl rfl (reads_one ty_string rfl) (hH.row 0 rfl) hb) ?_
    refine h_q hflS rfl ?_
    refine h_done (d_ret ?_)
    exact f_fin1 (.tmp rfl) (fun w h => ⟨rfl, below0 h.up⟩) rfl
  · skip
    obtain rfl : l = [98, 97, 115, 101, 32, 111, 102, 102, 115, 101, 116] := hl.symm.trans rfl
    refine d_reg ?_
    refine h_q hflS rfl ?_
    refine h_val rfl (.agg #[.string (bs ([])), .string (bs ([105, 110, 100, 101, 120, 32, 108, 111, 103, 116, 101, 114, 109, 32, 108, 97, 115, 116])), .string (bs ([114, 101, 102, 117, 115, 101, 100, 32, 108, 97, 115, 116])), .string (bs ([105, 110, 100, 101, 120, 32, 108, 111, 103, 116, 101, 114, 109, 32, 99, 111, 109, 109, 105, 116, 32, 101, 110, 116, 114, 105, 101, 115])), .string (bs ([105, 110, 100, 101, 120, 32, 114, 101, 102, 117, 115, 101, 100])), .string (bs ([98, 97, 115, 101, 32, 111, 102, 102, 115, 101, 116, 32, 108, 97, 115, 116, 32, 100, 97, 116, 97])), .string (bs ([98, 97, 115, 101, 32, 111, 102, 102, 115, 101, 116]))]) (fun b w hb hH => exec_build (cs := #[.string (bs ([])), .string (bs ([105, 110, 100, 101, 120, 32, 108, 111, 103, 116, 101, 114, 109, 32, 108, 97, 115, 116])), .string (bs ([114, 101, 102, 117, 115, 101, 100, 32, 108, 97, 115, 116])), .string (bs ([105, 110, 100, 101, 120, 32, 108, 111, 103, 116, 101, 114, 109, 32, 99, 111, 109, 109, 105, 116, 32, 101, 110, 116, 114, 105, 101, 115])), .string (bs ([105, 110, 100, 101, 120, 32, 114, 101, 102, 117, 115, 101, 100])), .string (bs ([98, 97, 115, 101, 32, 111, 102, 102, 115, 101, 116, 32, 108, 97, 115, 116, 32, 100, 97, 116, 97])), .string (bs ([98, 97, 115, 101, 32, 111, 102, 102, 115, 101, 116]))]) rfl rfl (by kernel_rfl) hb) ?_
    refine h_act (post := fun g6 => [cell g6 107 #[.string { data := #[] }, .string { data := #[] }, .string { data := #[] }, .string { data := #[] }, .string { data := #[] }, .string { data := #[] }, .string { data := #[] }]]) rfl (a_alloc ze_of_7_string rfl) ?_; rintro g6
    refine h_acts (post := fun _ => [cell g6 107 #[.string (bs ([])), .string (bs ([105, 110, 100, 101, 120, 32, 108, 111, 103, 116, 101, 114, 109, 32, 108, 97, 115, 116])), .string (bs ([114, 101, 102, 117, 115, 101, 100, 32, 108, 97, 115, 116])), .string (bs ([105, 110, 100, 101, 120, 32, 108, 111, 103, 116, 101, 114, 109, 32, 99, 111, 109, 109, 105, 116, 32, 101, 110, 116, 114, 105, 101, 115])), .string (bs ([105, 110, 100, 101, 120, 32, 114, 101, 102, 117, 115, 101, 100])), .string (bs ([98, 97, 115, 101, 32, 111, 102, 102, 115, 101, 116, 32, 108, 97, 115, 116, 32, 100, 97, 116, 97])), .string (bs ([98, 97, 115, 101, 32, 111, 102, 102, 115, 101, 116]))]]) rfl rfl (a_store 0 (v := .agg #[.string (bs ([])), .string (bs ([105, 110, 100, 101, 120, 32, 108, 111, 103, 116, 101, 114, 109, 32, 108, 97, 115, 116])), .string (bs ([114, 101, 102, 117, 115, 101, 100, 32, 108, 97, 115, 116])), .string (bs ([105, 110, 100, 101, 120, 32, 108, 111, 103, 116, 101, 114, 109, 32, 99, 111, 109, 109, 105, 116, 32, 101, 110, 116, 114, 105, 101, 115])), .string (bs ([105, 110, 100, 101, 120, 32, 114, 101, 102, 117, 115, 101, 100])), .string (bs ([98, 97, 115, 101, 32, 111, 102, 102, 115, 101, 116, 32, 108, 97, 115, 116, 32, 100, 97, 116, 97])), .string (bs ([98, 97, 115, 101, 32, 111, 102, 102, 115, 101, 116]))]) #[.string (bs ([])), .string (bs ([105, 110, 100, 101, 120, 32, 108, 111, 103, 116, 101, 114, 109, 32, 108, 97, 115, 116])), .string (bs ([114, 101, 102, 117, 115, 101, 100, 32, 108, 97, 115, 116])), .string (bs ([105, 110, 100, 101, 120, 32, 108, 111, 103, 116, 101, 114, 109, 32, 99, 111, 109, 109, 105, 116, 32, 101, 110, 116, 114, 105, 101, 115])), .string (bs ([105, 110, 100, 101, 120, 32, 114, 101, 102, 117, 115, 101, 100])), .string (bs ([98, 97, 115, 101, 32, 111, 102, 102, 115, 101, 116, 32, 108, 97, 115, 116, 32, 100, 97, 116, 97])), .string (bs ([98, 97, 115, 101, 32, 111, 102, 102, 115, 101, 116]))] ty_of_7_string.2 rfl rfl rfl rfl rfl rfl rfl rfl rfl) ?_; rintro ⟨⟩
    refine h_done (d_seq (d_reg ?_))
    refine h_q hflS rfl ?_
    refine h_val rfl (.bool false) (fun b w hb hH => exec_cmp rfl rfl rfl (cmp_lss_f (by decide)) hb) ?_
    refine h_q hflS rfl ?_
    refine h_val rfl (.bool false) (fun b w hb hH => exec_cmp rfl rfl rfl (cmp_gtr_f (by decide)) hb) ?_
    refine h_q hflS rfl ?_
    refine h_done (d_else rfl (d_skip (f_to (d_reg ?_))))
    refine h_q hflS rfl ?_
    refine h_val rfl (.pointer (some ⟨g6, 6, none⟩)) (fun b w hb hH => exec_idx (off := 0) (k := 6) (ix_of_7_string 6 (by decide)) rfl rfl rfl hb) ?_
    refine h_val rfl (.string (bs ([98, 97, 115, 101, 32, 111, 102, 102, 115, 101, 116]))) (fun b w hb hH => exec_load rfl rfl (reads_one ty_string rfl) (hH.row 0 rfl) hb) ?_
    refine h_q hflS rfl ?_
    refine h_done (d_ret ?_)
    exact f_fin1 (.tmp rfl) (fun w h => ⟨rfl, below0 h.up⟩) rfl
  · skip
    obtain rfl : l = [] := by rw [← hl]; exact ofM_off (by omega)
    refine d_reg ?_
    refine h_q hflS rfl ?_
    refine h_val rfl (.agg #[.string (bs ([])), .string (bs ([105, 110, 100, 101, 120, 32, 108, 111, 103, 116, 101, 114, 109, 32, 108, 97, 115, 116])), .string (bs ([114, 101, 102, 117, 115, 101, 100, 32, 108, 97, 115, 116])), .string (bs ([105, 110, 100, 101, 120, 32, 108, 111, 103, 116, 101, 114, 109, 32, 99, 111, 109, 109, 105, 116, 32, 101, 110, 116, 114, 105, 101, 115])), .string (bs ([105, 110, 100, 101, 120, 32, 114, 101, 102, 117, 115, 101, 100])), .string (bs ([98, 97, 115, 101, 32, 111, 102, 102, 115, 101, 116, 32, 108, 97, 115, 116, 32, 100, 97, 116, 97])), .string (bs ([98, 97, 115, 101, 32, 111, 102, 102, 115, 101, 116]))]) (fun b w hb hH => exec_build (cs := #[.string (bs ([])), .string (bs ([105, 110, 100, 101, 120, 32, 108, 111, 103, 116, 101, 114, 109, 32, 108, 97, 115, 116])), .string (bs ([114, 101, 102, 117, 115, 101, 100, 32, 108, 97, 115, 116])), .string (bs ([105, 110, 100, 101, 120, 32, 108, 111, 103, 116, 101, 114, 109, 32, 99, 111, 109, 109, 105, 116, 32, 101, 110, 116, 114, 105, 101, 115])), .string (bs ([105, 110, 100, 101, 120, 32, 114, 101, 102, 117, 115, 101, 100])), .string (bs ([98, 97, 115, 101, 32, 111, 102, 102, 115, 101, 116, 32, 108, 97, 115, 116, 32, 100, 97, 116, 97])), .string (bs ([98, 97, 115, 101, 32, 111, 102, 102, 115, 101, 116]))]) rfl rfl (by kernel_rfl) hb) ?_
    refine h_act (post := fun g7 => [cell g7 107 #[.string { data := #[] }, .string { data := #[] }, .string { data := #[] }, .string { data := #[] }, .string { data := #[] }, .string { data := #[] }, .string { data := #[] }]]) rfl (a_alloc ze_of_7_string rfl) ?_; rintro g7
    refine h_acts (post := fun _ => [cell g7 107 #[.string (bs ([])), .string (bs ([105, 110, 100, 101, 120, 32, 108, 111, 103, 116, 101, 114, 109, 32, 108, 97, 115, 116])), .string (bs ([114, 101, 102, 117, 115, 101, 100, 32, 108, 97, 115, 116])), .string (bs ([105, 110, 100, 101, 120, 32, 108, 111, 103, 116, 101, 114, 109, 32, 99, 111, 109, 109, 105, 116, 32, 101, 110, 116, 114, 105, 101, 115])), .string (bs ([105, 110, 100, 101, 120, 32, 114, 101, 102, 117, 115, 101, 100])), .string (bs ([98, 97, 115, 101, 32, 111, 102, 102, 115, 101, 116, 32, 108, 97, 115, 116, 32, 100, 97, 116, 97])), .string (bs ([98, 97, 115, 101, 32, 111, 102, 102, 115, 101, 116]))]]) rfl rfl (a_store 0 (v := .agg #[.string (bs ([])), .string (bs ([105, 110, 100, 101, 120, 32, 108, 111, 103, 116, 101, 114, 109, 32, 108, 97, 115, 116])), .string (bs ([114, 101, 102, 117, 115, 101, 100, 32, 108, 97, 115, 116])), .string (bs ([105, 110, 100, 101, 120, 32, 108, 111, 103, 116, 101, 114, 109, 32, 99, 111, 109, 109, 105, 116, 32, 101, 110, 116, 114, 105, 101, 115])), .string (bs ([105, 110, 100, 101, 120, 32, 114, 101, 102, 117, 115, 101, 100])), .string (bs ([98, 97, 115, 101, 32, 111, 102, 102, 115, 101, 116, 32, 108, 97, 115, 116, 32, 100, 97, 116, 97])), .string (bs ([98, 97, 115, 101, 32, 111, 102, 102, 115, 101, 116]))]) #[.string (bs ([])), .string (bs ([105, 110, 100, 101, 120, 32, 108, 111, 103, 116, 101, 114, 109, 32, 108, 97, 115, 116])), .string (bs ([114, 101, 102, 117, 115, 101, 100, 32, 108, 97, 115, 116])), .string (bs ([105, 110, 100, 101, 120, 32, 108, 111, 103, 116, 101, 114, 109, 32, 99, 111, 109, 109, 105, 116, 32, 101, 110, 116, 114, 105, 101, 115])), .string (bs ([105, 110, 100, 101, 120, 32, 114, 101, 102, 117, 115, 101, 100])), .string (bs ([98, 97, 115, 101, 32, 111, 102, 102, 115, 101, 116, 32, 108, 97, 115, 116, 32, 100, 97, 116, 97])), .string (bs ([98, 97, 115, 101, 32, 111, 102, 102, 115, 101, 116]))] ty_of_7_string.2 rfl rfl rfl rfl rfl rfl rfl rfl rfl) ?_; rintro ⟨⟩
    refine h_done (d_seq (d_reg ?_))
    refine h_q hflS rfl ?_
    refine h_val rfl (.bool true) (fun b w hb hH => exec_cmp rfl rfl rfl (cmp_lss_t hk) hb) ?_
    refine h_q hflS rfl ?_
    refine h_done (d_then rfl (d_reg ?_))
    refine h_q hflS rfl ?_
    refine h_done (d_ret (f_then_ret ?_))
    exact f_fin1 (.tmp rfl) (fun w h => ⟨rfl, below0 h.up⟩) rfl
  · skip
    obtain rfl : l = [] := by rw [← hl]; exact ofM_off (by omega)
    refine d_reg ?_
    refine h_q hflS rfl ?_
    refine h_val rfl (.agg #[.string (bs ([])), .string (bs ([105, 110, 100, 101, 120, 32, 108, 111, 103, 116, 101, 114, 109, 32, 108, 97, 115, 116])), .string (bs ([114, 101, 102, 117, 115, 101, 100, 32, 108, 97, 115, 116])), .string (bs ([105, 110, 100, 101, 120, 32, 108, 111, 103, 116, 101, 114, 109, 32, 99, 111, 109, 109, 105, 116, 32, 101, 110, 116, 114, 105, 101, 115])), .string (bs ([105, 110, 100, 101, 120, 32, 114, 101, 102, 117, 115, 101, 100])), .string (bs ([98, 97, 115, 101, 32, 111, 102, 102, 115, 101, 116, 32, 108, 97, 115, 116, 32, 100, 97, 116, 97])), .string (bs ([98, 97, 115, 101, 32, 111, 102, 102, 115, 101, 116]))]) (fun b w hb hH => exec_build (cs := #[.string (bs ([])), .string (bs ([105, 110, 100, 101, 120, 32, 108, 111, 103, 116, 101, 114, 109, 32, 108, 97, 115, 116])), .string (bs ([114, 101, 102, 117, 115, 101, 100, 32, 108, 97, 115, 116])), .string (bs ([105, 110, 100, 101, 120, 32, 108, 111, 103, 116, 101, 114, 109, 32, 99, 111, 109, 109, 105, 116, 32, 101, 110, 116, 114, 105, 101, 115])), .string (bs ([105, 110, 100, 101, 120, 32, 114, 101, 102, 117, 115, 101, 100])), .string (bs ([98, 97, 115, 101, 32, 111, 102, 102, 115, 101, 116, 32, 108, 97, 115, 116, 32, 100, 97, 116, 97])), .string (bs ([98, 97, 115, 101, 32, 111, 102, 102, 115, 101, 116]))]) rfl rfl (by kernel_rfl) hb) ?_
    refine h_act (post := fun g8 => [cell g8 107 #[.string { data := #[] }, .string { data := #[] }, .string { data := #[] }, .string { data := #[] }, .string { data := #[] }, .string { data := #[] }, .string { data := #[] }]]) rfl (a_alloc ze_of_7_string rfl) ?_; rintro g8
    refine h_acts (post := fun _ => [cell g8 107 #[.string (bs ([])), .string (bs ([105, 110, 100, 101, 120, 32, 108, 111, 103, 116, 101, 114, 109, 32, 108, 97, 115, 116])), .string (bs ([114, 101, 102, 117, 115, 101, 100, 32, 108, 97, 115, 116])), .string (bs ([105, 110, 100, 101, 120, 32, 108, 111, 103, 116, 101, 114, 109, 32, 99, 111, 109, 109, 105, 116, 32, 101, 110, 116, 114, 105, 101, 115])), .string (bs ([105, 110, 100, 101, 120, 32, 114, 101, 102, 117, 115, 101, 100])), .string (bs ([98, 97, 115, 101, 32, 111, 102, 102, 115, 101, 116, 32, 108, 97, 115, 116, 32, 100, 97, 116, 97])), .string (bs ([98, 97, 115, 101, 32, 111, 102, 102, 115, 101, 116]))]]) rfl rfl (a_store 0 (v := .agg #[.string (bs ([])), .string (bs ([105, 110, 100, 101, 120, 32, 108, 111, 103, 116, 101, 114, 109, 32, 108, 97, 115, 116])), .string (bs ([114, 101, 102, 117, 115, 101, 100, 32, 108, 97, 115, 116])), .string (bs ([105, 110, 100, 101, 120, 32, 108, 111, 103, 116, 101, 114, 109, 32, 99, 111, 109, 109, 105, 116, 32, 101, 110, 116, 114, 105, 101, 115])), .string (bs ([105, 110, 100, 101, 120, 32, 114, 101, 102, 117, 115, 101, 100])), .string (bs ([98, 97, 115, 101, 32, 111, 102, 102, 115, 101, 116, 32, 108, 97, 115, 116, 32, 100, 97, 116, 97])), .string (bs ([98, 97, 115, 101, 32, 111, 102, 102, 115, 101, 116]))]) #[.string (bs ([])), .string (bs ([105, 110, 100, 101, 120, 32, 108, 111, 103, 116, 101, 114, 109, 32, 108, 97, 115, 116])), .string (bs ([114, 101, 102, 117, 115, 101, 100, 32, 108, 97, 115, 116])), .string (bs ([105, 110, 100, 101, 120, 32, 108, 111, 103, 116, 101, 114, 109, 32, 99, 111, 109, 109, 105, 116, 32, 101, 110, 116, 114, 105, 101, 115])), .string (bs ([105, 110, 100, 101, 120, 32, 114, 101, 102, 117, 115, 101, 100])), .string (bs ([98, 97, 115, 101, 32, 111, 102, 102, 115, 101, 116, 32, 108, 97, 115, 116, 32, 100, 97, 116, 97])), .string (bs ([98, 97, 115, 101, 32, 111, 102, 102, 115, 101, 116]))] ty_of_7_string.2 rfl rfl rfl rfl rfl rfl rfl rfl rfl) ?_; rintro ⟨⟩
    refine h_done (d_seq (d_reg ?_))
    refine h_q hflS rfl ?_
    refine h_val rfl (.bool false) (fun b w hb hH => exec_cmp rfl rfl rfl (cmp_lss_f (by omega)) hb) ?_
    refine h_q hflS rfl ?_
    refine h_val rfl (.bool true) (fun b w hb hH => exec_cmp rfl rfl rfl (cmp_gtr_t hk) hb) ?_
    refine h_q hflS rfl ?_
    refine h_done (d_then rfl (d_reg ?_))
    refine h_q hflS rfl ?_
    refine h_done (d_ret (f_then_ret ?_))
    exact f_fin1 (.tmp rfl) (fun w h => ⟨rfl, below0 h.up⟩) rfl
end Go.Proofs.Ytnhcbjlaeaohjaa.Sep
