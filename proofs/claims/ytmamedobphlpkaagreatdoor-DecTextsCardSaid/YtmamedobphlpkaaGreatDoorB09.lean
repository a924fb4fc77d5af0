/-
  DigR · PlainW
-/
import Derived.Test.YtmamedobphlpkaaGreatDoorB08
set_option linter.unusedSimpArgs false
set_option linter.unusedVariables false

namespace Go.Proofs.YtmamedobphlpkaaGreatDoor
open Go.RowKit

theorem over_14 : (over? (digs 0).toList 4 [Value.int .u64 1]).toArray = digs (BP 4) := by kernel_rfl
theorem over_dig {c v : Nat} (hc : c < 4294967296) (hv : v < 4294967296) : (over? (digs c).toList 0 [Value.int .u64 (v : Int)]).toArray = digs v := by
  have h := digs_set c (j := 0) hv
  have e : put c 0 v = v := by unfold put dg; rw [BP_zero]; omega
  rw [e] at h
  rw [← h]
  apply Array.toList_inj.1
  rw [Array.toList_setIfInBounds]
  have hl : 0 < (digs c).toList.length := by simp [digs_size]
  unfold over?
  cases hd : (digs c).toList with
  | nil => rw [hd] at hl; exact absurd hl (by simp)
  | cons a r => simp
/-- what the reference reads of a text -/
def digitsV (l : List UInt8) : Value := if plainN l then .tuple #[.agg (digs (if 60 < l.length then BP 4 else nv l)), .bool true] else .tuple #[.agg (digs 0), .bool false]
theorem conv_sub {b : UInt8} (h : isD b) : IntKind.wrap .u8 ((b.toNat : Int) - 48) = ((b.toNat - 48 : Nat) : Int) := by
  unfold isD at h
  rw [IntWalk.u8_in _ (by omega)]; omega
theorem conv_up {b : UInt8} : IntKind.wrap .u64 ((b.toNat - 48 : Nat) : Int) = ((b.toNat - 48 : Nat) : Int) := by
  have := b.toNat_lt
  exact IntWalk.u64_in _ (by omega)
theorem digits_no {l : List UInt8} (h : ¬ plainN l) : digitsV l = .tuple #[.agg (digs 0), .bool false] := if_neg h
theorem pw7 : 10 ^ 60 < BP 7 := Nat.le_of_ble_eq_true (by kernel_rfl)
theorem ten7 : 10 < BP 7 := Nat.le_of_ble_eq_true (by kernel_rfl)
theorem nv_small {l : List UInt8} {j : Nat} (ha : allD l) (hl : ¬ 60 < l.length) : nv (l.take j) < BP 7 := by
  have h1 := nv_lt (l := l.take j) fun x hx => ha x (List.mem_of_mem_take hx)
  have h2 : 10 ^ (l.take j).length ≤ 10 ^ 60 := Nat.pow_le_pow_right (by decide) (by rw [List.length_take]; omega)
  have := pw7
  omega
theorem head_ways (l : List UInt8) : l = [] ∨ (l ≠ [] ∧ l.length ≤ 1) ∨ (l ≠ [] ∧ 1 < l.length ∧ ∃ b, l[0]? = some b ∧ b.toNat = 48) ∨ (l ≠ [] ∧ 1 < l.length ∧ ∃ b, l[0]? = some b ∧ b.toNat ≠ 48) := by
  cases l with
  | nil => exact .inl rfl
  | cons c r =>
    by_cases h : (c :: r).length ≤ 1
    · exact .inr (.inl ⟨by simp, h⟩)
    · by_cases hc : c.toNat = 48
      · exact .inr (.inr (.inl ⟨by simp, by omega, c, rfl, hc⟩))
      · exact .inr (.inr (.inr ⟨by simp, by omega, c, rfl, hc⟩))
theorem head_48 {l : List UInt8} {b : UInt8} (h : l[0]? = some b) (e : b.toNat = 48) : l.head? = some 48 := by
  rw [List.head?_eq_getElem?, h]
  congr 1
  exact UInt8.toNat_inj.1 (by simpa using e)
theorem head_no48 {l : List UInt8} {b : UInt8} (h : l[0]? = some b) (e : b.toNat ≠ 48) : l.head? ≠ some 48 := by
  rw [List.head?_eq_getElem?, h]
  intro he
  apply e
  rw [Option.some.inj he]; rfl

theorem rdigits_any (w : World) (l : List UInt8) (hlen : l.length ≤ 9223372036854775807) : Calls Tryz.prog 45 #[.string (bs l)] w fun e w' => e = .returned (digitsV l) ∧ Below w.heap.size w w' := by
  refine d_in (args := [.string (bs l)]) 63 Tryz.func45 rfl rfl rfl ?_
  refine d_reg ?_
  refine h_alloc zeDig rfl rfl ?_; intro g2_1
  refine h_q hflW rfl ?_
  refine h_done (d_reg ?_)
  refine h_alloc zeDig rfl rfl ?_; intro g4_2
  refine h_alloc zeDig rfl rfl ?_; intro g5_3
  refine h_alloc zeDig rfl rfl ?_; intro g6_4
  refine h_done (d_reg ?_)
  refine h_val rfl (.pointer (some ⟨g5_3, 0, none⟩)) (fun b w hb hH => by exact exec_idx (off := 0) (ixDigits 0 (by decide)) rfl rfl rfl hb) ?_
  refine h_store 1 (v := .int .u64 10) (digs 10) tyUint64.2 rfl (ble_size1 (digs_size _) (by decide)) rfl over_010 rfl rfl rfl rfl rfl rfl ?_
  refine h_done (d_seq ?_)
  rcases head_ways l with hl | ⟨hne, h1⟩ | ⟨hne, h1, b0, hb0, e0⟩ | ⟨hne, h1, b0, hb0, e0⟩
  · skip
    have hno : ¬ plainN l := fun hp => hp.1 hl
    refine d_reg ?_
    refine h_q hflW rfl ?_
    refine h_same (beq_iff_eq.2 hl) rfl rfl rfl rfl ?_
    refine h_q hflW rfl ?_
    refine h_done (d_then rfl (d_reg ?_))
    refine h_load 2 (v := .agg (digs 0)) (reads_all (tyDigC _)) rfl rfl rfl rfl ?_
    refine h_store 3 (v := .agg (digs 0)) (digs 0) tyDigits.2 (digs_size _) (ble_size (digs_size _)) (digs_oneL _) (over_all (c := digs 0) (v := digs 0) (((digs_size _) : (digs 0).size = 16).trans ((digs_size _) : (digs 0).size = 16).symm)) rfl rfl rfl rfl rfl rfl ?_
    refine h_q hflW rfl ?_
    refine h_done (d_ret (f_then_ret ?_))
    exact f_fin2 (.cell 3 (v := .agg (digs 0)) (reads_all (tyDigC _)) rfl rfl) (.tmp rfl) (fun w h => ⟨by rw [digits_no hno], h.up.below⟩) rfl
  · skip
    have hh : 1 < l.length → l.head? ≠ some 48 := fun h => absurd h (by omega)
    refine d_reg ?_
    refine h_q hflW rfl ?_
    refine h_same (beq_false_of_ne hne) rfl rfl rfl rfl ?_
    refine h_q hflW rfl ?_
    refine h_builtin (v := .int .i64 (l.length : Int)) (fun w cs => run_len_bs Tryz.underlying9 _ _ w cs) rfl rfl rfl ?_
    refine h_cmp (cmp_gtr_f (by omega)) rfl rfl rfl rfl ?_
    refine h_q hflW rfl ?_
    refine h_done (d_else rfl (d_skip (f_to (d_seq (d_reg ?_)))))
    refine h_q hflW rfl ?_
    refine h_done (d_block ?_)
    refine d_loop (α := Nat) (fun i => [(0, .string (bs l)), (2, .pointer (some ⟨g2_1, 0, none⟩)), (3, .bool false), (4, .pointer (some ⟨g4_2, 0, none⟩)), (5, .pointer (some ⟨g5_3, 0, none⟩)), (6, .pointer (some ⟨g6_4, 0, none⟩)), (7, .int .i64 (i : Int))]) (fun i => [(g6_4, 71, digs 0), (g5_3, 71, digs 10), (g4_2, 71, digs 0), (g2_1, 71, digs 0)]) (fun i => i ≤ l.length ∧ allD (l.take i)) (fun i => l.length - i) 0 ⟨by omega, by simp [allD]⟩ ⟨rfl, rfl, rfl, rfl, rfl, rfl, rfl, trivial⟩ rfl ?_
    rintro i ⟨hi, ha⟩
    refine WC2.at_ (env' := [(0, .string (bs l)), (2, .pointer (some ⟨g2_1, 0, none⟩)), (3, .bool false), (4, .pointer (some ⟨g4_2, 0, none⟩)), (5, .pointer (some ⟨g5_3, 0, none⟩)), (6, .pointer (some ⟨g6_4, 0, none⟩)), (7, .int .i64 (i : Int))]) (rs' := [(g6_4, 71, digs 0), (g5_3, 71, digs 10), (g4_2, 71, digs 0), (g2_1, 71, digs 0)]) ⟨rfl, rfl, rfl, rfl, rfl, rfl, rfl, trivial⟩ rfl ?_
    refine d_seq ?_
    by_cases hil : i < l.length
    · skip
      obtain ⟨ch, hch⟩ : ∃ ch, l[i]? = some ch := ⟨_, List.getElem?_eq_getElem hil⟩
      refine d_reg ?_
      refine h_q hflW rfl ?_
      refine h_builtin (v := .int .i64 (l.length : Int)) (fun w cs => run_len_bs Tryz.underlying9 _ _ w cs) rfl rfl rfl ?_
      refine h_cmp (cmp_lss_t (by omega)) rfl rfl rfl rfl ?_
      refine h_done (d_then rfl (d_skip (f_to (d_seq (d_block ?_)))))
      rcases dig_ways ch with hw | hw | hw
      · skip
        have hno : ¬ plainN l := fun hp => not_allD hch (by unfold isD; omega) hp.2.1
        refine d_reg ?_
        refine h_q hflW rfl ?_
        refine h_val rfl (.int .u8 (ch.toNat : Int)) (fun b w hb hH => by exact exec_index (i := i) Tryz.underlying9 hch rfl rfl rfl hb) ?_
        refine h_cmp (cmp_lss_t (by omega)) rfl rfl rfl rfl ?_
        refine h_q hflW rfl ?_
        refine h_done (d_then rfl (d_reg ?_))
        refine h_load 2 (v := .agg (digs 0)) (reads_all (tyDigC _)) rfl rfl rfl rfl ?_
        refine h_store 3 (v := .agg (digs 0)) (digs 0) tyDigits.2 (digs_size _) (ble_size (digs_size _)) (digs_oneL _) (over_all (c := digs 0) (v := digs 0) (((digs_size _) : (digs 0).size = 16).trans ((digs_size _) : (digs 0).size = 16).symm)) rfl rfl rfl rfl rfl rfl ?_
        refine h_q hflW rfl ?_
        refine h_done (d_ret (f_block_ret (f_then_ret (f_then_ret (f_block_ret (f_then_ret ?_))))))
        exact f_fin2 (.cell 3 (v := .agg (digs 0)) (reads_all (tyDigC _)) rfl rfl) (.tmp rfl) (fun w h => ⟨by rw [digits_no hno], h.up.below⟩) rfl
      · skip
        have hno : ¬ plainN l := fun hp => not_allD hch (by unfold isD; omega) hp.2.1
        refine d_reg ?_
        refine h_q hflW rfl ?_
        refine h_val rfl (.int .u8 (ch.toNat : Int)) (fun b w hb hH => by exact exec_index (i := i) Tryz.underlying9 hch rfl rfl rfl hb) ?_
        refine h_cmp (cmp_lss_f (by omega)) rfl rfl rfl rfl ?_
        refine h_q hflW rfl ?_
        refine h_val rfl (.int .u8 (ch.toNat : Int)) (fun b w hb hH => by exact exec_index (i := i) Tryz.underlying9 hch rfl rfl rfl hb) ?_
        refine h_cmp (cmp_gtr_t (by omega)) rfl rfl rfl rfl ?_
        refine h_q hflW rfl ?_
        refine h_done (d_then rfl (d_reg ?_))
        refine h_load 2 (v := .agg (digs 0)) (reads_all (tyDigC _)) rfl rfl rfl rfl ?_
        refine h_store 3 (v := .agg (digs 0)) (digs 0) tyDigits.2 (digs_size _) (ble_size (digs_size _)) (digs_oneL _) (over_all (c := digs 0) (v := digs 0) (((digs_size _) : (digs 0).size = 16).trans ((digs_size _) : (digs 0).size = 16).symm)) rfl rfl rfl rfl rfl rfl ?_
        refine h_q hflW rfl ?_
        refine h_done (d_ret (f_block_ret (f_then_ret (f_then_ret (f_block_ret (f_then_ret ?_))))))
        exact f_fin2 (.cell 3 (v := .agg (digs 0)) (reads_all (tyDigC _)) rfl rfl) (.tmp rfl) (fun w h => ⟨by rw [digits_no hno], h.up.below⟩) rfl
      · skip
        refine d_reg ?_
        refine h_q hflW rfl ?_
        refine h_val rfl (.int .u8 (ch.toNat : Int)) (fun b w hb hH => by exact exec_index (i := i) Tryz.underlying9 hch rfl rfl rfl hb) ?_
        refine h_cmp (cmp_lss_f (by unfold isD at hw; omega)) rfl rfl rfl rfl ?_
        refine h_q hflW rfl ?_
        refine h_val rfl (.int .u8 (ch.toNat : Int)) (fun b w hb hH => by exact exec_index (i := i) Tryz.underlying9 hch rfl rfl rfl hb) ?_
        refine h_cmp (cmp_gtr_f (by unfold isD at hw; omega)) rfl rfl rfl rfl ?_
        refine h_q hflW rfl ?_
        refine h_done (d_else rfl (d_skip (f_block (f_to (d_reg1 ?_)))))
        refine h_q hflW rfl ?_
        refine h_ar (z' := ((i + 1 : Nat) : Int)) (by rw [IntWalk.i64_in _ (by omega)]; omega) rfl rfl rfl rfl rfl ?_
        refine h_q hflW rfl ?_
        refine h_nil ?_
        exact f_again (i + 1) 0 ⟨by omega, allD_step hch ha hw⟩ (by omega) ⟨rfl, rfl, rfl, rfl, rfl, rfl, rfl, trivial⟩ rfl
    · skip
      have hp : plainN l := ⟨hne, take_all hil ▸ ha, hh⟩
      refine d_reg ?_
      refine h_q hflW rfl ?_
      refine h_builtin (v := .int .i64 (l.length : Int)) (fun w cs => run_len_bs Tryz.underlying9 _ _ w cs) rfl rfl rfl ?_
      refine h_cmp (cmp_lss_f (by omega)) rfl rfl rfl rfl ?_
      refine h_done (d_else rfl (d_exit (f_then_exit (f_then_exit (f_block_exit (f_to (d_seq ?_)))))))
      by_cases h60 : 60 < l.length
      · skip
        refine d_reg ?_
        refine h_q hflW rfl ?_
        refine h_builtin (v := .int .i64 (l.length : Int)) (fun w cs => run_len_bs Tryz.underlying9 _ _ w cs) rfl rfl rfl ?_
        refine h_cmp (cmp_gtr_t (by omega)) rfl rfl rfl rfl ?_
        refine h_done (d_then rfl (d_reg ?_))
        refine h_val rfl (.pointer (some ⟨g4_2, 4, none⟩)) (fun b w hb hH => by exact exec_idx (off := 0) (ixDigits 4 (by decide)) rfl rfl rfl hb) ?_
        refine h_store 2 (v := .int .u64 1) (digs (BP 4)) tyUint64.2 rfl (ble_size1 (digs_size _) (by decide)) rfl over_14 rfl rfl rfl rfl rfl rfl ?_
        refine h_done (d_reg ?_)
        refine h_load 2 (v := .agg (digs (BP 4))) (reads_all (tyDigC _)) rfl rfl rfl rfl ?_
        refine h_store 3 (v := .agg (digs (BP 4))) (digs (BP 4)) tyDigits.2 (digs_size _) (ble_size (digs_size _)) (digs_oneL _) (over_all (c := digs 0) (v := digs (BP 4)) (((digs_size _) : (digs 0).size = 16).trans ((digs_size _) : (digs (BP 4)).size = 16).symm)) rfl rfl rfl rfl rfl rfl ?_
        refine h_q hflW rfl ?_
        refine h_done (d_ret (f_then_ret ?_))
        exact f_fin2 (.cell 3 (v := .agg (digs (BP 4))) (reads_all (tyDigC _)) rfl rfl) (.tmp rfl) (fun w h => ⟨by rw [digitsV, if_pos hp, if_pos h60], h.up.below⟩) rfl
      · skip
        refine d_reg ?_
        refine h_q hflW rfl ?_
        refine h_builtin (v := .int .i64 (l.length : Int)) (fun w cs => run_len_bs Tryz.underlying9 _ _ w cs) rfl rfl rfl ?_
        refine h_cmp (cmp_gtr_f (by omega)) rfl rfl rfl rfl ?_
        refine h_done (d_else rfl (d_skip (f_to (d_seq (d_reg ?_)))))
        refine h_q hflW rfl ?_
        refine h_done (d_block ?_)
        refine d_loop (α := Nat × Nat) (fun (j, c) => [(0, .string (bs l)), (2, .pointer (some ⟨g2_1, 0, none⟩)), (3, .bool false), (4, .pointer (some ⟨g4_2, 0, none⟩)), (5, .pointer (some ⟨g5_3, 0, none⟩)), (6, .pointer (some ⟨g6_4, 0, none⟩)), (8, .int .i64 (j : Int))]) (fun (j, c) => [(g6_4, 71, digs c), (g5_3, 71, digs 10), (g4_2, 71, digs (nv (l.take j))), (g2_1, 71, digs 0)]) (fun (j, c) => j ≤ l.length ∧ c < 10) (fun (j, c) => l.length - j) (0, 0) ⟨by omega, by omega⟩ ⟨rfl, rfl, rfl, rfl, rfl, rfl, rfl, trivial⟩ rfl ?_
        rintro ⟨j, c⟩ ⟨hj, hc⟩
        refine WC2.at_ (env' := [(0, .string (bs l)), (2, .pointer (some ⟨g2_1, 0, none⟩)), (3, .bool false), (4, .pointer (some ⟨g4_2, 0, none⟩)), (5, .pointer (some ⟨g5_3, 0, none⟩)), (6, .pointer (some ⟨g6_4, 0, none⟩)), (8, .int .i64 (j : Int))]) (rs' := [(g6_4, 71, digs c), (g5_3, 71, digs 10), (g4_2, 71, digs (nv (l.take j))), (g2_1, 71, digs 0)]) ⟨rfl, rfl, rfl, rfl, rfl, rfl, rfl, trivial⟩ rfl ?_
        refine d_seq ?_
        by_cases hjl : j < l.length
        · skip
          obtain ⟨ch, hch⟩ : ∃ ch, l[j]? = some ch := ⟨_, List.getElem?_eq_getElem hjl⟩
          have hbd : isD ch := hp.2.1 ch (List.mem_of_getElem? hch)
          have hbn : ch.toNat - 48 < 10 := by unfold isD at hbd; omega
          refine d_reg ?_
          refine h_q hflW rfl ?_
          refine h_builtin (v := .int .i64 (l.length : Int)) (fun w cs => run_len_bs Tryz.underlying9 _ _ w cs) rfl rfl rfl ?_
          refine h_cmp (cmp_lss_t (by omega)) rfl rfl rfl rfl ?_
          refine h_done (d_then rfl (d_skip (f_to (d_seq (d_block (d_reg ?_))))))
          refine h_q hflW rfl ?_
          refine h_val rfl (.int .u8 (ch.toNat : Int)) (fun b w hb hH => by exact exec_index (i := j) Tryz.underlying9 hch rfl rfl rfl hb) ?_
          refine h_ar (z' := ((ch.toNat - 48 : Nat) : Int)) (conv_sub hbd) rfl rfl rfl rfl rfl ?_
          refine h_val rfl (.int .u64 ((ch.toNat - 48 : Nat) : Int)) (fun b w hb hH => by exact exec_conv Tryz.underlying5 Tryz.underlying22 conv_up rfl rfl hb) ?_
          refine h_val rfl (.pointer (some ⟨g6_4, 0, none⟩)) (fun b w hb hH => by exact exec_idx (off := 0) (ixDigits 0 (by decide)) rfl rfl rfl hb) ?_
          refine h_store 0 (v := .int .u64 ((ch.toNat - 48 : Nat) : Int)) (digs (ch.toNat - 48)) tyUint64.2 rfl (ble_size1 (digs_size _) (by decide)) rfl (over_dig (by omega) (by omega)) rfl rfl rfl rfl rfl rfl ?_
          refine h_done ?_
          refine d_par 5 2 [⟨.quiet, 0, fun _ => .agg (digs (nv (l.take j))), []⟩, ⟨.quiet, 0, fun _ => .agg (digs 10), []⟩, ⟨.call, 1, fun _ => .agg (digs (nv (l.take j) * 10)), [0, 1]⟩, ⟨.quiet, 0, fun _ => .agg (digs (ch.toNat - 48)), []⟩, ⟨.call, 2, fun _ => .agg (digs (nv (l.take (j + 1)))), [2, 3]⟩] [(0, .string (bs l)), (2, .pointer (some ⟨g2_1, 0, none⟩)), (3, .bool false), (4, .pointer (some ⟨g4_2, 0, none⟩)), (5, .pointer (some ⟨g5_3, 0, none⟩)), (6, .pointer (some ⟨g6_4, 0, none⟩)), (8, .int .i64 (j : Int)), (45, .int .i64 (j : Int)), (46, .string (bs l)), (47, .int .i64 (l.length : Int)), (48, .bool true), (51, .string (bs l)), (52, .int .i64 (j : Int)), (53, .int .u8 (ch.toNat : Int)), (54, .int .u8 ((ch.toNat - 48 : Nat) : Int)), (55, .int .u64 ((ch.toNat - 48 : Nat) : Int)), (56, .pointer (some ⟨g6_4, 0, none⟩))] (by kernel_rfl) (by kernel_rfl) ⟨rfl, rfl, rfl, rfl, rfl, rfl, rfl, rfl, rfl, rfl, rfl, rfl, rfl, rfl, rfl, rfl, rfl, trivial⟩ ?_ ?_
          · skip
            refine o_cons (o_load 2 (reads_all (tyDigC _)) (fun _ _ => rfl) rfl (fun _ _ => rfl) rfl) ?_
            refine o_cons (o_load 1 (reads_all (tyDigC _)) (fun _ _ => rfl) rfl (fun _ _ => rfl) rfl) ?_
            refine o_cons (o_call (ent_of Tryz.func82 (by kernel_rfl) rfl) (fun w hU => rmul_any _ (nv (l.take j)) 10 (Nat.lt_of_lt_of_le (nv_small hp.2.1 h60) (BP_le (by decide))) ten7) (fun _ _ => rfl) rfl (fun _ _ => rfl) (fun _ _ => rfl)) ?_
            refine o_cons (o_load 0 (reads_all (tyDigC _)) (fun _ _ => rfl) rfl (fun _ _ => rfl) rfl) ?_
            refine o_cons (o_call (ent_of Tryz.func81 (by kernel_rfl) rfl) (fun w hU => (nv_step hch ▸ radd_any _ (nv (l.take j) * 10) (ch.toNat - 48) (by rw [nv_step hch]; exact Nat.lt_of_lt_of_le (nv_small hp.2.1 h60) (BP_le (by decide))))) (fun _ _ => rfl) rfl (fun _ _ => rfl) (fun _ _ => rfl)) ?_
            exact o_nil
          intro σ5 gs5
          refine WL2.keep (env' := [(0, .string (bs l)), (2, .pointer (some ⟨g2_1, 0, none⟩)), (3, .bool false), (4, .pointer (some ⟨g4_2, 0, none⟩)), (5, .pointer (some ⟨g5_3, 0, none⟩)), (6, .pointer (some ⟨g6_4, 0, none⟩)), (8, .int .i64 (j : Int)), (45, .int .i64 (j : Int)), (46, .string (bs l)), (47, .int .i64 (l.length : Int)), (48, .bool true), (51, .string (bs l)), (52, .int .i64 (j : Int)), (53, .int .u8 (ch.toNat : Int)), (54, .int .u8 ((ch.toNat - 48 : Nat) : Int)), (55, .int .u64 ((ch.toNat - 48 : Nat) : Int)), (56, .pointer (some ⟨g6_4, 0, none⟩)), (57, .agg (digs (nv (l.take j)))), (58, .agg (digs 10)), (59, .agg (digs (nv (l.take j) * 10))), (60, .agg (digs (ch.toNat - 48))), (61, .agg (digs (nv (l.take (j + 1)))))]) ⟨rfl, rfl, rfl, rfl, rfl, rfl, rfl, rfl, rfl, rfl, rfl, rfl, rfl, rfl, rfl, rfl, rfl, rfl, rfl, rfl, rfl, rfl, trivial⟩ ?_
          refine h_store 2 (v := .agg (digs (nv (l.take (j + 1))))) (digs (nv (l.take (j + 1)))) tyDigits.2 (digs_size _) (ble_size (digs_size _)) (digs_oneL _) (over_all (c := digs (nv (l.take j))) (v := digs (nv (l.take (j + 1)))) (((digs_size _) : (digs (nv (l.take j))).size = 16).trans ((digs_size _) : (digs (nv (l.take (j + 1)))).size = 16).symm)) rfl rfl rfl rfl rfl rfl ?_
          refine h_nil (f_block (f_to (d_reg1 ?_)))
          refine h_q hflW rfl ?_
          refine h_ar (z' := ((j + 1 : Nat) : Int)) (by rw [IntWalk.i64_in _ (by omega)]; omega) rfl rfl rfl rfl rfl ?_
          refine h_q hflW rfl ?_
          refine h_nil ?_
          exact f_again (j + 1, ch.toNat - 48) 0 ⟨by omega, hbn⟩ (by show l.length - (j + 1) < l.length - j; omega) ⟨rfl, rfl, rfl, rfl, rfl, rfl, rfl, trivial⟩ rfl
        · skip
          refine d_reg ?_
          refine h_q hflW rfl ?_
          refine h_builtin (v := .int .i64 (l.length : Int)) (fun w cs => run_len_bs Tryz.underlying9 _ _ w cs) rfl rfl rfl ?_
          refine h_cmp (cmp_lss_f (by omega)) rfl rfl rfl rfl ?_
          refine h_done (d_else rfl (d_exit (f_then_exit (f_then_exit (f_block_exit (f_to (d_reg ?_)))))))
          refine h_load 2 (v := .agg (digs (nv (l.take j)))) (reads_all (tyDigC _)) rfl rfl rfl rfl ?_
          refine h_store 3 (v := .agg (digs (nv (l.take j)))) (digs (nv (l.take j))) tyDigits.2 (digs_size _) (ble_size (digs_size _)) (digs_oneL _) (over_all (c := digs 0) (v := digs (nv (l.take j))) (((digs_size _) : (digs 0).size = 16).trans ((digs_size _) : (digs (nv (l.take j))).size = 16).symm)) rfl rfl rfl rfl rfl rfl ?_
          refine h_q hflW rfl ?_
          refine h_done (d_ret ?_)
          exact f_fin2 (.cell 3 (v := .agg (digs (nv (l.take j)))) (reads_all (tyDigC _)) rfl rfl) (.tmp rfl) (fun w h => ⟨by rw [digitsV, if_pos hp, if_neg h60, take_all hjl], h.up.below⟩) rfl
  · skip
    have hno : ¬ plainN l := fun hp => hp.2.2 h1 (head_48 hb0 e0)
    refine d_reg ?_
    refine h_q hflW rfl ?_
    refine h_same (beq_false_of_ne hne) rfl rfl rfl rfl ?_
    refine h_q hflW rfl ?_
    refine h_builtin (v := .int .i64 (l.length : Int)) (fun w cs => run_len_bs Tryz.underlying9 _ _ w cs) rfl rfl rfl ?_
    refine h_cmp (cmp_gtr_t (by omega)) rfl rfl rfl rfl ?_
    refine h_q hflW rfl ?_
    refine h_val rfl (.int .u8 (b0.toNat : Int)) (fun b w hb hH => by exact exec_index (i := 0) Tryz.underlying9 hb0 rfl rfl rfl hb) ?_
    refine h_cmp (cmp_eql_t (by omega)) rfl rfl rfl rfl ?_
    refine h_q hflW rfl ?_
    refine h_done (d_then rfl (d_reg ?_))
    refine h_load 2 (v := .agg (digs 0)) (reads_all (tyDigC _)) rfl rfl rfl rfl ?_
    refine h_store 3 (v := .agg (digs 0)) (digs 0) tyDigits.2 (digs_size _) (ble_size (digs_size _)) (digs_oneL _) (over_all (c := digs 0) (v := digs 0) (((digs_size _) : (digs 0).size = 16).trans ((digs_size _) : (digs 0).size = 16).symm)) rfl rfl rfl rfl rfl rfl ?_
    refine h_q hflW rfl ?_
    refine h_done (d_ret (f_then_ret ?_))
    exact f_fin2 (.cell 3 (v := .agg (digs 0)) (reads_all (tyDigC _)) rfl rfl) (.tmp rfl) (fun w h => ⟨by rw [digits_no hno], h.up.below⟩) rfl
  · skip
    have hh : 1 < l.length → l.head? ≠ some 48 := fun _ => head_no48 hb0 e0
    refine d_reg ?_
    refine h_q hflW rfl ?_
    refine h_same (beq_false_of_ne hne) rfl rfl rfl rfl ?_
    refine h_q hflW rfl ?_
    refine h_builtin (v := .int .i64 (l.length : Int)) (fun w cs => run_len_bs Tryz.underlying9 _ _ w cs) rfl rfl rfl ?_
    refine h_cmp (cmp_gtr_t (by omega)) rfl rfl rfl rfl ?_
    refine h_q hflW rfl ?_
    refine h_val rfl (.int .u8 (b0.toNat : Int)) (fun b w hb hH => by exact exec_index (i := 0) Tryz.underlying9 hb0 rfl rfl rfl hb) ?_
    refine h_cmp (cmp_eql_f (by omega)) rfl rfl rfl rfl ?_
    refine h_q hflW rfl ?_
    refine h_done (d_else rfl (d_skip (f_to (d_seq (d_reg ?_)))))
    refine h_q hflW rfl ?_
    refine h_done (d_block ?_)
    refine d_loop (α := Nat) (fun i => [(0, .string (bs l)), (2, .pointer (some ⟨g2_1, 0, none⟩)), (3, .bool false), (4, .pointer (some ⟨g4_2, 0, none⟩)), (5, .pointer (some ⟨g5_3, 0, none⟩)), (6, .pointer (some ⟨g6_4, 0, none⟩)), (7, .int .i64 (i : Int))]) (fun i => [(g6_4, 71, digs 0), (g5_3, 71, digs 10), (g4_2, 71, digs 0), (g2_1, 71, digs 0)]) (fun i => i ≤ l.length ∧ allD (l.take i)) (fun i => l.length - i) 0 ⟨by omega, by simp [allD]⟩ ⟨rfl, rfl, rfl, rfl, rfl, rfl, rfl, trivial⟩ rfl ?_
    rintro i ⟨hi, ha⟩
    refine WC2.at_ (env' := [(0, .string (bs l)), (2, .pointer (some ⟨g2_1, 0, none⟩)), (3, .bool false), (4, .pointer (some ⟨g4_2, 0, none⟩)), (5, .pointer (some ⟨g5_3, 0, none⟩)), (6, .pointer (some ⟨g6_4, 0, none⟩)), (7, .int .i64 (i : Int))]) (rs' := [(g6_4, 71, digs 0), (g5_3, 71, digs 10), (g4_2, 71, digs 0), (g2_1, 71, digs 0)]) ⟨rfl, rfl, rfl, rfl, rfl, rfl, rfl, trivial⟩ rfl ?_
    refine d_seq ?_
    by_cases hil : i < l.length
    · skip
      obtain ⟨ch, hch⟩ : ∃ ch, l[i]? = some ch := ⟨_, List.getElem?_eq_getElem hil⟩
      refine d_reg ?_
      refine h_q hflW rfl ?_
      refine h_builtin (v := .int .i64 (l.length : Int)) (fun w cs => run_len_bs Tryz.underlying9 _ _ w cs) rfl rfl rfl ?_
      refine h_cmp (cmp_lss_t (by omega)) rfl rfl rfl rfl ?_
      refine h_done (d_then rfl (d_skip (f_to (d_seq (d_block ?_)))))
      rcases dig_ways ch with hw | hw | hw
      · skip
        have hno : ¬ plainN l := fun hp => not_allD hch (by unfold isD; omega) hp.2.1
        refine d_reg ?_
        refine h_q hflW rfl ?_
        refine h_val rfl (.int .u8 (ch.toNat : Int)) (fun b w hb hH => by exact exec_index (i := i) Tryz.underlying9 hch rfl rfl rfl hb) ?_
        refine h_cmp (cmp_lss_t (by omega)) rfl rfl rfl rfl ?_
        refine h_q hflW rfl ?_
        refine h_done (d_then rfl (d_reg ?_))
        refine h_load 2 (v := .agg (digs 0)) (reads_all (tyDigC _)) rfl rfl rfl rfl ?_
        refine h_store 3 (v := .agg (digs 0)) (digs 0) tyDigits.2 (digs_size _) (ble_size (digs_size _)) (digs_oneL _) (over_all (c := digs 0) (v := digs 0) (((digs_size _) : (digs 0).size = 16).trans ((digs_size _) : (digs 0).size = 16).symm)) rfl rfl rfl rfl rfl rfl ?_
        refine h_q hflW rfl ?_
        refine h_done (d_ret (f_block_ret (f_then_ret (f_then_ret (f_block_ret (f_then_ret ?_))))))
        exact f_fin2 (.cell 3 (v := .agg (digs 0)) (reads_all (tyDigC _)) rfl rfl) (.tmp rfl) (fun w h => ⟨by rw [digits_no hno], h.up.below⟩) rfl
      · skip
        have hno : ¬ plainN l := fun hp => not_allD hch (by unfold isD; omega) hp.2.1
        refine d_reg ?_
        refine h_q hflW rfl ?_
        refine h_val rfl (.int .u8 (ch.toNat : Int)) (fun b w hb hH => by exact exec_index (i := i) Tryz.underlying9 hch rfl rfl rfl hb) ?_
        refine h_cmp (cmp_lss_f (by omega)) rfl rfl rfl rfl ?_
        refine h_q hflW rfl ?_
        refine h_val rfl (.int .u8 (ch.toNat : Int)) (fun b w hb hH => by exact exec_index (i := i) Tryz.underlying9 hch rfl rfl rfl hb) ?_
        refine h_cmp (cmp_gtr_t (by omega)) rfl rfl rfl rfl ?_
        refine h_q hflW rfl ?_
        refine h_done (d_then rfl (d_reg ?_))
        refine h_load 2 (v := .agg (digs 0)) (reads_all (tyDigC _)) rfl rfl rfl rfl ?_
        refine h_store 3 (v := .agg (digs 0)) (digs 0) tyDigits.2 (digs_size _) (ble_size (digs_size _)) (digs_oneL _) (over_all (c := digs 0) (v := digs 0) (((digs_size _) : (digs 0).size = 16).trans ((digs_size _) : (digs 0).size = 16).symm)) rfl rfl rfl rfl rfl rfl ?_
        refine h_q hflW rfl ?_
        refine h_done (d_ret (f_block_ret (f_then_ret (f_then_ret (f_block_ret (f_then_ret ?_))))))
        exact f_fin2 (.cell 3 (v := .agg (digs 0)) (reads_all (tyDigC _)) rfl rfl) (.tmp rfl) (fun w h => ⟨by rw [digits_no hno], h.up.below⟩) rfl
      · skip
        refine d_reg ?_
        refine h_q hflW rfl ?_
        refine h_val rfl (.int .u8 (ch.toNat : Int)) (fun b w hb hH => by exact exec_index (i := i) Tryz.underlying9 hch rfl rfl rfl hb) ?_
        refine h_cmp (cmp_lss_f (by unfold isD at hw; omega)) rfl rfl rfl rfl ?_
        refine h_q hflW rfl ?_
        refine h_val rfl (.int .u8 (ch.toNat : Int)) (fun b w hb hH => by exact exec_index (i := i) Tryz.underlying9 hch rfl rfl rfl hb) ?_
        refine h_cmp (cmp_gtr_f (by unfold isD at hw; omega)) rfl rfl rfl rfl ?_
        refine h_q hflW rfl ?_
        refine h_done (d_else rfl (d_skip (f_block (f_to (d_reg1 ?_)))))
        refine h_q hflW rfl ?_
        refine h_ar (z' := ((i + 1 : Nat) : Int)) (by rw [IntWalk.i64_in _ (by omega)]; omega) rfl rfl rfl rfl rfl ?_
        refine h_q hflW rfl ?_
        refine h_nil ?_
        exact f_again (i + 1) 0 ⟨by omega, allD_step hch ha hw⟩ (by omega) ⟨rfl, rfl, rfl, rfl, rfl, rfl, rfl, trivial⟩ rfl
    · skip
      have hp : plainN l := ⟨hne, take_all hil ▸ ha, hh⟩
      refine d_reg ?_
      refine h_q hflW rfl ?_
      refine h_builtin (v := .int .i64 (l.length : Int)) (fun w cs => run_len_bs Tryz.underlying9 _ _ w cs) rfl rfl rfl ?_
      refine h_cmp (cmp_lss_f (by omega)) rfl rfl rfl rfl ?_
      refine h_done (d_else rfl (d_exit (f_then_exit (f_then_exit (f_block_exit (f_to (d_seq ?_)))))))
      by_cases h60 : 60 < l.length
      · skip
        refine d_reg ?_
        refine h_q hflW rfl ?_
        refine h_builtin (v := .int .i64 (l.length : Int)) (fun w cs => run_len_bs Tryz.underlying9 _ _ w cs) rfl rfl rfl ?_
        refine h_cmp (cmp_gtr_t (by omega)) rfl rfl rfl rfl ?_
        refine h_done (d_then rfl (d_reg ?_))
        refine h_val rfl (.pointer (some ⟨g4_2, 4, none⟩)) (fun b w hb hH => by exact exec_idx (off := 0) (ixDigits 4 (by decide)) rfl rfl rfl hb) ?_
        refine h_store 2 (v := .int .u64 1) (digs (BP 4)) tyUint64.2 rfl (ble_size1 (digs_size _) (by decide)) rfl over_14 rfl rfl rfl rfl rfl rfl ?_
        refine h_done (d_reg ?_)
        refine h_load 2 (v := .agg (digs (BP 4))) (reads_all (tyDigC _)) rfl rfl rfl rfl ?_
        refine h_store 3 (v := .agg (digs (BP 4))) (digs (BP 4)) tyDigits.2 (digs_size _) (ble_size (digs_size _)) (digs_oneL _) (over_all (c := digs 0) (v := digs (BP 4)) (((digs_size _) : (digs 0).size = 16).trans ((digs_size _) : (digs (BP 4)).size = 16).symm)) rfl rfl rfl rfl rfl rfl ?_
        refine h_q hflW rfl ?_
        refine h_done (d_ret (f_then_ret ?_))
        exact f_fin2 (.cell 3 (v := .agg (digs (BP 4))) (reads_all (tyDigC _)) rfl rfl) (.tmp rfl) (fun w h => ⟨by rw [digitsV, if_pos hp, if_pos h60], h.up.below⟩) rfl
      · skip
        refine d_reg ?_
        refine h_q hflW rfl ?_
        refine h_builtin (v := .int .i64 (l.length : Int)) (fun w cs => run_len_bs Tryz.underlying9 _ _ w cs) rfl rfl rfl ?_
        refine h_cmp (cmp_gtr_f (by omega)) rfl rfl rfl rfl ?_
        refine h_done (d_else rfl (d_skip (f_to (d_seq (d_reg ?_)))))
        refine h_q hflW rfl ?_
        refine h_done (d_block ?_)
        refine d_loop (α := Nat × Nat) (fun (j, c) => [(0, .string (bs l)), (2, .pointer (some ⟨g2_1, 0, none⟩)), (3, .bool false), (4, .pointer (some ⟨g4_2, 0, none⟩)), (5, .pointer (some ⟨g5_3, 0, none⟩)), (6, .pointer (some ⟨g6_4, 0, none⟩)), (8, .int .i64 (j : Int))]) (fun (j, c) => [(g6_4, 71, digs c), (g5_3, 71, digs 10), (g4_2, 71, digs (nv (l.take j))), (g2_1, 71, digs 0)]) (fun (j, c) => j ≤ l.length ∧ c < 10) (fun (j, c) => l.length - j) (0, 0) ⟨by omega, by omega⟩ ⟨rfl, rfl, rfl, rfl, rfl, rfl, rfl, trivial⟩ rfl ?_
        rintro ⟨j, c⟩ ⟨hj, hc⟩
        refine WC2.at_ (env' := [(0, .string (bs l)), (2, .pointer (some ⟨g2_1, 0, none⟩)), (3, .bool false), (4, .pointer (some ⟨g4_2, 0, none⟩)), (5, .pointer (some ⟨g5_3, 0, none⟩)), (6, .pointer (some ⟨g6_4, 0, none⟩)), (8, .int .i64 (j : Int))]) (rs' := [(g6_4, 71, digs c), (g5_3, 71, digs 10), (g4_2, 71, digs (nv (l.take j))), (g2_1, 71, digs 0)]) ⟨rfl, rfl, rfl, rfl, rfl, rfl, rfl, trivial⟩ rfl ?_
        refine d_seq ?_
        by_cases hjl : j < l.length
        · skip
          obtain ⟨ch, hch⟩ : ∃ ch, l[j]? = some ch := ⟨_, List.getElem?_eq_getElem hjl⟩
          have hbd : isD ch := hp.2.1 ch (List.mem_of_getElem? hch)
          have hbn : ch.toNat - 48 < 10 := by unfold isD at hbd; omega
          refine d_reg ?_
          refine h_q hflW rfl ?_
          refine h_builtin (v := .int .i64 (l.length : Int)) (fun w cs => run_len_bs Tryz.underlying9 _ _ w cs) rfl rfl rfl ?_
          refine h_cmp (cmp_lss_t (by omega)) rfl rfl rfl rfl ?_
          refine h_done (d_then rfl (d_skip (f_to (d_seq (d_block (d_reg ?_))))))
          refine h_q hflW rfl ?_
          refine h_val rfl (.int .u8 (ch.toNat : Int)) (fun b w hb hH => by exact exec_index (i := j) Tryz.underlying9 hch rfl rfl rfl hb) ?_
          refine h_ar (z' := ((ch.toNat - 48 : Nat) : Int)) (conv_sub hbd) rfl rfl rfl rfl rfl ?_
          refine h_val rfl (.int .u64 ((ch.toNat - 48 : Nat) : Int)) (fun b w hb hH => by exact exec_conv Tryz.underlying5 Tryz.underlying22 conv_up rfl rfl hb) ?_
          refine h_val rfl (.pointer (some ⟨g6_4, 0, none⟩)) (fun b w hb hH => by exact exec_idx (off := 0) (ixDigits 0 (by decide)) rfl rfl rfl hb) ?_
          refine h_store 0 (v := .int .u64 ((ch.toNat - 48 : Nat) : Int)) (digs (ch.toNat - 48)) tyUint64.2 rfl (ble_size1 (digs_size _) (by decide)) rfl (over_dig (by omega) (by omega)) rfl rfl rfl rfl rfl rfl ?_
          refine h_done ?_
          refine d_par 5 2 [⟨.quiet, 0, fun _ => .agg (digs (nv (l.take j))), []⟩, ⟨.quiet, 0, fun _ => .agg (digs 10), []⟩, ⟨.call, 1, fun _ => .agg (digs (nv (l.take j) * 10)), [0, 1]⟩, ⟨.quiet, 0, fun _ => .agg (digs (ch.toNat - 48)), []⟩, ⟨.call, 2, fun _ => .agg (digs (nv (l.take (j + 1)))), [2, 3]⟩] [(0, .string (bs l)), (2, .pointer (some ⟨g2_1, 0, none⟩)), (3, .bool false), (4, .pointer (some ⟨g4_2, 0, none⟩)), (5, .pointer (some ⟨g5_3, 0, none⟩)), (6, .pointer (some ⟨g6_4, 0, none⟩)), (8, .int .i64 (j : Int)), (45, .int .i64 (j : Int)), (46, .string (bs l)), (47, .int .i64 (l.length : Int)), (48, .bool true), (51, .string (bs l)), (52, .int .i64 (j : Int)), (53, .int .u8 (ch.toNat : Int)), (54, .int .u8 ((ch.toNat - 48 : Nat) : Int)), (55, .int .u64 ((ch.toNat - 48 : Nat) : Int)), (56, .pointer (some ⟨g6_4, 0, none⟩))] (by kernel_rfl) (by kernel_rfl) ⟨rfl, rfl, rfl, rfl, rfl, rfl, rfl, rfl, rfl, rfl, rfl, rfl, rfl, rfl, rfl, rfl, rfl, trivial⟩ ?_ ?_
          · skip
            refine o_cons (o_load 2 (reads_all (tyDigC _)) (fun _ _ => rfl) rfl (fun _ _ => rfl) rfl) ?_
            refine o_cons (o_load 1 (reads_all (tyDigC _)) (fun _ _ => rfl) rfl (fun _ _ => rfl) rfl) ?_
            refine o_cons (o_call (ent_of Tryz.func82 (by kernel_rfl) rfl) (fun w hU => rmul_any _ (nv (l.take j)) 10 (Nat.lt_of_lt_of_le (nv_small hp.2.1 h60) (BP_le (by decide))) ten7) (fun _ _ => rfl) rfl (fun _ _ => rfl) (fun _ _ => rfl)) ?_
            refine o_cons (o_load 0 (reads_all (tyDigC _)) (fun _ _ => rfl) rfl (fun _ _ => rfl) rfl) ?_
            refine o_cons (o_call (ent_of Tryz.func81 (by kernel_rfl) rfl) (fun w hU => (nv_step hch ▸ radd_any _ (nv (l.take j) * 10) (ch.toNat - 48) (by rw [nv_step hch]; exact Nat.lt_of_lt_of_le (nv_small hp.2.1 h60) (BP_le (by decide))))) (fun _ _ => rfl) rfl (fun _ _ => rfl) (fun _ _ => rfl)) ?_
            exact o_nil
          intro σ6 gs6
          refine WL2.keep (env' := [(0, .string (bs l)), (2, .pointer (some ⟨g2_1, 0, none⟩)), (3, .bool false), (4, .pointer (some ⟨g4_2, 0, none⟩)), (5, .pointer (some ⟨g5_3, 0, none⟩)), (6, .pointer (some ⟨g6_4, 0, none⟩)), (8, .int .i64 (j : Int)), (45, .int .i64 (j : Int)), (46, .string (bs l)), (47, .int .i64 (l.length : Int)), (48, .bool true), (51, .string (bs l)), (52, .int .i64 (j : Int)), (53, .int .u8 (ch.toNat : Int)), (54, .int .u8 ((ch.toNat - 48 : Nat) : Int)), (55, .int .u64 ((ch.toNat - 48 : Nat) : Int)), (56, .pointer (some ⟨g6_4, 0, none⟩)), (57, .agg (digs (nv (l.take j)))), (58, .agg (digs 10)), (59, .agg (digs (nv (l.take j) * 10))), (60, .agg (digs (ch.toNat - 48))), (61, .agg (digs (nv (l.take (j + 1)))))]) ⟨rfl, rfl, rfl, rfl, rfl, rfl, rfl, rfl, rfl, rfl, rfl, rfl, rfl, rfl, rfl, rfl, rfl, rfl, rfl, rfl, rfl, rfl, trivial⟩ ?_
          refine h_store 2 (v := .agg (digs (nv (l.take (j + 1))))) (digs (nv (l.take (j + 1)))) tyDigits.2 (digs_size _) (ble_size (digs_size _)) (digs_oneL _) (over_all (c := digs (nv (l.take j))) (v := digs (nv (l.take (j + 1)))) (((digs_size _) : (digs (nv (l.take j))).size = 16).trans ((digs_size _) : (digs (nv (l.take (j + 1)))).size = 16).symm)) rfl rfl rfl rfl rfl rfl ?_
          refine h_nil (f_block (f_to (d_reg1 ?_)))
          refine h_q hflW rfl ?_
          refine h_ar (z' := ((j + 1 : Nat) : Int)) (by rw [IntWalk.i64_in _ (by omega)]; omega) rfl rfl rfl rfl rfl ?_
          refine h_q hflW rfl ?_
          refine h_nil ?_
          exact f_again (j + 1, ch.toNat - 48) 0 ⟨by omega, hbn⟩ (by show l.length - (j + 1) < l.length - j; omega) ⟨rfl, rfl, rfl, rfl, rfl, rfl, rfl, trivial⟩ rfl
        · skip
          refine d_reg ?_
          refine h_q hflW rfl ?_
          refine h_builtin (v := .int .i64 (l.length : Int)) (fun w cs => run_len_bs Tryz.underlying9 _ _ w cs) rfl rfl rfl ?_
          refine h_cmp (cmp_lss_f (by omega)) rfl rfl rfl rfl ?_
          refine h_done (d_else rfl (d_exit (f_then_exit (f_then_exit (f_block_exit (f_to (d_reg ?_)))))))
          refine h_load 2 (v := .agg (digs (nv (l.take j)))) (reads_all (tyDigC _)) rfl rfl rfl rfl ?_
          refine h_store 3 (v := .agg (digs (nv (l.take j)))) (digs (nv (l.take j))) tyDigits.2 (digs_size _) (ble_size (digs_size _)) (digs_oneL _) (over_all (c := digs 0) (v := digs (nv (l.take j))) (((digs_size _) : (digs 0).size = 16).trans ((digs_size _) : (digs (nv (l.take j))).size = 16).symm)) rfl rfl rfl rfl rfl rfl ?_
          refine h_q hflW rfl ?_
          refine h_done (d_ret ?_)
          exact f_fin2 (.cell 3 (v := .agg (digs (nv (l.take j)))) (reads_all (tyDigC _)) rfl rfl) (.tmp rfl) (fun w h => ⟨by rw [digitsV, if_pos hp, if_neg h60, take_all hjl], h.up.below⟩) rfl
end Go.Proofs.YtmamedobphlpkaaGreatDoor

namespace Go.Proofs.YtmamedobphlpkaaGreatDoor
open Go.RowKit

theorem head_all (l : List UInt8) : l = [] ∨ (l ≠ [] ∧ 1 < l.length ∧ ∃ b, l[0]? = some b ∧ b.toNat = 48) ∨ (l ≠ [] ∧ l.length ≤ 1 ∧ ∃ b, l[0]? = some b ∧ b.toNat = 48) ∨ (l ≠ [] ∧ ∃ b, l[0]? = some b ∧ b.toNat ≠ 48) := by
  cases l with
  | nil => exact .inl rfl
  | cons c r =>
    by_cases hc : c.toNat = 48
    · by_cases h : (c :: r).length ≤ 1
      · exact .inr (.inr (.inl ⟨by simp, h, c, rfl, hc⟩))
      · exact .inr (.inl ⟨by simp, by omega, c, rfl, hc⟩)
    · exact .inr (.inr (.inr ⟨by simp, c, rfl, hc⟩))

theorem plainW_any (w : World) (l : List UInt8) (hlen : l.length ≤ 9223372036854775807) : Calls Tryz.prog 64 #[.string (bs l)] w fun e w' => e = .returned (.bool (decide (plainN l))) ∧ Below w.heap.size w w' := by
  refine d_in (args := [.string (bs l)]) 32 Tryz.func64 rfl rfl rfl ?_
  refine d_reg ?_
  refine h_q hflW rfl ?_
  refine h_done (d_seq ?_)
  rcases head_all l with hl | ⟨hne, h1, b0, hb0, e0⟩ | ⟨hne, h1, b0, hb0, e0⟩ | ⟨hne, b0, hb0, e0⟩
  · skip
    have hno : ¬ plainN l := fun hp => hp.1 hl
    refine d_reg ?_
    refine h_q hflW rfl ?_
    refine h_same (beq_iff_eq.2 hl) rfl rfl rfl rfl ?_
    refine h_q hflW rfl ?_
    refine h_done (d_then rfl (d_reg ?_))
    refine h_q hflW rfl ?_
    refine h_done (d_ret (f_then_ret ?_))
    exact f_fin1 (.tmp rfl) (fun w h => ⟨by rw [decide_eq_false hno], h.up.below⟩) rfl
  · skip
    have hno : ¬ plainN l := fun hp => hp.2.2 h1 (head_48 hb0 e0)
    refine d_reg ?_
    refine h_q hflW rfl ?_
    refine h_same (beq_false_of_ne hne) rfl rfl rfl rfl ?_
    refine h_q hflW rfl ?_
    refine h_val rfl (.int .u8 (b0.toNat : Int)) (fun b w hb hH => by exact exec_index (i := 0) Tryz.underlying9 hb0 rfl rfl rfl hb) ?_
    refine h_cmp (cmp_eql_t (by omega)) rfl rfl rfl rfl ?_
    refine h_q hflW rfl ?_
    refine h_builtin (v := .int .i64 (l.length : Int)) (fun w cs => run_len_bs Tryz.underlying9 _ _ w cs) rfl rfl rfl ?_
    refine h_cmp (cmp_gtr_t (by omega)) rfl rfl rfl rfl ?_
    refine h_q hflW rfl ?_
    refine h_done (d_then rfl (d_reg ?_))
    refine h_q hflW rfl ?_
    refine h_done (d_ret (f_then_ret ?_))
    exact f_fin1 (.tmp rfl) (fun w h => ⟨by rw [decide_eq_false hno], h.up.below⟩) rfl
  · skip
    have hh : 1 < l.length → l.head? ≠ some 48 := fun h => absurd h (by omega)
    refine d_reg ?_
    refine h_q hflW rfl ?_
    refine h_same (beq_false_of_ne hne) rfl rfl rfl rfl ?_
    refine h_q hflW rfl ?_
    refine h_val rfl (.int .u8 (b0.toNat : Int)) (fun b w hb hH => by exact exec_index (i := 0) Tryz.underlying9 hb0 rfl rfl rfl hb) ?_
    refine h_cmp (cmp_eql_t (by omega)) rfl rfl rfl rfl ?_
    refine h_q hflW rfl ?_
    refine h_builtin (v := .int .i64 (l.length : Int)) (fun w cs => run_len_bs Tryz.underlying9 _ _ w cs) rfl rfl rfl ?_
    refine h_cmp (cmp_gtr_f (by omega)) rfl rfl rfl rfl ?_
    refine h_q hflW rfl ?_
    refine h_done (d_else rfl (d_skip (f_to (d_seq (d_reg ?_)))))
    refine h_q hflW rfl ?_
    refine h_builtin (v := .int .i64 (l.length : Int)) (fun w cs => run_len_bs Tryz.underlying9 _ _ w cs) rfl rfl rfl ?_
    refine h_q hflW rfl ?_
    refine h_done (d_block ?_)
    refine d_loop (α := Nat) (fun i => [(0, .string (bs l)), (2, .bool false), (17, .int .i64 (l.length : Int)), (18, .int .i64 (i : Int))]) (fun i => []) (fun i => i ≤ l.length ∧ allD (l.take i)) (fun i => l.length - i) 0 ⟨by omega, by simp [allD]⟩ ⟨rfl, rfl, rfl, rfl, trivial⟩ rfl ?_
    rintro i ⟨hi, ha⟩
    refine WC2.at_ (env' := [(0, .string (bs l)), (2, .bool false), (17, .int .i64 (l.length : Int)), (18, .int .i64 (i : Int))]) (rs' := []) ⟨rfl, rfl, rfl, rfl, trivial⟩ rfl ?_
    by_cases hil : i < l.length
    · skip
      obtain ⟨ch, hch⟩ : ∃ ch, l[i]? = some ch := ⟨_, List.getElem?_eq_getElem hil⟩
      refine d_reg ?_
      refine h_cmp (cmp_lss_t (by omega)) rfl rfl rfl rfl ?_
      refine h_done (d_seq (d_then rfl (d_skip (f_to (d_seq (d_block (d_reg ?_)))))))
      refine h_q hflW rfl ?_
      refine h_done ?_
      rcases dig_ways ch with hw | hw | hw
      · skip
        have hno : ¬ plainN l := fun hp => not_allD hch (by unfold isD; omega) hp.2.1
        refine d_reg ?_
        refine h_q hflW rfl ?_
        refine h_val rfl (.int .u8 (ch.toNat : Int)) (fun b w hb hH => by exact exec_index (i := i) Tryz.underlying9 hch rfl rfl rfl hb) ?_
        refine h_cmp (cmp_lss_t (by omega)) rfl rfl rfl rfl ?_
        refine h_q hflW rfl ?_
        refine h_done (d_then rfl (d_reg ?_))
        refine h_q hflW rfl ?_
        refine h_done (d_ret (f_block_ret (f_then_ret (f_then_ret (f_block_ret (f_then_ret ?_))))))
        exact f_fin1 (.tmp rfl) (fun w h => ⟨by rw [decide_eq_false hno], h.up.below⟩) rfl
      · skip
        have hno : ¬ plainN l := fun hp => not_allD hch (by unfold isD; omega) hp.2.1
        refine d_reg ?_
        refine h_q hflW rfl ?_
        refine h_val rfl (.int .u8 (ch.toNat : Int)) (fun b w hb hH => by exact exec_index (i := i) Tryz.underlying9 hch rfl rfl rfl hb) ?_
        refine h_cmp (cmp_lss_f (by omega)) rfl rfl rfl rfl ?_
        refine h_q hflW rfl ?_
        refine h_val rfl (.int .u8 (ch.toNat : Int)) (fun b w hb hH => by exact exec_index (i := i) Tryz.underlying9 hch rfl rfl rfl hb) ?_
        refine h_cmp (cmp_gtr_t (by omega)) rfl rfl rfl rfl ?_
        refine h_q hflW rfl ?_
        refine h_done (d_then rfl (d_reg ?_))
        refine h_q hflW rfl ?_
        refine h_done (d_ret (f_block_ret (f_then_ret (f_then_ret (f_block_ret (f_then_ret ?_))))))
        exact f_fin1 (.tmp rfl) (fun w h => ⟨by rw [decide_eq_false hno], h.up.below⟩) rfl
      · skip
        refine d_reg ?_
        refine h_q hflW rfl ?_
        refine h_val rfl (.int .u8 (ch.toNat : Int)) (fun b w hb hH => by exact exec_index (i := i) Tryz.underlying9 hch rfl rfl rfl hb) ?_
        refine h_cmp (cmp_lss_f (by unfold isD at hw; omega)) rfl rfl rfl rfl ?_
        refine h_q hflW rfl ?_
        refine h_val rfl (.int .u8 (ch.toNat : Int)) (fun b w hb hH => by exact exec_index (i := i) Tryz.underlying9 hch rfl rfl rfl hb) ?_
        refine h_cmp (cmp_gtr_f (by unfold isD at hw; omega)) rfl rfl rfl rfl ?_
        refine h_q hflW rfl ?_
        refine h_done (d_else rfl (d_skip (f_block (f_to (d_reg1 ?_)))))
        refine h_ar (z' := ((i + 1 : Nat) : Int)) (by rw [IntWalk.i64_in _ (by omega)]; omega) rfl rfl rfl rfl rfl ?_
        refine h_q hflW rfl ?_
        refine h_nil ?_
        exact f_again (i + 1) 0 ⟨by omega, allD_step hch ha hw⟩ (by omega) ⟨rfl, rfl, rfl, rfl, trivial⟩ rfl
    · skip
      have hp : plainN l := ⟨hne, take_all hil ▸ ha, hh⟩
      refine d_reg ?_
      refine h_cmp (cmp_lss_f (by omega)) rfl rfl rfl rfl ?_
      refine h_done (d_seq (d_else rfl (d_exit (f_then_exit (f_then_exit (f_block_exit (f_to (d_reg ?_))))))))
      refine h_q hflW rfl ?_
      refine h_done (d_ret ?_)
      exact f_fin1 (.tmp rfl) (fun w h => ⟨by rw [decide_eq_true hp], h.up.below⟩) rfl
  · skip
    have hh : 1 < l.length → l.head? ≠ some 48 := fun _ => head_no48 hb0 e0
    refine d_reg ?_
    refine h_q hflW rfl ?_
    refine h_same (beq_false_of_ne hne) rfl rfl rfl rfl ?_
    refine h_q hflW rfl ?_
    refine h_val rfl (.int .u8 (b0.toNat : Int)) (fun b w hb hH => by exact exec_index (i := 0) Tryz.underlying9 hb0 rfl rfl rfl hb) ?_
    refine h_cmp (cmp_eql_f (by omega)) rfl rfl rfl rfl ?_
    refine h_q hflW rfl ?_
    refine h_done (d_else rfl (d_skip (f_to (d_seq (d_reg ?_)))))
    refine h_q hflW rfl ?_
    refine h_builtin (v := .int .i64 (l.length : Int)) (fun w cs => run_len_bs Tryz.underlying9 _ _ w cs) rfl rfl rfl ?_
    refine h_q hflW rfl ?_
    refine h_done (d_block ?_)
    refine d_loop (α := Nat) (fun i => [(0, .string (bs l)), (2, .bool false), (17, .int .i64 (l.length : Int)), (18, .int .i64 (i : Int))]) (fun i => []) (fun i => i ≤ l.length ∧ allD (l.take i)) (fun i => l.length - i) 0 ⟨by omega, by simp [allD]⟩ ⟨rfl, rfl, rfl, rfl, trivial⟩ rfl ?_
    rintro i ⟨hi, ha⟩
    refine WC2.at_ (env' := [(0, .string (bs l)), (2, .bool false), (17, .int .i64 (l.length : Int)), (18, .int .i64 (i : Int))]) (rs' := []) ⟨rfl, rfl, rfl, rfl, trivial⟩ rfl ?_
    by_cases hil : i < l.length
    · skip
      obtain ⟨ch, hch⟩ : ∃ ch, l[i]? = some ch := ⟨_, List.getElem?_eq_getElem hil⟩
      refine d_reg ?_
      refine h_cmp (cmp_lss_t (by omega)) rfl rfl rfl rfl ?_
      refine h_done (d_seq (d_then rfl (d_skip (f_to (d_seq (d_block (d_reg ?_)))))))
      refine h_q hflW rfl ?_
      refine h_done ?_
      rcases dig_ways ch with hw | hw | hw
      · skip
        have hno : ¬ plainN l := fun hp => not_allD hch (by unfold isD; omega) hp.2.1
        refine d_reg ?_
        refine h_q hflW rfl ?_
        refine h_val rfl (.int .u8 (ch.toNat : Int)) (fun b w hb hH => by exact exec_index (i := i) Tryz.underlying9 hch rfl rfl rfl hb) ?_
        refine h_cmp (cmp_lss_t (by omega)) rfl rfl rfl rfl ?_
        refine h_q hflW rfl ?_
        refine h_done (d_then rfl (d_reg ?_))
        refine h_q hflW rfl ?_
        refine h_done (d_ret (f_block_ret (f_then_ret (f_then_ret (f_block_ret (f_then_ret ?_))))))
        exact f_fin1 (.tmp rfl) (fun w h => ⟨by rw [decide_eq_false hno], h.up.below⟩) rfl
      · skip
        have hno : ¬ plainN l := fun hp => not_allD hch (by unfold isD; omega) hp.2.1
        refine d_reg ?_
        refine h_q hflW rfl ?_
        refine h_val rfl (.int .u8 (ch.toNat : Int)) (fun b w hb hH => by exact exec_index (i := i) Tryz.underlying9 hch rfl rfl rfl hb) ?_
        refine h_cmp (cmp_lss_f (by omega)) rfl rfl rfl rfl ?_
        refine h_q hflW rfl ?_
        refine h_val rfl (.int .u8 (ch.toNat : Int)) (fun b w hb hH => by exact exec_index (i := i) Tryz.underlying9 hch rfl rfl rfl hb) ?_
        refine h_cmp (cmp_gtr_t (by omega)) rfl rfl rfl rfl ?_
        refine h_q hflW rfl ?_
        refine h_done (d_then rfl (d_reg ?_))
        refine h_q hflW rfl ?_
        refine h_done (d_ret (f_block_ret (f_then_ret (f_then_ret (f_block_ret (f_then_ret ?_))))))
        exact f_fin1 (.tmp rfl) (fun w h => ⟨by rw [decide_eq_false hno], h.up.below⟩) rfl
      · skip
        refine d_reg ?_
        refine h_q hflW rfl ?_
        refine h_val rfl (.int .u8 (ch.toNat : Int)) (fun b w hb hH => by exact exec_index (i := i) Tryz.underlying9 hch rfl rfl rfl hb) ?_
        refine h_cmp (cmp_lss_f (by unfold isD at hw; omega)) rfl rfl rfl rfl ?_
        refine h_q hflW rfl ?_
        refine h_val rfl (.int .u8 (ch.toNat : Int)) (fun b w hb hH => by exact exec_index (i := i) Tryz.underlying9 hch rfl rfl rfl hb) ?_
        refine h_cmp (cmp_gtr_f (by unfold isD at hw; omega)) rfl rfl rfl rfl ?_
        refine h_q hflW rfl ?_
        refine h_done (d_else rfl (d_skip (f_block (f_to (d_reg1 ?_)))))
        refine h_ar (z' := ((i + 1 : Nat) : Int)) (by rw [IntWalk.i64_in _ (by omega)]; omega) rfl rfl rfl rfl rfl ?_
        refine h_q hflW rfl ?_
        refine h_nil ?_
        exact f_again (i + 1) 0 ⟨by omega, allD_step hch ha hw⟩ (by omega) ⟨rfl, rfl, rfl, rfl, trivial⟩ rfl
    · skip
      have hp : plainN l := ⟨hne, take_all hil ▸ ha, hh⟩
      refine d_reg ?_
      refine h_cmp (cmp_lss_f (by omega)) rfl rfl rfl rfl ?_
      refine h_done (d_seq (d_else rfl (d_exit (f_then_exit (f_then_exit (f_block_exit (f_to (d_reg ?_))))))))
      refine h_q hflW rfl ?_
      refine h_done (d_ret ?_)
      exact f_fin1 (.tmp rfl) (fun w h => ⟨by rw [decide_eq_true hp], h.up.below⟩) rfl
end Go.Proofs.YtmamedobphlpkaaGreatDoor
