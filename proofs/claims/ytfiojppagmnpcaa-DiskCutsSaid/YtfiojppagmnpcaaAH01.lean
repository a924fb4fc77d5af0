/-
  DskN
-/
import Derived.Test.YtfiojppagmnpcaaAF01
set_option linter.unusedSimpArgs false
set_option linter.unusedVariables false

namespace Go.Proofs.Ytfiojppagmnpcaa.Sep
open Go.RowKit
open Go.Proofs.Ytfiojppagmnpcaa.Mem (Dist Blk Chg below0)

def nonE (b : List UInt8) : Bool := !b.isEmpty
def endsOf (Q : List (List UInt8)) : List Int := (List.range Q.length).map fun k => (((Q.take (k + 1)).flatten.length : Nat) : Int)
theorem ends_len (Q : List (List UInt8)) : (endsOf Q).length = Q.length := by simp [endsOf]
theorem ends_push (Q : List (List UInt8)) (b : List UInt8) : endsOf Q ++ [((Q ++ [b]).flatten.length : Int)] = endsOf (Q ++ [b]) := by
  unfold endsOf
  rw [List.length_append, List.length_singleton, List.range_succ, List.map_append]
  congr 1
  · refine List.map_congr_left fun k hk => ?_
    have := List.mem_range.1 hk
    rw [List.take_append_of_le_length (by omega)]
  · rw [List.map_singleton, List.take_of_length_le (by simp)]
theorem ends_at {Q : List (List UInt8)} {j : Nat} (h : j < Q.length) : (endsOf Q)[j]? = some (((Q.take (j + 1)).flatten.length : Nat) : Int) := by
  unfold endsOf
  rw [List.getElem?_map, List.getElem?_range h]; rfl
theorem non_push {P : List (List UInt8)} {i : Nat} {b : List UInt8} (h : P[i]? = some b) (hb : b ≠ []) : (P.take i).filter nonE ++ [b] = (P.take (i + 1)).filter nonE := by
  rw [← take_push h, List.filter_append]
  have : nonE b = true := by unfold nonE; cases b with | nil => exact absurd rfl hb | cons _ _ => rfl
  simp [this]
theorem non_skip {P : List (List UInt8)} {i : Nat} {b : List UInt8} (h : P[i]? = some b) (hb : b = []) : (P.take i).filter nonE = (P.take (i + 1)).filter nonE := by
  subst hb
  rw [← take_push h, List.filter_append]
  simp [nonE]
theorem ShortL.non {m n : Nat} {L : List (List UInt8)} (h : ShortL m n L) : ShortL m n (L.filter nonE) := ⟨Nat.le_trans (List.length_filter_le ..) h.1, fun b hb => h.2 b (List.mem_filter.1 hb).1⟩
theorem non_ne {L : List (List UInt8)} {b : List UInt8} (h : b ∈ L.filter nonE) : b ≠ [] := fun e => by
  subst e
  have := (List.mem_filter.1 h).2
  simp [nonE] at this
theorem flat_pos {Q : List (List UInt8)} (hq : ∀ b, b ∈ Q → b ≠ []) (hn : Q ≠ []) : 0 < Q.flatten.length := by
  cases Q with
  | nil => exact absurd rfl hn
  | cons b r =>
    have := List.length_pos_iff.2 (hq b (List.mem_cons_self ..))
    rw [List.flatten_cons, List.length_append]; omega
/-- some crash leaves the first a bytes -/
theorem cut_at {Q : List (List UInt8)} (hq : ∀ b, b ∈ Q → b ≠ []) {a j : Nat} (hj : j ≤ Q.length) (hs : (Q.take j).flatten.length ≤ a) (hlast : j = Q.length → a = Q.flatten.length) (hnext : j < Q.length → a < (Q.take (j + 1)).flatten.length) :
    ∃ s, crashD (oneD [102] 1048576 none Q none) (j : Int) (((a - (Q.take j).flatten.length : Nat)) : Int) = oneD [102] 1048576 s [] none ∧ s.getD [] = Q.flatten.take a ∧ s.isSome = decide (0 < a) := by
  have hk : ((j : Int) % ((Q.length : Int) + 1)).toNat = j := by rw [Int.emod_eq_of_lt (by omega) (by omega)]; omega
  refine ⟨_, by rw [crash_any, hk], ?_⟩
  unfold leftO tornO
  rcases Nat.lt_or_ge j Q.length with h | h
  · have hb := List.getElem?_eq_getElem h
    obtain ⟨b, hbb⟩ : ∃ b, Q[j] = b := ⟨_, rfl⟩
    rw [hbb] at hb
    have hb0 := hq b (List.mem_of_getElem? hb)
    have hl : (Q.take (j + 1)).flatten.length = (Q.take j).flatten.length + b.length := by rw [← take_push hb]; simp
    have hn := hnext h
    have ht : a - (Q.take j).flatten.length < b.length := by omega
    have he : (((a - (Q.take j).flatten.length : Nat) : Int) % (b.length : Int)).toNat = a - (Q.take j).flatten.length := by rw [Int.emod_eq_of_lt (by omega) (by omega)]; omega
    have hfs := (flat_step Q j b hb (a - (Q.take j).flatten.length) (by omega)).1
    rw [show (Q.take j).flatten.length + (a - (Q.take j).flatten.length) = a by omega] at hfs
    rw [hb]
    simp only
    rw [if_neg hb0, he]
    by_cases h0 : a - (Q.take j).flatten.length = 0
    · rw [if_pos h0]
      rw [h0, List.take_zero, List.append_nil] at hfs
      refine ⟨by rw [catO_getD]; exact hfs, ?_⟩
      rw [catO_none]
      by_cases hj0 : j = 0
      · subst hj0
        rw [List.take_zero] at *
        rw [if_pos rfl]
        have : a = 0 := by simpa using h0
        subst this; rfl
      · have hne : Q.take j ≠ [] := fun e => by
          have := congrArg List.length e
          rw [List.length_take, List.length_nil] at this; omega
        have := flat_pos (fun b hb => hq b (List.mem_of_mem_take hb)) hne
        rw [if_neg hne]
        have h1 : 0 < a := by omega
        simp [h1]
    · rw [if_neg h0]
      refine ⟨by rw [Option.getD_some, catO_getD]; exact hfs, ?_⟩
      have h1 : 0 < a := by omega
      simp [h1]
  · have e : j = Q.length := by omega
    have ha := hlast e
    have hb : Q[j]? = none := List.getElem?_eq_none h
    rw [hb]
    simp only
    rw [List.take_of_length_le h]
    refine ⟨by rw [catO_getD, ha, List.take_length]; rfl, ?_⟩
    rw [catO_none]
    by_cases hQ : Q = []
    · rw [if_pos hQ, ha, hQ]; rfl
    · have := flat_pos hq hQ
      rw [if_neg hQ, ha, decide_eq_true this]; rfl

set_option maxRecDepth 100000 in
theorem diskcuts_true (w : World) (v1 : Value) (l1 : List PtV) (hv1 : PtsRd w v1 l1) (hl1 : l1.length ≤ 9223372036854775807) (hd1 : ∀ x, x ∈ l1 → x.d.length ≤ 140737488351232) (at0 : Int) (hat : -9223372036854775808 ≤ at0 ∧ at0 ≤ 9223372036854775807) : Calls Try.prog 5 #[v1, .int .i64 at0] w fun e w' => e = .returned (.bool true) ∧ Below w.heap.size w w' := by
  refine d_in (args := [v1, .int .i64 at0]) 137 Try.func5 rfl rfl rfl ?_
  refine d_reg ?_
  refine h_q hflS rfl ?_
  refine h_done (d_reg ?_)
  refine h_q hflS rfl ?_
  refine h_act (post := fun (x1 : PsV) => [PartsT 28 x1.v x1.l, fact (x1.l.map (·.2) = ((l1.map (·.d)).take 12).map (·.take 2000))]) rfl (a_doesU (Below.refl _ _) (fun _ h => h.elim) (os' := fun (x1 : PsV) => [PartsT 28 x1.v x1.l, fact (x1.l.map (·.2) = ((l1.map (·.d)).take 12).map (·.take 2000))]) [] 0 (ent_of Try.func19 (by kernel_rfl) rfl) (short_does w v1 l1 hv1 hl1 hd1 12 2000 (by decide) (by decide)) rfl rfl rfl (fun _ => rfl) rfl rfl rfl) ?_; rintro x1
  refine WL2.fact 1 rfl (fun _ h => h.2) ?_; rintro hx1
  refine WL2.leave [1] rfl rfl ?_
  have hs1 := short_of hx1
  obtain ⟨P1, hP1⟩ : ∃ P, x1.l.map (·.2) = P := ⟨_, rfl⟩
  rw [hP1] at hs1
  have hf1 := hs1.flat
  have hn1 : P1.length = x1.l.length := by rw [← hP1, List.length_map]
  refine h_q hflS rfl ?_
  refine h_done (d_reg ?_)
  refine h_q hflS rfl ?_
  refine h_done (d_reg ?_)
  refine h_q hflS rfl ?_
  refine h_done (d_seq (d_reg ?_))
  refine h_q hflS rfl ?_
  refine h_done (d_block ?_)
  refine d_nilvec 3 1 encI ?_
  refine d_loop (α := Nat × List (List UInt8) × Value) (fun ⟨i0, Q, eu⟩ => [(1, .int .i64 at0), (4, .bool false), (0, x1.v), (5, .string (bs Q.flatten)), (6, eu), (7, .int .i64 ((i0 : Nat) : Int))]) (fun ⟨i0, Q, eu⟩ => [Vec 3 1 encI eu (endsOf Q), PartsT 28 x1.v x1.l]) (fun ⟨i0, Q, eu⟩ => i0 ≤ x1.l.length ∧ Q = (P1.take i0).filter nonE) (fun ⟨i0, Q, eu⟩ => x1.l.length - i0) (0, [], .slice none 0 0) ⟨Nat.zero_le _, rfl⟩ ⟨rfl, rfl, rfl, rfl, rfl, rfl, trivial⟩ rfl ?_
  rintro ⟨i0, Q, eu⟩ hI
  refine WC2.at_ (env' := [(1, .int .i64 at0), (4, .bool false), (0, x1.v), (5, .string (bs Q.flatten)), (6, eu), (7, .int .i64 ((i0 : Nat) : Int))]) (rs' := [Vec 3 1 encI eu (endsOf Q), PartsT 28 x1.v x1.l]) ⟨rfl, rfl, rfl, rfl, rfl, rfl, trivial⟩ rfl ?_
  have hI1 : i0 ≤ x1.l.length := hI.1
  have hI2 : Q = (P1.take i0).filter nonE := hI.2
  have hP12 : P1.length ≤ 12 := hs1.1
  have hq1 := (hs1.take i0).non
  rw [← hI2] at hq1
  have hq2 := hq1.flat
  have hq3 := hq1.1
  refine d_seq ?_
  have hc : i0 < x1.l.length ∨ x1.l.length ≤ i0 := by omega
  rcases hc with hi | hi
  · skip
    obtain ⟨y0, hy0⟩ : ∃ y, x1.l[i0]? = some y := ⟨_, List.getElem?_eq_getElem hi⟩
    have hyP : P1[i0]? = some y0.2 := by rw [← hP1, List.getElem?_map, hy0]; rfl
    have hyl := hs1.2 _ (List.mem_of_getElem? hyP)
    have hi30 : i0 < 12 := by have := hs1.1; omega
    refine d_reg ?_
    refine h_q hflS rfl ?_
    refine h_val rfl (.int .i64 (x1.l.length : Int)) (fun b w hb hH => e_plen 1 Try.underlying38 rfl rfl rfl hH hb) ?_
    refine h_val rfl (.bool true) (fun b w hb hH => exec_cmp rfl rfl rfl (cmp_lss_t (by omega)) hb) ?_
    refine h_q hflS rfl ?_
    refine h_val rfl (.bool true) (fun b w hb hH => exec_cmp rfl rfl rfl (cmp_lss_t (by omega)) hb) ?_
    refine h_q hflS rfl ?_
    refine h_done (d_then rfl (d_skip (f_to (d_seq (d_block ?_)))))
    rcases (show y0.2.length = 0 ∨ 0 < y0.2.length by omega) with hz | hz
    · skip
      refine d_reg ?_
      refine h_q hflS rfl ?_
      refine h_val rfl (elp x1.v (i0 * 1)) (fun b w hb hH => e_pidx 1 sl_s_uint8 rfl i0 hi rfl rfl rfl hH hb) ?_
      refine h_val rfl (y0.1) (fun b w hb hH => e_pload 1 ty_s_uint8 rfl i0 hy0 rfl rfl hH hb) ?_
      refine h_val rfl (.int .i64 (y0.2.length : Int)) (fun b w hb hH => e_slen ((hH.rd8 1 rfl (prt_rd8m hy0)).rd) Try.underlying28 rfl rfl hb) ?_
      refine h_val rfl (.bool false) (fun b w hb hH => exec_cmp rfl rfl rfl (cmp_gtr_f (by omega)) hb) ?_
      refine h_done (d_else rfl (d_skip (f_block (f_to (d_reg1 ?_)))))
      refine h_q hflS rfl ?_
      refine h_val rfl (.int .i64 ((i0 + 1 : Nat) : Int)) (fun b w hb hH => exec_ar rfl rfl rfl rfl (by rw [IntWalk.i64_in _ (by omega)]; omega) hb) ?_
      refine h_q hflS rfl ?_
      refine h_nil ?_
      exact f_again (i0 + 1, Q, eu) 0 ⟨hi, by rw [hI2]; exact non_skip hyP (List.eq_nil_of_length_eq_zero hz)⟩ (show x1.l.length - (i0 + 1) < x1.l.length - i0 by omega) ⟨rfl, rfl, rfl, rfl, rfl, rfl, trivial⟩ rfl
    · skip
      refine d_reg ?_
      refine h_q hflS rfl ?_
      refine h_val rfl (elp x1.v (i0 * 1)) (fun b w hb hH => e_pidx 1 sl_s_uint8 rfl i0 hi rfl rfl rfl hH hb) ?_
      refine h_val rfl (y0.1) (fun b w hb hH => e_pload 1 ty_s_uint8 rfl i0 hy0 rfl rfl hH hb) ?_
      refine h_val rfl (.int .i64 (y0.2.length : Int)) (fun b w hb hH => e_slen ((hH.rd8 1 rfl (prt_rd8m hy0)).rd) Try.underlying28 rfl rfl hb) ?_
      refine h_val rfl (.bool true) (fun b w hb hH => exec_cmp rfl rfl rfl (cmp_gtr_t (by omega)) hb) ?_
      refine h_done (d_then rfl (d_reg ?_))
      refine h_q hflS rfl ?_
      refine h_val rfl (elp x1.v (i0 * 1)) (fun b w hb hH => e_pidx 1 sl_s_uint8 rfl i0 hi rfl rfl rfl hH hb) ?_
      refine h_val rfl (y0.1) (fun b w hb hH => e_pload 1 ty_s_uint8 rfl i0 hy0 rfl rfl hH hb) ?_
      refine h_val rfl (.string (bs y0.2)) (fun b w hb hH => exec_str8 Try.underlying28 Try.underlying5 (by kernel_rfl) Try.underlying9 (hH.rd8 1 rfl (prt_rd8m hy0)) rfl rfl hb) ?_
      refine h_val rfl (.string (bs ((Q ++ [y0.2]).flatten))) (fun b w hb hH => exec_catR (r := (Q ++ [y0.2]).flatten) (by simp) (by omega) rfl rfl rfl hb) ?_
      refine h_q hflS rfl ?_
      refine h_done (d_reg1 ?_)
      refine h_q hflS rfl ?_
      refine h_val rfl (.int .i64 (((Q ++ [y0.2]).flatten).length : Int)) (fun b w hb hH => exec_builtin2 rfl rfl (fun cs => (fun w cs => run_len_bs Try.underlying9 _ _ w cs) w cs) hb) ?_
      refine h_act (X := Value) (val := fun v : Value => v) (post := fun ub => [Vec 3 1 encI ub ([((Q ++ [y0.2]).flatten.length : Int)]), Vec 3 1 encI eu (endsOf Q), PartsT 28 x1.v x1.l]) rfl (by refine a_build1 (e := 3) (t := 41) (enc := encI) (x := .tmp 44) (c := .int .i64 ((Q ++ [y0.2]).flatten.length : Int)) ?_ ?_ ((Q ++ [y0.2]).flatten.length : Int) ?_ ?_ ?_; exact sl_int; exact okI; exact rfl; exact rfl; exact rfl) ?_; rintro ub
      refine h_act (post := fun eu2 => [Vec 3 1 encI ub ([((Q ++ [y0.2]).flatten.length : Int)]), Vec 3 1 encI eu2 (endsOf (Q ++ [y0.2])), PartsT 28 x1.v x1.l]) rfl (a_append 1 sl_int okI rfl ([((Q ++ [y0.2]).flatten.length : Int)]) (fun w hH => hH.vec 0 rfl okI) (by rw [ends_len]; simp only [List.length_cons, List.length_nil]; omega) rfl rfl rfl (ends_push Q y0.2)) ?_; rintro eu2
      refine h_q hflS rfl ?_
      refine h_nil (f_block (f_to (d_reg1 ?_)))
      refine h_q hflS rfl ?_
      refine h_val rfl (.int .i64 ((i0 + 1 : Nat) : Int)) (fun b w hb hH => exec_ar rfl rfl rfl rfl (by rw [IntWalk.i64_in _ (by omega)]; omega) hb) ?_
      refine h_q hflS rfl ?_
      refine h_nil ?_
      exact f_again (i0 + 1, Q ++ [y0.2], eu2) 1 ⟨hi, by rw [hI2]; exact non_push hyP (List.ne_nil_of_length_pos hz)⟩ (show x1.l.length - (i0 + 1) < x1.l.length - i0 by omega) ⟨rfl, rfl, rfl, rfl, rfl, rfl, trivial⟩ rfl
  · skip
    have hQP : Q = P1.filter nonE := by rw [hI2, List.take_of_length_le (by omega)]
    clear hI hI2
    have hqn : ∀ b, b ∈ Q → b ≠ [] := fun b hb => by rw [hQP] at hb; exact non_ne hb
    obtain ⟨a, hA⟩ : ∃ a : Nat, at0 % ((Q.flatten.length : Int) + 1) = (a : Int) := ⟨(at0 % ((Q.flatten.length : Int) + 1)).toNat, by have := Int.emod_nonneg at0 (show ((Q.flatten.length : Int) + 1) ≠ 0 by omega); omega⟩
    have ha : a ≤ Q.flatten.length := by have := Int.emod_lt_of_pos at0 (show (0 : Int) < (Q.flatten.length : Int) + 1 by omega); omega
    refine d_reg ?_
    refine h_q hflS rfl ?_
    refine h_val rfl (.int .i64 (x1.l.length : Int)) (fun b w hb hH => e_plen 1 Try.underlying38 rfl rfl rfl hH hb) ?_
    refine h_val rfl (.bool false) (fun b w hb hH => exec_cmp rfl rfl rfl (cmp_lss_f (by omega)) hb) ?_
    refine h_q hflS rfl ?_
    refine h_done (d_else rfl (d_exit (f_then_exit (f_then_exit (f_block_exit (f_to (d_reg ?_)))))))
    refine h_q hflS rfl ?_
    refine h_val rfl (.int .i64 (Q.flatten.length : Int)) (fun b w hb hH => exec_builtin2 rfl rfl (fun cs => (fun w cs => run_len_bs Try.underlying9 _ _ w cs) w cs) hb) ?_
    refine h_val rfl (.int .i64 ((Q.flatten.length : Int) + 1)) (fun b w hb hH => exec_ar rfl rfl rfl rfl (IntWalk.i64_in _ (by omega)) hb) ?_
    refine h_act (post := fun _ => [Vec 3 1 encI eu (endsOf Q), PartsT 28 x1.v x1.l]) rfl (a_call (ent_of Try.func20 (by kernel_rfl) rfl) (fun w hH => pick w at0 ((Q.flatten.length : Int) + 1) hat (by omega) hA) rfl rfl rfl) ?_; rintro ⟨⟩
    refine h_q hflS rfl ?_
    refine h_done (d_reg ?_)
    refine h_q hflS rfl ?_
    refine h_done (d_reg ?_)
    refine h_q hflS rfl ?_
    refine h_done (d_seq (d_reg ?_))
    refine h_q hflS rfl ?_
    refine h_done (d_block ?_)
    refine d_loop (α := Nat × Nat) (fun ⟨j, tn⟩ => [(4, .bool false), (0, x1.v), (5, .string (bs Q.flatten)), (6, eu), (1, .int .i64 (a : Int)), (8, .int .i64 ((j : Nat) : Int)), (9, .int .i64 ((tn : Nat) : Int)), (10, .int .i64 ((j : Nat) : Int))]) (fun ⟨j, tn⟩ => [Vec 3 1 encI eu (endsOf Q), PartsT 28 x1.v x1.l]) (fun ⟨j, tn⟩ => j ≤ Q.length ∧ (Q.take j).flatten.length ≤ a ∧ tn = a - (Q.take j).flatten.length) (fun ⟨j, tn⟩ => Q.length - j) (0, a) ⟨Nat.zero_le _, Nat.zero_le _, rfl⟩ ⟨rfl, rfl, rfl, rfl, rfl, rfl, rfl, rfl, trivial⟩ rfl ?_
    rintro ⟨j, tn⟩ hJ
    refine WC2.at_ (env' := [(4, .bool false), (0, x1.v), (5, .string (bs Q.flatten)), (6, eu), (1, .int .i64 (a : Int)), (8, .int .i64 ((j : Nat) : Int)), (9, .int .i64 ((tn : Nat) : Int)), (10, .int .i64 ((j : Nat) : Int))]) (rs' := [Vec 3 1 encI eu (endsOf Q), PartsT 28 x1.v x1.l]) ⟨rfl, rfl, rfl, rfl, rfl, rfl, rfl, rfl, trivial⟩ rfl ?_
    have hj1 : j ≤ Q.length := hJ.1
    have hj2 : (Q.take j).flatten.length ≤ a := hJ.2.1
    have hj3 : tn = a - (Q.take j).flatten.length := hJ.2.2
    refine d_seq ?_
    have hle := ends_len Q
    have hc : (j < Q.length ∧ (Q.take (j + 1)).flatten.length ≤ a) ∨ (j < Q.length ∧ a < (Q.take (j + 1)).flatten.length) ∨ Q.length ≤ j := by omega
    rcases hc with ⟨hjl, hje⟩ | ⟨hjl, hje⟩ | hjl
    · skip
      refine d_reg ?_
      refine h_q hflS rfl ?_
      refine h_val rfl (.int .i64 ((endsOf Q).length : Int)) (fun b w hb hH => e_vlen 0 Try.underlying41 rfl rfl rfl hH hb) ?_
      refine h_val rfl (.bool true) (fun b w hb hH => exec_cmp rfl rfl rfl (cmp_lss_t (by omega)) hb) ?_
      refine h_q hflS rfl ?_
      refine h_val rfl (elp eu (j * 1)) (fun b w hb hH => e_vidx 0 sl_int okI rfl j (by omega) rfl rfl rfl hH hb) ?_
      refine h_val rfl (.int .i64 (((Q.take (j + 1)).flatten.length : Nat) : Int)) (fun b w hb hH => e_vload1 0 ty_int okI rfl j (a := (((Q.take (j + 1)).flatten.length : Nat) : Int)) (ends_at hjl) rfl rfl rfl hH hb) ?_
      refine h_q hflS rfl ?_
      refine h_val rfl (.bool true) (fun b w hb hH => exec_cmp rfl rfl rfl (cmp_leq_t (by omega)) hb) ?_
      refine h_q hflS rfl ?_
      refine h_done (d_then rfl (d_skip (f_to (d_seq (d_block (d_reg ?_))))))
      refine h_q hflS rfl ?_
      refine h_val rfl (.int .i64 ((j + 1 : Nat) : Int)) (fun b w hb hH => exec_ar rfl rfl rfl rfl (by rw [IntWalk.i64_in _ (by omega)]; omega) hb) ?_
      refine h_q hflS rfl ?_
      refine h_done (d_reg1 ?_)
      refine h_q hflS rfl ?_
      refine h_val rfl (elp eu (j * 1)) (fun b w hb hH => e_vidx 0 sl_int okI rfl j (by omega) rfl rfl rfl hH hb) ?_
      refine h_val rfl (.int .i64 (((Q.take (j + 1)).flatten.length : Nat) : Int)) (fun b w hb hH => e_vload1 0 ty_int okI rfl j (a := (((Q.take (j + 1)).flatten.length : Nat) : Int)) (ends_at hjl) rfl rfl rfl hH hb) ?_
      refine h_val rfl (.int .i64 ((a - (Q.take (j + 1)).flatten.length : Nat) : Int)) (fun b w hb hH => exec_ar rfl rfl rfl rfl (by rw [IntWalk.i64_in _ (by omega)]; omega) hb) ?_
      refine h_q hflS rfl ?_
      refine h_nil (f_block (f_to (d_reg1 ?_)))
      refine h_q hflS rfl ?_
      refine h_val rfl (.int .i64 ((j + 1 : Nat) : Int)) (fun b w hb hH => exec_ar rfl rfl rfl rfl (by rw [IntWalk.i64_in _ (by omega)]; omega) hb) ?_
      refine h_q hflS rfl ?_
      refine h_nil ?_
      exact f_again (j + 1, a - (Q.take (j + 1)).flatten.length) 0 ⟨hjl, hje, rfl⟩ (show Q.length - (j + 1) < Q.length - j by omega) ⟨rfl, rfl, rfl, rfl, rfl, rfl, rfl, rfl, trivial⟩ rfl
    · skip
      have hlast : j = Q.length → a = Q.flatten.length := fun e => absurd e (by omega)
      have hnext : j < Q.length → a < (Q.take (j + 1)).flatten.length := fun _ => hje
      clear hJ
      have hkj : keepD (oneD [102] 1048576 none Q none) (j : Int) = j := by unfold keepD oneD; simp only [List.length_map]; rw [Int.emod_eq_of_lt (by omega) (by omega)]; omega
      refine d_reg ?_
      refine h_q hflS rfl ?_
      refine h_val rfl (.int .i64 ((endsOf Q).length : Int)) (fun b w hb hH => e_vlen 0 Try.underlying41 rfl rfl rfl hH hb) ?_
      refine h_val rfl (.bool true) (fun b w hb hH => exec_cmp rfl rfl rfl (cmp_lss_t (by omega)) hb) ?_
      refine h_q hflS rfl ?_
      refine h_val rfl (elp eu (j * 1)) (fun b w hb hH => e_vidx 0 sl_int okI rfl j (by omega) rfl rfl rfl hH hb) ?_
      refine h_val rfl (.int .i64 (((Q.take (j + 1)).flatten.length : Nat) : Int)) (fun b w hb hH => e_vload1 0 ty_int okI rfl j (a := (((Q.take (j + 1)).flatten.length : Nat) : Int)) (ends_at hjl) rfl rfl rfl hH hb) ?_
      refine h_q hflS rfl ?_
      refine h_val rfl (.bool false) (fun b w hb hH => exec_cmp rfl rfl rfl (cmp_leq_f (by omega)) hb) ?_
      refine h_q hflS rfl ?_
      refine h_done (d_else rfl (d_exit (f_then_exit (f_then_exit (f_block_exit (f_to (d_reg ?_)))))))
      refine h_q hflS rfl ?_
      refine h_act (post := fun p => [DiskT p (newD 1048576), Vec 3 1 encI eu (endsOf Q), PartsT 28 x1.v x1.l]) rfl (a_does (os' := fun p => [DiskT p (newD 1048576), Vec 3 1 encI eu (endsOf Q), PartsT 28 x1.v x1.l]) [] 0 (ent_of Try.func8 (by kernel_rfl) rfl) (disk_new 1048576 (by decide)) rfl rfl rfl (fun _ => rfl) rfl rfl rfl) ?_; rintro p
      refine h_q hflS rfl ?_
      refine h_done (d_seq (d_reg ?_))
      refine h_q hflS rfl ?_
      refine h_act (post := fun _ => [DiskT p (newD 1048576), Vec 3 1 encI eu (endsOf Q), PartsT 28 x1.v x1.l]) rfl (a_call (ent_of Try.func9 (by kernel_rfl) rfl) (fun w hH => known7_true w) rfl rfl rfl) ?_; rintro ⟨⟩
      refine h_q hflS rfl ?_
      refine h_val rfl (.bool false) (fun b w hb hH => exec_cmp rfl rfl rfl (cmp_neq_f (by decide)) hb) ?_
      refine h_q hflS rfl ?_
      refine h_val rfl (.bool false) (fun b w hb hH => exec_pnil_eql (by kernel_rfl) rfl rfl rfl hb) ?_
      refine h_q hflS rfl ?_
      refine h_done (d_else rfl (d_skip (f_to (d_seq (d_reg ?_)))))
      refine h_q hflS rfl ?_
      refine h_done (d_block ?_)
      refine d_loop (α := Nat × List (List UInt8)) (fun ⟨i1, Q2⟩ => [(4, .bool false), (0, x1.v), (5, .string (bs Q.flatten)), (1, .int .i64 (a : Int)), (8, .int .i64 ((j : Nat) : Int)), (9, .int .i64 ((tn : Nat) : Int)), (11, .pointer (some ⟨p, 0, none⟩)), (13, .int .i64 ((i1 : Nat) : Int))]) (fun ⟨i1, Q2⟩ => [DiskT p (oneD [102] 1048576 none Q2 none), Vec 3 1 encI eu (endsOf Q), PartsT 28 x1.v x1.l]) (fun ⟨i1, Q2⟩ => i1 ≤ x1.l.length ∧ Q2 = (P1.take i1).filter nonE) (fun ⟨i1, Q2⟩ => x1.l.length - i1) (0, []) ⟨Nat.zero_le _, rfl⟩ ⟨rfl, rfl, rfl, rfl, rfl, rfl, rfl, rfl, trivial⟩ rfl ?_
      rintro ⟨i1, Q2⟩ hI
      refine WC2.at_ (env' := [(4, .bool false), (0, x1.v), (5, .string (bs Q.flatten)), (1, .int .i64 (a : Int)), (8, .int .i64 ((j : Nat) : Int)), (9, .int .i64 ((tn : Nat) : Int)), (11, .pointer (some ⟨p, 0, none⟩)), (13, .int .i64 ((i1 : Nat) : Int))]) (rs' := [DiskT p (oneD [102] 1048576 none Q2 none), Vec 3 1 encI eu (endsOf Q), PartsT 28 x1.v x1.l]) ⟨rfl, rfl, rfl, rfl, rfl, rfl, rfl, rfl, trivial⟩ rfl ?_
      have hI1 : i1 ≤ x1.l.length := hI.1
      have hI2 : Q2 = (P1.take i1).filter nonE := hI.2
      have hP12 : P1.length ≤ 12 := hs1.1
      have hq1 := (hs1.take i1).non
      rw [← hI2] at hq1
      have hq2 := hq1.flat
      have hq3 := hq1.1
      refine d_seq ?_
      have hc : i1 < x1.l.length ∨ x1.l.length ≤ i1 := by omega
      rcases hc with hi | hi
      · skip
        obtain ⟨z0, hz0⟩ : ∃ y, x1.l[i1]? = some y := ⟨_, List.getElem?_eq_getElem hi⟩
        have hyP : P1[i1]? = some z0.2 := by rw [← hP1, List.getElem?_map, hz0]; rfl
        have hyl := hs1.2 _ (List.mem_of_getElem? hyP)
        have hi30 : i1 < 12 := by have := hs1.1; omega
        refine d_reg ?_
        refine h_q hflS rfl ?_
        refine h_val rfl (.int .i64 (x1.l.length : Int)) (fun b w hb hH => e_plen 2 Try.underlying38 rfl rfl rfl hH hb) ?_
        refine h_val rfl (.bool true) (fun b w hb hH => exec_cmp rfl rfl rfl (cmp_lss_t (by omega)) hb) ?_
        refine h_q hflS rfl ?_
        refine h_val rfl (.bool true) (fun b w hb hH => exec_cmp rfl rfl rfl (cmp_lss_t (by omega)) hb) ?_
        refine h_q hflS rfl ?_
        refine h_done (d_then rfl (d_skip (f_to (d_seq (d_block ?_)))))
        rcases (show z0.2.length = 0 ∨ 0 < z0.2.length by omega) with hz | hz
        · skip
          refine d_reg ?_
          refine h_q hflS rfl ?_
          refine h_val rfl (elp x1.v (i1 * 1)) (fun b w hb hH => e_pidx 2 sl_s_uint8 rfl i1 hi rfl rfl rfl hH hb) ?_
          refine h_val rfl (z0.1) (fun b w hb hH => e_pload 2 ty_s_uint8 rfl i1 hz0 rfl rfl hH hb) ?_
          refine h_val rfl (.int .i64 (z0.2.length : Int)) (fun b w hb hH => e_slen ((hH.rd8 2 rfl (prt_rd8m hz0)).rd) Try.underlying28 rfl rfl hb) ?_
          refine h_val rfl (.bool false) (fun b w hb hH => exec_cmp rfl rfl rfl (cmp_gtr_f (by omega)) hb) ?_
          refine h_done (d_else rfl (d_skip (f_block (f_to (d_reg1 ?_)))))
          refine h_q hflS rfl ?_
          refine h_val rfl (.int .i64 ((i1 + 1 : Nat) : Int)) (fun b w hb hH => exec_ar rfl rfl rfl rfl (by rw [IntWalk.i64_in _ (by omega)]; omega) hb) ?_
          refine h_q hflS rfl ?_
          refine h_nil ?_
          exact f_again (i1 + 1, Q2) 0 ⟨hi, by rw [hI2]; exact non_skip hyP (List.eq_nil_of_length_eq_zero hz)⟩ (show x1.l.length - (i1 + 1) < x1.l.length - i1 by omega) ⟨rfl, rfl, rfl, rfl, rfl, rfl, rfl, rfl, trivial⟩ rfl
        · skip
          refine d_reg ?_
          refine h_q hflS rfl ?_
          refine h_val rfl (elp x1.v (i1 * 1)) (fun b w hb hH => e_pidx 2 sl_s_uint8 rfl i1 hi rfl rfl rfl hH hb) ?_
          refine h_val rfl (z0.1) (fun b w hb hH => e_pload 2 ty_s_uint8 rfl i1 hz0 rfl rfl hH hb) ?_
          refine h_val rfl (.int .i64 (z0.2.length : Int)) (fun b w hb hH => e_slen ((hH.rd8 2 rfl (prt_rd8m hz0)).rd) Try.underlying28 rfl rfl hb) ?_
          refine h_val rfl (.bool true) (fun b w hb hH => exec_cmp rfl rfl rfl (cmp_gtr_t (by omega)) hb) ?_
          refine h_done (d_then rfl (d_reg1 ?_))
          refine h_q hflS rfl ?_
          refine h_val rfl (elp x1.v (i1 * 1)) (fun b w hb hH => e_pidx 2 sl_s_uint8 rfl i1 hi rfl rfl rfl hH hb) ?_
          refine h_val rfl (z0.1) (fun b w hb hH => e_pload 2 ty_s_uint8 rfl i1 hz0 rfl rfl hH hb) ?_
          refine h_act (post := fun _ => [DiskT p (oneD [102] 1048576 none (Q2 ++ [z0.2]) none), Vec 3 1 encI eu (endsOf Q), PartsT 28 x1.v x1.l]) rfl (a_does (os' := fun _ => [DiskT p (oneD [102] 1048576 none (Q2 ++ [z0.2]) none), Vec 3 1 encI eu (endsOf Q), PartsT 28 x1.v x1.l]) [0, 2] 0 (ent_of Try.func10 (by kernel_rfl) rfl) (app_one (by decide) (by simp) (by simp only [Option.getD_none, List.length_nil]; omega) (by decide) (by omega) (prt_rd8m hz0)) rfl rfl rfl (fun _ => rfl) rfl rfl rfl) ?_; rintro ⟨⟩
          refine h_nil (f_block (f_to (d_reg1 ?_)))
          refine h_q hflS rfl ?_
          refine h_val rfl (.int .i64 ((i1 + 1 : Nat) : Int)) (fun b w hb hH => exec_ar rfl rfl rfl rfl (by rw [IntWalk.i64_in _ (by omega)]; omega) hb) ?_
          refine h_q hflS rfl ?_
          refine h_nil ?_
          exact f_again (i1 + 1, Q2 ++ [z0.2]) 0 ⟨hi, by rw [hI2]; exact non_push hyP (List.ne_nil_of_length_pos hz)⟩ (show x1.l.length - (i1 + 1) < x1.l.length - i1 by omega) ⟨rfl, rfl, rfl, rfl, rfl, rfl, rfl, rfl, trivial⟩ rfl
      · skip
        have hps2 : Q = Q2 := by rw [hI2, List.take_of_length_le (by omega), hQP]
        clear hI hI2
        subst hps2
        refine d_reg ?_
        refine h_q hflS rfl ?_
        refine h_val rfl (.int .i64 (x1.l.length : Int)) (fun b w hb hH => e_plen 2 Try.underlying38 rfl rfl rfl hH hb) ?_
        refine h_val rfl (.bool false) (fun b w hb hH => exec_cmp rfl rfl rfl (cmp_lss_f (by omega)) hb) ?_
        refine h_q hflS rfl ?_
        refine h_done (d_else rfl (d_exit (f_then_exit (f_then_exit (f_block_exit (f_to ?_))))))
        obtain ⟨s, hcr, hsb, hso⟩ := cut_at hqn hj1 hj2 hlast hnext
        rw [← hj3] at hcr
        obtain ⟨ok, hok⟩ : ∃ ok, decide (0 < a) = ok := ⟨_, rfl⟩
        refine d_reg ?_
        refine h_q hflS rfl ?_
        refine h_act (post := fun _ => [DiskT p (oneD [102] 1048576 s ([]) none), Vec 3 1 encI eu (endsOf Q), PartsT 28 x1.v x1.l]) rfl (a_does (os' := fun _ => [DiskT p (oneD [102] 1048576 s ([]) none), Vec 3 1 encI eu (endsOf Q), PartsT 28 x1.v x1.l]) [0] 0 (ent_of Try.func13 (by kernel_rfl) rfl) (disk_crash (k := j) (oneD_fit' (by simp only [Option.getD_none, List.length_nil]; omega) (by omega)) (by omega) (by omega) hkj hcr) rfl rfl rfl (fun _ => rfl) rfl rfl rfl) ?_; rintro ⟨⟩
        refine h_q hflS rfl ?_
        refine h_done (d_reg ?_)
        refine h_q hflS rfl ?_
        refine h_act (post := fun b1 => [Vec 5 1 encB b1 (Q.flatten.take a), DiskT p (oneD [102] 1048576 s ([]) none), Vec 3 1 encI eu (endsOf Q), PartsT 28 x1.v x1.l]) rfl (a_does (os' := fun b1 => [Vec 5 1 encB b1 (Q.flatten.take a), DiskT p (oneD [102] 1048576 s ([]) none), Vec 3 1 encI eu (endsOf Q), PartsT 28 x1.v x1.l]) [0] 0 (ent_of Try.func14 (by kernel_rfl) rfl) (disk_read (n := [102]) (oneD_fit' (by rw [hsb, List.length_take]; simp only [List.flatten_nil, List.length_nil]; omega) (by decide)) (ok := ok) (by rw [oneD_read]; exact hso.trans hok) (by rw [oneD_read, catO_getD, List.flatten_nil, List.append_nil]; exact hsb)) rfl rfl rfl (fun _ => rfl) rfl rfl rfl) ?_; rintro b1
        refine h_q hflS rfl ?_
        refine h_done (d_seq ?_)
        refine d_parS 17 0 [⟨.quiet, [], fun _ => .int .i64 ((j : Nat) : Int), []⟩, ⟨.quiet, [], fun _ => .int .i64 ((j : Nat) : Int), []⟩, ⟨.quiet, [], fun _ => .bool true, [0, 1]⟩, ⟨.quiet, [], fun _ => .bool true, [2]⟩, ⟨.quiet, [], fun _ => b1, [3]⟩, ⟨.quiet, [], fun _ => .string (bs (Q.flatten.take a)), [4, 3]⟩, ⟨.quiet, [], fun _ => .string (bs Q.flatten), [3]⟩, ⟨.quiet, [], fun _ => .int .i64 (a : Int), [3]⟩, ⟨.quiet, [], fun _ => .string (bs (Q.flatten.take a)), [6, 7, 3]⟩, ⟨.quiet, [], fun _ => .bool true, [5, 8, 3]⟩, ⟨.quiet, [], fun _ => .bool true, [3, 9]⟩, ⟨.quiet, [], fun _ => .bool true, [10]⟩, ⟨.quiet, [], fun _ => .bool ok, [11]⟩, ⟨.quiet, [], fun _ => .int .i64 (a : Int), [11]⟩, ⟨.quiet, [], fun _ => .bool ok, [13, 11]⟩, ⟨.quiet, [], fun _ => .bool true, [12, 14, 11]⟩, ⟨.quiet, [], fun _ => .bool true, [11, 15]⟩] [(4, .bool false), (5, .string (bs Q.flatten)), (1, .int .i64 (a : Int)), (8, .int .i64 ((j : Nat) : Int)), (14, .int .i64 ((j : Nat) : Int)), (15, b1), (16, .bool ok)] (fun _ => [Vec 5 1 encB b1 (Q.flatten.take a), DiskT p (oneD [102] 1048576 s ([]) none), Vec 3 1 encI eu (endsOf Q), PartsT 28 x1.v x1.l]) (by kernel_rfl) (by kernel_rfl) ⟨rfl, rfl, rfl, rfl, rfl, rfl, rfl, trivial⟩ rfl ?_ ?_
        · skip
          refine s_cons (by exact ⟨rfl, fun b w hH hb => exec_q1 hflS rfl hb⟩) ?_
          refine s_cons (by exact ⟨rfl, fun b w hH hb => exec_q1 hflS rfl hb⟩) ?_
          refine s_cons (by exact ⟨rfl, fun b w hH hb => exec_cmp rfl rfl rfl (cmp_eql_t rfl) hb⟩) ?_
          refine s_cons (by exact ⟨rfl, fun b w hH hb => exec_q1 hflS rfl hb⟩) ?_
          refine s_cons (by exact ⟨rfl, fun b w hH hb => exec_q1 hflS rfl hb⟩) ?_
          refine s_cons (by exact ⟨rfl, fun b w hH hb => exec_str8 Try.underlying28 Try.underlying5 (by kernel_rfl) Try.underlying9 (hH.sl8 0 rfl) rfl rfl hb⟩) ?_
          refine s_cons (by exact ⟨rfl, fun b w hH hb => exec_q1 hflS rfl hb⟩) ?_
          refine s_cons (by exact ⟨rfl, fun b w hH hb => exec_q1 hflS rfl hb⟩) ?_
          refine s_cons (by exact ⟨rfl, fun b w hH hb => exec_cutR (i := 0) (j := a) (r := Q.flatten.take a) Try.underlying9 rfl (Nat.zero_le _) ha rfl rfl rfl ⟨_, rfl⟩ hb⟩) ?_
          refine s_cons (by exact ⟨rfl, fun b w hH hb => exec_same rfl rfl rfl (by simp) hb⟩) ?_
          refine s_cons (by exact ⟨rfl, fun b w hH hb => exec_q1 hflS rfl hb⟩) ?_
          refine s_cons (by exact ⟨rfl, fun b w hH hb => exec_q1 hflS rfl hb⟩) ?_
          refine s_cons (by exact ⟨rfl, fun b w hH hb => exec_q1 hflS rfl hb⟩) ?_
          refine s_cons (by exact ⟨rfl, fun b w hH hb => exec_q1 hflS rfl hb⟩) ?_
          refine s_cons (by exact ⟨rfl, fun b w hH hb => exec_cmp rfl rfl rfl (by rw [← hok]; simp [cmpB]) hb⟩) ?_
          refine s_cons (by exact ⟨rfl, fun b w hH hb => exec_eqs (eqB_same _) rfl rfl rfl hb⟩) ?_
          refine s_cons (by exact ⟨rfl, fun b w hH hb => exec_q1 hflS rfl hb⟩) ?_
          exact s_nil
        refine WL2.keep (env' := [(4, .bool false), (136, .bool true)]) ⟨rfl, rfl, trivial⟩ ?_
        refine h_q hflS rfl ?_
        refine h_nil (f_to (d_ret ?_))
        exact f_fin1 (.tmp rfl) (fun w h => ⟨rfl, below0 h.up⟩) rfl
    · skip
      have hlast : j = Q.length → a = Q.flatten.length := fun e => by rw [List.take_of_length_le hjl] at hj2; omega
      have hnext : j < Q.length → a < (Q.take (j + 1)).flatten.length := fun e => absurd e (by omega)
      clear hJ
      have hkj : keepD (oneD [102] 1048576 none Q none) (j : Int) = j := by unfold keepD oneD; simp only [List.length_map]; rw [Int.emod_eq_of_lt (by omega) (by omega)]; omega
      refine d_reg ?_
      refine h_q hflS rfl ?_
      refine h_val rfl (.int .i64 ((endsOf Q).length : Int)) (fun b w hb hH => e_vlen 0 Try.underlying41 rfl rfl rfl hH hb) ?_
      refine h_val rfl (.bool false) (fun b w hb hH => exec_cmp rfl rfl rfl (cmp_lss_f (by omega)) hb) ?_
      refine h_q hflS rfl ?_
      refine h_done (d_else rfl (d_exit (f_then_exit (f_then_exit (f_block_exit (f_to (d_reg ?_)))))))
      refine h_q hflS rfl ?_
      refine h_act (post := fun p => [DiskT p (newD 1048576), Vec 3 1 encI eu (endsOf Q), PartsT 28 x1.v x1.l]) rfl (a_does (os' := fun p => [DiskT p (newD 1048576), Vec 3 1 encI eu (endsOf Q), PartsT 28 x1.v x1.l]) [] 0 (ent_of Try.func8 (by kernel_rfl) rfl) (disk_new 1048576 (by decide)) rfl rfl rfl (fun _ => rfl) rfl rfl rfl) ?_; rintro p
      refine h_q hflS rfl ?_
      refine h_done (d_seq (d_reg ?_))
      refine h_q hflS rfl ?_
      refine h_act (post := fun _ => [DiskT p (newD 1048576), Vec 3 1 encI eu (endsOf Q), PartsT 28 x1.v x1.l]) rfl (a_call (ent_of Try.func9 (by kernel_rfl) rfl) (fun w hH => known7_true w) rfl rfl rfl) ?_; rintro ⟨⟩
      refine h_q hflS rfl ?_
      refine h_val rfl (.bool false) (fun b w hb hH => exec_cmp rfl rfl rfl (cmp_neq_f (by decide)) hb) ?_
      refine h_q hflS rfl ?_
      refine h_val rfl (.bool false) (fun b w hb hH => exec_pnil_eql (by kernel_rfl) rfl rfl rfl hb) ?_
      refine h_q hflS rfl ?_
      refine h_done (d_else rfl (d_skip (f_to (d_seq (d_reg ?_)))))
      refine h_q hflS rfl ?_
      refine h_done (d_block ?_)
      refine d_loop (α := Nat × List (List UInt8)) (fun ⟨i1, Q2⟩ => [(4, .bool false), (0, x1.v), (5, .string (bs Q.flatten)), (1, .int .i64 (a : Int)), (8, .int .i64 ((j : Nat) : Int)), (9, .int .i64 ((tn : Nat) : Int)), (11, .pointer (some ⟨p, 0, none⟩)), (13, .int .i64 ((i1 : Nat) : Int))]) (fun ⟨i1, Q2⟩ => [DiskT p (oneD [102] 1048576 none Q2 none), Vec 3 1 encI eu (endsOf Q), PartsT 28 x1.v x1.l]) (fun ⟨i1, Q2⟩ => i1 ≤ x1.l.length ∧ Q2 = (P1.take i1).filter nonE) (fun ⟨i1, Q2⟩ => x1.l.length - i1) (0, []) ⟨Nat.zero_le _, rfl⟩ ⟨rfl, rfl, rfl, rfl, rfl, rfl, rfl, rfl, trivial⟩ rfl ?_
      rintro ⟨i1, Q2⟩ hI
      refine WC2.at_ (env' := [(4, .bool false), (0, x1.v), (5, .string (bs Q.flatten)), (1, .int .i64 (a : Int)), (8, .int .i64 ((j : Nat) : Int)), (9, .int .i64 ((tn : Nat) : Int)), (11, .pointer (some ⟨p, 0, none⟩)), (13, .int .i64 ((i1 : Nat) : Int))]) (rs' := [DiskT p (oneD [102] 1048576 none Q2 none), Vec 3 1 encI eu (endsOf Q), PartsT 28 x1.v x1.l]) ⟨rfl, rfl, rfl, rfl, rfl, rfl, rfl, rfl, trivial⟩ rfl ?_
      have hI1 : i1 ≤ x1.l.length := hI.1
      have hI2 : Q2 = (P1.take i1).filter nonE := hI.2
      have hP12 : P1.length ≤ 12 := hs1.1
      have hq1 := (hs1.take i1).non
      rw [← hI2] at hq1
      have hq2 := hq1.flat
      have hq3 := hq1.1
      refine d_seq ?_
      have hc : i1 < x1.l.length ∨ x1.l.length ≤ i1 := by omega
      rcases hc with hi | hi
      · skip
        obtain ⟨z0, hz0⟩ : ∃ y, x1.l[i1]? = some y := ⟨_, List.getElem?_eq_getElem hi⟩
        have hyP : P1[i1]? = some z0.2 := by rw [← hP1, List.getElem?_map, hz0]; rfl
        have hyl := hs1.2 _ (List.mem_of_getElem? hyP)
        have hi30 : i1 < 12 := by have := hs1.1; omega
        refine d_reg ?_
        refine h_q hflS rfl ?_
        refine h_val rfl (.int .i64 (x1.l.length : Int)) (fun b w hb hH => e_plen 2 Try.underlying38 rfl rfl rfl hH hb) ?_
        refine h_val rfl (.bool true) (fun b w hb hH => exec_cmp rfl rfl rfl (cmp_lss_t (by omega)) hb) ?_
        refine h_q hflS rfl ?_
        refine h_val rfl (.bool true) (fun b w hb hH => exec_cmp rfl rfl rfl (cmp_lss_t (by omega)) hb) ?_
        refine h_q hflS rfl ?_
        refine h_done (d_then rfl (d_skip (f_to (d_seq (d_block ?_)))))
        rcases (show z0.2.length = 0 ∨ 0 < z0.2.length by omega) with hz | hz
        · skip
          refine d_reg ?_
          refine h_q hflS rfl ?_
          refine h_val rfl (elp x1.v (i1 * 1)) (fun b w hb hH => e_pidx 2 sl_s_uint8 rfl i1 hi rfl rfl rfl hH hb) ?_
          refine h_val rfl (z0.1) (fun b w hb hH => e_pload 2 ty_s_uint8 rfl i1 hz0 rfl rfl hH hb) ?_
          refine h_val rfl (.int .i64 (z0.2.length : Int)) (fun b w hb hH => e_slen ((hH.rd8 2 rfl (prt_rd8m hz0)).rd) Try.underlying28 rfl rfl hb) ?_
          refine h_val rfl (.bool false) (fun b w hb hH => exec_cmp rfl rfl rfl (cmp_gtr_f (by omega)) hb) ?_
          refine h_done (d_else rfl (d_skip (f_block (f_to (d_reg1 ?_)))))
          refine h_q hflS rfl ?_
          refine h_val rfl (.int .i64 ((i1 + 1 : Nat) : Int)) (fun b w hb hH => exec_ar rfl rfl rfl rfl (by rw [IntWalk.i64_in _ (by omega)]; omega) hb) ?_
          refine h_q hflS rfl ?_
          refine h_nil ?_
          exact f_again (i1 + 1, Q2) 0 ⟨hi, by rw [hI2]; exact non_skip hyP (List.eq_nil_of_length_eq_zero hz)⟩ (show x1.l.length - (i1 + 1) < x1.l.length - i1 by omega) ⟨rfl, rfl, rfl, rfl, rfl, rfl, rfl, rfl, trivial⟩ rfl
        · skip
          refine d_reg ?_
          refine h_q hflS rfl ?_
          refine h_val rfl (elp x1.v (i1 * 1)) (fun b w hb hH => e_pidx 2 sl_s_uint8 rfl i1 hi rfl rfl rfl hH hb) ?_
          refine h_val rfl (z0.1) (fun b w hb hH => e_pload 2 ty_s_uint8 rfl i1 hz0 rfl rfl hH hb) ?_
          refine h_val rfl (.int .i64 (z0.2.length : Int)) (fun b w hb hH => e_slen ((hH.rd8 2 rfl (prt_rd8m hz0)).rd) Try.underlying28 rfl rfl hb) ?_
          refine h_val rfl (.bool true) (fun b w hb hH => exec_cmp rfl rfl rfl (cmp_gtr_t (by omega)) hb) ?_
          refine h_done (d_then rfl (d_reg1 ?_))
          refine h_q hflS rfl ?_
          refine h_val rfl (elp x1.v (i1 * 1)) (fun b w hb hH => e_pidx 2 sl_s_uint8 rfl i1 hi rfl rfl rfl hH hb) ?_
          refine h_val rfl (z0.1) (fun b w hb hH => e_pload 2 ty_s_uint8 rfl i1 hz0 rfl rfl hH hb) ?_
          refine h_act (post := fun _ => [DiskT p (oneD [102] 1048576 none (Q2 ++ [z0.2]) none), Vec 3 1 encI eu (endsOf Q), PartsT 28 x1.v x1.l]) rfl (a_does (os' := fun _ => [DiskT p (oneD [102] 1048576 none (Q2 ++ [z0.2]) none), Vec 3 1 encI eu (endsOf Q), PartsT 28 x1.v x1.l]) [0, 2] 0 (ent_of Try.func10 (by kernel_rfl) rfl) (app_one (by decide) (by simp) (by simp only [Option.getD_none, List.length_nil]; omega) (by decide) (by omega) (prt_rd8m hz0)) rfl rfl rfl (fun _ => rfl) rfl rfl rfl) ?_; rintro ⟨⟩
          refine h_nil (f_block (f_to (d_reg1 ?_)))
          refine h_q hflS rfl ?_
          refine h_val rfl (.int .i64 ((i1 + 1 : Nat) : Int)) (fun b w hb hH => exec_ar rfl rfl rfl rfl (by rw [IntWalk.i64_in _ (by omega)]; omega) hb) ?_
          refine h_q hflS rfl ?_
          refine h_nil ?_
          exact f_again (i1 + 1, Q2 ++ [z0.2]) 0 ⟨hi, by rw [hI2]; exact non_push hyP (List.ne_nil_of_length_pos hz)⟩ (show x1.l.length - (i1 + 1) < x1.l.length - i1 by omega) ⟨rfl, rfl, rfl, rfl, rfl, rfl, rfl, rfl, trivial⟩ rfl
      · skip
        have hps2 : Q = Q2 := by rw [hI2, List.take_of_length_le (by omega), hQP]
        clear hI hI2
        subst hps2
        refine d_reg ?_
        refine h_q hflS rfl ?_
        refine h_val rfl (.int .i64 (x1.l.length : Int)) (fun b w hb hH => e_plen 2 Try.underlying38 rfl rfl rfl hH hb) ?_
        refine h_val rfl (.bool false) (fun b w hb hH => exec_cmp rfl rfl rfl (cmp_lss_f (by omega)) hb) ?_
        refine h_q hflS rfl ?_
        refine h_done (d_else rfl (d_exit (f_then_exit (f_then_exit (f_block_exit (f_to ?_))))))
        obtain ⟨s, hcr, hsb, hso⟩ := cut_at hqn hj1 hj2 hlast hnext
        rw [← hj3] at hcr
        obtain ⟨ok, hok⟩ : ∃ ok, decide (0 < a) = ok := ⟨_, rfl⟩
        refine d_reg ?_
        refine h_q hflS rfl ?_
        refine h_act (post := fun _ => [DiskT p (oneD [102] 1048576 s ([]) none), Vec 3 1 encI eu (endsOf Q), PartsT 28 x1.v x1.l]) rfl (a_does (os' := fun _ => [DiskT p (oneD [102] 1048576 s ([]) none), Vec 3 1 encI eu (endsOf Q), PartsT 28 x1.v x1.l]) [0] 0 (ent_of Try.func13 (by kernel_rfl) rfl) (disk_crash (k := j) (oneD_fit' (by simp only [Option.getD_none, List.length_nil]; omega) (by omega)) (by omega) (by omega) hkj hcr) rfl rfl rfl (fun _ => rfl) rfl rfl rfl) ?_; rintro ⟨⟩
        refine h_q hflS rfl ?_
        refine h_done (d_reg ?_)
        refine h_q hflS rfl ?_
        refine h_act (post := fun b1 => [Vec 5 1 encB b1 (Q.flatten.take a), DiskT p (oneD [102] 1048576 s ([]) none), Vec 3 1 encI eu (endsOf Q), PartsT 28 x1.v x1.l]) rfl (a_does (os' := fun b1 => [Vec 5 1 encB b1 (Q.flatten.take a), DiskT p (oneD [102] 1048576 s ([]) none), Vec 3 1 encI eu (endsOf Q), PartsT 28 x1.v x1.l]) [0] 0 (ent_of Try.func14 (by kernel_rfl) rfl) (disk_read (n := [102]) (oneD_fit' (by rw [hsb, List.length_take]; simp only [List.flatten_nil, List.length_nil]; omega) (by decide)) (ok := ok) (by rw [oneD_read]; exact hso.trans hok) (by rw [oneD_read, catO_getD, List.flatten_nil, List.append_nil]; exact hsb)) rfl rfl rfl (fun _ => rfl) rfl rfl rfl) ?_; rintro b1
        refine h_q hflS rfl ?_
        refine h_done (d_seq ?_)
        refine d_parS 17 0 [⟨.quiet, [], fun _ => .int .i64 ((j : Nat) : Int), []⟩, ⟨.quiet, [], fun _ => .int .i64 ((j : Nat) : Int), []⟩, ⟨.quiet, [], fun _ => .bool true, [0, 1]⟩, ⟨.quiet, [], fun _ => .bool true, [2]⟩, ⟨.quiet, [], fun _ => b1, [3]⟩, ⟨.quiet, [], fun _ => .string (bs (Q.flatten.take a)), [4, 3]⟩, ⟨.quiet, [], fun _ => .string (bs Q.flatten), [3]⟩, ⟨.quiet, [], fun _ => .int .i64 (a : Int), [3]⟩, ⟨.quiet, [], fun _ => .string (bs (Q.flatten.take a)), [6, 7, 3]⟩, ⟨.quiet, [], fun _ => .bool true, [5, 8, 3]⟩, ⟨.quiet, [], fun _ => .bool true, [3, 9]⟩, ⟨.quiet, [], fun _ => .bool true, [10]⟩, ⟨.quiet, [], fun _ => .bool ok, [11]⟩, ⟨.quiet, [], fun _ => .int .i64 (a : Int), [11]⟩, ⟨.quiet, [], fun _ => .bool ok, [13, 11]⟩, ⟨.quiet, [], fun _ => .bool true, [12, 14, 11]⟩, ⟨.quiet, [], fun _ => .bool true, [11, 15]⟩] [(4, .bool false), (5, .string (bs Q.flatten)), (1, .int .i64 (a : Int)), (8, .int .i64 ((j : Nat) : Int)), (14, .int .i64 ((j : Nat) : Int)), (15, b1), (16, .bool ok)] (fun _ => [Vec 5 1 encB b1 (Q.flatten.take a), DiskT p (oneD [102] 1048576 s ([]) none), Vec 3 1 encI eu (endsOf Q), PartsT 28 x1.v x1.l]) (by kernel_rfl) (by kernel_rfl) ⟨rfl, rfl, rfl, rfl, rfl, rfl, rfl, trivial⟩ rfl ?_ ?_
        · skip
          refine s_cons (by exact ⟨rfl, fun b w hH hb => exec_q1 hflS rfl hb⟩) ?_
          refine s_cons (by exact ⟨rfl, fun b w hH hb => exec_q1 hflS rfl hb⟩) ?_
          refine s_cons (by exact ⟨rfl, fun b w hH hb => exec_cmp rfl rfl rfl (cmp_eql_t rfl) hb⟩) ?_
          refine s_cons (by exact ⟨rfl, fun b w hH hb => exec_q1 hflS rfl hb⟩) ?_
          refine s_cons (by exact ⟨rfl, fun b w hH hb => exec_q1 hflS rfl hb⟩) ?_
          refine s_cons (by exact ⟨rfl, fun b w hH hb => exec_str8 Try.underlying28 Try.underlying5 (by kernel_rfl) Try.underlying9 (hH.sl8 0 rfl) rfl rfl hb⟩) ?_
          refine s_cons (by exact ⟨rfl, fun b w hH hb => exec_q1 hflS rfl hb⟩) ?_
          refine s_cons (by exact ⟨rfl, fun b w hH hb => exec_q1 hflS rfl hb⟩) ?_
          refine s_cons (by exact ⟨rfl, fun b w hH hb => exec_cutR (i := 0) (j := a) (r := Q.flatten.take a) Try.underlying9 rfl (Nat.zero_le _) ha rfl rfl rfl ⟨_, rfl⟩ hb⟩) ?_
          refine s_cons (by exact ⟨rfl, fun b w hH hb => exec_same rfl rfl rfl (by simp) hb⟩) ?_
          refine s_cons (by exact ⟨rfl, fun b w hH hb => exec_q1 hflS rfl hb⟩) ?_
          refine s_cons (by exact ⟨rfl, fun b w hH hb => exec_q1 hflS rfl hb⟩) ?_
          refine s_cons (by exact ⟨rfl, fun b w hH hb => exec_q1 hflS rfl hb⟩) ?_
          refine s_cons (by exact ⟨rfl, fun b w hH hb => exec_q1 hflS rfl hb⟩) ?_
          refine s_cons (by exact ⟨rfl, fun b w hH hb => exec_cmp rfl rfl rfl (by rw [← hok]; simp [cmpB]) hb⟩) ?_
          refine s_cons (by exact ⟨rfl, fun b w hH hb => exec_eqs (eqB_same _) rfl rfl rfl hb⟩) ?_
          refine s_cons (by exact ⟨rfl, fun b w hH hb => exec_q1 hflS rfl hb⟩) ?_
          exact s_nil
        refine WL2.keep (env' := [(4, .bool false), (136, .bool true)]) ⟨rfl, rfl, trivial⟩ ?_
        refine h_q hflS rfl ?_
        refine h_nil (f_to (d_ret ?_))
        exact f_fin1 (.tmp rfl) (fun w h => ⟨rfl, below0 h.up⟩) rfl
end Go.Proofs.Ytfiojppagmnpcaa.Sep
