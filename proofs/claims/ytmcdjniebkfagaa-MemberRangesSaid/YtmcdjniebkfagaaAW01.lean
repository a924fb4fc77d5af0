/-
  MbV
-/
import Derived.Test.YtmcdjniebkfagaaAV01
set_option linter.unusedSimpArgs false
set_option linter.unusedVariables false

namespace Go.Proofs.Ytmcdjniebkfagaa.Sep
open Go.RowKit
open Go.Proofs.Ytmcdjniebkfagaa.Mem (Dist Blk Chg below0)

theorem ndI_step (s : Int) (n : Nat) : (ndI s n).length ≤ (ndI s (n + 1)).length := by
  unfold ndI nt
  rw [List.length_map, List.length_map, List.range_succ, List.filter_append, List.length_append]
  omega
theorem ndI_mono (s : Int) {a b : Nat} (h : a ≤ b) : (ndI s a).length ≤ (ndI s b).length := by
  induction h with
  | refl => exact Nat.le_refl _
  | step _ ih => exact Nat.le_trans ih (ndI_step s _)
theorem ivt {s : Int} {m : Nat} : ∀ k : Nat, m ≤ (ndI s (k + 1)).length → (ndI s 1).length < m → ∃ N, 1 ≤ N ∧ N ≤ k ∧ (ndI s N).length < m ∧ m ≤ (ndI s (N + 1)).length
  | 0, h1, h2 => absurd h1 (by show ¬ m ≤ (ndI s 1).length; omega)
  | k + 1, h1, h2 => by
    by_cases h : m ≤ (ndI s (k + 1)).length
    · obtain ⟨N, q1, q2, q3⟩ := ivt k h h2
      exact ⟨N, q1, by omega, q3⟩
    · exact ⟨k + 1, by omega, Nat.le_refl _, by omega, h1⟩
theorem stop_at {s : Int} {m : Nat} (h1 : 1 ≤ m) (h : m ≤ (ndI s 8).length) : ∃ N : Nat, 1 ≤ N ∧ N ≤ 7 ∧ hs s (N : Int) = true ∧ (ndI s N).length + 1 = m ∧ (ndI s (N + 1)).length = m ∧ ∀ n : Nat, 1 ≤ n → n < N → hs s (n : Int) = true → (ndI s n).length + 1 < m := by
  obtain ⟨N, q1, q2, q3, q4⟩ := ivt 7 h (by rw [ndI_one]; exact h1)
  cases hb : hs s (N : Int) with
  | false => rw [ndI_not q1 q2 hb] at q4; omega
  | true =>
    have e := congrArg List.length (ndI_yes q1 q2 hb)
    rw [List.length_append, List.length_singleton] at e
    refine ⟨N, q1, q2, hb, by omega, by omega, fun n h2 h3 h4 => ?_⟩
    have e2 := congrArg List.length (ndI_yes h2 (by omega) h4)
    rw [List.length_append, List.length_singleton] at e2
    have := ndI_mono s (show n + 1 ≤ N from h3)
    omega
def lst (s : Int) (n : Nat) : Int := (ndI s n).getLastD 0
theorem lst_yes {s : Int} {n : Nat} (h1 : 1 ≤ n) (h7 : n ≤ 7) (h : hs s (n : Int) = true) : lst s (n + 1) = (n : Int) := by unfold lst; rw [← ndI_yes h1 h7 h]; simp
theorem lst_lt {s : Int} {n : Nat} (h1 : 1 ≤ n) : lst s n < (n : Int) := by
  unfold lst
  cases h : ndI s n with
  | nil => simp; omega
  | cons a l =>
    have hm : (a :: l).getLastD 0 ∈ ndI s n := by rw [h, List.getLastD_cons]; exact List.getLastD_mem_cons ..
    unfold ndI at hm
    obtain ⟨k, hk, e⟩ := List.mem_map.1 hm
    have := (nt_mem.1 hk).1
    omega
/-- what has been told so far, counted -/
def RgN (co cl cs cn cm : Nat) (s m : Int) (n : Nat) : Ass := fun rs => ∃ z : Int, lst s n = z ∧ Parts [cell co 4 #[.bool true], cell cl 3 #[.int .i64 z], cell cs 3 #[.int .i64 s], cell cn 3 #[.int .i64 ((ndI s n).length : Int)], cell cm 3 #[.int .i64 m]] rs
theorem RgN.open_ {co cl cs cn cm : Nat} {s m : Int} {n : Nat} : ∀ rs, RgN co cl cs cn cm s m n rs → ∃ z : Int, Parts [fact (lst s n = z), cell co 4 #[.bool true], cell cl 3 #[.int .i64 z], cell cs 3 #[.int .i64 s], cell cn 3 #[.int .i64 ((ndI s n).length : Int)], cell cm 3 #[.int .i64 m]] rs := fun _ ⟨z, hz, h⟩ => ⟨z, fact_in hz h⟩
theorem rgN_mk {co cl cs cn cm : Nat} {s m : Int} {n : Nat} {z : Int} (hz : lst s n = z) : ∀ rs, Parts [cell co 4 #[.bool true], cell cl 3 #[.int .i64 z], cell cs 3 #[.int .i64 s], cell cn 3 #[.int .i64 ((ndI s n).length : Int)], cell cm 3 #[.int .i64 m]] rs → RgN co cl cs cn cm s m n rs := fun _ h => ⟨z, hz, h⟩

set_option maxRecDepth 100000 in
theorem gotr1 (co cl cs cn cm : Nat) {s m : Int} (h : -9223372036854775808 ≤ s ∧ s ≤ 9223372036854775807) {n : Nat} {c : Bool} (h1 : 1 ≤ n) (h7 : n ≤ 7) (hn : hs s (n : Int) = true) (hc : decide ((((ndI s n).length + 1 : Nat) : Int) < m) = c) : Does Try.prog 32 #[.int .i64 (n : Int), .pointer (some ⟨co, 0, none⟩), .pointer (some ⟨cl, 0, none⟩), .pointer (some ⟨cs, 0, none⟩), .pointer (some ⟨cn, 0, none⟩), .pointer (some ⟨cm, 0, none⟩)] [RgN co cl cs cn cm s m n] (fun (_ : Unit) => .bool c) (fun (_ : Unit) => [RgN co cl cs cn cm s m (n + 1)]) := by
  have hle := ndI_le s n
  have e : (((ndI s n).length + 1 : Nat) : Int) = ((ndI s (n + 1)).length : Int) := by have := congrArg List.length (ndI_yes h1 h7 hn); rw [List.length_append, List.length_singleton] at this; omega
  rw [e] at hc
  refine d_ins (args := [.int .i64 (n : Int), .pointer (some ⟨co, 0, none⟩), .pointer (some ⟨cl, 0, none⟩), .pointer (some ⟨cs, 0, none⟩), .pointer (some ⟨cn, 0, none⟩), .pointer (some ⟨cm, 0, none⟩)]) 25 Try.func32 rfl rfl rfl ?_; intro w rs
  refine d_open 0 rfl RgN.open_ (fun _ => rfl) ?_; rintro z
  refine WC2.fact 0 rfl (fun _ h => h.2) ?_; rintro hz
  refine WC2.leave [0] rfl rfl ?_
  have hz2 := lst_lt (s := s) h1
  rw [hz] at hz2
  refine d_reg ?_
  refine h_q hflS rfl ?_
  refine h_done (d_reg ?_)
  refine h_q hflS rfl ?_
  refine h_val rfl (.bool true) (fun b w hb hH => exec_load rfl rfl (reads_one ty_bool rfl) (hH.row 0 rfl) hb) ?_
  refine h_q hflS rfl ?_
  refine h_val rfl (.int .i64 z) (fun b w hb hH => exec_load rfl rfl (reads_one ty_int rfl) (hH.row 1 rfl) hb) ?_
  refine h_val rfl (.bool true) (fun b w hb hH => exec_cmp rfl rfl rfl (cmp_gtr_t (by omega)) hb) ?_
  refine h_q hflS rfl ?_
  refine h_val rfl (.int .i64 s) (fun b w hb hH => exec_load rfl rfl (reads_one ty_int rfl) (hH.row 2 rfl) hb) ?_
  refine h_q hflS rfl ?_
  refine h_act (post := fun _ => [cell co 4 #[.bool true], cell cl 3 #[.int .i64 z], cell cs 3 #[.int .i64 s], cell cn 3 #[.int .i64 ((ndI s n).length : Int)], cell cm 3 #[.int .i64 m]]) rfl (a_call (ent_of Try.func23 (by kernel_rfl) rfl) (fun w hH => has_any w s h (n : Int) true hn) rfl rfl rfl) ?_; rintro ⟨⟩
  refine h_q hflS rfl ?_
  refine h_acts (post := fun _ => [cell co 4 #[.bool true], cell cl 3 #[.int .i64 z], cell cs 3 #[.int .i64 s], cell cn 3 #[.int .i64 ((ndI s n).length : Int)], cell cm 3 #[.int .i64 m]]) rfl rfl (a_store 0 (v := .bool true) #[.bool true] ty_bool.2 rfl rfl rfl rfl rfl rfl rfl rfl rfl) ?_; rintro ⟨⟩
  refine h_done (d_reg ?_)
  refine h_q hflS rfl ?_
  refine h_acts (post := fun _ => [cell co 4 #[.bool true], cell cl 3 #[.int .i64 (n : Int)], cell cs 3 #[.int .i64 s], cell cn 3 #[.int .i64 ((ndI s n).length : Int)], cell cm 3 #[.int .i64 m]]) rfl rfl (a_store 1 (v := .int .i64 (n : Int)) #[.int .i64 (n : Int)] ty_int.2 rfl rfl rfl rfl rfl rfl rfl rfl rfl) ?_; rintro ⟨⟩
  refine h_done (d_reg ?_)
  refine h_q hflS rfl ?_
  refine h_val rfl (.int .i64 ((ndI s n).length : Int)) (fun b w hb hH => exec_load rfl rfl (reads_one ty_int rfl) (hH.row 3 rfl) hb) ?_
  refine h_val rfl (.int .i64 ((ndI s (n + 1)).length : Int)) (fun b w hb hH => exec_ar rfl rfl rfl rfl ((IntWalk.i64_in _ (by omega)).trans (by omega)) hb) ?_
  refine h_acts (post := fun _ => [cell co 4 #[.bool true], cell cl 3 #[.int .i64 (n : Int)], cell cs 3 #[.int .i64 s], cell cn 3 #[.int .i64 ((ndI s (n + 1)).length : Int)], cell cm 3 #[.int .i64 m]]) rfl rfl (a_store 3 (v := .int .i64 ((ndI s (n + 1)).length : Int)) #[.int .i64 ((ndI s (n + 1)).length : Int)] ty_int.2 rfl rfl rfl rfl rfl rfl rfl rfl rfl) ?_; rintro ⟨⟩
  refine h_done (d_reg ?_)
  refine h_q hflS rfl ?_
  refine h_val rfl (.int .i64 ((ndI s (n + 1)).length : Int)) (fun b w hb hH => exec_load rfl rfl (reads_one ty_int rfl) (hH.row 3 rfl) hb) ?_
  refine h_val rfl (.int .i64 m) (fun b w hb hH => exec_load rfl rfl (reads_one ty_int rfl) (hH.row 4 rfl) hb) ?_
  refine h_val rfl (.bool c) (fun b w hb hH => exec_cmp rfl rfl rfl (congrArg some hc) hb) ?_
  refine h_q hflS rfl ?_
  refine h_done (d_ret ?_)
  exact f_fin1 (.tmp rfl) (fun w h => tells () rfl [0, 1, 2, 3, 4] rfl h (fun z9 hz9 => ⟨z9, .refl _, Parts.one (rgN_mk (n := n + 1) (z := (n : Int)) (lst_yes h1 h7 hn) z9 hz9)⟩)) rfl

theorem rgN_not {co cl cs cn cm : Nat} {s m : Int} {n : Nat} (h1 : 1 ≤ n) (h7 : n ≤ 7) (h : hs s (n : Int) = false) : RgN co cl cs cn cm s m (n + 1) = RgN co cl cs cn cm s m n := by unfold RgN lst; rw [ndI_not h1 h7 h]
theorem lst_one (s : Int) : lst s 1 = 0 := by unfold lst; rw [ndI_one]; rfl

set_option maxHeartbeats 1000000 in
set_option maxRecDepth 100000 in
theorem ranges_true (w : World) (set most : Int) (hset : -9223372036854775808 ≤ set ∧ set ≤ 9223372036854775807) (hmost : -9223372036854775808 ≤ most ∧ most ≤ 9223372036854775807)  : Calls Try.prog 10 #[.int .i64 set, .int .i64 most] w fun e w' => e = .returned (.bool true) ∧ Below w.heap.size w w' := by
  obtain ⟨s, hs0⟩ : ∃ s, nearM set true = s := ⟨_, rfl⟩
  have hsi := near_i64 hset true
  rw [hs0] at hsi
  obtain ⟨q, hq⟩ : ∃ q, most % 7 = q := ⟨_, rfl⟩
  obtain ⟨m, hm⟩ : ∃ m, 1 + q = m := ⟨_, rfl⟩
  have hm7 : 1 ≤ m ∧ m ≤ 7 := by omega
  have hle8 := ndI_le s 8
  refine d_in (args := [.int .i64 set, .int .i64 most]) 36 Try.func10 rfl rfl rfl ?_
  refine d_reg ?_
  refine h_q hflS rfl ?_
  refine h_act (post := fun cs => [cell cs 3 #[.int .i64 set]]) rfl (a_box (cs := #[.int .i64 set]) rfl rfl rfl) ?_; rintro cs
  refine h_act (post := fun cm => [cell cm 3 #[.int .i64 most], cell cs 3 #[.int .i64 set]]) rfl (a_box (cs := #[.int .i64 most]) rfl rfl rfl) ?_; rintro cm
  refine h_q hflS rfl ?_
  refine h_done (d_reg ?_)
  refine h_q hflS rfl ?_
  refine h_val rfl (.int .i64 set) (fun b w hb hH => exec_load rfl rfl (reads_one ty_int rfl) (hH.row 1 rfl) hb) ?_
  refine h_act (post := fun _ => [cell cm 3 #[.int .i64 most], cell cs 3 #[.int .i64 set]]) rfl (a_call (ent_of Try.func18 (by kernel_rfl) rfl) (fun w hH => near_any w set hset true s hs0) rfl rfl rfl) ?_; rintro ⟨⟩
  refine h_acts (post := fun _ => [cell cm 3 #[.int .i64 most], cell cs 3 #[.int .i64 s]]) rfl rfl (a_store 1 (v := .int .i64 s) #[.int .i64 s] ty_int.2 rfl rfl rfl rfl rfl rfl rfl rfl rfl) ?_; rintro ⟨⟩
  refine h_done (d_reg ?_)
  refine h_q hflS rfl ?_
  refine h_val rfl (.int .i64 most) (fun b w hb hH => exec_load rfl rfl (reads_one ty_int rfl) (hH.row 0 rfl) hb) ?_
  refine h_act (post := fun _ => [cell cm 3 #[.int .i64 most], cell cs 3 #[.int .i64 s]]) rfl (a_call (ent_of Try.func19 (by kernel_rfl) rfl) (fun w hH => pick w most 7 hmost (by decide) hq) rfl rfl rfl) ?_; rintro ⟨⟩
  refine h_val rfl (.int .i64 m) (fun b w hb hH => exec_ar rfl rfl rfl rfl ((IntWalk.i64_in _ (by omega)).trans hm) hb) ?_
  refine h_acts (post := fun _ => [cell cm 3 #[.int .i64 m], cell cs 3 #[.int .i64 s]]) rfl rfl (a_store 0 (v := .int .i64 m) #[.int .i64 m] ty_int.2 rfl rfl rfl rfl rfl rfl rfl rfl rfl) ?_; rintro ⟨⟩
  refine h_done (d_reg ?_)
  refine h_q hflS rfl ?_
  refine h_act (post := fun cn => [cell cn 3 #[.int .i64 0], cell cm 3 #[.int .i64 m], cell cs 3 #[.int .i64 s]]) rfl (a_alloc ze_int rfl) ?_; rintro cn
  refine h_acts (post := fun _ => [cell cn 3 #[.int .i64 0], cell cm 3 #[.int .i64 m], cell cs 3 #[.int .i64 s]]) rfl rfl (a_store 0 (v := .int .i64 0) #[.int .i64 0] ty_int.2 rfl rfl rfl rfl rfl rfl rfl rfl rfl) ?_; rintro ⟨⟩
  refine h_done (d_reg ?_)
  refine h_q hflS rfl ?_
  refine h_act (post := fun cl => [cell cl 3 #[.int .i64 0], cell cn 3 #[.int .i64 0], cell cm 3 #[.int .i64 m], cell cs 3 #[.int .i64 s]]) rfl (a_alloc ze_int rfl) ?_; rintro cl
  refine h_acts (post := fun _ => [cell cl 3 #[.int .i64 0], cell cn 3 #[.int .i64 0], cell cm 3 #[.int .i64 m], cell cs 3 #[.int .i64 s]]) rfl rfl (a_store 0 (v := .int .i64 0) #[.int .i64 0] ty_int.2 rfl rfl rfl rfl rfl rfl rfl rfl rfl) ?_; rintro ⟨⟩
  refine h_done (d_reg ?_)
  refine h_q hflS rfl ?_
  refine h_act (post := fun co => [cell co 4 #[.bool false], cell cl 3 #[.int .i64 0], cell cn 3 #[.int .i64 0], cell cm 3 #[.int .i64 m], cell cs 3 #[.int .i64 s]]) rfl (a_alloc ze_bool rfl) ?_; rintro co
  refine h_acts (post := fun _ => [cell co 4 #[.bool true], cell cl 3 #[.int .i64 0], cell cn 3 #[.int .i64 0], cell cm 3 #[.int .i64 m], cell cs 3 #[.int .i64 s]]) rfl rfl (a_store 0 (v := .bool true) #[.bool true] ty_bool.2 rfl rfl rfl rfl rfl rfl rfl rfl rfl) ?_; rintro ⟨⟩
  refine h_done (d_seq (d_reg ?_))
  refine h_q hflS rfl ?_
  refine h_act (post := fun _ => [cell co 4 #[.bool true], cell cl 3 #[.int .i64 0], cell cn 3 #[.int .i64 0], cell cm 3 #[.int .i64 m], cell cs 3 #[.int .i64 s]]) rfl (a_call (ent_of Try.func14 (by kernel_rfl) rfl) (fun w hH => Run.known_calls w) rfl rfl rfl) ?_; rintro ⟨⟩
  refine h_q hflS rfl ?_
  refine h_val rfl (.int .i64 s) (fun b w hb hH => exec_load rfl rfl (reads_one ty_int rfl) (hH.row 4 rfl) hb) ?_
  refine h_act (post := fun g0 => [cell g0 3 #[.int .i64 s], cell co 4 #[.bool true], cell cl 3 #[.int .i64 0], cell cn 3 #[.int .i64 0], cell cm 3 #[.int .i64 m], cell cs 3 #[.int .i64 s]]) rfl (a_does (os' := fun g0 => [cell g0 3 #[.int .i64 s], cell co 4 #[.bool true], cell cl 3 #[.int .i64 0], cell cn 3 #[.int .i64 0], cell cm 3 #[.int .i64 m], cell cs 3 #[.int .i64 s]]) [] 0 (ent_of Try.func15 (by kernel_rfl) rfl) (all_any s hsi) rfl rfl rfl (fun _ => rfl) rfl rfl rfl) ?_; rintro g0
  refine h_val rfl (.bool false) (fun b w hb hH => exec_fnil_eql Try.underlying28 rfl rfl rfl hb) ?_
  refine h_q hflS rfl ?_
  refine h_done (d_else rfl (d_skip (f_to ?_)))
  rcases Int.lt_or_le ((ndI s 8).length : Int) m with h8 | h8
  · skip
    have hgo : ∀ n : Nat, 1 ≤ n → n ≤ 7 → hs s (n : Int) = true → (((ndI s n).length + 1 : Nat) : Int) < m := fun n h1 h7 hb => by have e := congrArg List.length (ndI_yes h1 h7 hb); rw [List.length_append, List.length_singleton] at e; have := ndI_mono s (show n + 1 ≤ 8 by omega); omega
    have hz0 : ((0 : Int)) = ((ndI s 1).length : Int) := by rw [ndI_one]; rfl
    refine d_reg ?_
    refine h_q hflS rfl ?_
    refine h_val rfl (.int .i64 s) (fun b w hb hH => exec_load rfl rfl (reads_one ty_int rfl) (hH.row 5 rfl) hb) ?_
    refine h_act (post := fun g => [cell g 3 #[.int .i64 s], cell g0 3 #[.int .i64 s], cell co 4 #[.bool true], cell cl 3 #[.int .i64 0], cell cn 3 #[.int .i64 0], cell cm 3 #[.int .i64 m], cell cs 3 #[.int .i64 s]]) rfl (a_does (os' := fun g => [cell g 3 #[.int .i64 s], cell g0 3 #[.int .i64 s], cell co 4 #[.bool true], cell cl 3 #[.int .i64 0], cell cn 3 #[.int .i64 0], cell cm 3 #[.int .i64 m], cell cs 3 #[.int .i64 s]]) [] 0 (ent_of Try.func15 (by kernel_rfl) rfl) (all_any s hsi) rfl rfl rfl (fun _ => rfl) rfl rfl rfl) ?_; rintro g
    refine h_close [2, 3, 6, 4, 5] rfl (fun rs9 h9 => rgN_mk (n := 1) (lst_one s) rs9 (by rw [← hz0]; exact h9)) rfl ?_
    refine h_val rfl (.func (.func 32) #[] #[.pointer (some ⟨co, 0, none⟩), .pointer (some ⟨cl, 0, none⟩), .pointer (some ⟨cs, 0, none⟩), .pointer (some ⟨cn, 0, none⟩), .pointer (some ⟨cm, 0, none⟩)]) (fun b w hb hH => e_func rfl rfl hb) ?_
    refine h_act (post := fun _ => [RgN co cl cs cn cm s m 8, cell g 3 #[.int .i64 s], cell g0 3 #[.int .i64 s]]) rfl (a_doesc (os' := fun _ => [RgN co cl cs cn cm s m 8, cell g 3 #[.int .i64 s], cell g0 3 #[.int .i64 s]]) (vs := [.func (.func 32) #[] #[.pointer (some ⟨co, 0, none⟩), .pointer (some ⟨cl, 0, none⟩), .pointer (some ⟨cs, 0, none⟩), .pointer (some ⟨cn, 0, none⟩), .pointer (some ⟨cm, 0, none⟩)]]) (caps := [.pointer (some ⟨g, 0, none⟩)]) [0, 1] 0 (ent_of Try.func34 (by kernel_rfl) rfl) (all1 (.func 32) #[.pointer (some ⟨co, 0, none⟩), .pointer (some ⟨cl, 0, none⟩), .pointer (some ⟨cs, 0, none⟩), .pointer (some ⟨cn, 0, none⟩), .pointer (some ⟨cm, 0, none⟩)] g s hsi (fun n => RgN co cl cs cn cm s m n) (fun n h1 h7 hb => rgN_not h1 h7 hb) (fun n h1 h7 hb => (gotr1 co cl cs cn cm hsi h1 h7 hb (by have := hgo n h1 h7 hb; simp; omega)).toF (vs := [.int .i64 (n : Int)]) (caps := [.pointer (some ⟨co, 0, none⟩), .pointer (some ⟨cl, 0, none⟩), .pointer (some ⟨cs, 0, none⟩), .pointer (some ⟨cn, 0, none⟩), .pointer (some ⟨cm, 0, none⟩)]) (ent_of Try.func32 (by kernel_rfl) rfl))) rfl rfl rfl (fun _ => rfl) rfl rfl rfl) ?_; rintro ⟨⟩
    refine h_done ?_
    refine d_open 0 rfl RgN.open_ (fun _ => rfl) ?_; rintro z
    refine WC2.leave [0] rfl rfl ?_
    refine d_seq ?_
    refine d_par 12 2 [⟨.call, 1, fun _ => .bool true, []⟩, ⟨.quiet, 1, fun _ => .bool true, [0]⟩, ⟨.quiet, 1, fun _ => .bool true, [1]⟩, ⟨.quiet, 1, fun _ => .bool true, [1, 2]⟩, ⟨.quiet, 1, fun _ => .bool true, [3]⟩, ⟨.quiet, 1, fun _ => .int .i64 ((ndI s 8).length : Int), [4]⟩, ⟨.quiet, 1, fun _ => .int .i64 m, [4]⟩, ⟨.quiet, 1, fun _ => .int .i64 s, [4]⟩, ⟨.call, 2, fun _ => .int .i64 ((ndI s 8).length : Int), [7, 4]⟩, ⟨.quiet, 2, fun _ => .int .i64 ((ndI s 8).length : Int), [6, 8, 4]⟩, ⟨.quiet, 2, fun _ => .bool true, [5, 9, 4]⟩, ⟨.quiet, 2, fun _ => .bool true, [4, 10]⟩] [(2, .pointer (some ⟨cs, 0, none⟩)), (3, .pointer (some ⟨cm, 0, none⟩)), (4, .bool false), (5, .pointer (some ⟨cn, 0, none⟩)), (7, .pointer (some ⟨co, 0, none⟩))] (by kernel_rfl) (by kernel_rfl) ⟨rfl, rfl, rfl, rfl, rfl, trivial⟩ ?_ ?_
    · skip
      refine o_cons (o_call (ent_of Try.func14 (by kernel_rfl) rfl) (fun w hU => Run.known_calls w) (fun _ _ => rfl) rfl (fun _ _ => rfl) (fun _ _ => rfl)) ?_
      refine o_cons (o_q hflS (fun _ _ => rfl) (fun _ _ => rfl)) ?_
      refine o_cons (o_load 0 (reads_one ty_bool rfl) (fun _ _ => rfl) rfl (fun _ _ => rfl) rfl) ?_
      refine o_cons (o_q hflS (fun _ _ => rfl) (fun _ _ => rfl)) ?_
      refine o_cons (o_q hflS (fun _ _ => rfl) (fun _ _ => rfl)) ?_
      refine o_cons (o_load 3 (reads_one ty_int rfl) (fun _ _ => rfl) rfl (fun _ _ => rfl) rfl) ?_
      refine o_cons (o_load 4 (reads_one ty_int rfl) (fun _ _ => rfl) rfl (fun _ _ => rfl) rfl) ?_
      refine o_cons (o_load 2 (reads_one ty_int rfl) (fun _ _ => rfl) rfl (fun _ _ => rfl) rfl) ?_
      refine o_cons (o_call (ent_of Try.func25 (by kernel_rfl) rfl) (fun w hU => count_any w s hsi ((ndI s 8).length : Int) (by rw [ndI_cnt])) (fun _ _ => rfl) rfl (fun _ _ => rfl) (fun _ _ => rfl)) ?_
      refine o_cons (o_builtin (fun w cs => run_min2 (by split <;> omega) _ _ w cs) (fun _ _ => rfl) rfl (fun _ _ => rfl)) ?_
      refine o_cons (o_cmp (cmp_eql_t rfl) (fun _ _ => rfl) rfl (fun _ _ => rfl) (fun _ _ => rfl)) ?_
      refine o_cons (o_q hflS (fun _ _ => rfl) (fun _ _ => rfl)) ?_
      exact o_nil
    intro σ1 gs1
    refine WL2.keep (env' := [(4, .bool false), (35, .bool true)]) ⟨rfl, rfl, trivial⟩ ?_
    refine h_q hflS rfl ?_
    refine h_nil (f_to (d_ret ?_))
    exact f_fin1 (.tmp rfl) (fun w h => ⟨rfl, below0 h.up⟩) rfl
  · skip
    obtain ⟨N, hN1, hN7, hN, hN2, hN3, hlt⟩ := stop_at (s := s) (m := m.toNat) (by omega) (by omega)
    have hz0 : ((0 : Int)) = ((ndI s 1).length : Int) := by rw [ndI_one]; rfl
    refine d_reg ?_
    refine h_q hflS rfl ?_
    refine h_val rfl (.int .i64 s) (fun b w hb hH => exec_load rfl rfl (reads_one ty_int rfl) (hH.row 5 rfl) hb) ?_
    refine h_act (post := fun g => [cell g 3 #[.int .i64 s], cell g0 3 #[.int .i64 s], cell co 4 #[.bool true], cell cl 3 #[.int .i64 0], cell cn 3 #[.int .i64 0], cell cm 3 #[.int .i64 m], cell cs 3 #[.int .i64 s]]) rfl (a_does (os' := fun g => [cell g 3 #[.int .i64 s], cell g0 3 #[.int .i64 s], cell co 4 #[.bool true], cell cl 3 #[.int .i64 0], cell cn 3 #[.int .i64 0], cell cm 3 #[.int .i64 m], cell cs 3 #[.int .i64 s]]) [] 0 (ent_of Try.func15 (by kernel_rfl) rfl) (all_any s hsi) rfl rfl rfl (fun _ => rfl) rfl rfl rfl) ?_; rintro g
    refine h_close [2, 3, 6, 4, 5] rfl (fun rs9 h9 => rgN_mk (n := 1) (lst_one s) rs9 (by rw [← hz0]; exact h9)) rfl ?_
    refine h_val rfl (.func (.func 32) #[] #[.pointer (some ⟨co, 0, none⟩), .pointer (some ⟨cl, 0, none⟩), .pointer (some ⟨cs, 0, none⟩), .pointer (some ⟨cn, 0, none⟩), .pointer (some ⟨cm, 0, none⟩)]) (fun b w hb hH => e_func rfl rfl hb) ?_
    refine h_act (post := fun _ => [RgN co cl cs cn cm s m (N + 1), cell g 3 #[.int .i64 s], cell g0 3 #[.int .i64 s]]) rfl (a_doesc (os' := fun _ => [RgN co cl cs cn cm s m (N + 1), cell g 3 #[.int .i64 s], cell g0 3 #[.int .i64 s]]) (vs := [.func (.func 32) #[] #[.pointer (some ⟨co, 0, none⟩), .pointer (some ⟨cl, 0, none⟩), .pointer (some ⟨cs, 0, none⟩), .pointer (some ⟨cn, 0, none⟩), .pointer (some ⟨cm, 0, none⟩)]]) (caps := [.pointer (some ⟨g, 0, none⟩)]) [0, 1] 0 (ent_of Try.func34 (by kernel_rfl) rfl) (all1S (.func 32) #[.pointer (some ⟨co, 0, none⟩), .pointer (some ⟨cl, 0, none⟩), .pointer (some ⟨cs, 0, none⟩), .pointer (some ⟨cn, 0, none⟩), .pointer (some ⟨cm, 0, none⟩)] g s hsi (fun n => RgN co cl cs cn cm s m n) (RgN co cl cs cn cm s m (N + 1)) hN1 hN7 hN (fun n h1 h7 hb => rgN_not h1 (by omega) hb) (fun n h1 h7 hb => (gotr1 co cl cs cn cm hsi h1 (by omega) hb (by have := hlt n h1 h7 hb; simp; omega)).toF (vs := [.int .i64 (n : Int)]) (caps := [.pointer (some ⟨co, 0, none⟩), .pointer (some ⟨cl, 0, none⟩), .pointer (some ⟨cs, 0, none⟩), .pointer (some ⟨cn, 0, none⟩), .pointer (some ⟨cm, 0, none⟩)]) (ent_of Try.func32 (by kernel_rfl) rfl)) (fun n e => by subst e; exact (gotr1 co cl cs cn cm hsi hN1 hN7 hN (by simp; omega)).toF (vs := [.int .i64 (n : Int)]) (caps := [.pointer (some ⟨co, 0, none⟩), .pointer (some ⟨cl, 0, none⟩), .pointer (some ⟨cs, 0, none⟩), .pointer (some ⟨cn, 0, none⟩), .pointer (some ⟨cm, 0, none⟩)]) (ent_of Try.func32 (by kernel_rfl) rfl))) rfl rfl rfl (fun _ => rfl) rfl rfl rfl) ?_; rintro ⟨⟩
    refine h_done ?_
    refine d_open 0 rfl RgN.open_ (fun _ => rfl) ?_; rintro z
    refine WC2.leave [0] rfl rfl ?_
    refine d_seq ?_
    refine d_par 12 2 [⟨.call, 1, fun _ => .bool true, []⟩, ⟨.quiet, 1, fun _ => .bool true, [0]⟩, ⟨.quiet, 1, fun _ => .bool true, [1]⟩, ⟨.quiet, 1, fun _ => .bool true, [1, 2]⟩, ⟨.quiet, 1, fun _ => .bool true, [3]⟩, ⟨.quiet, 1, fun _ => .int .i64 ((ndI s (N + 1)).length : Int), [4]⟩, ⟨.quiet, 1, fun _ => .int .i64 m, [4]⟩, ⟨.quiet, 1, fun _ => .int .i64 s, [4]⟩, ⟨.call, 2, fun _ => .int .i64 ((ndI s 8).length : Int), [7, 4]⟩, ⟨.quiet, 2, fun _ => .int .i64 ((ndI s (N + 1)).length : Int), [6, 8, 4]⟩, ⟨.quiet, 2, fun _ => .bool true, [5, 9, 4]⟩, ⟨.quiet, 2, fun _ => .bool true, [4, 10]⟩] [(2, .pointer (some ⟨cs, 0, none⟩)), (3, .pointer (some ⟨cm, 0, none⟩)), (4, .bool false), (5, .pointer (some ⟨cn, 0, none⟩)), (7, .pointer (some ⟨co, 0, none⟩))] (by kernel_rfl) (by kernel_rfl) ⟨rfl, rfl, rfl, rfl, rfl, trivial⟩ ?_ ?_
    · skip
      refine o_cons (o_call (ent_of Try.func14 (by kernel_rfl) rfl) (fun w hU => Run.known_calls w) (fun _ _ => rfl) rfl (fun _ _ => rfl) (fun _ _ => rfl)) ?_
      refine o_cons (o_q hflS (fun _ _ => rfl) (fun _ _ => rfl)) ?_
      refine o_cons (o_load 0 (reads_one ty_bool rfl) (fun _ _ => rfl) rfl (fun _ _ => rfl) rfl) ?_
      refine o_cons (o_q hflS (fun _ _ => rfl) (fun _ _ => rfl)) ?_
      refine o_cons (o_q hflS (fun _ _ => rfl) (fun _ _ => rfl)) ?_
      refine o_cons (o_load 3 (reads_one ty_int rfl) (fun _ _ => rfl) rfl (fun _ _ => rfl) rfl) ?_
      refine o_cons (o_load 4 (reads_one ty_int rfl) (fun _ _ => rfl) rfl (fun _ _ => rfl) rfl) ?_
      refine o_cons (o_load 2 (reads_one ty_int rfl) (fun _ _ => rfl) rfl (fun _ _ => rfl) rfl) ?_
      refine o_cons (o_call (ent_of Try.func25 (by kernel_rfl) rfl) (fun w hU => count_any w s hsi ((ndI s 8).length : Int) (by rw [ndI_cnt])) (fun _ _ => rfl) rfl (fun _ _ => rfl) (fun _ _ => rfl)) ?_
      refine o_cons (o_builtin (fun w cs => run_min2 (by split <;> omega) _ _ w cs) (fun _ _ => rfl) rfl (fun _ _ => rfl)) ?_
      refine o_cons (o_cmp (cmp_eql_t rfl) (fun _ _ => rfl) rfl (fun _ _ => rfl) (fun _ _ => rfl)) ?_
      refine o_cons (o_q hflS (fun _ _ => rfl) (fun _ _ => rfl)) ?_
      exact o_nil
    intro σ2 gs2
    refine WL2.keep (env' := [(4, .bool false), (35, .bool true)]) ⟨rfl, rfl, trivial⟩ ?_
    refine h_q hflS rfl ?_
    refine h_nil (f_to (d_ret ?_))
    exact f_fin1 (.tmp rfl) (fun w h => ⟨rfl, below0 h.up⟩) rfl
end Go.Proofs.Ytmcdjniebkfagaa.Sep
