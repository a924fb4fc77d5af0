/-
  FrmS
-/
import Derived.Test.YthamiglbifgepaaAD01
set_option linter.unusedSimpArgs false
set_option linter.unusedVariables false

namespace Go.Proofs.Ythamiglbifgepaa.Sep
open Go.RowKit
open Go.Proofs.Ythamiglbifgepaa.Mem (Dist Blk Chg below0)

set_option maxRecDepth 100000 in
theorem rlistU (u : World) {y : List UInt8} {ps : List (List UInt8)} {k : Nat} {A : Option Addr} {c : Nat} (hv : Sl8 u (.slice A y.length c) y) (hl : y.length ≤ 137438953472) (hr : listL y = (ps, k)) : DoesU u Try.prog 13 #[.slice A y.length c] [] (fun (x : PsV) => .tuple #[x.v, .int .i64 (k : Int)]) (fun (x : PsV) => [PartsT 23 x.v x.l, fact (x.l.map (·.2) = ps)]) := by
  refine d_insU (args := [.slice A y.length c]) 121 Try.func13 rfl rfl rfl ?_; intro w rs hU hS
  refine d_reg ?_
  refine h_q hflS rfl ?_
  refine h_done (d_reg ?_)
  refine h_q hflS rfl ?_
  refine h_done (d_reg ?_)
  refine h_q hflS rfl ?_
  refine h_done (d_seq (d_block ?_))
  refine d_new (t := PartsT 23 (.slice none 0 0) ([])) (prts_nil) ?_
  refine d_loop (α := Nat × List PtT × Value) (fun ⟨at_, L, pv⟩ => [(0, .slice A y.length c), (2, .slice none 0 0), (3, .int .i64 0), (4, pv), (5, .int .i64 ((at_ : Nat) : Int))]) (fun ⟨at_, L, pv⟩ => [PartsT 23 pv L]) (fun ⟨at_, L, pv⟩ => at_ ≤ y.length ∧ listL y = (L.map (·.2) ++ (listL (y.drop at_)).1, at_ + (listL (y.drop at_)).2) ∧ L.length * 8 ≤ at_) (fun ⟨at_, L, pv⟩ => y.length - at_) (0, [], .slice none 0 0) ⟨Nat.zero_le _, by simp, Nat.le_refl _⟩ ⟨rfl, rfl, rfl, rfl, rfl, trivial⟩ rfl ?_
  rintro ⟨at_, L, pv⟩ hI
  refine WC2.at_ (env' := [(0, .slice A y.length c), (2, .slice none 0 0), (3, .int .i64 0), (4, pv), (5, .int .i64 ((at_ : Nat) : Int))]) (rs' := [PartsT 23 pv L]) ⟨rfl, rfl, rfl, rfl, rfl, trivial⟩ rfl ?_
  have hI1 : at_ ≤ y.length := hI.1
  have hI2 : listL y = (L.map (·.2) ++ (listL (y.drop at_)).1, at_ + (listL (y.drop at_)).2) := hI.2.1
  have hI3 : L.length * 8 ≤ at_ := hI.2.2
  clear hI
  refine d_seq ?_
  rcases Nat.lt_or_ge (y.length - at_) 8 with h8 | h8
  · skip
    have hnx : nextF (y.drop at_) = none := by unfold nextF; exact if_neg fun h => by have := h.1; rw [List.length_drop] at this; omega
    rw [listL_none hnx] at hI2
    have hres1 : L.map (·.2) = ps := by have := congrArg Prod.fst hI2; rw [hr] at this; simpa using this.symm
    have hres2 : (at_ : Int) = (k : Int) := by have := congrArg Prod.snd hI2; rw [hr] at this; simp at this; omega
    refine d_reg ?_
    refine h_q hflS rfl ?_
    refine h_val rfl (.int .i64 (y.length : Int)) (fun b w hb hH => e_slen ((arg8 hv hU hS hH).rd) Try.underlying23 rfl rfl hb) ?_
    refine h_q hflS rfl ?_
    refine h_val rfl (.int .i64 ((y.length : Int) - (at_ : Int))) (fun b w hb hH => exec_ar rfl rfl rfl rfl (IntWalk.i64_in _ (by omega)) hb) ?_
    refine h_val rfl (.bool false) (fun b w hb hH => exec_cmp rfl rfl rfl (cmp_geq_f (by omega)) hb) ?_
    refine h_done (d_else rfl (d_exit (f_then_exit (f_then_exit (f_block_exit (f_to (d_reg ?_)))))))
    refine h_q hflS rfl ?_
    refine h_done (d_ret ?_)
    exact f_fin2 (.tmp rfl) (.tmp rfl) (fun w h => tells (X := PsV) ⟨pv, L⟩ (by rw [hres2]) [0] rfl h (fun z hz => ⟨z, .refl _, fact_add (xs := [_]) hres1 hz⟩)) rfl
  · skip
    obtain ⟨a0, ha0⟩ : ∃ a, y[at_ + 0]? = some a := ⟨_, List.getElem?_eq_getElem (by omega)⟩
    obtain ⟨a1, ha1⟩ : ∃ a, y[at_ + 1]? = some a := ⟨_, List.getElem?_eq_getElem (by omega)⟩
    obtain ⟨a2, ha2⟩ : ∃ a, y[at_ + 2]? = some a := ⟨_, List.getElem?_eq_getElem (by omega)⟩
    obtain ⟨a3, ha3⟩ : ∃ a, y[at_ + 3]? = some a := ⟨_, List.getElem?_eq_getElem (by omega)⟩
    obtain ⟨a4, ha4⟩ : ∃ a, y[at_ + 4]? = some a := ⟨_, List.getElem?_eq_getElem (by omega)⟩
    obtain ⟨a5, ha5⟩ : ∃ a, y[at_ + 5]? = some a := ⟨_, List.getElem?_eq_getElem (by omega)⟩
    obtain ⟨a6, ha6⟩ : ∃ a, y[at_ + 6]? = some a := ⟨_, List.getElem?_eq_getElem (by omega)⟩
    obtain ⟨a7, ha7⟩ : ∃ a, y[at_ + 7]? = some a := ⟨_, List.getElem?_eq_getElem (by omega)⟩
    have hA0 := a0.toNat_lt
    have hA1 := a1.toNat_lt
    have hA2 := a2.toNat_lt
    have hA3 := a3.toNat_lt
    rw [Nat.add_zero] at ha0
    obtain ⟨n, hn_⟩ : ∃ n, a0.toNat + a1.toNat * 256 + a2.toNat * 65536 + a3.toNat * 16777216 = n := ⟨_, rfl⟩
    have hb8 : (y.drop at_).take 8 = [a0, a1, a2, a3, a4, a5, a6, a7] := frm_take8 ha0 ha1 ha2 ha3 ha4 ha5 ha6 ha7
    have hn : n4 (y.drop at_) 0 = n := frm_n4 hb8 hn_
    refine d_reg ?_
    refine h_q hflS rfl ?_
    refine h_val rfl (.int .i64 (y.length : Int)) (fun b w hb hH => e_slen ((arg8 hv hU hS hH).rd) Try.underlying23 rfl rfl hb) ?_
    refine h_q hflS rfl ?_
    refine h_val rfl (.int .i64 ((y.length : Int) - (at_ : Int))) (fun b w hb hH => exec_ar rfl rfl rfl rfl (IntWalk.i64_in _ (by omega)) hb) ?_
    refine h_val rfl (.bool true) (fun b w hb hH => exec_cmp rfl rfl rfl (cmp_geq_t (by omega)) hb) ?_
    refine h_done (d_then rfl (d_skip (f_to (d_block (d_seq ?_)))))
    refine d_parS 29 0 [⟨.quiet, [], fun _ => .slice A y.length c, []⟩, ⟨.quiet, [], fun _ => .int .i64 ((at_ : Nat) : Int), []⟩, ⟨.quiet, [], fun _ => elp (.slice A y.length c) (at_ * 1), [0, 1]⟩, ⟨.quiet, [], fun _ => .int .u8 ((a0).toNat : Int), [2]⟩, ⟨.quiet, [], fun _ => .int .i64 ((a0).toNat : Int), [3]⟩, ⟨.quiet, [], fun _ => .slice A y.length c, []⟩, ⟨.quiet, [], fun _ => .int .i64 ((at_ : Nat) : Int), []⟩, ⟨.quiet, [], fun _ => .int .i64 ((at_ + 1 : Nat) : Int), [6]⟩, ⟨.quiet, [], fun _ => elp (.slice A y.length c) ((at_ + 1) * 1), [5, 7]⟩, ⟨.quiet, [], fun _ => .int .u8 ((a1).toNat : Int), [8]⟩, ⟨.quiet, [], fun _ => .int .i64 ((a1).toNat : Int), [9]⟩, ⟨.quiet, [], fun _ => .int .i64 ((a1.toNat * 256 : Nat) : Int), [10]⟩, ⟨.quiet, [], fun _ => .int .i64 ((a0.toNat + a1.toNat * 256 : Nat) : Int), [4, 11]⟩, ⟨.quiet, [], fun _ => .slice A y.length c, []⟩, ⟨.quiet, [], fun _ => .int .i64 ((at_ : Nat) : Int), []⟩, ⟨.quiet, [], fun _ => .int .i64 ((at_ + 2 : Nat) : Int), [14]⟩, ⟨.quiet, [], fun _ => elp (.slice A y.length c) ((at_ + 2) * 1), [13, 15]⟩, ⟨.quiet, [], fun _ => .int .u8 ((a2).toNat : Int), [16]⟩, ⟨.quiet, [], fun _ => .int .i64 ((a2).toNat : Int), [17]⟩, ⟨.quiet, [], fun _ => .int .i64 ((a2.toNat * 65536 : Nat) : Int), [18]⟩, ⟨.quiet, [], fun _ => .int .i64 ((a0.toNat + a1.toNat * 256 + a2.toNat * 65536 : Nat) : Int), [12, 19]⟩, ⟨.quiet, [], fun _ => .slice A y.length c, []⟩, ⟨.quiet, [], fun _ => .int .i64 ((at_ : Nat) : Int), []⟩, ⟨.quiet, [], fun _ => .int .i64 ((at_ + 3 : Nat) : Int), [22]⟩, ⟨.quiet, [], fun _ => elp (.slice A y.length c) ((at_ + 3) * 1), [21, 23]⟩, ⟨.quiet, [], fun _ => .int .u8 ((a3).toNat : Int), [24]⟩, ⟨.quiet, [], fun _ => .int .i64 ((a3).toNat : Int), [25]⟩, ⟨.quiet, [], fun _ => .int .i64 ((a3.toNat * 16777216 : Nat) : Int), [26]⟩, ⟨.quiet, [], fun _ => .int .i64 (n : Int), [20, 27]⟩] [(0, .slice A y.length c), (2, .slice none 0 0), (3, .int .i64 0), (4, pv), (5, .int .i64 ((at_ : Nat) : Int)), (9, .slice A y.length c), (10, .int .i64 (y.length : Int)), (11, .int .i64 ((at_ : Nat) : Int)), (12, .int .i64 ((y.length : Int) - (at_ : Int))), (13, .bool true)] (fun _ => [PartsT 23 pv L]) (by kernel_rfl) (by kernel_rfl) ⟨rfl, rfl, rfl, rfl, rfl, rfl, rfl, rfl, rfl, rfl, trivial⟩ rfl ?_ ?_
    · skip
      refine s_cons (by exact ⟨rfl, fun b w hH hb => exec_q1 hflS rfl hb⟩) ?_
      refine s_cons (by exact ⟨rfl, fun b w hH hb => exec_q1 hflS rfl hb⟩) ?_
      refine s_cons (by exact ⟨rfl, fun b w hH hb => e_sidx okB ((arg8 hv hU hS hH).rd) sl_uint8 (j := at_) ha0 rfl rfl rfl hb⟩) ?_
      refine s_cons (by exact ⟨rfl, fun b w hH hb => e_sload okB (by decide) ((arg8 hv hU hS hH).rd) (j := at_) ha0 ty_uint8 (off := 0) rfl rfl rfl hb⟩) ?_
      refine s_cons (by exact ⟨rfl, fun b w hH hb => exec_conv Try.underlying5 Try.underlying3 (IntWalk.i64_in _ (by omega)) rfl rfl hb⟩) ?_
      refine s_cons (by exact ⟨rfl, fun b w hH hb => exec_q1 hflS rfl hb⟩) ?_
      refine s_cons (by exact ⟨rfl, fun b w hH hb => exec_q1 hflS rfl hb⟩) ?_
      refine s_cons (by exact ⟨rfl, fun b w hH hb => exec_ar rfl rfl rfl rfl (by rw [IntWalk.i64_in _ (by omega)]; omega) hb⟩) ?_
      refine s_cons (by exact ⟨rfl, fun b w hH hb => e_sidx okB ((arg8 hv hU hS hH).rd) sl_uint8 (j := (at_ + 1)) ha1 rfl rfl rfl hb⟩) ?_
      refine s_cons (by exact ⟨rfl, fun b w hH hb => e_sload okB (by decide) ((arg8 hv hU hS hH).rd) (j := (at_ + 1)) ha1 ty_uint8 (off := 0) rfl rfl rfl hb⟩) ?_
      refine s_cons (by exact ⟨rfl, fun b w hH hb => exec_conv Try.underlying5 Try.underlying3 (IntWalk.i64_in _ (by omega)) rfl rfl hb⟩) ?_
      refine s_cons (by exact ⟨rfl, fun b w hH hb => exec_shlN (s := 8) (by decide) (by rw [IntWalk.i64_in _ (by omega)]; omega) rfl rfl rfl hb⟩) ?_
      refine s_cons (by exact ⟨rfl, fun b w hH hb => exec_ar rfl rfl rfl rfl (by rw [IntWalk.i64_in _ (by omega)]; omega) hb⟩) ?_
      refine s_cons (by exact ⟨rfl, fun b w hH hb => exec_q1 hflS rfl hb⟩) ?_
      refine s_cons (by exact ⟨rfl, fun b w hH hb => exec_q1 hflS rfl hb⟩) ?_
      refine s_cons (by exact ⟨rfl, fun b w hH hb => exec_ar rfl rfl rfl rfl (by rw [IntWalk.i64_in _ (by omega)]; omega) hb⟩) ?_
      refine s_cons (by exact ⟨rfl, fun b w hH hb => e_sidx okB ((arg8 hv hU hS hH).rd) sl_uint8 (j := (at_ + 2)) ha2 rfl rfl rfl hb⟩) ?_
      refine s_cons (by exact ⟨rfl, fun b w hH hb => e_sload okB (by decide) ((arg8 hv hU hS hH).rd) (j := (at_ + 2)) ha2 ty_uint8 (off := 0) rfl rfl rfl hb⟩) ?_
      refine s_cons (by exact ⟨rfl, fun b w hH hb => exec_conv Try.underlying5 Try.underlying3 (IntWalk.i64_in _ (by omega)) rfl rfl hb⟩) ?_
      refine s_cons (by exact ⟨rfl, fun b w hH hb => exec_shlN (s := 16) (by decide) (by rw [IntWalk.i64_in _ (by omega)]; omega) rfl rfl rfl hb⟩) ?_
      refine s_cons (by exact ⟨rfl, fun b w hH hb => exec_ar rfl rfl rfl rfl (by rw [IntWalk.i64_in _ (by omega)]; omega) hb⟩) ?_
      refine s_cons (by exact ⟨rfl, fun b w hH hb => exec_q1 hflS rfl hb⟩) ?_
      refine s_cons (by exact ⟨rfl, fun b w hH hb => exec_q1 hflS rfl hb⟩) ?_
      refine s_cons (by exact ⟨rfl, fun b w hH hb => exec_ar rfl rfl rfl rfl (by rw [IntWalk.i64_in _ (by omega)]; omega) hb⟩) ?_
      refine s_cons (by exact ⟨rfl, fun b w hH hb => e_sidx okB ((arg8 hv hU hS hH).rd) sl_uint8 (j := (at_ + 3)) ha3 rfl rfl rfl hb⟩) ?_
      refine s_cons (by exact ⟨rfl, fun b w hH hb => e_sload okB (by decide) ((arg8 hv hU hS hH).rd) (j := (at_ + 3)) ha3 ty_uint8 (off := 0) rfl rfl rfl hb⟩) ?_
      refine s_cons (by exact ⟨rfl, fun b w hH hb => exec_conv Try.underlying5 Try.underlying3 (IntWalk.i64_in _ (by omega)) rfl rfl hb⟩) ?_
      refine s_cons (by exact ⟨rfl, fun b w hH hb => exec_shlN (s := 24) (by decide) (by rw [IntWalk.i64_in _ (by omega)]; omega) rfl rfl rfl hb⟩) ?_
      refine s_cons (by exact ⟨rfl, fun b w hH hb => exec_ar rfl rfl rfl rfl (by rw [IntWalk.i64_in _ (by omega)]; omega) hb⟩) ?_
      exact s_nil
    refine WL2.keep (env' := [(0, .slice A y.length c), (2, .slice none 0 0), (3, .int .i64 0), (4, pv), (5, .int .i64 ((at_ : Nat) : Int)), (9, .slice A y.length c), (10, .int .i64 (y.length : Int)), (11, .int .i64 ((at_ : Nat) : Int)), (12, .int .i64 ((y.length : Int) - (at_ : Int))), (13, .bool true), (14, .slice A y.length c), (15, .int .i64 ((at_ : Nat) : Int)), (16, elp (.slice A y.length c) (at_ * 1)), (17, .int .u8 ((a0).toNat : Int)), (18, .int .i64 ((a0).toNat : Int)), (19, .slice A y.length c), (20, .int .i64 ((at_ : Nat) : Int)), (21, .int .i64 ((at_ + 1 : Nat) : Int)), (22, elp (.slice A y.length c) ((at_ + 1) * 1)), (23, .int .u8 ((a1).toNat : Int)), (24, .int .i64 ((a1).toNat : Int)), (25, .int .i64 ((a1.toNat * 256 : Nat) : Int)), (26, .int .i64 ((a0.toNat + a1.toNat * 256 : Nat) : Int)), (27, .slice A y.length c), (28, .int .i64 ((at_ : Nat) : Int)), (29, .int .i64 ((at_ + 2 : Nat) : Int)), (30, elp (.slice A y.length c) ((at_ + 2) * 1)), (31, .int .u8 ((a2).toNat : Int)), (32, .int .i64 ((a2).toNat : Int)), (33, .int .i64 ((a2.toNat * 65536 : Nat) : Int)), (34, .int .i64 ((a0.toNat + a1.toNat * 256 + a2.toNat * 65536 : Nat) : Int)), (35, .slice A y.length c), (36, .int .i64 ((at_ : Nat) : Int)), (37, .int .i64 ((at_ + 3 : Nat) : Int)), (38, elp (.slice A y.length c) ((at_ + 3) * 1)), (39, .int .u8 ((a3).toNat : Int)), (40, .int .i64 ((a3).toNat : Int)), (41, .int .i64 ((a3.toNat * 16777216 : Nat) : Int)), (42, .int .i64 (n : Int))]) ⟨rfl, rfl, rfl, rfl, rfl, rfl, rfl, rfl, rfl, rfl, rfl, rfl, rfl, rfl, rfl, rfl, rfl, rfl, rfl, rfl, rfl, rfl, rfl, rfl, rfl, rfl, rfl, rfl, rfl, rfl, rfl, rfl, rfl, rfl, rfl, rfl, rfl, rfl, rfl, trivial⟩ ?_
    refine h_q hflS rfl ?_
    refine h_nil (f_to (d_seq ?_))
    have hcc : 65536 < n ∨ (n ≤ 65536 ∧ y.length - at_ - 8 < n) ∨ (n ≤ 65536 ∧ n ≤ y.length - at_ - 8) := by omega
    rcases hcc with hn1 | ⟨hn1, hn2⟩ | ⟨hn1, hn2⟩
    · skip
      have hnx : nextF (y.drop at_) = none := by unfold nextF; exact if_neg fun h => by have := h.2.1; rw [hn] at this; omega
      rw [listL_none hnx] at hI2
      have hres1 : L.map (·.2) = ps := by have := congrArg Prod.fst hI2; rw [hr] at this; simpa using this.symm
      have hres2 : (at_ : Int) = (k : Int) := by have := congrArg Prod.snd hI2; rw [hr] at this; simp at this; omega
      refine d_reg ?_
      refine h_q hflS rfl ?_
      refine h_val rfl (.bool true) (fun b w hb hH => exec_cmp rfl rfl rfl (cmp_gtr_t (by omega)) hb) ?_
      refine h_q hflS rfl ?_
      refine h_done (d_then rfl (d_reg ?_))
      refine h_q hflS rfl ?_
      refine h_done (d_ret (f_then_ret (f_block_ret (f_then_ret (f_block_ret (f_then_ret ?_))))))
      exact f_fin2 (.tmp rfl) (.tmp rfl) (fun w h => tells (X := PsV) ⟨pv, L⟩ (by rw [hres2]) [0] rfl h (fun z hz => ⟨z, .refl _, fact_add (xs := [_]) hres1 hz⟩)) rfl
    · skip
      have hnx : nextF (y.drop at_) = none := by unfold nextF; exact if_neg fun h => by have := h.2.2.1; rw [hn, List.length_drop] at this; omega
      rw [listL_none hnx] at hI2
      have hres1 : L.map (·.2) = ps := by have := congrArg Prod.fst hI2; rw [hr] at this; simpa using this.symm
      have hres2 : (at_ : Int) = (k : Int) := by have := congrArg Prod.snd hI2; rw [hr] at this; simp at this; omega
      refine d_reg ?_
      refine h_q hflS rfl ?_
      refine h_val rfl (.bool false) (fun b w hb hH => exec_cmp rfl rfl rfl (cmp_gtr_f (by omega)) hb) ?_
      refine h_q hflS rfl ?_
      refine h_val rfl (.int .i64 (y.length : Int)) (fun b w hb hH => e_slen ((arg8 hv hU hS hH).rd) Try.underlying23 rfl rfl hb) ?_
      refine h_q hflS rfl ?_
      refine h_val rfl (.int .i64 ((y.length : Int) - (at_ : Int))) (fun b w hb hH => exec_ar rfl rfl rfl rfl (IntWalk.i64_in _ (by omega)) hb) ?_
      refine h_val rfl (.int .i64 ((y.length : Int) - (at_ : Int) - 8)) (fun b w hb hH => exec_ar rfl rfl rfl rfl (IntWalk.i64_in _ (by omega)) hb) ?_
      refine h_val rfl (.bool true) (fun b w hb hH => exec_cmp rfl rfl rfl (cmp_gtr_t (by omega)) hb) ?_
      refine h_q hflS rfl ?_
      refine h_done (d_then rfl (d_reg ?_))
      refine h_q hflS rfl ?_
      refine h_done (d_ret (f_then_ret (f_block_ret (f_then_ret (f_block_ret (f_then_ret ?_))))))
      exact f_fin2 (.tmp rfl) (.tmp rfl) (fun w h => tells (X := PsV) ⟨pv, L⟩ (by rw [hres2]) [0] rfl h (fun z hz => ⟨z, .refl _, fact_add (xs := [_]) hres1 hz⟩)) rfl
    · skip
      obtain ⟨A3, hA3⟩ : ∃ A3, (if c = at_ + 8 then A else A.map (·.add (at_ + 8))) = A3 := ⟨_, rfl⟩
      obtain ⟨x, hx⟩ : ∃ x, (y.take (at_ + 8 + n)).drop (at_ + 8) = x := ⟨_, rfl⟩
      have hxl : x.length = n := by rw [← hx, List.length_drop, List.length_take]; omega
      have hv3 : Sl8 u (.slice A3 x.length (c - (at_ + 8))) x := by have h3 := frm_mid hv (i := at_ + 8) (j := at_ + 8 + n) (by omega) (by omega); rw [hA3, hx] at h3; exact h3
      have hsub : subv 1 (.slice A y.length c) (at_ + 8) (at_ + 8 + n) = .slice A3 x.length (c - (at_ + 8)) := by rw [← hA3, hxl]; exact sub_mid.trans (by rw [show at_ + 8 + n - (at_ + 8) = n by omega])
      have hd8 : ((y.drop at_).drop 8).take n = x := by rw [← hx, List.drop_drop, List.drop_take, show at_ + 8 + n - (at_ + 8) = n by omega]
      obtain ⟨s, hs⟩ : ∃ s, crcSum x = s := ⟨_, rfl⟩
      have hs32 : s < 4294967296 := hs ▸ crc_lt x
      obtain ⟨c0, hc0⟩ : ∃ c, UInt8.ofNat s = c := ⟨_, rfl⟩
      obtain ⟨c1, hc1⟩ : ∃ c, UInt8.ofNat (s / 256) = c := ⟨_, rfl⟩
      obtain ⟨c2, hc2⟩ : ∃ c, UInt8.ofNat (s / 65536) = c := ⟨_, rfl⟩
      obtain ⟨c3, hc3⟩ : ∃ c, UInt8.ofNat (s / 16777216) = c := ⟨_, rfl⟩
      have hw0 : IntKind.u8.wrap ((s : Int)) = (c0.toNat : Int) := by rw [← hc0]; exact wrap_u8 _
      have hw1 : IntKind.u8.wrap (((s / 256 : Nat) : Int)) = (c1.toNat : Int) := by rw [← hc1]; exact wrap_u8 _
      have hw2 : IntKind.u8.wrap (((s / 65536 : Nat) : Int)) = (c2.toNat : Int) := by rw [← hc2]; exact wrap_u8 _
      have hw3 : IntKind.u8.wrap (((s / 16777216 : Nat) : Int)) = (c3.toNat : Int) := by rw [← hc3]; exact wrap_u8 _
      refine d_reg ?_
      refine h_q hflS rfl ?_
      refine h_val rfl (.bool false) (fun b w hb hH => exec_cmp rfl rfl rfl (cmp_gtr_f (by omega)) hb) ?_
      refine h_q hflS rfl ?_
      refine h_val rfl (.int .i64 (y.length : Int)) (fun b w hb hH => e_slen ((arg8 hv hU hS hH).rd) Try.underlying23 rfl rfl hb) ?_
      refine h_q hflS rfl ?_
      refine h_val rfl (.int .i64 ((y.length : Int) - (at_ : Int))) (fun b w hb hH => exec_ar rfl rfl rfl rfl (IntWalk.i64_in _ (by omega)) hb) ?_
      refine h_val rfl (.int .i64 ((y.length : Int) - (at_ : Int) - 8)) (fun b w hb hH => exec_ar rfl rfl rfl rfl (IntWalk.i64_in _ (by omega)) hb) ?_
      refine h_val rfl (.bool false) (fun b w hb hH => exec_cmp rfl rfl rfl (cmp_gtr_f (by omega)) hb) ?_
      refine h_q hflS rfl ?_
      refine h_done (d_else rfl (d_skip (f_to (d_reg ?_))))
      refine h_q hflS rfl ?_
      refine h_val rfl (.int .i64 ((at_ + 8 : Nat) : Int)) (fun b w hb hH => exec_ar rfl rfl rfl rfl (by rw [IntWalk.i64_in _ (by omega)]; omega) hb) ?_
      refine h_q hflS rfl ?_
      refine h_val rfl (.int .i64 ((at_ + 8 : Nat) : Int)) (fun b w hb hH => exec_ar rfl rfl rfl rfl (by rw [IntWalk.i64_in _ (by omega)]; omega) hb) ?_
      refine h_q hflS rfl ?_
      refine h_val rfl (.int .i64 ((at_ + 8 + n : Nat) : Int)) (fun b w hb hH => exec_ar rfl rfl rfl rfl (by rw [IntWalk.i64_in _ (by omega)]; omega) hb) ?_
      refine h_val rfl (.slice A3 x.length (c - (at_ + 8))) (fun b w hb hH => e_sub (i := (at_ + 8)) (j := (at_ + 8 + n)) sl_uint8 hsub (by omega) (Nat.le_trans (by omega) (sl8_cap (A := A) (n := y.length) (c := c) (arg8 hv hU hS hH))) rfl rfl rfl rfl hH hb) ?_
      refine h_q hflS rfl ?_
      refine h_done (d_reg ?_)
      refine h_q hflS rfl ?_
      refine h_act (post := fun _ => [PartsT 23 pv L]) rfl (a_call (ent_of Try.func20 (by kernel_rfl) rfl) (fun w hH => (hs ▸ rsum_c (arg8 hv3 hU hS hH) (by omega))) rfl rfl rfl) ?_; rintro ⟨⟩
      refine h_q hflS rfl ?_
      refine h_done (d_seq ?_)
      have hz : a4.toNat ≠ c0.toNat ∨ (a4.toNat = c0.toNat ∧ a5.toNat ≠ c1.toNat) ∨ (a4.toNat = c0.toNat ∧ a5.toNat = c1.toNat ∧ a6.toNat ≠ c2.toNat) ∨ (a4.toNat = c0.toNat ∧ a5.toNat = c1.toNat ∧ a6.toNat = c2.toNat ∧ a7.toNat ≠ c3.toNat) ∨ (a4.toNat = c0.toNat ∧ a5.toNat = c1.toNat ∧ a6.toNat = c2.toNat ∧ a7.toNat = c3.toNat) := by omega
      rcases hz with h0_ | ⟨e0_, h1_⟩ | ⟨e0_, e1_, h2_⟩ | ⟨e0_, e1_, e2_, h3_⟩ | ⟨e0_, e1_, e2_, e3_⟩
      · skip
        have hnx : nextF (y.drop at_) = none := frm_differs hb8 hn (by rw [hd8, hs]) hc0 hc1 hc2 hc3 (fun h => h0_ (by rw [h.1]))
        rw [listL_none hnx] at hI2
        have hres1 : L.map (·.2) = ps := by have := congrArg Prod.fst hI2; rw [hr] at this; simpa using this.symm
        have hres2 : (at_ : Int) = (k : Int) := by have := congrArg Prod.snd hI2; rw [hr] at this; simp at this; omega
        refine d_reg ?_
        refine h_q hflS rfl ?_
        refine h_val rfl (.int .i64 ((at_ + 4 : Nat) : Int)) (fun b w hb hH => exec_ar rfl rfl rfl rfl (by rw [IntWalk.i64_in _ (by omega)]; omega) hb) ?_
        refine h_val rfl (elp (.slice A y.length c) ((at_ + 4) * 1)) (fun b w hb hH => e_sidx okB ((arg8 hv hU hS hH).rd) sl_uint8 (j := (at_ + 4)) ha4 rfl rfl rfl hb) ?_
        refine h_val rfl (.int .u8 ((a4).toNat : Int)) (fun b w hb hH => e_sload okB (by decide) ((arg8 hv hU hS hH).rd) (j := (at_ + 4)) ha4 ty_uint8 (off := 0) rfl rfl rfl hb) ?_
        refine h_q hflS rfl ?_
        refine h_val rfl (.int .u8 (c0.toNat : Int)) (fun b w hb hH => exec_conv Try.underlying41 Try.underlying5 (hw0) rfl rfl hb) ?_
        refine h_val rfl (.bool true) (fun b w hb hH => exec_cmp rfl rfl rfl (cmp_neq_t (by omega)) hb) ?_
        refine h_q hflS rfl ?_
        refine h_done (d_then rfl (d_reg ?_))
        refine h_q hflS rfl ?_
        refine h_done (d_ret (f_then_ret (f_block_ret (f_then_ret (f_block_ret (f_then_ret ?_))))))
        exact f_fin2 (.tmp rfl) (.tmp rfl) (fun w h => tells (X := PsV) ⟨pv, L⟩ (by rw [hres2]) [0] rfl h (fun z hz => ⟨z, .refl _, fact_add (xs := [_]) hres1 hz⟩)) rfl
      · skip
        have hnx : nextF (y.drop at_) = none := frm_differs hb8 hn (by rw [hd8, hs]) hc0 hc1 hc2 hc3 (fun h => h1_ (by rw [h.2.1]))
        rw [listL_none hnx] at hI2
        have hres1 : L.map (·.2) = ps := by have := congrArg Prod.fst hI2; rw [hr] at this; simpa using this.symm
        have hres2 : (at_ : Int) = (k : Int) := by have := congrArg Prod.snd hI2; rw [hr] at this; simp at this; omega
        refine d_reg ?_
        refine h_q hflS rfl ?_
        refine h_val rfl (.int .i64 ((at_ + 4 : Nat) : Int)) (fun b w hb hH => exec_ar rfl rfl rfl rfl (by rw [IntWalk.i64_in _ (by omega)]; omega) hb) ?_
        refine h_val rfl (elp (.slice A y.length c) ((at_ + 4) * 1)) (fun b w hb hH => e_sidx okB ((arg8 hv hU hS hH).rd) sl_uint8 (j := (at_ + 4)) ha4 rfl rfl rfl hb) ?_
        refine h_val rfl (.int .u8 ((a4).toNat : Int)) (fun b w hb hH => e_sload okB (by decide) ((arg8 hv hU hS hH).rd) (j := (at_ + 4)) ha4 ty_uint8 (off := 0) rfl rfl rfl hb) ?_
        refine h_q hflS rfl ?_
        refine h_val rfl (.int .u8 (c0.toNat : Int)) (fun b w hb hH => exec_conv Try.underlying41 Try.underlying5 (hw0) rfl rfl hb) ?_
        refine h_val rfl (.bool false) (fun b w hb hH => exec_cmp rfl rfl rfl (cmp_neq_f (by omega)) hb) ?_
        refine h_q hflS rfl ?_
        refine h_val rfl (.int .i64 ((at_ + 5 : Nat) : Int)) (fun b w hb hH => exec_ar rfl rfl rfl rfl (by rw [IntWalk.i64_in _ (by omega)]; omega) hb) ?_
        refine h_val rfl (elp (.slice A y.length c) ((at_ + 5) * 1)) (fun b w hb hH => e_sidx okB ((arg8 hv hU hS hH).rd) sl_uint8 (j := (at_ + 5)) ha5 rfl rfl rfl hb) ?_
        refine h_val rfl (.int .u8 ((a5).toNat : Int)) (fun b w hb hH => e_sload okB (by decide) ((arg8 hv hU hS hH).rd) (j := (at_ + 5)) ha5 ty_uint8 (off := 0) rfl rfl rfl hb) ?_
        refine h_q hflS rfl ?_
        refine h_val rfl (.int .u32 ((s / 256 : Nat) : Int)) (fun b w hb hH => exec_shrN (s := 8) (by decide) (by omega) rfl rfl rfl hb) ?_
        refine h_val rfl (.int .u8 (c1.toNat : Int)) (fun b w hb hH => exec_conv Try.underlying41 Try.underlying5 (hw1) rfl rfl hb) ?_
        refine h_val rfl (.bool true) (fun b w hb hH => exec_cmp rfl rfl rfl (cmp_neq_t (by omega)) hb) ?_
        refine h_q hflS rfl ?_
        refine h_done (d_then rfl (d_reg ?_))
        refine h_q hflS rfl ?_
        refine h_done (d_ret (f_then_ret (f_block_ret (f_then_ret (f_block_ret (f_then_ret ?_))))))
        exact f_fin2 (.tmp rfl) (.tmp rfl) (fun w h => tells (X := PsV) ⟨pv, L⟩ (by rw [hres2]) [0] rfl h (fun z hz => ⟨z, .refl _, fact_add (xs := [_]) hres1 hz⟩)) rfl
      · skip
        have hnx : nextF (y.drop at_) = none := frm_differs hb8 hn (by rw [hd8, hs]) hc0 hc1 hc2 hc3 (fun h => h2_ (by rw [h.2.2.1]))
        rw [listL_none hnx] at hI2
        have hres1 : L.map (·.2) = ps := by have := congrArg Prod.fst hI2; rw [hr] at this; simpa using this.symm
        have hres2 : (at_ : Int) = (k : Int) := by have := congrArg Prod.snd hI2; rw [hr] at this; simp at this; omega
        refine d_reg ?_
        refine h_q hflS rfl ?_
        refine h_val rfl (.int .i64 ((at_ + 4 : Nat) : Int)) (fun b w hb hH => exec_ar rfl rfl rfl rfl (by rw [IntWalk.i64_in _ (by omega)]; omega) hb) ?_
        refine h_val rfl (elp (.slice A y.length c) ((at_ + 4) * 1)) (fun b w hb hH => e_sidx okB ((arg8 hv hU hS hH).rd) sl_uint8 (j := (at_ + 4)) ha4 rfl rfl rfl hb) ?_
        refine h_val rfl (.int .u8 ((a4).toNat : Int)) (fun b w hb hH => e_sload okB (by decide) ((arg8 hv hU hS hH).rd) (j := (at_ + 4)) ha4 ty_uint8 (off := 0) rfl rfl rfl hb) ?_
        refine h_q hflS rfl ?_
        refine h_val rfl (.int .u8 (c0.toNat : Int)) (fun b w hb hH => exec_conv Try.underlying41 Try.underlying5 (hw0) rfl rfl hb) ?_
        refine h_val rfl (.bool false) (fun b w hb hH => exec_cmp rfl rfl rfl (cmp_neq_f (by omega)) hb) ?_
        refine h_q hflS rfl ?_
        refine h_val rfl (.int .i64 ((at_ + 5 : Nat) : Int)) (fun b w hb hH => exec_ar rfl rfl rfl rfl (by rw [IntWalk.i64_in _ (by omega)]; omega) hb) ?_
        refine h_val rfl (elp (.slice A y.length c) ((at_ + 5) * 1)) (fun b w hb hH => e_sidx okB ((arg8 hv hU hS hH).rd) sl_uint8 (j := (at_ + 5)) ha5 rfl rfl rfl hb) ?_
        refine h_val rfl (.int .u8 ((a5).toNat : Int)) (fun b w hb hH => e_sload okB (by decide) ((arg8 hv hU hS hH).rd) (j := (at_ + 5)) ha5 ty_uint8 (off := 0) rfl rfl rfl hb) ?_
        refine h_q hflS rfl ?_
        refine h_val rfl (.int .u32 ((s / 256 : Nat) : Int)) (fun b w hb hH => exec_shrN (s := 8) (by decide) (by omega) rfl rfl rfl hb) ?_
        refine h_val rfl (.int .u8 (c1.toNat : Int)) (fun b w hb hH => exec_conv Try.underlying41 Try.underlying5 (hw1) rfl rfl hb) ?_
        refine h_val rfl (.bool false) (fun b w hb hH => exec_cmp rfl rfl rfl (cmp_neq_f (by omega)) hb) ?_
        refine h_q hflS rfl ?_
        refine h_val rfl (.int .i64 ((at_ + 6 : Nat) : Int)) (fun b w hb hH => exec_ar rfl rfl rfl rfl (by rw [IntWalk.i64_in _ (by omega)]; omega) hb) ?_
        refine h_val rfl (elp (.slice A y.length c) ((at_ + 6) * 1)) (fun b w hb hH => e_sidx okB ((arg8 hv hU hS hH).rd) sl_uint8 (j := (at_ + 6)) ha6 rfl rfl rfl hb) ?_
        refine h_val rfl (.int .u8 ((a6).toNat : Int)) (fun b w hb hH => e_sload okB (by decide) ((arg8 hv hU hS hH).rd) (j := (at_ + 6)) ha6 ty_uint8 (off := 0) rfl rfl rfl hb) ?_
        refine h_q hflS rfl ?_
        refine h_val rfl (.int .u32 ((s / 65536 : Nat) : Int)) (fun b w hb hH => exec_shrN (s := 16) (by decide) (by omega) rfl rfl rfl hb) ?_
        refine h_val rfl (.int .u8 (c2.toNat : Int)) (fun b w hb hH => exec_conv Try.underlying41 Try.underlying5 (hw2) rfl rfl hb) ?_
        refine h_val rfl (.bool true) (fun b w hb hH => exec_cmp rfl rfl rfl (cmp_neq_t (by omega)) hb) ?_
        refine h_q hflS rfl ?_
        refine h_done (d_then rfl (d_reg ?_))
        refine h_q hflS rfl ?_
        refine h_done (d_ret (f_then_ret (f_block_ret (f_then_ret (f_block_ret (f_then_ret ?_))))))
        exact f_fin2 (.tmp rfl) (.tmp rfl) (fun w h => tells (X := PsV) ⟨pv, L⟩ (by rw [hres2]) [0] rfl h (fun z hz => ⟨z, .refl _, fact_add (xs := [_]) hres1 hz⟩)) rfl
      · skip
        have hnx : nextF (y.drop at_) = none := frm_differs hb8 hn (by rw [hd8, hs]) hc0 hc1 hc2 hc3 (fun h => h3_ (by rw [h.2.2.2]))
        rw [listL_none hnx] at hI2
        have hres1 : L.map (·.2) = ps := by have := congrArg Prod.fst hI2; rw [hr] at this; simpa using this.symm
        have hres2 : (at_ : Int) = (k : Int) := by have := congrArg Prod.snd hI2; rw [hr] at this; simp at this; omega
        refine d_reg ?_
        refine h_q hflS rfl ?_
        refine h_val rfl (.int .i64 ((at_ + 4 : Nat) : Int)) (fun b w hb hH => exec_ar rfl rfl rfl rfl (by rw [IntWalk.i64_in _ (by omega)]; omega) hb) ?_
        refine h_val rfl (elp (.slice A y.length c) ((at_ + 4) * 1)) (fun b w hb hH => e_sidx okB ((arg8 hv hU hS hH).rd) sl_uint8 (j := (at_ + 4)) ha4 rfl rfl rfl hb) ?_
        refine h_val rfl (.int .u8 ((a4).toNat : Int)) (fun b w hb hH => e_sload okB (by decide) ((arg8 hv hU hS hH).rd) (j := (at_ + 4)) ha4 ty_uint8 (off := 0) rfl rfl rfl hb) ?_
        refine h_q hflS rfl ?_
        refine h_val rfl (.int .u8 (c0.toNat : Int)) (fun b w hb hH => exec_conv Try.underlying41 Try.underlying5 (hw0) rfl rfl hb) ?_
        refine h_val rfl (.bool false) (fun b w hb hH => exec_cmp rfl rfl rfl (cmp_neq_f (by omega)) hb) ?_
        refine h_q hflS rfl ?_
        refine h_val rfl (.int .i64 ((at_ + 5 : Nat) : Int)) (fun b w hb hH => exec_ar rfl rfl rfl rfl (by rw [IntWalk.i64_in _ (by omega)]; omega) hb) ?_
        refine h_val rfl (elp (.slice A y.length c) ((at_ + 5) * 1)) (fun b w hb hH => e_sidx okB ((arg8 hv hU hS hH).rd) sl_uint8 (j := (at_ + 5)) ha5 rfl rfl rfl hb) ?_
        refine h_val rfl (.int .u8 ((a5).toNat : Int)) (fun b w hb hH => e_sload okB (by decide) ((arg8 hv hU hS hH).rd) (j := (at_ + 5)) ha5 ty_uint8 (off := 0) rfl rfl rfl hb) ?_
        refine h_q hflS rfl ?_
        refine h_val rfl (.int .u32 ((s / 256 : Nat) : Int)) (fun b w hb hH => exec_shrN (s := 8) (by decide) (by omega) rfl rfl rfl hb) ?_
        refine h_val rfl (.int .u8 (c1.toNat : Int)) (fun b w hb hH => exec_conv Try.underlying41 Try.underlying5 (hw1) rfl rfl hb) ?_
        refine h_val rfl (.bool false) (fun b w hb hH => exec_cmp rfl rfl rfl (cmp_neq_f (by omega)) hb) ?_
        refine h_q hflS rfl ?_
        refine h_val rfl (.int .i64 ((at_ + 6 : Nat) : Int)) (fun b w hb hH => exec_ar rfl rfl rfl rfl (by rw [IntWalk.i64_in _ (by omega)]; omega) hb) ?_
        refine h_val rfl (elp (.slice A y.length c) ((at_ + 6) * 1)) (fun b w hb hH => e_sidx okB ((arg8 hv hU hS hH).rd) sl_uint8 (j := (at_ + 6)) ha6 rfl rfl rfl hb) ?_
        refine h_val rfl (.int .u8 ((a6).toNat : Int)) (fun b w hb hH => e_sload okB (by decide) ((arg8 hv hU hS hH).rd) (j := (at_ + 6)) ha6 ty_uint8 (off := 0) rfl rfl rfl hb) ?_
        refine h_q hflS rfl ?_
        refine h_val rfl (.int .u32 ((s / 65536 : Nat) : Int)) (fun b w hb hH => exec_shrN (s := 16) (by decide) (by omega) rfl rfl rfl hb) ?_
        refine h_val rfl (.int .u8 (c2.toNat : Int)) (fun b w hb hH => exec_conv Try.underlying41 Try.underlying5 (hw2) rfl rfl hb) ?_
        refine h_val rfl (.bool false) (fun b w hb hH => exec_cmp rfl rfl rfl (cmp_neq_f (by omega)) hb) ?_
        refine h_q hflS rfl ?_
        refine h_val rfl (.int .i64 ((at_ + 7 : Nat) : Int)) (fun b w hb hH => exec_ar rfl rfl rfl rfl (by rw [IntWalk.i64_in _ (by omega)]; omega) hb) ?_
        refine h_val rfl (elp (.slice A y.length c) ((at_ + 7) * 1)) (fun b w hb hH => e_sidx okB ((arg8 hv hU hS hH).rd) sl_uint8 (j := (at_ + 7)) ha7 rfl rfl rfl hb) ?_
        refine h_val rfl (.int .u8 ((a7).toNat : Int)) (fun b w hb hH => e_sload okB (by decide) ((arg8 hv hU hS hH).rd) (j := (at_ + 7)) ha7 ty_uint8 (off := 0) rfl rfl rfl hb) ?_
        refine h_q hflS rfl ?_
        refine h_val rfl (.int .u32 ((s / 16777216 : Nat) : Int)) (fun b w hb hH => exec_shrN (s := 24) (by decide) (by omega) rfl rfl rfl hb) ?_
        refine h_val rfl (.int .u8 (c3.toNat : Int)) (fun b w hb hH => exec_conv Try.underlying41 Try.underlying5 (hw3) rfl rfl hb) ?_
        refine h_val rfl (.bool true) (fun b w hb hH => exec_cmp rfl rfl rfl (cmp_neq_t (by omega)) hb) ?_
        refine h_q hflS rfl ?_
        refine h_done (d_then rfl (d_reg ?_))
        refine h_q hflS rfl ?_
        refine h_done (d_ret (f_then_ret (f_block_ret (f_then_ret (f_block_ret (f_then_ret ?_))))))
        exact f_fin2 (.tmp rfl) (.tmp rfl) (fun w h => tells (X := PsV) ⟨pv, L⟩ (by rw [hres2]) [0] rfl h (fun z hz => ⟨z, .refl _, fact_add (xs := [_]) hres1 hz⟩)) rfl
      · skip
        have hnx : nextF (y.drop at_) = some x := frm_whole hb8 hn hn1 hd8 (by rw [List.length_drop]; omega) (by rw [hs]) hc0 hc1 hc2 hc3 ⟨by omega, by omega, by omega, by omega⟩
        have hI2_ := hI2
        rw [listL_some hnx] at hI2_
        have hdd : (y.drop at_).drop (8 + x.length) = y.drop (at_ + 8 + n) := by rw [List.drop_drop, hxl, show at_ + (8 + n) = at_ + 8 + n by omega]
        rw [hdd] at hI2_
        refine d_reg ?_
        refine h_q hflS rfl ?_
        refine h_val rfl (.int .i64 ((at_ + 4 : Nat) : Int)) (fun b w hb hH => exec_ar rfl rfl rfl rfl (by rw [IntWalk.i64_in _ (by omega)]; omega) hb) ?_
        refine h_val rfl (elp (.slice A y.length c) ((at_ + 4) * 1)) (fun b w hb hH => e_sidx okB ((arg8 hv hU hS hH).rd) sl_uint8 (j := (at_ + 4)) ha4 rfl rfl rfl hb) ?_
        refine h_val rfl (.int .u8 ((a4).toNat : Int)) (fun b w hb hH => e_sload okB (by decide) ((arg8 hv hU hS hH).rd) (j := (at_ + 4)) ha4 ty_uint8 (off := 0) rfl rfl rfl hb) ?_
        refine h_q hflS rfl ?_
        refine h_val rfl (.int .u8 (c0.toNat : Int)) (fun b w hb hH => exec_conv Try.underlying41 Try.underlying5 (hw0) rfl rfl hb) ?_
        refine h_val rfl (.bool false) (fun b w hb hH => exec_cmp rfl rfl rfl (cmp_neq_f (by omega)) hb) ?_
        refine h_q hflS rfl ?_
        refine h_val rfl (.int .i64 ((at_ + 5 : Nat) : Int)) (fun b w hb hH => exec_ar rfl rfl rfl rfl (by rw [IntWalk.i64_in _ (by omega)]; omega) hb) ?_
        refine h_val rfl (elp (.slice A y.length c) ((at_ + 5) * 1)) (fun b w hb hH => e_sidx okB ((arg8 hv hU hS hH).rd) sl_uint8 (j := (at_ + 5)) ha5 rfl rfl rfl hb) ?_
        refine h_val rfl (.int .u8 ((a5).toNat : Int)) (fun b w hb hH => e_sload okB (by decide) ((arg8 hv hU hS hH).rd) (j := (at_ + 5)) ha5 ty_uint8 (off := 0) rfl rfl rfl hb) ?_
        refine h_q hflS rfl ?_
        refine h_val rfl (.int .u32 ((s / 256 : Nat) : Int)) (fun b w hb hH => exec_shrN (s := 8) (by decide) (by omega) rfl rfl rfl hb) ?_
        refine h_val rfl (.int .u8 (c1.toNat : Int)) (fun b w hb hH => exec_conv Try.underlying41 Try.underlying5 (hw1) rfl rfl hb) ?_
        refine h_val rfl (.bool false) (fun b w hb hH => exec_cmp rfl rfl rfl (cmp_neq_f (by omega)) hb) ?_
        refine h_q hflS rfl ?_
        refine h_val rfl (.int .i64 ((at_ + 6 : Nat) : Int)) (fun b w hb hH => exec_ar rfl rfl rfl rfl (by rw [IntWalk.i64_in _ (by omega)]; omega) hb) ?_
        refine h_val rfl (elp (.slice A y.length c) ((at_ + 6) * 1)) (fun b w hb hH => e_sidx okB ((arg8 hv hU hS hH).rd) sl_uint8 (j := (at_ + 6)) ha6 rfl rfl rfl hb) ?_
        refine h_val rfl (.int .u8 ((a6).toNat : Int)) (fun b w hb hH => e_sload okB (by decide) ((arg8 hv hU hS hH).rd) (j := (at_ + 6)) ha6 ty_uint8 (off := 0) rfl rfl rfl hb) ?_
        refine h_q hflS rfl ?_
        refine h_val rfl (.int .u32 ((s / 65536 : Nat) : Int)) (fun b w hb hH => exec_shrN (s := 16) (by decide) (by omega) rfl rfl rfl hb) ?_
        refine h_val rfl (.int .u8 (c2.toNat : Int)) (fun b w hb hH => exec_conv Try.underlying41 Try.underlying5 (hw2) rfl rfl hb) ?_
        refine h_val rfl (.bool false) (fun b w hb hH => exec_cmp rfl rfl rfl (cmp_neq_f (by omega)) hb) ?_
        refine h_q hflS rfl ?_
        refine h_val rfl (.int .i64 ((at_ + 7 : Nat) : Int)) (fun b w hb hH => exec_ar rfl rfl rfl rfl (by rw [IntWalk.i64_in _ (by omega)]; omega) hb) ?_
        refine h_val rfl (elp (.slice A y.length c) ((at_ + 7) * 1)) (fun b w hb hH => e_sidx okB ((arg8 hv hU hS hH).rd) sl_uint8 (j := (at_ + 7)) ha7 rfl rfl rfl hb) ?_
        refine h_val rfl (.int .u8 ((a7).toNat : Int)) (fun b w hb hH => e_sload okB (by decide) ((arg8 hv hU hS hH).rd) (j := (at_ + 7)) ha7 ty_uint8 (off := 0) rfl rfl rfl hb) ?_
        refine h_q hflS rfl ?_
        refine h_val rfl (.int .u32 ((s / 16777216 : Nat) : Int)) (fun b w hb hH => exec_shrN (s := 24) (by decide) (by omega) rfl rfl rfl hb) ?_
        refine h_val rfl (.int .u8 (c3.toNat : Int)) (fun b w hb hH => exec_conv Try.underlying41 Try.underlying5 (hw3) rfl rfl hb) ?_
        refine h_val rfl (.bool false) (fun b w hb hH => exec_cmp rfl rfl rfl (cmp_neq_f (by omega)) hb) ?_
        refine h_q hflS rfl ?_
        refine h_done (d_else rfl (d_skip (f_to ?_)))
        refine d_open 0 rfl prts_open (fun _ => rfl) ?_; rintro ⟨⟩
        refine d_reg ?_
        refine h_q hflS rfl ?_
        refine h_act (X := Value) (val := fun v : Value => v) (post := fun d0 => [Vec 5 1 encB d0 ([]), Vec 23 1 encW pv (L.map (·.1)), Each (fun x : PtT => Vec 5 1 encB x.1 x.2) L]) rfl (by refine a_build0 (e := 5) (t := 23) (k := 1) (enc := encB) ?_ ?_; exact sl_uint8; exact rfl) ?_; rintro d0
        refine h_q hflS rfl ?_
        refine h_act (post := fun d1 => [Vec 5 1 encB d1 x, Vec 23 1 encW pv (L.map (·.1)), Each (fun x : PtT => Vec 5 1 encB x.1 x.2) L]) rfl (a_append8 0 sl_uint8 (by kernel_rfl) rfl (x) (fun w hH => (arg8 hv3 hU hS hH).rd) (by simp only [List.length_nil]; omega) rfl rfl rfl (List.nil_append _)) ?_; rintro d1
        refine h_act (X := Value) (val := fun v : Value => v) (post := fun b1 => [Vec 23 1 encW b1 ([d1]), Vec 5 1 encB d1 x, Vec 23 1 encW pv (L.map (·.1)), Each (fun x : PtT => Vec 5 1 encB x.1 x.2) L]) rfl (by exact a_buildV 0 sl_s_uint8 rfl rfl rfl) ?_; rintro b1
        refine h_act (post := fun p1 => [Vec 23 1 encW b1 ([d1]), Vec 5 1 encB d1 x, Vec 23 1 encW p1 (L.map (·.1) ++ [d1]), Each (fun x : PtT => Vec 5 1 encB x.1 x.2) L]) rfl (a_append 2 sl_s_uint8 okW rfl ([d1]) (fun w hH => hH.vec 0 rfl okW) (by simp only [List.length_map, List.length_cons, List.length_nil]; omega) rfl rfl rfl rfl) ?_; rintro p1
        refine h_q hflS rfl ?_
        refine h_done ?_
        refine WC2.leave [0] rfl rfl ?_
        refine d_close [1, 2, 0] rfl prts_push rfl ?_
        refine d_reg1 ?_
        refine h_q hflS rfl ?_
        refine h_val rfl (.int .i64 ((at_ + 8 : Nat) : Int)) (fun b w hb hH => exec_ar rfl rfl rfl rfl (by rw [IntWalk.i64_in _ (by omega)]; omega) hb) ?_
        refine h_q hflS rfl ?_
        refine h_val rfl (.int .i64 ((at_ + 8 + n : Nat) : Int)) (fun b w hb hH => exec_ar rfl rfl rfl rfl (by rw [IntWalk.i64_in _ (by omega)]; omega) hb) ?_
        refine h_q hflS rfl ?_
        refine h_nil (f_block ?_)
        exact f_again (at_ + 8 + n, L ++ [(d1, x)], p1) 0 ⟨by omega, by rw [List.map_append]; exact frm_step hI2_ hxl, by rw [List.length_append]; simp only [List.length_cons, List.length_nil]; omega⟩ (show y.length - (at_ + 8 + n) < y.length - at_ by omega) ⟨rfl, rfl, rfl, rfl, rfl, trivial⟩ rfl

set_option maxRecDepth 100000 in
theorem rlist {X : Ass} {y : List UInt8} {ps : List (List UInt8)} {k : Nat} {A : Option Addr} {c : Nat} (hX : Rd8 X (.slice A y.length c) y) (hl : y.length ≤ 137438953472) (hr : listL y = (ps, k)) : Does Try.prog 13 #[.slice A y.length c] [X] (fun (x : PsV) => .tuple #[x.v, .int .i64 (k : Int)]) (fun (x : PsV) => [X, PartsT 23 x.v x.l, fact (x.l.map (·.2) = ps)]) := by
  refine d_ins (args := [.slice A y.length c]) 121 Try.func13 rfl rfl rfl ?_; intro w rs
  refine d_reg ?_
  refine h_q hflS rfl ?_
  refine h_done (d_reg ?_)
  refine h_q hflS rfl ?_
  refine h_done (d_reg ?_)
  refine h_q hflS rfl ?_
  refine h_done (d_seq (d_block ?_))
  refine d_new (t := PartsT 23 (.slice none 0 0) ([])) (prts_nil) ?_
  refine d_loop (α := Nat × List PtT × Value) (fun ⟨at_, L, pv⟩ => [(0, .slice A y.length c), (2, .slice none 0 0), (3, .int .i64 0), (4, pv), (5, .int .i64 ((at_ : Nat) : Int))]) (fun ⟨at_, L, pv⟩ => [PartsT 23 pv L, X]) (fun ⟨at_, L, pv⟩ => at_ ≤ y.length ∧ listL y = (L.map (·.2) ++ (listL (y.drop at_)).1, at_ + (listL (y.drop at_)).2) ∧ L.length * 8 ≤ at_) (fun ⟨at_, L, pv⟩ => y.length - at_) (0, [], .slice none 0 0) ⟨Nat.zero_le _, by simp, Nat.le_refl _⟩ ⟨rfl, rfl, rfl, rfl, rfl, trivial⟩ rfl ?_
  rintro ⟨at_, L, pv⟩ hI
  refine WC2.at_ (env' := [(0, .slice A y.length c), (2, .slice none 0 0), (3, .int .i64 0), (4, pv), (5, .int .i64 ((at_ : Nat) : Int))]) (rs' := [PartsT 23 pv L, X]) ⟨rfl, rfl, rfl, rfl, rfl, trivial⟩ rfl ?_
  have hI1 : at_ ≤ y.length := hI.1
  have hI2 : listL y = (L.map (·.2) ++ (listL (y.drop at_)).1, at_ + (listL (y.drop at_)).2) := hI.2.1
  have hI3 : L.length * 8 ≤ at_ := hI.2.2
  clear hI
  refine d_seq ?_
  rcases Nat.lt_or_ge (y.length - at_) 8 with h8 | h8
  · skip
    have hnx : nextF (y.drop at_) = none := by unfold nextF; exact if_neg fun h => by have := h.1; rw [List.length_drop] at this; omega
    rw [listL_none hnx] at hI2
    have hres1 : L.map (·.2) = ps := by have := congrArg Prod.fst hI2; rw [hr] at this; simpa using this.symm
    have hres2 : (at_ : Int) = (k : Int) := by have := congrArg Prod.snd hI2; rw [hr] at this; simp at this; omega
    refine d_reg ?_
    refine h_q hflS rfl ?_
    refine h_val rfl (.int .i64 (y.length : Int)) (fun b w hb hH => e_slen ((hH.rd8 1 rfl hX).rd) Try.underlying23 rfl rfl hb) ?_
    refine h_q hflS rfl ?_
    refine h_val rfl (.int .i64 ((y.length : Int) - (at_ : Int))) (fun b w hb hH => exec_ar rfl rfl rfl rfl (IntWalk.i64_in _ (by omega)) hb) ?_
    refine h_val rfl (.bool false) (fun b w hb hH => exec_cmp rfl rfl rfl (cmp_geq_f (by omega)) hb) ?_
    refine h_done (d_else rfl (d_exit (f_then_exit (f_then_exit (f_block_exit (f_to (d_reg ?_)))))))
    refine h_q hflS rfl ?_
    refine h_done (d_ret ?_)
    exact f_fin2 (.tmp rfl) (.tmp rfl) (fun w h => tells (X := PsV) ⟨pv, L⟩ (by rw [hres2]) [1, 0] rfl h (fun z hz => ⟨z, .refl _, fact_add (xs := [_, _]) hres1 hz⟩)) rfl
  · skip
    obtain ⟨a0, ha0⟩ : ∃ a, y[at_ + 0]? = some a := ⟨_, List.getElem?_eq_getElem (by omega)⟩
    obtain ⟨a1, ha1⟩ : ∃ a, y[at_ + 1]? = some a := ⟨_, List.getElem?_eq_getElem (by omega)⟩
    obtain ⟨a2, ha2⟩ : ∃ a, y[at_ + 2]? = some a := ⟨_, List.getElem?_eq_getElem (by omega)⟩
    obtain ⟨a3, ha3⟩ : ∃ a, y[at_ + 3]? = some a := ⟨_, List.getElem?_eq_getElem (by omega)⟩
    obtain ⟨a4, ha4⟩ : ∃ a, y[at_ + 4]? = some a := ⟨_, List.getElem?_eq_getElem (by omega)⟩
    obtain ⟨a5, ha5⟩ : ∃ a, y[at_ + 5]? = some a := ⟨_, List.getElem?_eq_getElem (by omega)⟩
    obtain ⟨a6, ha6⟩ : ∃ a, y[at_ + 6]? = some a := ⟨_, List.getElem?_eq_getElem (by omega)⟩
    obtain ⟨a7, ha7⟩ : ∃ a, y[at_ + 7]? = some a := ⟨_, List.getElem?_eq_getElem (by omega)⟩
    have hA0 := a0.toNat_lt
    have hA1 := a1.toNat_lt
    have hA2 := a2.toNat_lt
    have hA3 := a3.toNat_lt
    rw [Nat.add_zero] at ha0
    obtain ⟨n, hn_⟩ : ∃ n, a0.toNat + a1.toNat * 256 + a2.toNat * 65536 + a3.toNat * 16777216 = n := ⟨_, rfl⟩
    have hb8 : (y.drop at_).take 8 = [a0, a1, a2, a3, a4, a5, a6, a7] := frm_take8 ha0 ha1 ha2 ha3 ha4 ha5 ha6 ha7
    have hn : n4 (y.drop at_) 0 = n := frm_n4 hb8 hn_
    refine d_reg ?_
    refine h_q hflS rfl ?_
    refine h_val rfl (.int .i64 (y.length : Int)) (fun b w hb hH => e_slen ((hH.rd8 1 rfl hX).rd) Try.underlying23 rfl rfl hb) ?_
    refine h_q hflS rfl ?_
    refine h_val rfl (.int .i64 ((y.length : Int) - (at_ : Int))) (fun b w hb hH => exec_ar rfl rfl rfl rfl (IntWalk.i64_in _ (by omega)) hb) ?_
    refine h_val rfl (.bool true) (fun b w hb hH => exec_cmp rfl rfl rfl (cmp_geq_t (by omega)) hb) ?_
    refine h_done (d_then rfl (d_skip (f_to (d_block (d_seq ?_)))))
    refine d_parS 29 0 [⟨.quiet, [], fun _ => .slice A y.length c, []⟩, ⟨.quiet, [], fun _ => .int .i64 ((at_ : Nat) : Int), []⟩, ⟨.quiet, [], fun _ => elp (.slice A y.length c) (at_ * 1), [0, 1]⟩, ⟨.quiet, [], fun _ => .int .u8 ((a0).toNat : Int), [2]⟩, ⟨.quiet, [], fun _ => .int .i64 ((a0).toNat : Int), [3]⟩, ⟨.quiet, [], fun _ => .slice A y.length c, []⟩, ⟨.quiet, [], fun _ => .int .i64 ((at_ : Nat) : Int), []⟩, ⟨.quiet, [], fun _ => .int .i64 ((at_ + 1 : Nat) : Int), [6]⟩, ⟨.quiet, [], fun _ => elp (.slice A y.length c) ((at_ + 1) * 1), [5, 7]⟩, ⟨.quiet, [], fun _ => .int .u8 ((a1).toNat : Int), [8]⟩, ⟨.quiet, [], fun _ => .int .i64 ((a1).toNat : Int), [9]⟩, ⟨.quiet, [], fun _ => .int .i64 ((a1.toNat * 256 : Nat) : Int), [10]⟩, ⟨.quiet, [], fun _ => .int .i64 ((a0.toNat + a1.toNat * 256 : Nat) : Int), [4, 11]⟩, ⟨.quiet, [], fun _ => .slice A y.length c, []⟩, ⟨.quiet, [], fun _ => .int .i64 ((at_ : Nat) : Int), []⟩, ⟨.quiet, [], fun _ => .int .i64 ((at_ + 2 : Nat) : Int), [14]⟩, ⟨.quiet, [], fun _ => elp (.slice A y.length c) ((at_ + 2) * 1), [13, 15]⟩, ⟨.quiet, [], fun _ => .int .u8 ((a2).toNat : Int), [16]⟩, ⟨.quiet, [], fun _ => .int .i64 ((a2).toNat : Int), [17]⟩, ⟨.quiet, [], fun _ => .int .i64 ((a2.toNat * 65536 : Nat) : Int), [18]⟩, ⟨.quiet, [], fun _ => .int .i64 ((a0.toNat + a1.toNat * 256 + a2.toNat * 65536 : Nat) : Int), [12, 19]⟩, ⟨.quiet, [], fun _ => .slice A y.length c, []⟩, ⟨.quiet, [], fun _ => .int .i64 ((at_ : Nat) : Int), []⟩, ⟨.quiet, [], fun _ => .int .i64 ((at_ + 3 : Nat) : Int), [22]⟩, ⟨.quiet, [], fun _ => elp (.slice A y.length c) ((at_ + 3) * 1), [21, 23]⟩, ⟨.quiet, [], fun _ => .int .u8 ((a3).toNat : Int), [24]⟩, ⟨.quiet, [], fun _ => .int .i64 ((a3).toNat : Int), [25]⟩, ⟨.quiet, [], fun _ => .int .i64 ((a3.toNat * 16777216 : Nat) : Int), [26]⟩, ⟨.quiet, [], fun _ => .int .i64 (n : Int), [20, 27]⟩] [(0, .slice A y.length c), (2, .slice none 0 0), (3, .int .i64 0), (4, pv), (5, .int .i64 ((at_ : Nat) : Int)), (9, .slice A y.length c), (10, .int .i64 (y.length : Int)), (11, .int .i64 ((at_ : Nat) : Int)), (12, .int .i64 ((y.length : Int) - (at_ : Int))), (13, .bool true)] (fun _ => [PartsT 23 pv L, X]) (by kernel_rfl) (by kernel_rfl) ⟨rfl, rfl, rfl, rfl, rfl, rfl, rfl, rfl, rfl, rfl, trivial⟩ rfl ?_ ?_
    · skip
      refine s_cons (by exact ⟨rfl, fun b w hH hb => exec_q1 hflS rfl hb⟩) ?_
      refine s_cons (by exact ⟨rfl, fun b w hH hb => exec_q1 hflS rfl hb⟩) ?_
      refine s_cons (by exact ⟨rfl, fun b w hH hb => e_sidx okB ((hH.rd8 1 rfl hX).rd) sl_uint8 (j := at_) ha0 rfl rfl rfl hb⟩) ?_
      refine s_cons (by exact ⟨rfl, fun b w hH hb => e_sload okB (by decide) ((hH.rd8 1 rfl hX).rd) (j := at_) ha0 ty_uint8 (off := 0) rfl rfl rfl hb⟩) ?_
      refine s_cons (by exact ⟨rfl, fun b w hH hb => exec_conv Try.underlying5 Try.underlying3 (IntWalk.i64_in _ (by omega)) rfl rfl hb⟩) ?_
      refine s_cons (by exact ⟨rfl, fun b w hH hb => exec_q1 hflS rfl hb⟩) ?_
      refine s_cons (by exact ⟨rfl, fun b w hH hb => exec_q1 hflS rfl hb⟩) ?_
      refine s_cons (by exact ⟨rfl, fun b w hH hb => exec_ar rfl rfl rfl rfl (by rw [IntWalk.i64_in _ (by omega)]; omega) hb⟩) ?_
      refine s_cons (by exact ⟨rfl, fun b w hH hb => e_sidx okB ((hH.rd8 1 rfl hX).rd) sl_uint8 (j := (at_ + 1)) ha1 rfl rfl rfl hb⟩) ?_
      refine s_cons (by exact ⟨rfl, fun b w hH hb => e_sload okB (by decide) ((hH.rd8 1 rfl hX).rd) (j := (at_ + 1)) ha1 ty_uint8 (off := 0) rfl rfl rfl hb⟩) ?_
      refine s_cons (by exact ⟨rfl, fun b w hH hb => exec_conv Try.underlying5 Try.underlying3 (IntWalk.i64_in _ (by omega)) rfl rfl hb⟩) ?_
      refine s_cons (by exact ⟨rfl, fun b w hH hb => exec_shlN (s := 8) (by decide) (by rw [IntWalk.i64_in _ (by omega)]; omega) rfl rfl rfl hb⟩) ?_
      refine s_cons (by exact ⟨rfl, fun b w hH hb => exec_ar rfl rfl rfl rfl (by rw [IntWalk.i64_in _ (by omega)]; omega) hb⟩) ?_
      refine s_cons (by exact ⟨rfl, fun b w hH hb => exec_q1 hflS rfl hb⟩) ?_
      refine s_cons (by exact ⟨rfl, fun b w hH hb => exec_q1 hflS rfl hb⟩) ?_
      refine s_cons (by exact ⟨rfl, fun b w hH hb => exec_ar rfl rfl rfl rfl (by rw [IntWalk.i64_in _ (by omega)]; omega) hb⟩) ?_
      refine s_cons (by exact ⟨rfl, fun b w hH hb => e_sidx okB ((hH.rd8 1 rfl hX).rd) sl_uint8 (j := (at_ + 2)) ha2 rfl rfl rfl hb⟩) ?_
      refine s_cons (by exact ⟨rfl, fun b w hH hb => e_sload okB (by decide) ((hH.rd8 1 rfl hX).rd) (j := (at_ + 2)) ha2 ty_uint8 (off := 0) rfl rfl rfl hb⟩) ?_
      refine s_cons (by exact ⟨rfl, fun b w hH hb => exec_conv Try.underlying5 Try.underlying3 (IntWalk.i64_in _ (by omega)) rfl rfl hb⟩) ?_
      refine s_cons (by exact ⟨rfl, fun b w hH hb => exec_shlN (s := 16) (by decide) (by rw [IntWalk.i64_in _ (by omega)]; omega) rfl rfl rfl hb⟩) ?_
      refine s_cons (by exact ⟨rfl, fun b w hH hb => exec_ar rfl rfl rfl rfl (by rw [IntWalk.i64_in _ (by omega)]; omega) hb⟩) ?_
      refine s_cons (by exact ⟨rfl, fun b w hH hb => exec_q1 hflS rfl hb⟩) ?_
      refine s_cons (by exact ⟨rfl, fun b w hH hb => exec_q1 hflS rfl hb⟩) ?_
      refine s_cons (by exact ⟨rfl, fun b w hH hb => exec_ar rfl rfl rfl rfl (by rw [IntWalk.i64_in _ (by omega)]; omega) hb⟩) ?_
      refine s_cons (by exact ⟨rfl, fun b w hH hb => e_sidx okB ((hH.rd8 1 rfl hX).rd) sl_uint8 (j := (at_ + 3)) ha3 rfl rfl rfl hb⟩) ?_
      refine s_cons (by exact ⟨rfl, fun b w hH hb => e_sload okB (by decide) ((hH.rd8 1 rfl hX).rd) (j := (at_ + 3)) ha3 ty_uint8 (off := 0) rfl rfl rfl hb⟩) ?_
      refine s_cons (by exact ⟨rfl, fun b w hH hb => exec_conv Try.underlying5 Try.underlying3 (IntWalk.i64_in _ (by omega)) rfl rfl hb⟩) ?_
      refine s_cons (by exact ⟨rfl, fun b w hH hb => exec_shlN (s := 24) (by decide) (by rw [IntWalk.i64_in _ (by omega)]; omega) rfl rfl rfl hb⟩) ?_
      refine s_cons (by exact ⟨rfl, fun b w hH hb => exec_ar rfl rfl rfl rfl (by rw [IntWalk.i64_in _ (by omega)]; omega) hb⟩) ?_
      exact s_nil
    refine WL2.keep (env' := [(0, .slice A y.length c), (2, .slice none 0 0), (3, .int .i64 0), (4, pv), (5, .int .i64 ((at_ : Nat) : Int)), (9, .slice A y.length c), (10, .int .i64 (y.length : Int)), (11, .int .i64 ((at_ : Nat) : Int)), (12, .int .i64 ((y.length : Int) - (at_ : Int))), (13, .bool true), (14, .slice A y.length c), (15, .int .i64 ((at_ : Nat) : Int)), (16, elp (.slice A y.length c) (at_ * 1)), (17, .int .u8 ((a0).toNat : Int)), (18, .int .i64 ((a0).toNat : Int)), (19, .slice A y.length c), (20, .int .i64 ((at_ : Nat) : Int)), (21, .int .i64 ((at_ + 1 : Nat) : Int)), (22, elp (.slice A y.length c) ((at_ + 1) * 1)), (23, .int .u8 ((a1).toNat : Int)), (24, .int .i64 ((a1).toNat : Int)), (25, .int .i64 ((a1.toNat * 256 : Nat) : Int)), (26, .int .i64 ((a0.toNat + a1.toNat * 256 : Nat) : Int)), (27, .slice A y.length c), (28, .int .i64 ((at_ : Nat) : Int)), (29, .int .i64 ((at_ + 2 : Nat) : Int)), (30, elp (.slice A y.length c) ((at_ + 2) * 1)), (31, .int .u8 ((a2).toNat : Int)), (32, .int .i64 ((a2).toNat : Int)), (33, .int .i64 ((a2.toNat * 65536 : Nat) : Int)), (34, .int .i64 ((a0.toNat + a1.toNat * 256 + a2.toNat * 65536 : Nat) : Int)), (35, .slice A y.length c), (36, .int .i64 ((at_ : Nat) : Int)), (37, .int .i64 ((at_ + 3 : Nat) : Int)), (38, elp (.slice A y.length c) ((at_ + 3) * 1)), (39, .int .u8 ((a3).toNat : Int)), (40, .int .i64 ((a3).toNat : Int)), (41, .int .i64 ((a3.toNat * 16777216 : Nat) : Int)), (42, .int .i64 (n : Int))]) ⟨rfl, rfl, rfl, rfl, rfl, rfl, rfl, rfl, rfl, rfl, rfl, rfl, rfl, rfl, rfl, rfl, rfl, rfl, rfl, rfl, rfl, rfl, rfl, rfl, rfl, rfl, rfl, rfl, rfl, rfl, rfl, rfl, rfl, rfl, rfl, rfl, rfl, rfl, rfl, trivial⟩ ?_
    refine h_q hflS rfl ?_
    refine h_nil (f_to (d_seq ?_))
    have hcc : 65536 < n ∨ (n ≤ 65536 ∧ y.length - at_ - 8 < n) ∨ (n ≤ 65536 ∧ n ≤ y.length - at_ - 8) := by omega
    rcases hcc with hn1 | ⟨hn1, hn2⟩ | ⟨hn1, hn2⟩
    · skip
      have hnx : nextF (y.drop at_) = none := by unfold nextF; exact if_neg fun h => by have := h.2.1; rw [hn] at this; omega
      rw [listL_none hnx] at hI2
      have hres1 : L.map (·.2) = ps := by have := congrArg Prod.fst hI2; rw [hr] at this; simpa using this.symm
      have hres2 : (at_ : Int) = (k : Int) := by have := congrArg Prod.snd hI2; rw [hr] at this; simp at this; omega
      refine d_reg ?_
      refine h_q hflS rfl ?_
      refine h_val rfl (.bool true) (fun b w hb hH => exec_cmp rfl rfl rfl (cmp_gtr_t (by omega)) hb) ?_
      refine h_q hflS rfl ?_
      refine h_done (d_then rfl (d_reg ?_))
      refine h_q hflS rfl ?_
      refine h_done (d_ret (f_then_ret (f_block_ret (f_then_ret (f_block_ret (f_then_ret ?_))))))
      exact f_fin2 (.tmp rfl) (.tmp rfl) (fun w h => tells (X := PsV) ⟨pv, L⟩ (by rw [hres2]) [1, 0] rfl h (fun z hz => ⟨z, .refl _, fact_add (xs := [_, _]) hres1 hz⟩)) rfl
    · skip
      have hnx : nextF (y.drop at_) = none := by unfold nextF; exact if_neg fun h => by have := h.2.2.1; rw [hn, List.length_drop] at this; omega
      rw [listL_none hnx] at hI2
      have hres1 : L.map (·.2) = ps := by have := congrArg Prod.fst hI2; rw [hr] at this; simpa using this.symm
      have hres2 : (at_ : Int) = (k : Int) := by have := congrArg Prod.snd hI2; rw [hr] at this; simp at this; omega
      refine d_reg ?_
      refine h_q hflS rfl ?_
      refine h_val rfl (.bool false) (fun b w hb hH => exec_cmp rfl rfl rfl (cmp_gtr_f (by omega)) hb) ?_
      refine h_q hflS rfl ?_
      refine h_val rfl (.int .i64 (y.length : Int)) (fun b w hb hH => e_slen ((hH.rd8 1 rfl hX).rd) Try.underlying23 rfl rfl hb) ?_
      refine h_q hflS rfl ?_
      refine h_val rfl (.int .i64 ((y.length : Int) - (at_ : Int))) (fun b w hb hH => exec_ar rfl rfl rfl rfl (IntWalk.i64_in _ (by omega)) hb) ?_
      refine h_val rfl (.int .i64 ((y.length : Int) - (at_ : Int) - 8)) (fun b w hb hH => exec_ar rfl rfl rfl rfl (IntWalk.i64_in _ (by omega)) hb) ?_
      refine h_val rfl (.bool true) (fun b w hb hH => exec_cmp rfl rfl rfl (cmp_gtr_t (by omega)) hb) ?_
      refine h_q hflS rfl ?_
      refine h_done (d_then rfl (d_reg ?_))
      refine h_q hflS rfl ?_
      refine h_done (d_ret (f_then_ret (f_block_ret (f_then_ret (f_block_ret (f_then_ret ?_))))))
      exact f_fin2 (.tmp rfl) (.tmp rfl) (fun w h => tells (X := PsV) ⟨pv, L⟩ (by rw [hres2]) [1, 0] rfl h (fun z hz => ⟨z, .refl _, fact_add (xs := [_, _]) hres1 hz⟩)) rfl
    · skip
      obtain ⟨A3, hA3⟩ : ∃ A3, (if c = at_ + 8 then A else A.map (·.add (at_ + 8))) = A3 := ⟨_, rfl⟩
      obtain ⟨x, hx⟩ : ∃ x, (y.take (at_ + 8 + n)).drop (at_ + 8) = x := ⟨_, rfl⟩
      have hxl : x.length = n := by rw [← hx, List.length_drop, List.length_take]; omega
      have hX3 : Rd8 X (.slice A3 x.length (c - (at_ + 8))) x := fun rs w h1 h2 => by have h3 := frm_mid (hX rs w h1 h2) (i := at_ + 8) (j := at_ + 8 + n) (by omega) (by omega); rw [hA3, hx] at h3; exact h3
      have hsub : subv 1 (.slice A y.length c) (at_ + 8) (at_ + 8 + n) = .slice A3 x.length (c - (at_ + 8)) := by rw [← hA3, hxl]; exact sub_mid.trans (by rw [show at_ + 8 + n - (at_ + 8) = n by omega])
      have hd8 : ((y.drop at_).drop 8).take n = x := by rw [← hx, List.drop_drop, List.drop_take, show at_ + 8 + n - (at_ + 8) = n by omega]
      obtain ⟨s, hs⟩ : ∃ s, crcSum x = s := ⟨_, rfl⟩
      have hs32 : s < 4294967296 := hs ▸ crc_lt x
      obtain ⟨c0, hc0⟩ : ∃ c, UInt8.ofNat s = c := ⟨_, rfl⟩
      obtain ⟨c1, hc1⟩ : ∃ c, UInt8.ofNat (s / 256) = c := ⟨_, rfl⟩
      obtain ⟨c2, hc2⟩ : ∃ c, UInt8.ofNat (s / 65536) = c := ⟨_, rfl⟩
      obtain ⟨c3, hc3⟩ : ∃ c, UInt8.ofNat (s / 16777216) = c := ⟨_, rfl⟩
      have hw0 : IntKind.u8.wrap ((s : Int)) = (c0.toNat : Int) := by rw [← hc0]; exact wrap_u8 _
      have hw1 : IntKind.u8.wrap (((s / 256 : Nat) : Int)) = (c1.toNat : Int) := by rw [← hc1]; exact wrap_u8 _
      have hw2 : IntKind.u8.wrap (((s / 65536 : Nat) : Int)) = (c2.toNat : Int) := by rw [← hc2]; exact wrap_u8 _
      have hw3 : IntKind.u8.wrap (((s / 16777216 : Nat) : Int)) = (c3.toNat : Int) := by rw [← hc3]; exact wrap_u8 _
      refine d_reg ?_
      refine h_q hflS rfl ?_
      refine h_val rfl (.bool false) (fun b w hb hH => exec_cmp rfl rfl rfl (cmp_gtr_f (by omega)) hb) ?_
      refine h_q hflS rfl ?_
      refine h_val rfl (.int .i64 (y.length : Int)) (fun b w hb hH => e_slen ((hH.rd8 1 rfl hX).rd) Try.underlying23 rfl rfl hb) ?_
      refine h_q hflS rfl ?_
      refine h_val rfl (.int .i64 ((y.length : Int) - (at_ : Int))) (fun b w hb hH => exec_ar rfl rfl rfl rfl (IntWalk.i64_in _ (by omega)) hb) ?_
      refine h_val rfl (.int .i64 ((y.length : Int) - (at_ : Int) - 8)) (fun b w hb hH => exec_ar rfl rfl rfl rfl (IntWalk.i64_in _ (by omega)) hb) ?_
      refine h_val rfl (.bool false) (fun b w hb hH => exec_cmp rfl rfl rfl (cmp_gtr_f (by omega)) hb) ?_
      refine h_q hflS rfl ?_
      refine h_done (d_else rfl (d_skip (f_to (d_reg ?_))))
      refine h_q hflS rfl ?_
      refine h_val rfl (.int .i64 ((at_ + 8 : Nat) : Int)) (fun b w hb hH => exec_ar rfl rfl rfl rfl (by rw [IntWalk.i64_in _ (by omega)]; omega) hb) ?_
      refine h_q hflS rfl ?_
      refine h_val rfl (.int .i64 ((at_ + 8 : Nat) : Int)) (fun b w hb hH => exec_ar rfl rfl rfl rfl (by rw [IntWalk.i64_in _ (by omega)]; omega) hb) ?_
      refine h_q hflS rfl ?_
      refine h_val rfl (.int .i64 ((at_ + 8 + n : Nat) : Int)) (fun b w hb hH => exec_ar rfl rfl rfl rfl (by rw [IntWalk.i64_in _ (by omega)]; omega) hb) ?_
      refine h_val rfl (.slice A3 x.length (c - (at_ + 8))) (fun b w hb hH => e_sub (i := (at_ + 8)) (j := (at_ + 8 + n)) sl_uint8 hsub (by omega) (Nat.le_trans (by omega) (sl8_cap (A := A) (n := y.length) (c := c) (hH.rd8 1 rfl hX))) rfl rfl rfl rfl hH hb) ?_
      refine h_q hflS rfl ?_
      refine h_done (d_reg ?_)
      refine h_q hflS rfl ?_
      refine h_act (post := fun _ => [PartsT 23 pv L, X]) rfl (a_call (ent_of Try.func20 (by kernel_rfl) rfl) (fun w hH => (hs ▸ rsum_c (hH.rd8 1 rfl hX3) (by omega))) rfl rfl rfl) ?_; rintro ⟨⟩
      refine h_q hflS rfl ?_
      refine h_done (d_seq ?_)
      have hz : a4.toNat ≠ c0.toNat ∨ (a4.toNat = c0.toNat ∧ a5.toNat ≠ c1.toNat) ∨ (a4.toNat = c0.toNat ∧ a5.toNat = c1.toNat ∧ a6.toNat ≠ c2.toNat) ∨ (a4.toNat = c0.toNat ∧ a5.toNat = c1.toNat ∧ a6.toNat = c2.toNat ∧ a7.toNat ≠ c3.toNat) ∨ (a4.toNat = c0.toNat ∧ a5.toNat = c1.toNat ∧ a6.toNat = c2.toNat ∧ a7.toNat = c3.toNat) := by omega
      rcases hz with h0_ | ⟨e0_, h1_⟩ | ⟨e0_, e1_, h2_⟩ | ⟨e0_, e1_, e2_, h3_⟩ | ⟨e0_, e1_, e2_, e3_⟩
      · skip
        have hnx : nextF (y.drop at_) = none := frm_differs hb8 hn (by rw [hd8, hs]) hc0 hc1 hc2 hc3 (fun h => h0_ (by rw [h.1]))
        rw [listL_none hnx] at hI2
        have hres1 : L.map (·.2) = ps := by have := congrArg Prod.fst hI2; rw [hr] at this; simpa using this.symm
        have hres2 : (at_ : Int) = (k : Int) := by have := congrArg Prod.snd hI2; rw [hr] at this; simp at this; omega
        refine d_reg ?_
        refine h_q hflS rfl ?_
        refine h_val rfl (.int .i64 ((at_ + 4 : Nat) : Int)) (fun b w hb hH => exec_ar rfl rfl rfl rfl (by rw [IntWalk.i64_in _ (by omega)]; omega) hb) ?_
        refine h_val rfl (elp (.slice A y.length c) ((at_ + 4) * 1)) (fun b w hb hH => e_sidx okB ((hH.rd8 1 rfl hX).rd) sl_uint8 (j := (at_ + 4)) ha4 rfl rfl rfl hb) ?_
        refine h_val rfl (.int .u8 ((a4).toNat : Int)) (fun b w hb hH => e_sload okB (by decide) ((hH.rd8 1 rfl hX).rd) (j := (at_ + 4)) ha4 ty_uint8 (off := 0) rfl rfl rfl hb) ?_
        refine h_q hflS rfl ?_
        refine h_val rfl (.int .u8 (c0.toNat : Int)) (fun b w hb hH => exec_conv Try.underlying41 Try.underlying5 (hw0) rfl rfl hb) ?_
        refine h_val rfl (.bool true) (fun b w hb hH => exec_cmp rfl rfl rfl (cmp_neq_t (by omega)) hb) ?_
        refine h_q hflS rfl ?_
        refine h_done (d_then rfl (d_reg ?_))
        refine h_q hflS rfl ?_
        refine h_done (d_ret (f_then_ret (f_block_ret (f_then_ret (f_block_ret (f_then_ret ?_))))))
        exact f_fin2 (.tmp rfl) (.tmp rfl) (fun w h => tells (X := PsV) ⟨pv, L⟩ (by rw [hres2]) [1, 0] rfl h (fun z hz => ⟨z, .refl _, fact_add (xs := [_, _]) hres1 hz⟩)) rfl
      · skip
        have hnx : nextF (y.drop at_) = none := frm_differs hb8 hn (by rw [hd8, hs]) hc0 hc1 hc2 hc3 (fun h => h1_ (by rw [h.2.1]))
        rw [listL_none hnx] at hI2
        have hres1 : L.map (·.2) = ps := by have := congrArg Prod.fst hI2; rw [hr] at this; simpa using this.symm
        have hres2 : (at_ : Int) = (k : Int) := by have := congrArg Prod.snd hI2; rw [hr] at this; simp at this; omega
        refine d_reg ?_
        refine h_q hflS rfl ?_
        refine h_val rfl (.int .i64 ((at_ + 4 : Nat) : Int)) (fun b w hb hH => exec_ar rfl rfl rfl rfl (by rw [IntWalk.i64_in _ (by omega)]; omega) hb) ?_
        refine h_val rfl (elp (.slice A y.length c) ((at_ + 4) * 1)) (fun b w hb hH => e_sidx okB ((hH.rd8 1 rfl hX).rd) sl_uint8 (j := (at_ + 4)) ha4 rfl rfl rfl hb) ?_
        refine h_val rfl (.int .u8 ((a4).toNat : Int)) (fun b w hb hH => e_sload okB (by decide) ((hH.rd8 1 rfl hX).rd) (j := (at_ + 4)) ha4 ty_uint8 (off := 0) rfl rfl rfl hb) ?_
        refine h_q hflS rfl ?_
        refine h_val rfl (.int .u8 (c0.toNat : Int)) (fun b w hb hH => exec_conv Try.underlying41 Try.underlying5 (hw0) rfl rfl hb) ?_
        refine h_val rfl (.bool false) (fun b w hb hH => exec_cmp rfl rfl rfl (cmp_neq_f (by omega)) hb) ?_
        refine h_q hflS rfl ?_
        refine h_val rfl (.int .i64 ((at_ + 5 : Nat) : Int)) (fun b w hb hH => exec_ar rfl rfl rfl rfl (by rw [IntWalk.i64_in _ (by omega)]; omega) hb) ?_
        refine h_val rfl (elp (.slice A y.length c) ((at_ + 5) * 1)) (fun b w hb hH => e_sidx okB ((hH.rd8 1 rfl hX).rd) sl_uint8 (j := (at_ + 5)) ha5 rfl rfl rfl hb) ?_
        refine h_val rfl (.int .u8 ((a5).toNat : Int)) (fun b w hb hH => e_sload okB (by decide) ((hH.rd8 1 rfl hX).rd) (j := (at_ + 5)) ha5 ty_uint8 (off := 0) rfl rfl rfl hb) ?_
        refine h_q hflS rfl ?_
        refine h_val rfl (.int .u32 ((s / 256 : Nat) : Int)) (fun b w hb hH => exec_shrN (s := 8) (by decide) (by omega) rfl rfl rfl hb) ?_
        refine h_val rfl (.int .u8 (c1.toNat : Int)) (fun b w hb hH => exec_conv Try.underlying41 Try.underlying5 (hw1) rfl rfl hb) ?_
        refine h_val rfl (.bool true) (fun b w hb hH => exec_cmp rfl rfl rfl (cmp_neq_t (by omega)) hb) ?_
        refine h_q hflS rfl ?_
        refine h_done (d_then rfl (d_reg ?_))
        refine h_q hflS rfl ?_
        refine h_done (d_ret (f_then_ret (f_block_ret (f_then_ret (f_block_ret (f_then_ret ?_))))))
        exact f_fin2 (.tmp rfl) (.tmp rfl) (fun w h => tells (X := PsV) ⟨pv, L⟩ (by rw [hres2]) [1, 0] rfl h (fun z hz => ⟨z, .refl _, fact_add (xs := [_, _]) hres1 hz⟩)) rfl
      · skip
        have hnx : nextF (y.drop at_) = none := frm_differs hb8 hn (by rw [hd8, hs]) hc0 hc1 hc2 hc3 (fun h => h2_ (by rw [h.2.2.1]))
        rw [listL_none hnx] at hI2
        have hres1 : L.map (·.2) = ps := by have := congrArg Prod.fst hI2; rw [hr] at this; simpa using this.symm
        have hres2 : (at_ : Int) = (k : Int) := by have := congrArg Prod.snd hI2; rw [hr] at this; simp at this; omega
        refine d_reg ?_
        refine h_q hflS rfl ?_
        refine h_val rfl (.int .i64 ((at_ + 4 : Nat) : Int)) (fun b w hb hH => exec_ar rfl rfl rfl rfl (by rw [IntWalk.i64_in _ (by omega)]; omega) hb) ?_
        refine h_val rfl (elp (.slice A y.length c) ((at_ + 4) * 1)) (fun b w hb hH => e_sidx okB ((hH.rd8 1 rfl hX).rd) sl_uint8 (j := (at_ + 4)) ha4 rfl rfl rfl hb) ?_
        refine h_val rfl (.int .u8 ((a4).toNat : Int)) (fun b w hb hH => e_sload okB (by decide) ((hH.rd8 1 rfl hX).rd) (j := (at_ + 4)) ha4 ty_uint8 (off := 0) rfl rfl rfl hb) ?_
        refine h_q hflS rfl ?_
        refine h_val rfl (.int .u8 (c0.toNat : Int)) (fun b w hb hH => exec_conv Try.underlying41 Try.underlying5 (hw0) rfl rfl hb) ?_
        refine h_val rfl (.bool false) (fun b w hb hH => exec_cmp rfl rfl rfl (cmp_neq_f (by omega)) hb) ?_
        refine h_q hflS rfl ?_
        refine h_val rfl (.int .i64 ((at_ + 5 : Nat) : Int)) (fun b w hb hH => exec_ar rfl rfl rfl rfl (by rw [IntWalk.i64_in _ (by omega)]; omega) hb) ?_
        refine h_val rfl (elp (.slice A y.length c) ((at_ + 5) * 1)) (fun b w hb hH => e_sidx okB ((hH.rd8 1 rfl hX).rd) sl_uint8 (j := (at_ + 5)) ha5 rfl rfl rfl hb) ?_
        refine h_val rfl (.int .u8 ((a5).toNat : Int)) (fun b w hb hH => e_sload okB (by decide) ((hH.rd8 1 rfl hX).rd) (j := (at_ + 5)) ha5 ty_uint8 (off := 0) rfl rfl rfl hb) ?_
        refine h_q hflS rfl ?_
        refine h_val rfl (.int .u32 ((s / 256 : Nat) : Int)) (fun b w hb hH => exec_shrN (s := 8) (by decide) (by omega) rfl rfl rfl hb) ?_
        refine h_val rfl (.int .u8 (c1.toNat : Int)) (fun b w hb hH => exec_conv Try.underlying41 Try.underlying5 (hw1) rfl rfl hb) ?_
        refine h_val rfl (.bool false) (fun b w hb hH => exec_cmp rfl rfl rfl (cmp_neq_f (by omega)) hb) ?_
        refine h_q hflS rfl ?_
        refine h_val rfl (.int .i64 ((at_ + 6 : Nat) : Int)) (fun b w hb hH => exec_ar rfl rfl rfl rfl (by rw [IntWalk.i64_in _ (by omega)]; omega) hb) ?_
        refine h_val rfl (elp (.slice A y.length c) ((at_ + 6) * 1)) (fun b w hb hH => e_sidx okB ((hH.rd8 1 rfl hX).rd) sl_uint8 (j := (at_ + 6)) ha6 rfl rfl rfl hb) ?_
        refine h_val rfl (.int .u8 ((a6).toNat : Int)) (fun b w hb hH => e_sload okB (by decide) ((hH.rd8 1 rfl hX).rd) (j := (at_ + 6)) ha6 ty_uint8 (off := 0) rfl rfl rfl hb) ?_
        refine h_q hflS rfl ?_
        refine h_val rfl (.int .u32 ((s / 65536 : Nat) : Int)) (fun b w hb hH => exec_shrN (s := 16) (by decide) (by omega) rfl rfl rfl hb) ?_
        refine h_val rfl (.int .u8 (c2.toNat : Int)) (fun b w hb hH => exec_conv Try.underlying41 Try.underlying5 (hw2) rfl rfl hb) ?_
        refine h_val rfl (.bool true) (fun b w hb hH => exec_cmp rfl rfl rfl (cmp_neq_t (by omega)) hb) ?_
        refine h_q hflS rfl ?_
        refine h_done (d_then rfl (d_reg ?_))
        refine h_q hflS rfl ?_
        refine h_done (d_ret (f_then_ret (f_block_ret (f_then_ret (f_block_ret (f_then_ret ?_))))))
        exact f_fin2 (.tmp rfl) (.tmp rfl) (fun w h => tells (X := PsV) ⟨pv, L⟩ (by rw [hres2]) [1, 0] rfl h (fun z hz => ⟨z, .refl _, fact_add (xs := [_, _]) hres1 hz⟩)) rfl
      · skip
        have hnx : nextF (y.drop at_) = none := frm_differs hb8 hn (by rw [hd8, hs]) hc0 hc1 hc2 hc3 (fun h => h3_ (by rw [h.2.2.2]))
        rw [listL_none hnx] at hI2
        have hres1 : L.map (·.2) = ps := by have := congrArg Prod.fst hI2; rw [hr] at this; simpa using this.symm
        have hres2 : (at_ : Int) = (k : Int) := by have := congrArg Prod.snd hI2; rw [hr] at this; simp at this; omega
        refine d_reg ?_
        refine h_q hflS rfl ?_
        refine h_val rfl (.int .i64 ((at_ + 4 : Nat) : Int)) (fun b w hb hH => exec_ar rfl rfl rfl rfl (by rw [IntWalk.i64_in _ (by omega)]; omega) hb) ?_
        refine h_val rfl (elp (.slice A y.length c) ((at_ + 4) * 1)) (fun b w hb hH => e_sidx okB ((hH.rd8 1 rfl hX).rd) sl_uint8 (j := (at_ + 4)) ha4 rfl rfl rfl hb) ?_
        refine h_val rfl (.int .u8 ((a4).toNat : Int)) (fun b w hb hH => e_sload okB (by decide) ((hH.rd8 1 rfl hX).rd) (j := (at_ + 4)) ha4 ty_uint8 (off := 0) rfl rfl rfl hb) ?_
        refine h_q hflS rfl ?_
        refine h_val rfl (.int .u8 (c0.toNat : Int)) (fun b w hb hH => exec_conv Try.underlying41 Try.underlying5 (hw0) rfl rfl hb) ?_
        refine h_val rfl (.bool false) (fun b w hb hH => exec_cmp rfl rfl rfl (cmp_neq_f (by omega)) hb) ?_
        refine h_q hflS rfl ?_
        refine h_val rfl (.int .i64 ((at_ + 5 : Nat) : Int)) (fun b w hb hH => exec_ar rfl rfl rfl rfl (by rw [IntWalk.i64_in _ (by omega)]; omega) hb) ?_
        refine h_val rfl (elp (.slice A y.length c) ((at_ + 5) * 1)) (fun b w hb hH => e_sidx okB ((hH.rd8 1 rfl hX).rd) sl_uint8 (j := (at_ + 5)) ha5 rfl rfl rfl hb) ?_
        refine h_val rfl (.int .u8 ((a5).toNat : Int)) (fun b w hb hH => e_sload okB (by decide) ((hH.rd8 1 rfl hX).rd) (j := (at_ + 5)) ha5 ty_uint8 (off := 0) rfl rfl rfl hb) ?_
        refine h_q hflS rfl ?_
        refine h_val rfl (.int .u32 ((s / 256 : Nat) : Int)) (fun b w hb hH => exec_shrN (s := 8) (by decide) (by omega) rfl rfl rfl hb) ?_
        refine h_val rfl (.int .u8 (c1.toNat : Int)) (fun b w hb hH => exec_conv Try.underlying41 Try.underlying5 (hw1) rfl rfl hb) ?_
        refine h_val rfl (.bool false) (fun b w hb hH => exec_cmp rfl rfl rfl (cmp_neq_f (by omega)) hb) ?_
        refine h_q hflS rfl ?_
        refine h_val rfl (.int .i64 ((at_ + 6 : Nat) : Int)) (fun b w hb hH => exec_ar rfl rfl rfl rfl (by rw [IntWalk.i64_in _ (by omega)]; omega) hb) ?_
        refine h_val rfl (elp (.slice A y.length c) ((at_ + 6) * 1)) (fun b w hb hH => e_sidx okB ((hH.rd8 1 rfl hX).rd) sl_uint8 (j := (at_ + 6)) ha6 rfl rfl rfl hb) ?_
        refine h_val rfl (.int .u8 ((a6).toNat : Int)) (fun b w hb hH => e_sload okB (by decide) ((hH.rd8 1 rfl hX).rd) (j := (at_ + 6)) ha6 ty_uint8 (off := 0) rfl rfl rfl hb) ?_
        refine h_q hflS rfl ?_
        refine h_val rfl (.int .u32 ((s / 65536 : Nat) : Int)) (fun b w hb hH => exec_shrN (s := 16) (by decide) (by omega) rfl rfl rfl hb) ?_
        refine h_val rfl (.int .u8 (c2.toNat : Int)) (fun b w hb hH => exec_conv Try.underlying41 Try.underlying5 (hw2) rfl rfl hb) ?_
        refine h_val rfl (.bool false) (fun b w hb hH => exec_cmp rfl rfl rfl (cmp_neq_f (by omega)) hb) ?_
        refine h_q hflS rfl ?_
        refine h_val rfl (.int .i64 ((at_ + 7 : Nat) : Int)) (fun b w hb hH => exec_ar rfl rfl rfl rfl (by rw [IntWalk.i64_in _ (by omega)]; omega) hb) ?_
        refine h_val rfl (elp (.slice A y.length c) ((at_ + 7) * 1)) (fun b w hb hH => e_sidx okB ((hH.rd8 1 rfl hX).rd) sl_uint8 (j := (at_ + 7)) ha7 rfl rfl rfl hb) ?_
        refine h_val rfl (.int .u8 ((a7).toNat : Int)) (fun b w hb hH => e_sload okB (by decide) ((hH.rd8 1 rfl hX).rd) (j := (at_ + 7)) ha7 ty_uint8 (off := 0) rfl rfl rfl hb) ?_
        refine h_q hflS rfl ?_
        refine h_val rfl (.int .u32 ((s / 16777216 : Nat) : Int)) (fun b w hb hH => exec_shrN (s := 24) (by decide) (by omega) rfl rfl rfl hb) ?_
        refine h_val rfl (.int .u8 (c3.toNat : Int)) (fun b w hb hH => exec_conv Try.underlying41 Try.underlying5 (hw3) rfl rfl hb) ?_
        refine h_val rfl (.bool true) (fun b w hb hH => exec_cmp rfl rfl rfl (cmp_neq_t (by omega)) hb) ?_
        refine h_q hflS rfl ?_
        refine h_done (d_then rfl (d_reg ?_))
        refine h_q hflS rfl ?_
        refine h_done (d_ret (f_then_ret (f_block_ret (f_then_ret (f_block_ret (f_then_ret ?_))))))
        exact f_fin2 (.tmp rfl) (.tmp rfl) (fun w h => tells (X := PsV) ⟨pv, L⟩ (by rw [hres2]) [1, 0] rfl h (fun z hz => ⟨z, .refl _, fact_add (xs := [_, _]) hres1 hz⟩)) rfl
      · skip
        have hnx : nextF (y.drop at_) = some x := frm_whole hb8 hn hn1 hd8 (by rw [List.length_drop]; omega) (by rw [hs]) hc0 hc1 hc2 hc3 ⟨by omega, by omega, by omega, by omega⟩
        have hI2_ := hI2
        rw [listL_some hnx] at hI2_
        have hdd : (y.drop at_).drop (8 + x.length) = y.drop (at_ + 8 + n) := by rw [List.drop_drop, hxl, show at_ + (8 + n) = at_ + 8 + n by omega]
        rw [hdd] at hI2_
        refine d_reg ?_
        refine h_q hflS rfl ?_
        refine h_val rfl (.int .i64 ((at_ + 4 : Nat) : Int)) (fun b w hb hH => exec_ar rfl rfl rfl rfl (by rw [IntWalk.i64_in _ (by omega)]; omega) hb) ?_
        refine h_val rfl (elp (.slice A y.length c) ((at_ + 4) * 1)) (fun b w hb hH => e_sidx okB ((hH.rd8 1 rfl hX).rd) sl_uint8 (j := (at_ + 4)) ha4 rfl rfl rfl hb) ?_
        refine h_val rfl (.int .u8 ((a4).toNat : Int)) (fun b w hb hH => e_sload okB (by decide) ((hH.rd8 1 rfl hX).rd) (j := (at_ + 4)) ha4 ty_uint8 (off := 0) rfl rfl rfl hb) ?_
        refine h_q hflS rfl ?_
        refine h_val rfl (.int .u8 (c0.toNat : Int)) (fun b w hb hH => exec_conv Try.underlying41 Try.underlying5 (hw0) rfl rfl hb) ?_
        refine h_val rfl (.bool false) (fun b w hb hH => exec_cmp rfl rfl rfl (cmp_neq_f (by omega)) hb) ?_
        refine h_q hflS rfl ?_
        refine h_val rfl (.int .i64 ((at_ + 5 : Nat) : Int)) (fun b w hb hH => exec_ar rfl rfl rfl rfl (by rw [IntWalk.i64_in _ (by omega)]; omega) hb) ?_
        refine h_val rfl (elp (.slice A y.length c) ((at_ + 5) * 1)) (fun b w hb hH => e_sidx okB ((hH.rd8 1 rfl hX).rd) sl_uint8 (j := (at_ + 5)) ha5 rfl rfl rfl hb) ?_
        refine h_val rfl (.int .u8 ((a5).toNat : Int)) (fun b w hb hH => e_sload okB (by decide) ((hH.rd8 1 rfl hX).rd) (j := (at_ + 5)) ha5 ty_uint8 (off := 0) rfl rfl rfl hb) ?_
        refine h_q hflS rfl ?_
        refine h_val rfl (.int .u32 ((s / 256 : Nat) : Int)) (fun b w hb hH => exec_shrN (s := 8) (by decide) (by omega) rfl rfl rfl hb) ?_
        refine h_val rfl (.int .u8 (c1.toNat : Int)) (fun b w hb hH => exec_conv Try.underlying41 Try.underlying5 (hw1) rfl rfl hb) ?_
        refine h_val rfl (.bool false) (fun b w hb hH => exec_cmp rfl rfl rfl (cmp_neq_f (by omega)) hb) ?_
        refine h_q hflS rfl ?_
        refine h_val rfl (.int .i64 ((at_ + 6 : Nat) : Int)) (fun b w hb hH => exec_ar rfl rfl rfl rfl (by rw [IntWalk.i64_in _ (by omega)]; omega) hb) ?_
        refine h_val rfl (elp (.slice A y.length c) ((at_ + 6) * 1)) (fun b w hb hH => e_sidx okB ((hH.rd8 1 rfl hX).rd) sl_uint8 (j := (at_ + 6)) ha6 rfl rfl rfl hb) ?_
        refine h_val rfl (.int .u8 ((a6).toNat : Int)) (fun b w hb hH => e_sload okB (by decide) ((hH.rd8 1 rfl hX).rd) (j := (at_ + 6)) ha6 ty_uint8 (off := 0) rfl rfl rfl hb) ?_
        refine h_q hflS rfl ?_
        refine h_val rfl (.int .u32 ((s / 65536 : Nat) : Int)) (fun b w hb hH => exec_shrN (s := 16) (by decide) (by omega) rfl rfl rfl hb) ?_
        refine h_val rfl (.int .u8 (c2.toNat : Int)) (fun b w hb hH => exec_conv Try.underlying41 Try.underlying5 (hw2) rfl rfl hb) ?_
        refine h_val rfl (.bool false) (fun b w hb hH => exec_cmp rfl rfl rfl (cmp_neq_f (by omega)) hb) ?_
        refine h_q hflS rfl ?_
        refine h_val rfl (.int .i64 ((at_ + 7 : Nat) : Int)) (fun b w hb hH => exec_ar rfl rfl rfl rfl (by rw [IntWalk.i64_in _ (by omega)]; omega) hb) ?_
        refine h_val rfl (elp (.slice A y.length c) ((at_ + 7) * 1)) (fun b w hb hH => e_sidx okB ((hH.rd8 1 rfl hX).rd) sl_uint8 (j := (at_ + 7)) ha7 rfl rfl rfl hb) ?_
        refine h_val rfl (.int .u8 ((a7).toNat : Int)) (fun b w hb hH => e_sload okB (by decide) ((hH.rd8 1 rfl hX).rd) (j := (at_ + 7)) ha7 ty_uint8 (off := 0) rfl rfl rfl hb) ?_
        refine h_q hflS rfl ?_
        refine h_val rfl (.int .u32 ((s / 16777216 : Nat) : Int)) (fun b w hb hH => exec_shrN (s := 24) (by decide) (by omega) rfl rfl rfl hb) ?_
        refine h_val rfl (.int .u8 (c3.toNat : Int)) (fun b w hb hH => exec_conv Try.underlying41 Try.underlying5 (hw3) rfl rfl hb) ?_
        refine h_val rfl (.bool false) (fun b w hb hH => exec_cmp rfl rfl rfl (cmp_neq_f (by omega)) hb) ?_
        refine h_q hflS rfl ?_
        refine h_done (d_else rfl (d_skip (f_to ?_)))
        refine d_open 0 rfl prts_open (fun _ => rfl) ?_; rintro ⟨⟩
        refine d_reg ?_
        refine h_q hflS rfl ?_
        refine h_act (X := Value) (val := fun v : Value => v) (post := fun d0 => [Vec 5 1 encB d0 ([]), Vec 23 1 encW pv (L.map (·.1)), Each (fun x : PtT => Vec 5 1 encB x.1 x.2) L, X]) rfl (by refine a_build0 (e := 5) (t := 23) (k := 1) (enc := encB) ?_ ?_; exact sl_uint8; exact rfl) ?_; rintro d0
        refine h_q hflS rfl ?_
        refine h_act (post := fun d1 => [Vec 5 1 encB d1 x, Vec 23 1 encW pv (L.map (·.1)), Each (fun x : PtT => Vec 5 1 encB x.1 x.2) L, X]) rfl (a_append8 0 sl_uint8 (by kernel_rfl) rfl (x) (fun w hH => (hH.rd8 3 rfl hX3).rd) (by simp only [List.length_nil]; omega) rfl rfl rfl (List.nil_append _)) ?_; rintro d1
        refine h_act (X := Value) (val := fun v : Value => v) (post := fun b1 => [Vec 23 1 encW b1 ([d1]), Vec 5 1 encB d1 x, Vec 23 1 encW pv (L.map (·.1)), Each (fun x : PtT => Vec 5 1 encB x.1 x.2) L, X]) rfl (by exact a_buildV 0 sl_s_uint8 rfl rfl rfl) ?_; rintro b1
        refine h_act (post := fun p1 => [Vec 23 1 encW b1 ([d1]), Vec 5 1 encB d1 x, Vec 23 1 encW p1 (L.map (·.1) ++ [d1]), Each (fun x : PtT => Vec 5 1 encB x.1 x.2) L, X]) rfl (a_append 2 sl_s_uint8 okW rfl ([d1]) (fun w hH => hH.vec 0 rfl okW) (by simp only [List.length_map, List.length_cons, List.length_nil]; omega) rfl rfl rfl rfl) ?_; rintro p1
        refine h_q hflS rfl ?_
        refine h_done ?_
        refine WC2.leave [0] rfl rfl ?_
        refine d_close [1, 2, 0] rfl prts_push rfl ?_
        refine d_reg1 ?_
        refine h_q hflS rfl ?_
        refine h_val rfl (.int .i64 ((at_ + 8 : Nat) : Int)) (fun b w hb hH => exec_ar rfl rfl rfl rfl (by rw [IntWalk.i64_in _ (by omega)]; omega) hb) ?_
        refine h_q hflS rfl ?_
        refine h_val rfl (.int .i64 ((at_ + 8 + n : Nat) : Int)) (fun b w hb hH => exec_ar rfl rfl rfl rfl (by rw [IntWalk.i64_in _ (by omega)]; omega) hb) ?_
        refine h_q hflS rfl ?_
        refine h_nil (f_block ?_)
        exact f_again (at_ + 8 + n, L ++ [(d1, x)], p1) 0 ⟨by omega, by rw [List.map_append]; exact frm_step hI2_ hxl, by rw [List.length_append]; simp only [List.length_cons, List.length_nil]; omega⟩ (show y.length - (at_ + 8 + n) < y.length - at_ by omega) ⟨rfl, rfl, rfl, rfl, rfl, trivial⟩ rfl
end Go.Proofs.Ythamiglbifgepaa.Sep
