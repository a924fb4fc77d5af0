/-
  FrmT · FrmH · FrmC · FrmL
-/
import Derived.Test.YthamiglbifgepaaAB02
import Derived.Test.YthamiglbifgepaaAD01
import Derived.Test.YthamiglbifgepaaAE01
import Derived.Test.YthamiglbifgepaaAE02
set_option linter.unusedSimpArgs false
set_option linter.unusedVariables false

namespace Go.Proofs.Ythamiglbifgepaa.Sep
open Go.RowKit
open Go.Proofs.Ythamiglbifgepaa.Mem (Dist Blk Chg below0)

theorem take_pushP {α : Type} {L : List α} {i : Nat} {b : α} (h : L[i]? = some b) : L.take i ++ [b] = L.take (i + 1) := by
  have hlt := (List.getElem?_eq_some_iff.1 h).1
  have hx := (List.getElem?_eq_some_iff.1 h).2
  rw [← hx, List.take_succ_eq_append_getElem hlt]

theorem ne_len {l1 l2 : List PtV} (h : l1.length ≠ l2.length) : (l1.map (·.d) == l2.map (·.d)) = false := by
  rw [beq_eq_false_iff_ne]
  intro e
  have := congrArg List.length e
  rw [List.length_map, List.length_map] at this
  exact h this
theorem ne_at {l1 l2 : List PtV} {i : Nat} {x y : PtV} (hx : l1[i]? = some x) (hy : l2[i]? = some y) (h : x.d ≠ y.d) : (l1.map (·.d) == l2.map (·.d)) = false := by
  rw [beq_eq_false_iff_ne]
  intro e
  have := congrArg (·[i]?) e
  simp only [List.getElem?_map, hx, hy, Option.map_some, Option.some.injEq] at this
  exact h this
theorem eq_next {l1 l2 : List PtV} {i : Nat} {x y : PtV} (hx : l1[i]? = some x) (hy : l2[i]? = some y) (h : x.d = y.d) (hI : (l1.take i).map (·.d) = (l2.take i).map (·.d)) : (l1.take (i + 1)).map (·.d) = (l2.take (i + 1)).map (·.d) := by
  rw [← take_pushP hx, ← take_pushP hy, List.map_append, List.map_append, hI]
  simp [h]

set_option maxRecDepth 100000 in
theorem same_does {X Y : Ass} {v1 v2 : Value} {l1 l2 : List PtV} {r : Bool} (hX : RdPs X v1 l1) (hY : RdPs Y v2 l2) (hl : l1.length ≤ 9223372036854775806) (hr : (l1.map (·.d) == l2.map (·.d)) = r) : Does Try.prog 14 #[v1, v2] [X, Y] (fun (_ : Unit) => .bool r) (fun (_ : Unit) => [X, Y]) := by
  refine d_ins (args := [v1, v2]) 28 Try.func14 rfl rfl rfl ?_; intro w rs
  refine d_reg ?_
  refine h_q hflS rfl ?_
  refine h_done (d_seq ?_)
  rcases Classical.em (l1.length = l2.length) with hll | hll
  · skip
    refine d_reg ?_
    refine h_q hflS rfl ?_
    refine h_val rfl (.int .i64 (l1.length : Int)) (fun b w hb hH => e_slen ((hH.rdPs 0 rfl hX).1) Try.underlying25 rfl rfl hb) ?_
    refine h_q hflS rfl ?_
    refine h_val rfl (.int .i64 (l2.length : Int)) (fun b w hb hH => e_slen ((hH.rdPs 1 rfl hY).1) Try.underlying25 rfl rfl hb) ?_
    refine h_val rfl (.bool false) (fun b w hb hH => exec_cmp rfl rfl rfl (cmp_neq_f (by omega)) hb) ?_
    refine h_done (d_else rfl (d_skip (f_to (d_seq (d_reg ?_)))))
    refine h_q hflS rfl ?_
    refine h_done (d_block ?_)
    refine d_loop (α := Nat) (fun i => [(0, v1), (1, v2), (4, .bool false), (5, .int .i64 ((i : Nat) : Int))]) (fun i => [X, Y]) (fun i => i ≤ l1.length ∧ (l1.take i).map (·.d) = (l2.take i).map (·.d)) (fun i => l1.length - i) 0 ⟨Nat.zero_le _, rfl⟩ ⟨rfl, rfl, rfl, rfl, trivial⟩ rfl ?_
    rintro i hI
    refine WC2.at_ (env' := [(0, v1), (1, v2), (4, .bool false), (5, .int .i64 ((i : Nat) : Int))]) (rs' := [X, Y]) ⟨rfl, rfl, rfl, rfl, trivial⟩ rfl ?_
    have hI1 : i ≤ l1.length := hI.1
    have hI2 := hI.2
    refine d_seq ?_
    rcases Nat.lt_or_ge i l1.length with hi | hi
    · skip
      obtain ⟨x, hx⟩ : ∃ x, l1[i]? = some x := ⟨_, List.getElem?_eq_getElem hi⟩
      obtain ⟨y, hy⟩ : ∃ y, l2[i]? = some y := ⟨_, List.getElem?_eq_getElem (by omega)⟩
      have hmx := List.mem_of_getElem? hx
      have hmy := List.mem_of_getElem? hy
      refine d_reg ?_
      refine h_q hflS rfl ?_
      refine h_val rfl (.int .i64 (l1.length : Int)) (fun b w hb hH => e_slen ((hH.rdPs 0 rfl hX).1) Try.underlying25 rfl rfl hb) ?_
      refine h_val rfl (.bool true) (fun b w hb hH => exec_cmp rfl rfl rfl (cmp_lss_t (by omega)) hb) ?_
      refine h_done (d_then rfl (d_skip (f_to (d_seq (d_block ?_)))))
      rcases Classical.em (x.d = y.d) with hd | hd
      · skip
        refine d_seq ?_
        refine d_parS 11 0 [⟨.quiet, [], fun _ => v1, []⟩, ⟨.quiet, [], fun _ => .int .i64 ((i : Nat) : Int), []⟩, ⟨.quiet, [], fun _ => elp v1 (i * 1), [0, 1]⟩, ⟨.quiet, [], fun _ => x.v, [2]⟩, ⟨.quiet, [], fun _ => .string (bs x.d), [3]⟩, ⟨.quiet, [], fun _ => v2, []⟩, ⟨.quiet, [], fun _ => .int .i64 ((i : Nat) : Int), []⟩, ⟨.quiet, [], fun _ => elp v2 (i * 1), [5, 6]⟩, ⟨.quiet, [], fun _ => y.v, [7]⟩, ⟨.quiet, [], fun _ => .string (bs y.d), [8]⟩, ⟨.quiet, [], fun _ => .bool false, [4, 9]⟩] [(0, v1), (1, v2), (4, .bool false), (5, .int .i64 ((i : Nat) : Int)), (11, .int .i64 ((i : Nat) : Int)), (12, v1), (13, .int .i64 (l1.length : Int)), (14, .bool true)] (fun _ => [X, Y]) (by kernel_rfl) (by kernel_rfl) ⟨rfl, rfl, rfl, rfl, rfl, rfl, rfl, rfl, trivial⟩ rfl ?_ ?_
        · skip
          refine s_cons (by exact ⟨rfl, fun b w hH hb => exec_q1 hflS rfl hb⟩) ?_
          refine s_cons (by exact ⟨rfl, fun b w hH hb => exec_q1 hflS rfl hb⟩) ?_
          refine s_cons (by exact ⟨rfl, fun b w hH hb => e_sidx okPt ((hH.rdPs 0 rfl hX).1) sl_s_uint8 (j := i) hx rfl rfl rfl hb⟩) ?_
          refine s_cons (by exact ⟨rfl, fun b w hH hb => e_sload okPt (by decide) ((hH.rdPs 0 rfl hX).1) (j := i) hx ty_s_uint8 (off := 0) rfl rfl rfl hb⟩) ?_
          refine s_cons (by exact ⟨rfl, fun b w hH hb => exec_str8 Try.underlying23 Try.underlying5 (by kernel_rfl) Try.underlying9 (((hH.rdPs 0 rfl hX).2 x hmx)) rfl rfl hb⟩) ?_
          refine s_cons (by exact ⟨rfl, fun b w hH hb => exec_q1 hflS rfl hb⟩) ?_
          refine s_cons (by exact ⟨rfl, fun b w hH hb => exec_q1 hflS rfl hb⟩) ?_
          refine s_cons (by exact ⟨rfl, fun b w hH hb => e_sidx okPt ((hH.rdPs 1 rfl hY).1) sl_s_uint8 (j := i) hy rfl rfl rfl hb⟩) ?_
          refine s_cons (by exact ⟨rfl, fun b w hH hb => e_sload okPt (by decide) ((hH.rdPs 1 rfl hY).1) (j := i) hy ty_s_uint8 (off := 0) rfl rfl rfl hb⟩) ?_
          refine s_cons (by exact ⟨rfl, fun b w hH hb => exec_str8 Try.underlying23 Try.underlying5 (by kernel_rfl) Try.underlying9 (((hH.rdPs 1 rfl hY).2 y hmy)) rfl rfl hb⟩) ?_
          refine s_cons (by exact ⟨rfl, fun b w hH hb => exec_diff (by rw [hd]; simp) rfl rfl rfl hb⟩) ?_
          exact s_nil
        refine WL2.keep (env' := [(0, v1), (1, v2), (4, .bool false), (5, .int .i64 ((i : Nat) : Int)), (11, .int .i64 ((i : Nat) : Int)), (12, v1), (13, .int .i64 (l1.length : Int)), (14, .bool true), (17, v1), (18, .int .i64 ((i : Nat) : Int)), (19, elp v1 (i * 1)), (20, x.v), (21, .string (bs x.d)), (22, v2), (23, .int .i64 ((i : Nat) : Int)), (24, elp v2 (i * 1)), (25, y.v), (26, .string (bs y.d)), (27, .bool false)]) ⟨rfl, rfl, rfl, rfl, rfl, rfl, rfl, rfl, rfl, rfl, rfl, rfl, rfl, rfl, rfl, rfl, rfl, rfl, rfl, trivial⟩ ?_
        refine h_nil (f_to (d_else rfl (d_skip (f_block (f_to (d_reg1 ?_))))))
        refine h_q hflS rfl ?_
        refine h_val rfl (.int .i64 ((i + 1 : Nat) : Int)) (fun b w hb hH => exec_ar rfl rfl rfl rfl (by rw [IntWalk.i64_in _ (by omega)]; omega) hb) ?_
        refine h_q hflS rfl ?_
        refine h_nil ?_
        exact f_again (i + 1) 0 ⟨hi, eq_next hx hy hd hI2⟩ (show l1.length - (i + 1) < l1.length - i by omega) ⟨rfl, rfl, rfl, rfl, trivial⟩ rfl
      · skip
        obtain rfl : r = false := hr.symm.trans (ne_at hx hy hd)
        refine d_seq ?_
        refine d_parS 11 0 [⟨.quiet, [], fun _ => v1, []⟩, ⟨.quiet, [], fun _ => .int .i64 ((i : Nat) : Int), []⟩, ⟨.quiet, [], fun _ => elp v1 (i * 1), [0, 1]⟩, ⟨.quiet, [], fun _ => x.v, [2]⟩, ⟨.quiet, [], fun _ => .string (bs x.d), [3]⟩, ⟨.quiet, [], fun _ => v2, []⟩, ⟨.quiet, [], fun _ => .int .i64 ((i : Nat) : Int), []⟩, ⟨.quiet, [], fun _ => elp v2 (i * 1), [5, 6]⟩, ⟨.quiet, [], fun _ => y.v, [7]⟩, ⟨.quiet, [], fun _ => .string (bs y.d), [8]⟩, ⟨.quiet, [], fun _ => .bool true, [4, 9]⟩] [(0, v1), (1, v2), (4, .bool false), (5, .int .i64 ((i : Nat) : Int)), (11, .int .i64 ((i : Nat) : Int)), (12, v1), (13, .int .i64 (l1.length : Int)), (14, .bool true)] (fun _ => [X, Y]) (by kernel_rfl) (by kernel_rfl) ⟨rfl, rfl, rfl, rfl, rfl, rfl, rfl, rfl, trivial⟩ rfl ?_ ?_
        · skip
          refine s_cons (by exact ⟨rfl, fun b w hH hb => exec_q1 hflS rfl hb⟩) ?_
          refine s_cons (by exact ⟨rfl, fun b w hH hb => exec_q1 hflS rfl hb⟩) ?_
          refine s_cons (by exact ⟨rfl, fun b w hH hb => e_sidx okPt ((hH.rdPs 0 rfl hX).1) sl_s_uint8 (j := i) hx rfl rfl rfl hb⟩) ?_
          refine s_cons (by exact ⟨rfl, fun b w hH hb => e_sload okPt (by decide) ((hH.rdPs 0 rfl hX).1) (j := i) hx ty_s_uint8 (off := 0) rfl rfl rfl hb⟩) ?_
          refine s_cons (by exact ⟨rfl, fun b w hH hb => exec_str8 Try.underlying23 Try.underlying5 (by kernel_rfl) Try.underlying9 (((hH.rdPs 0 rfl hX).2 x hmx)) rfl rfl hb⟩) ?_
          refine s_cons (by exact ⟨rfl, fun b w hH hb => exec_q1 hflS rfl hb⟩) ?_
          refine s_cons (by exact ⟨rfl, fun b w hH hb => exec_q1 hflS rfl hb⟩) ?_
          refine s_cons (by exact ⟨rfl, fun b w hH hb => e_sidx okPt ((hH.rdPs 1 rfl hY).1) sl_s_uint8 (j := i) hy rfl rfl rfl hb⟩) ?_
          refine s_cons (by exact ⟨rfl, fun b w hH hb => e_sload okPt (by decide) ((hH.rdPs 1 rfl hY).1) (j := i) hy ty_s_uint8 (off := 0) rfl rfl rfl hb⟩) ?_
          refine s_cons (by exact ⟨rfl, fun b w hH hb => exec_str8 Try.underlying23 Try.underlying5 (by kernel_rfl) Try.underlying9 (((hH.rdPs 1 rfl hY).2 y hmy)) rfl rfl hb⟩) ?_
          refine s_cons (by exact ⟨rfl, fun b w hH hb => exec_diff (by simpa using hd) rfl rfl rfl hb⟩) ?_
          exact s_nil
        refine WL2.keep (env' := [(0, v1), (1, v2), (4, .bool false), (5, .int .i64 ((i : Nat) : Int)), (11, .int .i64 ((i : Nat) : Int)), (12, v1), (13, .int .i64 (l1.length : Int)), (14, .bool true), (17, v1), (18, .int .i64 ((i : Nat) : Int)), (19, elp v1 (i * 1)), (20, x.v), (21, .string (bs x.d)), (22, v2), (23, .int .i64 ((i : Nat) : Int)), (24, elp v2 (i * 1)), (25, y.v), (26, .string (bs y.d)), (27, .bool true)]) ⟨rfl, rfl, rfl, rfl, rfl, rfl, rfl, rfl, rfl, rfl, rfl, rfl, rfl, rfl, rfl, rfl, rfl, rfl, rfl, trivial⟩ ?_
        refine h_nil (f_to (d_then rfl (d_reg ?_)))
        refine h_q hflS rfl ?_
        refine h_done (d_ret (f_block_ret (f_then_ret (f_then_ret (f_block_ret (f_then_ret ?_))))))
        exact f_fin1 (.tmp rfl) (fun w h => tells () rfl [0, 1] rfl h same_parts) rfl
    · skip
      obtain rfl : r = true := by rw [← hr, beq_iff_eq]; rwa [List.take_of_length_le hi, List.take_of_length_le (by omega)] at hI2
      refine d_reg ?_
      refine h_q hflS rfl ?_
      refine h_val rfl (.int .i64 (l1.length : Int)) (fun b w hb hH => e_slen ((hH.rdPs 0 rfl hX).1) Try.underlying25 rfl rfl hb) ?_
      refine h_val rfl (.bool false) (fun b w hb hH => exec_cmp rfl rfl rfl (cmp_lss_f (by omega)) hb) ?_
      refine h_done (d_else rfl (d_exit (f_then_exit (f_then_exit (f_block_exit (f_to (d_reg ?_)))))))
      refine h_q hflS rfl ?_
      refine h_done (d_ret ?_)
      exact f_fin1 (.tmp rfl) (fun w h => tells () rfl [0, 1] rfl h same_parts) rfl
  · skip
    obtain rfl : r = false := hr.symm.trans (ne_len hll)
    refine d_reg ?_
    refine h_q hflS rfl ?_
    refine h_val rfl (.int .i64 (l1.length : Int)) (fun b w hb hH => e_slen ((hH.rdPs 0 rfl hX).1) Try.underlying25 rfl rfl hb) ?_
    refine h_q hflS rfl ?_
    refine h_val rfl (.int .i64 (l2.length : Int)) (fun b w hb hH => e_slen ((hH.rdPs 1 rfl hY).1) Try.underlying25 rfl rfl hb) ?_
    refine h_val rfl (.bool true) (fun b w hb hH => exec_cmp rfl rfl rfl (cmp_neq_t (by omega)) hb) ?_
    refine h_done (d_then rfl (d_reg ?_))
    refine h_q hflS rfl ?_
    refine h_done (d_ret (f_then_ret ?_))
    exact f_fin1 (.tmp rfl) (fun w h => tells () rfl [0, 1] rfl h same_parts) rfl
end Go.Proofs.Ythamiglbifgepaa.Sep

namespace Go.Proofs.Ythamiglbifgepaa.Sep
open Go.RowKit
open Go.Proofs.Ythamiglbifgepaa.Mem (Dist Blk Chg below0)

theorem list_sum : ∀ (k : Nat) (b : List UInt8), (listF k b).2 = ((listF k b).1.map fun x => 8 + x.length).sum
  | 0, _ => rfl
  | k + 1, b => by
    simp only [listF]
    cases h : nextF b with
    | none => rfl
    | some x => simp only [List.map_cons, List.sum_cons, ← list_sum k]
def sumF (ps : List (List UInt8)) : Nat := (ps.map fun x => 8 + x.length).sum
theorem sumF_take {ps : List (List UInt8)} {j : Nat} {x : List UInt8} (h : ps[j]? = some x) : sumF (ps.take (j + 1)) = sumF (ps.take j) + (8 + x.length) := by
  unfold sumF
  rw [← take_pushP h, List.map_append, List.sum_append]; simp
theorem sumF_le (ps : List (List UInt8)) (j : Nat) : sumF (ps.take j) ≤ sumF ps := by
  have h : sumF ps = sumF (ps.take j) + sumF (ps.drop j) := by
    unfold sumF
    rw [← List.sum_append, ← List.map_append, List.take_append_drop]
  omega
/-- what List has gathered -/
def LstI (gp ge : Nat) (ps : List (List UInt8)) (j : Nat) : Ass := fun rs => ∃ x : PsV, Parts [cell gp 25 #[x.v], PartsT 23 x.v x.l, cell ge 3 #[.int .i64 ((sumF (ps.take j) : Nat) : Int)], fact (x.l.map (·.2) = ps.take j)] rs
theorem LstI.open_ {gp ge : Nat} {ps : List (List UInt8)} {j : Nat} : ∀ rs, LstI gp ge ps j rs → ∃ x : PsV, Parts [cell gp 25 #[x.v], PartsT 23 x.v x.l, cell ge 3 #[.int .i64 ((sumF (ps.take j) : Nat) : Int)], fact (x.l.map (·.2) = ps.take j)] rs := fun _ h => h
theorem lst_mk {gp ge : Nat} {ps : List (List UInt8)} {j : Nat} (x : PsV) (h : x.l.map (·.2) = ps.take j) : ∀ rs, Parts [cell gp 25 #[x.v], PartsT 23 x.v x.l, cell ge 3 #[.int .i64 ((sumF (ps.take j) : Nat) : Int)]] rs → LstI gp ge ps j rs := fun _ hz => ⟨x, fact_add h hz⟩
theorem lst_0 {gp ge : Nat} {ps : List (List UInt8)} : ∀ rs, Parts [cell gp 25 #[.slice none 0 0], PartsT 23 (.slice none 0 0) [], cell ge 3 #[.int .i64 0]] rs → LstI gp ge ps 0 rs := fun rs hz => lst_mk (j := 0) ⟨.slice none 0 0, []⟩ rfl rs (by have e : ((sumF (ps.take 0) : Nat) : Int) = 0 := rfl; rw [e]; exact hz)

set_option maxRecDepth 100000 in
theorem complete_does {A0 : Option Addr} {n c0 : Nat} : Does Try.prog 21 #[.slice A0 n c0] [] (fun (g : Nat) => .func (.func 24) #[] #[.pointer (some ⟨g, 0, none⟩)]) (fun (g : Nat) => [cell g 23 #[.slice A0 n c0]]) := by
  refine d_ins (args := [.slice A0 n c0]) 4 Try.func21 rfl rfl rfl ?_; intro w rs
  refine d_reg ?_
  refine h_q hflS rfl ?_
  refine h_act (post := fun g => [cell g 23 #[.slice A0 n c0]]) rfl (a_box (cs := #[.slice A0 n c0]) rfl rfl rfl) ?_; rintro g
  refine h_q hflS rfl ?_
  refine h_done (d_reg ?_)
  refine h_q hflS rfl ?_
  refine h_val rfl (.func (.func 24) #[] #[.pointer (some ⟨g, 0, none⟩)]) (fun b w hb hH => e_func rfl rfl hb) ?_
  refine h_q hflS rfl ?_
  refine h_done (d_ret ?_)
  exact f_fin1 (.tmp rfl) (fun w h => tells g rfl [0] rfl h same_parts) rfl

set_option maxRecDepth 100000 in
theorem list_any {X : Ass} {y : List UInt8} {ps : List (List UInt8)} {k N : Nat} {A0 : Option Addr} {c0 : Nat} (hX : Rd8 X (.slice A0 y.length c0) y) (hl : y.length ≤ 137438953472) (hr1 : (listL y).1 = ps) (hk : sumF ps = k) (hkl : k ≤ y.length) (hN : ps.length = N) (hNk : N * 8 ≤ k) (hlen : ∀ x, x ∈ ps → x.length ≤ 65536) : Does Try.prog 12 #[.slice A0 y.length c0] [X] (fun (x : PsV) => .tuple #[x.v, .int .i64 (k : Int)]) (fun (x : PsV) => [X, PartsT 23 x.v x.l, fact (x.l.map (·.2) = ps)]) := by
  refine d_insM (args := [.slice A0 y.length c0]) 22 Try.func12 rfl rfl rfl ?_; intro w rs
  refine d_reg ?_
  refine h_q hflS rfl ?_
  refine h_done (d_reg ?_)
  refine h_q hflS rfl ?_
  refine h_act (post := fun gp => [cell gp 25 #[.slice none 0 0], X]) rfl (a_alloc ze_s_s_uint8 rfl) ?_; rintro gp
  refine h_done (d_reg ?_)
  refine h_q hflS rfl ?_
  refine h_act (post := fun ge => [cell ge 3 #[.int .i64 0], cell gp 25 #[.slice none 0 0], X]) rfl (a_alloc ze_int rfl) ?_; rintro ge
  refine h_acts (post := fun _ => [cell ge 3 #[.int .i64 0], cell gp 25 #[.slice none 0 0], X]) rfl rfl (a_store 0 (v := .int .i64 0) #[.int .i64 0] ty_int.2 rfl rfl rfl rfl rfl rfl rfl rfl rfl) ?_; rintro ⟨⟩
  refine h_done (d_seq ?_)
  refine d_new (t := PartsT 23 (.slice none 0 0) ([])) (prts_nil) ?_
  refine d_close [2, 0, 1] rfl (lst_0 (ps := ps)) rfl ?_
  refine d_reg ?_
  refine h_q hflS rfl ?_
  refine h_act (post := fun g => [cell g 23 #[.slice A0 y.length c0], LstI gp ge ps 0, X]) rfl (a_does (os' := fun g => [cell g 23 #[.slice A0 y.length c0], LstI gp ge ps 0, X]) [] 0 (ent_of Try.func21 (by kernel_rfl) rfl) (complete_does) rfl rfl rfl (fun _ => rfl) rfl rfl rfl) ?_; rintro g
  refine h_done (d_block ?_)
  refine WC2.keep (env' := [(0, .slice A0 y.length c0), (2, .slice none 0 0), (3, .int .i64 0), (4, .pointer (some ⟨gp, 0, none⟩)), (5, .pointer (some ⟨ge, 0, none⟩)), (7, .slice A0 y.length c0), (8, .func (.func 24) #[] #[.pointer (some ⟨g, 0, none⟩)])]) ⟨rfl, rfl, rfl, rfl, rfl, rfl, rfl, trivial⟩ ?_
  refine WC2.mid [cell g 23 #[.slice A0 y.length c0], LstI gp ge ps 0, X] (.refl _) ?_
  refine wp_rangeG (caps := [.pointer (some ⟨g, 0, none⟩)]) (post := [X, LstI gp ge ps N, cell g 23 #[.slice A0 y.length c0]]) (os' := [X, LstI gp ge ps N, cell g 23 #[.slice A0 y.length c0]]) [2, 1, 0] rfl (ent_of Try.func24 (by kernel_rfl) rfl) (fun L fn tm hfr r h1 h2 h3 h4 h5 h6 => complete1 L r g X (LstI gp ge ps) hX hl hr1 (by rw [h4]; rfl) hN ?_) rfl rfl rfl ?_
  · skip
    intro j A c x hpj hXx
    have hjN : j < N := by have := (List.getElem?_eq_some_iff.1 hpj).1; omega
    have hxl : x.length ≤ 65536 := hlen x (List.mem_of_getElem? hpj)
    have hst := sumF_take hpj
    have hsl := sumF_le ps (j + 1)
    rw [h5, h6]
    refine doesR_of (n := 22) (env := [(9, .slice A x.length c), (0, .slice A0 y.length c0), (2, .slice none 0 0), (3, .int .i64 0), (4, .pointer (some ⟨gp, 0, none⟩)), (5, .pointer (some ⟨ge, 0, none⟩)), (7, .slice A0 y.length c0), (8, .func (.func 24) #[] #[.pointer (some ⟨g, 0, none⟩)])]) (env1 := [(6, .slice A x.length c), (9, .slice A x.length c), (0, .slice A0 y.length c0), (2, .slice none 0 0), (3, .int .i64 0), (4, .pointer (some ⟨gp, 0, none⟩)), (5, .pointer (some ⟨ge, 0, none⟩)), (7, .slice A0 y.length c0), (8, .func (.func 24) #[] #[.pointer (some ⟨g, 0, none⟩)])]) h1 h2 ?_ ?_ ?_
    · rw [h4, h3]
      refine (congrArg (fun t => Fr 22 { tmps := t, defers := [] } _) (?_ : _ = (tm.setIfInBounds 9 (.slice A x.length c)))).mpr (hfr.put (d := 9) (by decide) _)
      simp
    · exact fun K w hK a hF => r_one rfl rfl (fun a h => exec_assign rfl rfl h) (fun a h => hK a h) a hF
    · intro w0 rs
      refine r_open 1 rfl LstI.open_ (fun _ => rfl) ?_; rintro p
      refine WCR.fact 3 rfl (fun _ h => h.2) ?_; rintro hfact
      refine WCR.leave [3] rfl rfl ?_
      have hpl : p.l.length ≤ N := by have := congrArg List.length hfact; rw [List.length_map, List.length_take] at this; omega
      refine r_open 1 rfl prts_open (fun _ => rfl) ?_; rintro ⟨⟩
      refine r_block ?_
      refine r_seq ?_
      refine r_any (by kernel_rfl) rfl (by rintro ⟨a, w, h⟩; exact h) ?_
      refine a_emps 2 rfl ?_
      refine a_parS 5 3 [⟨.quiet, [none, none, none], fun _ => p.v, []⟩, ⟨.quiet, [none, none, none], fun _ => .slice A x.length c, []⟩, ⟨.act 0, [some false, some false, some false], fun _ => undef, [1]⟩, ⟨.act 1, [some true, some false, some false], fun _ => undef, [2]⟩, ⟨.act 2, [some true, some true, some false], fun _ => undef, [0, 3]⟩] [(6, .slice A x.length c), (2, .slice none 0 0), (3, .int .i64 0), (4, .pointer (some ⟨gp, 0, none⟩)), (5, .pointer (some ⟨ge, 0, none⟩))] (fun ρ => match ρ with | [r0, r1, r2] => [selS r1 (fun b1 => selS r0 (fun d1 => Vec 23 1 encW b1 ([d1])) (emp)) (emp), selS r0 (fun d1 => Vec 5 1 encB d1 x) (emp), selS r2 (fun p1 => selS r0 (fun d1 => Vec 23 1 encW p1 (p.l.map (·.1) ++ [d1])) (emp)) (Vec 23 1 encW p.v (p.l.map (·.1))), Each (fun x : PtT => Vec 5 1 encB x.1 x.2) p.l, cell gp 25 #[p.v], cell ge 3 #[.int .i64 ((sumF (ps.take j) : Nat) : Int)], X] | _ => []) (by kernel_rfl) ⟨rfl, rfl, rfl, rfl, rfl, trivial⟩ rfl ?_ ?_
      · skip
        refine s_cons (by intro r0_ r1_ r2_; exact ⟨rfl, fun b w hH hb => exec_load rfl rfl (reads_one ty_s_s_uint8 rfl) (hH.row 4 rfl) hb⟩) ?_
        refine s_cons (by intro r0_ r1_ r2_; exact ⟨rfl, fun b w hH hb => exec_q1 hflS rfl hb⟩) ?_
        refine s_cons (by exact ⟨rfl, Acts.s (a_does (os' := fun d1 => [emp, Vec 5 1 encB d1 x, Vec 23 1 encW p.v (p.l.map (·.1)), Each (fun x : PtT => Vec 5 1 encB x.1 x.2) p.l, cell gp 25 #[p.v], cell ge 3 #[.int .i64 ((sumF (ps.take j) : Nat) : Int)], X]) [6, 1] 1 (ent_of Try.func22 (by kernel_rfl) rfl) (clone8 hXx (by omega)) rfl rfl rfl (fun _ => rfl) rfl rfl rfl) (fun _ => rfl)⟩) ?_
        refine s_cons (by intro d1; exact ⟨rfl, Acts.s (Acts.place (val := fun b1 : Value => b1) (t := fun b1 => Vec 23 1 encW b1 ([d1])) (os' := fun b1 => [Vec 23 1 encW b1 ([d1]), Vec 5 1 encB d1 x, Vec 23 1 encW p.v (p.l.map (·.1)), Each (fun x : PtT => Vec 5 1 encB x.1 x.2) p.l, cell gp 25 #[p.v], cell ge 3 #[.int .i64 ((sumF (ps.take j) : Nat) : Int)], X]) 0 rfl (by exact a_buildV 1 sl_s_uint8 rfl rfl rfl) (fun _ => rfl)) (fun _ => rfl)⟩) ?_
        refine s_cons (by intro d1 b1; exact ⟨rfl, Acts.s (a_append 2 sl_s_uint8 okW rfl ([d1]) (fun w hH => hH.vec 0 rfl okW) (by simp only [List.length_map, List.length_cons, List.length_nil]; omega) rfl rfl rfl rfl) (fun _ => rfl)⟩) ?_
        exact s_nil
      intro d1 b1 p1
      refine WL2.keep (env' := [(6, .slice A x.length c), (2, .slice none 0 0), (3, .int .i64 0), (4, .pointer (some ⟨gp, 0, none⟩)), (5, .pointer (some ⟨ge, 0, none⟩)), (14, p1)]) ⟨rfl, rfl, rfl, rfl, rfl, rfl, trivial⟩ ?_
      refine h_q hflS rfl ?_
      refine h_acts (post := fun _ => [Vec 23 1 encW b1 ([d1]), Vec 5 1 encB d1 x, Vec 23 1 encW p1 (p.l.map (·.1) ++ [d1]), Each (fun x : PtT => Vec 5 1 encB x.1 x.2) p.l, cell gp 25 #[p1], cell ge 3 #[.int .i64 ((sumF (ps.take j) : Nat) : Int)], X]) rfl rfl (a_storev 4 2 (v := p1) #[p1] ty_s_s_uint8.2 rfl (fun _ h => Vec.c1 h) rfl rfl rfl rfl rfl rfl rfl) ?_; rintro ⟨⟩
      refine h_nil ?_
      refine r_to ?_
      refine WCR.leave [0] rfl rfl ?_
      refine r_reg rfl (by rintro ⟨a, w, h⟩; exact h) ?_
      refine h_q hflS rfl ?_
      refine h_val rfl (.int .i64 ((sumF (ps.take j) : Nat) : Int)) (fun b w hb hH => exec_load rfl rfl (reads_one ty_int rfl) (hH.row 4 rfl) hb) ?_
      refine h_q hflS rfl ?_
      refine h_val rfl (.int .i64 (x.length : Int)) (fun b w hb hH => e_slen ((hH.rd8 5 rfl hXx).rd) Try.underlying23 rfl rfl hb) ?_
      refine h_val rfl (.int .i64 ((8 + x.length : Nat) : Int)) (fun b w hb hH => exec_ar rfl rfl rfl rfl (by rw [IntWalk.i64_in _ (by omega)]; omega) hb) ?_
      refine h_val rfl (.int .i64 ((sumF (ps.take (j + 1)) : Nat) : Int)) (fun b w hb hH => exec_ar rfl rfl rfl rfl (by rw [IntWalk.i64_in _ (by omega)]; omega) hb) ?_
      refine h_acts (post := fun _ => [Vec 5 1 encB d1 x, Vec 23 1 encW p1 (p.l.map (·.1) ++ [d1]), Each (fun x : PtT => Vec 5 1 encB x.1 x.2) p.l, cell gp 25 #[p1], cell ge 3 #[.int .i64 ((sumF (ps.take (j + 1)) : Nat) : Int)], X]) rfl rfl (a_store 4 (v := .int .i64 ((sumF (ps.take (j + 1)) : Nat) : Int)) #[.int .i64 ((sumF (ps.take (j + 1)) : Nat) : Int)] ty_int.2 rfl rfl rfl rfl rfl rfl rfl rfl rfl) ?_; rintro ⟨⟩
      refine h_nil ?_
      refine f_close [1, 2, 0] rfl prts_push rfl ?_
      refine f_close [1, 0, 2] rfl (lst_mk ⟨p1, p.l ++ [(d1, x)]⟩ (by rw [List.map_append, hfact]; exact take_pushP hpj)) rfl ?_
      exact r_tell .normal [1, 0] rfl rfl (fun _ _ h => h)
  intro D aT wT hD hD0 hd hF hH
  obtain ⟨p, hH⟩ := hp_open 1 rfl LstI.open_ hH
  have hfact : p.l.map (·.2) = ps.take N := thing_is 3 rfl (fun _ h => h.2) hH
  have hps : p.l.map (·.2) = ps := by rw [hfact, ← hN, List.take_length]
  have hsum : ((sumF (ps.take N) : Nat) : Int) = (k : Int) := by rw [← hN, List.take_length, ← hk]
  refine t_anyV (env := [(4, .pointer (some ⟨gp, 0, none⟩)), (5, .pointer (some ⟨ge, 0, none⟩))]) (os := [cell gp 25 #[p.v], PartsT 23 p.v p.l, cell ge 3 #[.int .i64 ((sumF (ps.take N) : Nat) : Int)], fact (p.l.map (·.2) = ps.take N), X, cell g 23 #[.slice A0 y.length c0]]) (by kernel_rfl) ?_ aT wT hD hd (hF.keep ⟨rfl, rfl, trivial⟩) hH
  refine bt_two 0 1 (by kernel_rfl) ?_ ?_
  · skip
    refine bt_val rfl rfl (p.v) (fun b w hb hH => exec_load rfl rfl (reads_one ty_s_s_uint8 rfl) (hH.row 0 rfl) hb) ?_
    refine bt_two 1 2 (by kernel_rfl) ?_ ?_
    · skip
      refine bt_val rfl rfl (.int .i64 ((sumF (ps.take N) : Nat) : Int)) (fun b w hb hH => exec_load rfl rfl (reads_one ty_int rfl) (hH.row 2 rfl) hb) ?_
      refine bt_one 2 (by kernel_rfl) ?_
      refine bt_val rfl rfl (p.v) (fun b w hb hH => exec_q1 hflS rfl hb) ?_
      refine bt_one 3 (by kernel_rfl) ?_
      refine bt_val rfl rfl (.int .i64 ((sumF (ps.take N) : Nat) : Int)) (fun b w hb hH => exec_q1 hflS rfl hb) ?_
      exact bt_done (by kernel_rfl) (fun a w hD hd hF hH => wp_ret (m_fin2 (os := [cell gp 25 #[p.v], PartsT 23 p.v p.l, cell ge 3 #[.int .i64 ((sumF (ps.take N) : Nat) : Int)], fact (p.l.map (·.2) = ps.take N), X, cell g 23 #[.slice A0 y.length c0]]) (.tmp rfl) (.tmp rfl) rfl (fun w' h => tells (X := PsV) p (by rw [hsum]) [4, 1] rfl h (fun z hz => ⟨z, .refl _, fact_add (xs := [X, PartsT 23 p.v p.l]) hps hz⟩)) D a w hD hD0 hd hF hH))
    · skip
      refine bt_val rfl rfl (p.v) (fun b w hb hH => exec_q1 hflS rfl hb) ?_
      refine bt_one 1 (by kernel_rfl) ?_
      refine bt_val rfl rfl (.int .i64 ((sumF (ps.take N) : Nat) : Int)) (fun b w hb hH => exec_load rfl rfl (reads_one ty_int rfl) (hH.row 2 rfl) hb) ?_
      refine bt_one 3 (by kernel_rfl) ?_
      refine bt_val rfl rfl (.int .i64 ((sumF (ps.take N) : Nat) : Int)) (fun b w hb hH => exec_q1 hflS rfl hb) ?_
      exact bt_done (by kernel_rfl) (fun a w hD hd hF hH => wp_ret (m_fin2 (os := [cell gp 25 #[p.v], PartsT 23 p.v p.l, cell ge 3 #[.int .i64 ((sumF (ps.take N) : Nat) : Int)], fact (p.l.map (·.2) = ps.take N), X, cell g 23 #[.slice A0 y.length c0]]) (.tmp rfl) (.tmp rfl) rfl (fun w' h => tells (X := PsV) p (by rw [hsum]) [4, 1] rfl h (fun z hz => ⟨z, .refl _, fact_add (xs := [X, PartsT 23 p.v p.l]) hps hz⟩)) D a w hD hD0 hd hF hH))
  · skip
    refine bt_val rfl rfl (.int .i64 ((sumF (ps.take N) : Nat) : Int)) (fun b w hb hH => exec_load rfl rfl (reads_one ty_int rfl) (hH.row 2 rfl) hb) ?_
    refine bt_one 0 (by kernel_rfl) ?_
    refine bt_val rfl rfl (p.v) (fun b w hb hH => exec_load rfl rfl (reads_one ty_s_s_uint8 rfl) (hH.row 0 rfl) hb) ?_
    refine bt_one 2 (by kernel_rfl) ?_
    refine bt_val rfl rfl (p.v) (fun b w hb hH => exec_q1 hflS rfl hb) ?_
    refine bt_one 3 (by kernel_rfl) ?_
    refine bt_val rfl rfl (.int .i64 ((sumF (ps.take N) : Nat) : Int)) (fun b w hb hH => exec_q1 hflS rfl hb) ?_
    exact bt_done (by kernel_rfl) (fun a w hD hd hF hH => wp_ret (m_fin2 (os := [cell gp 25 #[p.v], PartsT 23 p.v p.l, cell ge 3 #[.int .i64 ((sumF (ps.take N) : Nat) : Int)], fact (p.l.map (·.2) = ps.take N), X, cell g 23 #[.slice A0 y.length c0]]) (.tmp rfl) (.tmp rfl) rfl (fun w' h => tells (X := PsV) p (by rw [hsum]) [4, 1] rfl h (fun z hz => ⟨z, .refl _, fact_add (xs := [X, PartsT 23 p.v p.l]) hps hz⟩)) D a w hD hD0 hd hF hH))

theorem list_does {X : Ass} {v : Value} {y : List UInt8} {ps : List (List UInt8)} {k : Nat} (hX : Rd8 X v y) (hl : y.length ≤ 137438953472) (hr : listL y = (ps, k)) : Does Try.prog 12 #[v] [X] (fun x : PsV => .tuple #[x.v, .int .i64 (k : Int)]) (fun x => [X, PartsT 23 x.v x.l, fact (x.l.map (·.2) = ps)]) := fun w rs h1 h2 h3 => by
  have hXr := Parts.one' h1
  obtain ⟨A0, c0, rfl, _⟩ := hX rs w hXr h2
  have e1 : (listL y).1 = ps := congrArg Prod.fst hr
  have e2 : (listL y).2 = k := congrArg Prod.snd hr
  have h4 := list_sum y.length y
  have h5 := list_le y.length y
  have h6 := list_count y.length y
  have h7 := list_parts y.length y
  change (listL y).2 = sumF (listL y).1 at h4
  change (listL y).2 ≤ y.length at h5
  change (listL y).1.length * 8 ≤ (listL y).2 at h6
  change ∀ x, x ∈ (listL y).1 → x.length ≤ 65536 at h7
  rw [e1, e2] at h4
  rw [e2] at h5
  rw [e1, e2] at h6
  rw [e1] at h7
  exact list_any hX hl e1 h4.symm h5 rfl h6 h7 w rs h1 h2 h3
end Go.Proofs.Ythamiglbifgepaa.Sep



namespace Go.Proofs.Ythamiglbifgepaa.Sep
open Go.RowKit
open Go.Proofs.Ythamiglbifgepaa.Mem (Dist Blk Chg below0)

theorem prt_rd8f {te : TypeId} {v : Value} {l : List PtT} {y : PtT} {j : Nat} (hj : l[j]? = some y) : Rd8 (PartsT te v l) y.1 y.2 := prt_rd8 (u := y.1) (d := y.2) hj
theorem frame_over {x : List UInt8} (h : 65536 < x.length) : frameL x = [] := by unfold frameL; rw [if_neg (by omega)]
theorem frame_nil : frameL [] = [0, 0, 0, 0, 0, 0, 0, 0] := by kernel_rfl
theorem known_list : listL (frameL [97] ++ frameL [98, 99] ++ [7]) = ([[97], [98, 99]], 19) := by
  have h := list_frames [[97], [98, 99]] (by decide) [7]
  have h1 : listL [7] = ([], 0) := listL_none (by unfold nextF; exact if_neg fun h => by have := h.1; simp at this)
  have h2 : framesL [[97], [98, 99]] ++ [7] = frameL [97] ++ frameL [98, 99] ++ [7] := by simp [framesL]
  have h3 : (framesL [[97], [98, 99]]).length = 19 := by
    have e : framesL [[97], [98, 99]] = frameL [97] ++ frameL [98, 99] := by simp [framesL]
    rw [e, List.length_append, frame_len (by decide), frame_len (by decide)]; rfl
  rw [h1, h2, h3] at h
  simpa using h
theorem two_parts {L : List PtT} {a b : List UInt8} (h : L.map (·.2) = [a, b]) : ∃ p q, L[0]? = some p ∧ L[1]? = some q ∧ p.2 = a ∧ q.2 = b ∧ L.length = 2 := by
  match L, h with
  | [p, q], h =>
    simp at h
    exact ⟨p, q, rfl, rfl, h.1, h.2, rfl⟩

set_option maxRecDepth 100000 in
theorem known8_true (w : World)  : Calls Try.prog 8 #[] w fun e w' => e = .returned (.bool true) ∧ Below w.heap.size w w' := by
  refine d_in (args := []) 44 Try.func8 rfl rfl rfl ?_
  refine d_reg ?_
  refine h_q hflS rfl ?_
  refine h_done (d_reg ?_)
  refine h_q hflS rfl ?_
  refine h_act (X := Value) (val := fun v : Value => v) (post := fun b1 => [Vec 5 1 encB b1 ([(97 : UInt8)])]) rfl (by refine a_build1 (e := 5) (t := 23) (enc := encB) (x := .const (Value.int IntKind.u8 97)) (c := .int .u8 (((97 : UInt8)).toNat : Int)) ?_ ?_ (97 : UInt8) ?_ ?_ ?_; exact sl_uint8; exact okB; exact rfl; exact rfl; exact rfl) ?_; rintro b1
  refine h_act (post := fun _ => [LitT 5 b1 ([(97 : UInt8)])]) rfl (a_lit 0 Try.underlying23 Try.underlying5 rfl (by simp) rfl rfl) ?_; rintro ⟨⟩
  refine h_act (post := fun u1 => [Vec 5 1 encB u1 (frameL ([97])), LitT 5 b1 ([97])]) rfl (a_does (os' := fun u1 => [Vec 5 1 encB u1 (frameL ([97])), LitT 5 b1 ([97])]) [0] 0 (ent_of Try.func9 (by kernel_rfl) rfl) (frame_does rd8_lit (by decide) rfl) rfl rfl rfl (fun _ => rfl) rfl rfl rfl) ?_; rintro u1
  refine h_act (X := Value) (val := fun v : Value => v) (post := fun b2 => [Vec 5 1 encB b2 ([98, 99]), Vec 5 1 encB u1 (frameL ([97])), LitT 5 b1 ([97])]) rfl (by exact a_build2 sl_uint8 98 99 rfl rfl rfl) ?_; rintro b2
  refine h_act (post := fun _ => [LitT 5 b2 ([98, 99]), Vec 5 1 encB u1 (frameL ([97])), LitT 5 b1 ([97])]) rfl (a_lit 0 Try.underlying23 Try.underlying5 rfl (by simp) rfl rfl) ?_; rintro ⟨⟩
  refine h_act (post := fun u2 => [Vec 5 1 encB u2 (frameL ([98, 99])), LitT 5 b2 ([98, 99]), Vec 5 1 encB u1 (frameL ([97])), LitT 5 b1 ([97])]) rfl (a_does (os' := fun u2 => [Vec 5 1 encB u2 (frameL ([98, 99])), LitT 5 b2 ([98, 99]), Vec 5 1 encB u1 (frameL ([97])), LitT 5 b1 ([97])]) [0] 0 (ent_of Try.func9 (by kernel_rfl) rfl) (frame_does rd8_lit (by decide) rfl) rfl rfl rfl (fun _ => rfl) rfl rfl rfl) ?_; rintro u2
  refine h_act (post := fun u3 => [Vec 5 1 encB u2 (frameL ([98, 99])), LitT 5 b2 ([98, 99]), Vec 5 1 encB u3 ((frameL ([97])) ++ (frameL ([98, 99]))), LitT 5 b1 ([97])]) rfl (a_append 2 sl_uint8 okB rfl (frameL ([98, 99])) (fun w hH => hH.vec 0 rfl okB) (by rw [frame_len (by decide), frame_len (by decide)]; decide) rfl rfl rfl rfl) ?_; rintro u3
  refine h_act (X := Value) (val := fun v : Value => v) (post := fun b3 => [Vec 5 1 encB b3 ([(7 : UInt8)]), Vec 5 1 encB u2 (frameL ([98, 99])), LitT 5 b2 ([98, 99]), Vec 5 1 encB u3 ((frameL ([97])) ++ (frameL ([98, 99]))), LitT 5 b1 ([97])]) rfl (by refine a_build1 (e := 5) (t := 23) (enc := encB) (x := .const (Value.int IntKind.u8 7)) (c := .int .u8 (((7 : UInt8)).toNat : Int)) ?_ ?_ (7 : UInt8) ?_ ?_ ?_; exact sl_uint8; exact okB; exact rfl; exact rfl; exact rfl) ?_; rintro b3
  refine h_act (post := fun u4 => [Vec 5 1 encB b3 ([(7 : UInt8)]), Vec 5 1 encB u2 (frameL ([98, 99])), LitT 5 b2 ([98, 99]), Vec 5 1 encB u4 (((frameL ([97])) ++ (frameL ([98, 99]))) ++ ([(7 : UInt8)])), LitT 5 b1 ([97])]) rfl (a_append 3 sl_uint8 okB rfl ([(7 : UInt8)]) (fun w hH => hH.vec 0 rfl okB) (by rw [List.length_append, frame_len (by decide), frame_len (by decide)]; decide) rfl rfl rfl rfl) ?_; rintro u4
  refine h_q hflS rfl ?_
  refine h_done (d_reg ?_)
  refine h_q hflS rfl ?_
  refine h_act (post := fun (x : PsV) => [PartsT 23 x.v x.l, fact (x.l.map (·.2) = [[97], [98, 99]]), Vec 5 1 encB b3 ([(7 : UInt8)]), Vec 5 1 encB u2 (frameL ([98, 99])), LitT 5 b2 ([98, 99]), Vec 5 1 encB u4 (frameL [97] ++ frameL [98, 99] ++ [7]), LitT 5 b1 ([97])]) rfl (a_does (os' := fun (x : PsV) => [PartsT 23 x.v x.l, fact (x.l.map (·.2) = [[97], [98, 99]]), Vec 5 1 encB b3 ([(7 : UInt8)]), Vec 5 1 encB u2 (frameL ([98, 99])), LitT 5 b2 ([98, 99]), Vec 5 1 encB u4 (frameL [97] ++ frameL [98, 99] ++ [7]), LitT 5 b1 ([97])]) [3] 0 (ent_of Try.func12 (by kernel_rfl) rfl) (list_does rd8_vec (by rw [List.length_append, List.length_append, frame_len (by decide), frame_len (by decide)]; decide) known_list) rfl rfl rfl (fun _ => rfl) rfl rfl rfl) ?_; rintro x
  refine WL2.fact 1 rfl (fun _ h => h.2) ?_; rintro hps
  refine WL2.leave [1] rfl rfl ?_
  obtain ⟨p, q, hp0, hq0, hp, hq, hlen⟩ := two_parts hps
  refine h_q hflS rfl ?_
  refine h_done ?_
  refine d_nilvec 5 1 encB ?_
  refine d_reg ?_
  refine h_q hflS rfl ?_
  refine h_val rfl (.int .i64 (x.l.length : Int)) (fun b w hb hH => e_plen 1 Try.underlying25 rfl rfl rfl hH hb) ?_
  refine h_val rfl (.bool true) (fun b w hb hH => exec_cmp rfl rfl rfl (cmp_eql_t (by rw [hlen]; rfl)) hb) ?_
  refine h_q hflS rfl ?_
  refine h_val rfl (elp x.v (0 * 1)) (fun b w hb hH => e_pidx 1 sl_s_uint8 rfl 0 (by omega) rfl rfl rfl hH hb) ?_
  refine h_val rfl (p.1) (fun b w hb hH => e_pload 1 ty_s_uint8 rfl 0 hp0 rfl rfl hH hb) ?_
  refine h_val rfl (.string (bs p.2)) (fun b w hb hH => exec_str8 Try.underlying23 Try.underlying5 (by kernel_rfl) Try.underlying9 (hH.rd8 1 rfl (prt_rd8f hp0)) rfl rfl hb) ?_
  refine h_val rfl (.bool true) (fun b w hb hH => exec_same rfl rfl rfl (by rw [hp]; rfl) hb) ?_
  refine h_q hflS rfl ?_
  refine h_val rfl (elp x.v (1 * 1)) (fun b w hb hH => e_pidx 1 sl_s_uint8 rfl 1 (by omega) rfl rfl rfl hH hb) ?_
  refine h_val rfl (q.1) (fun b w hb hH => e_pload 1 ty_s_uint8 rfl 1 hq0 rfl rfl hH hb) ?_
  refine h_val rfl (.string (bs q.2)) (fun b w hb hH => exec_str8 Try.underlying23 Try.underlying5 (by kernel_rfl) Try.underlying9 (hH.rd8 1 rfl (prt_rd8f hq0)) rfl rfl hb) ?_
  refine h_val rfl (.bool true) (fun b w hb hH => exec_same rfl rfl rfl (by rw [hq]; rfl) hb) ?_
  refine h_q hflS rfl ?_
  refine h_val rfl (.bool true) (fun b w hb hH => exec_cmp rfl rfl rfl (cmp_eql_t (by decide)) hb) ?_
  refine h_q hflS rfl ?_
  refine h_act (post := fun u5 => [Vec 5 1 encB u5 (frameL ([])), Vec 5 1 encB (.slice none 0 0) ([]), PartsT 23 x.v x.l, Vec 5 1 encB b3 ([(7 : UInt8)]), Vec 5 1 encB u2 (frameL ([98, 99])), LitT 5 b2 ([98, 99]), Vec 5 1 encB u4 (frameL [97] ++ frameL [98, 99] ++ [7]), LitT 5 b1 ([97])]) rfl (a_does (os' := fun u5 => [Vec 5 1 encB u5 (frameL ([])), Vec 5 1 encB (.slice none 0 0) ([]), PartsT 23 x.v x.l, Vec 5 1 encB b3 ([(7 : UInt8)]), Vec 5 1 encB u2 (frameL ([98, 99])), LitT 5 b2 ([98, 99]), Vec 5 1 encB u4 (frameL [97] ++ frameL [98, 99] ++ [7]), LitT 5 b1 ([97])]) [0] 0 (ent_of Try.func9 (by kernel_rfl) rfl) (frame_does rd8_vec (by decide) rfl) rfl rfl rfl (fun _ => rfl) rfl rfl rfl) ?_; rintro u5
  refine h_val rfl (.string (bs (frameL ([])))) (fun b w hb hH => exec_str8 Try.underlying23 Try.underlying5 (by kernel_rfl) Try.underlying9 (hH.sl8 0 rfl) rfl rfl hb) ?_
  refine h_val rfl (.bool true) (fun b w hb hH => exec_same rfl rfl rfl (by rw [frame_nil]; rfl) hb) ?_
  refine h_q hflS rfl ?_
  refine h_done (d_ret ?_)
  exact f_fin1 (.tmp rfl) (fun w h => ⟨rfl, below0 h.up⟩) rfl

set_option maxRecDepth 100000 in
theorem frameknown_true (w : World)  : Calls Try.prog 3 #[] w fun e w' => e = .returned (.bool true) ∧ Below w.heap.size w w' := by
  refine d_in (args := []) 16 Try.func3 rfl rfl rfl ?_
  refine d_reg ?_
  refine h_q hflS rfl ?_
  refine h_done (d_reg ?_)
  refine h_q hflS rfl ?_
  refine h_act (post := fun _ => []) rfl (a_call (ent_of Try.func8 (by kernel_rfl) rfl) (fun w hH => known8_true w) rfl rfl rfl) ?_; rintro ⟨⟩
  refine h_q hflS rfl ?_
  refine h_act (post := fun z1 => [Vec 5 1 encB z1 (List.replicate 65536 0)]) rfl (a_mkslice8 sl_uint8 (by kernel_rfl) (fun w => by kernel_rfl) (N := 65536) (by decide) rfl rfl rfl) ?_; rintro z1
  refine h_act (post := fun u1 => [Vec 5 1 encB u1 (frameL (List.replicate 65536 0)), Vec 5 1 encB z1 (List.replicate 65536 0)]) rfl (a_does (os' := fun u1 => [Vec 5 1 encB u1 (frameL (List.replicate 65536 0)), Vec 5 1 encB z1 (List.replicate 65536 0)]) [0] 0 (ent_of Try.func9 (by kernel_rfl) rfl) (frame_does rd8_vec (by rw [List.length_replicate]; decide) rfl) rfl rfl rfl (fun _ => rfl) rfl rfl rfl) ?_; rintro u1
  refine h_val rfl (.int .i64 ((frameL (List.replicate 65536 0)).length : Int)) (fun b w hb hH => e_vlen 0 Try.underlying23 rfl rfl rfl hH hb) ?_
  refine h_val rfl (.bool true) (fun b w hb hH => exec_cmp rfl rfl rfl (cmp_eql_t (by rw [frame_len (by rw [List.length_replicate]; decide), List.length_replicate]; rfl)) hb) ?_
  refine h_q hflS rfl ?_
  refine h_act (post := fun z2 => [Vec 5 1 encB z2 (List.replicate 65537 0), Vec 5 1 encB u1 (frameL (List.replicate 65536 0)), Vec 5 1 encB z1 (List.replicate 65536 0)]) rfl (a_mkslice8 sl_uint8 (by kernel_rfl) (fun w => by kernel_rfl) (N := 65537) (by decide) rfl rfl rfl) ?_; rintro z2
  refine h_act (post := fun u2 => [Vec 5 1 encB u2 (frameL (List.replicate 65537 0)), Vec 5 1 encB z2 (List.replicate 65537 0), Vec 5 1 encB u1 (frameL (List.replicate 65536 0)), Vec 5 1 encB z1 (List.replicate 65536 0)]) rfl (a_does (os' := fun u2 => [Vec 5 1 encB u2 (frameL (List.replicate 65537 0)), Vec 5 1 encB z2 (List.replicate 65537 0), Vec 5 1 encB u1 (frameL (List.replicate 65536 0)), Vec 5 1 encB z1 (List.replicate 65536 0)]) [0] 0 (ent_of Try.func9 (by kernel_rfl) rfl) (frame_does rd8_vec (by rw [List.length_replicate]; decide) rfl) rfl rfl rfl (fun _ => rfl) rfl rfl rfl) ?_; rintro u2
  refine h_val rfl (.int .i64 ((frameL (List.replicate 65537 0)).length : Int)) (fun b w hb hH => e_vlen 0 Try.underlying23 rfl rfl rfl hH hb) ?_
  refine h_val rfl (.bool true) (fun b w hb hH => exec_cmp rfl rfl rfl (cmp_eql_t (by rw [frame_over (by rw [List.length_replicate]; decide)]; rfl)) hb) ?_
  refine h_q hflS rfl ?_
  refine h_done (d_ret ?_)
  exact f_fin1 (.tmp rfl) (fun w h => ⟨rfl, below0 h.up⟩) rfl
end Go.Proofs.Ythamiglbifgepaa.Sep
