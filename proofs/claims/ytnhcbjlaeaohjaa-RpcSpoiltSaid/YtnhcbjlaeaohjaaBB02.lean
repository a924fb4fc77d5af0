/-
  CmdR · CmdL · Law · CmdO · CmdP · CmdQ · CmdE · CmdF · CmdG · CmdN · CmdI · Crc · Sum · Seal · RefSum
-/
import Derived.Test.YtnhcbjlaeaohjaaBA01
import Derived.Test.YtnhcbjlaeaohjaaBA07
import Derived.Test.YtnhcbjlaeaohjaaBB01
import Derived.Test.YtnhcbjlaeaohjaaRows
import Derived.ProofKit
import Derived.OpenShut
import Derived.JoinedCond
import Derived.Lib.SmallJoins
import Derived.ChangeMaps5
import Derived.SizedLaws
import Derived.Deep.QuietTactic
import Derived.BigQuiet
set_option linter.unusedSimpArgs false
set_option linter.unusedVariables false

namespace Go.Proofs.Ytnhcbjlaeaohjaa.Sep
open Go.RowKit
open Go.Proofs.Ytnhcbjlaeaohjaa.Mem (Dist Blk Chg below0)

theorem rbyte_stop {most f : Nat} {l : List UInt8} (h : f ≠ 0) : rbyte most l f = (0, l, f) := rbyte_stuck h
theorem rbyte_nil {most f : Nat} {l : List UInt8} (hf : f = 0) (h : l.length = 0) : rbyte most l f = (0, l, 10) := by
  subst hf
  rw [List.eq_nil_of_length_eq_zero h]; rfl
theorem rbyte_big {most f : Nat} {l : List UInt8} {x : UInt8} (hf : f = 0) (hx : l[0]? = some x) (h : most < x.toNat) : rbyte most l f = (0, l, 12) := by
  subst hf
  cases l with
  | nil => simp at hx
  | cons b r =>
    simp only [List.getElem?_cons_zero, Option.some.injEq] at hx
    subst hx
    simp only [rbyte]
    rw [if_neg (by simp), if_pos h]
theorem rbyte_fine {most f : Nat} {l : List UInt8} {x : UInt8} (hf : f = 0) (hx : l[0]? = some x) (h : ¬ most < x.toNat) : rbyte most l f = (x.toNat, l.drop 1, f) := by
  subst hf
  cases l with
  | nil => simp at hx
  | cons b r =>
    simp only [List.getElem?_cons_zero, Option.some.injEq] at hx
    subst hx
    simp only [rbyte]
    rw [if_neg (by simp), if_neg h]; rfl
theorem vnum_sz (most : Nat) (l : List UInt8) : (vnum most l 0 0).2.1 ≤ l.length := by
  rcases vnum_ends most l 0 0 (by omega) (by decide) with h | h <;> omega
theorem byteR (most : Nat) (l : List UInt8) (f : Nat) : ∃ (x : UInt8) (l1 : List UInt8) (f1 : Nat), rbyte most l f = (x.toNat, l1, f1) := by
  have h := rbyte_lt most l f
  obtain ⟨⟨n, l1, f1⟩, e⟩ : ∃ R, rbyte most l f = R := ⟨_, rfl⟩
  rw [e] at h
  exact ⟨UInt8.ofNat n, l1, f1, by rw [e, byte_of n h]⟩
section
variable {P : Program} {n : Nat} {B : Nat → Prop} {w0 w : World} {os : List Ass} {env : List (Nat × Value)} {o : Oper} {a : Act}
end

set_option maxRecDepth 100000 in
theorem rd_new (u : World) (v : Value) (l : List UInt8) (hv : Sl8 u v l) (hl : l.length ≤ 140737488355328) : DoesU u Try.prog 41 #[v] [] (fun (g : Nat) => .pointer (some ⟨g, 0, none⟩)) (fun (g : Nat) => [RdT g l 0]) := by
  refine d_insU (args := [v]) 7 Try.func41 rfl rfl rfl ?_; intro w rs hU hS
  refine d_reg ?_
  refine h_q hflS rfl ?_
  refine h_done (d_reg ?_)
  refine h_q hflS rfl ?_
  refine h_act (post := fun v2 => [Vec 5 1 encB v2 l]) rfl (a_doesU hU hS (os' := fun v2 => [Vec 5 1 encB v2 l]) [] 0 (ent_of Try.func80 (by kernel_rfl) rfl) (clone8U u hv hl) rfl rfl rfl (fun _ => rfl) rfl rfl rfl) ?_; rintro v2
  refine WL2.fact 0 rfl (fun _ h => Vec.is h) ?_; rintro ⟨A, c, rfl⟩
  refine h_val rfl (.agg #[.slice A l.length c, .int .i64 0]) (fun b w hb hH => exec_build rfl rfl (by kernel_rfl) hb) ?_
  refine h_act (post := fun g1 => [cell g1 99 #[.slice A l.length c, .int .i64 0], Vec 5 1 encB (.slice A l.length c) l]) rfl (a_box (cs := #[.slice A l.length c, .int .i64 0]) rfl rfl rfl) ?_; rintro g1
  refine h_q hflS rfl ?_
  refine h_done (d_ret ?_)
  exact f_fin1 (.tmp rfl) (fun w h => tells g1 rfl [0, 1] rfl h (fun z hz => ⟨z, .refl _, Parts.one (RdT.mk_ rfl rd8_vec hl z hz)⟩)) rfl

set_option maxRecDepth 100000 in
theorem rd_byte (g : Nat) (l : List UInt8) (f most : Nat) (hm : most < 256) (R : Nat × List UInt8 × Nat) (h : rbyte most l f = R) : Does Try.prog 59 #[.pointer (some ⟨g, 0, none⟩), .int .u8 (most : Int)] [RdT g l f] (fun (_ : Unit) => .int .u8 (R.1 : Int)) (fun (_ : Unit) => [RdT g R.2.1 R.2.2]) := by
  refine d_ins (args := [.pointer (some ⟨g, 0, none⟩), .int .u8 (most : Int)]) 41 Try.func59 rfl rfl rfl ?_; intro w rs
  refine d_open 0 rfl RdT.open_ (fun _ => rfl) ?_; rintro ⟨⟨X, A, c⟩, hR, hL⟩
  refine WC2.keep (env' := [(0, .pointer (some ⟨g, 0, none⟩)), (1, .int .u8 (most : Int))]) ⟨rfl, rfl, trivial⟩ ?_
  refine WC2.mid [cell g 99 #[.slice A l.length c, .int .i64 (f : Int)], X] (.refl _) ?_
  refine d_reg ?_
  refine h_q hflS rfl ?_
  refine h_done (d_seq ?_)
  by_cases hf : f = 0
  · skip
    refine d_reg ?_
    refine h_q hflS rfl ?_
    refine h_val rfl (.pointer (some ⟨g, 0, none⟩)) (fun b w hb hH => by exact exec_nilCheck rfl rfl hb) ?_
    refine h_q hflS rfl ?_
    refine h_val rfl (.int .i64 (f : Int)) (fun b w hb hH => exec_load rfl rfl (reads_one ty_api_Errno rfl) (hH.row 0 rfl) hb) ?_
    refine h_val rfl (.bool false) (fun b w hb hH => exec_cmp rfl rfl rfl (cmp_neq_f (by omega)) hb) ?_
    refine h_done (d_else rfl (d_skip (f_to (d_seq ?_))))
    rcases Nat.eq_zero_or_pos l.length with h0 | h0
    · skip
      obtain rfl : R = (0, l, 10) := h.symm.trans (rbyte_nil hf h0)
      refine d_reg ?_
      refine h_q hflS rfl ?_
      refine h_val rfl (.pointer (some ⟨g, 0, none⟩)) (fun b w hb hH => by exact exec_nilCheck rfl rfl hb) ?_
      refine h_q hflS rfl ?_
      refine h_val rfl (.slice A l.length c) (fun b w hb hH => exec_load rfl rfl (reads_one ty_s_uint8 rfl) (hH.row 0 rfl) hb) ?_
      refine h_val rfl (.int .i64 (l.length : Int)) (fun b w hb hH => e_len sl_uint8 rfl rfl hH hb) ?_
      refine h_val rfl (.bool true) (fun b w hb hH => exec_cmp rfl rfl rfl (cmp_eql_t (by omega)) hb) ?_
      refine h_done (d_then rfl (d_reg ?_))
      refine h_q hflS rfl ?_
      refine h_val rfl (.pointer (some ⟨g, 0, none⟩)) (fun b w hb hH => by exact exec_nilCheck rfl rfl hb) ?_
      refine h_q hflS rfl ?_
      refine h_acts (post := fun _ => [cell g 99 #[.slice A l.length c, .int .i64 10], X]) rfl rfl (a_store 0 (v := .int .i64 10) #[.slice A l.length c, .int .i64 10] ty_api_Errno.2 rfl rfl rfl rfl rfl rfl rfl rfl rfl) ?_; rintro ⟨⟩
      refine h_done (d_reg ?_)
      refine h_q hflS rfl ?_
      refine h_done (d_ret (f_then_ret ?_))
      exact f_fin1 (.tmp rfl) (fun w h => tells () rfl [0, 1] rfl h (fun z hz => ⟨z, .refl _, Parts.one (RdT.mk_ rfl hR hL z hz)⟩)) rfl
    · skip
      obtain ⟨x, hx⟩ : ∃ x, l[0]? = some x := ⟨_, List.getElem?_eq_getElem h0⟩
      refine d_reg ?_
      refine h_q hflS rfl ?_
      refine h_val rfl (.pointer (some ⟨g, 0, none⟩)) (fun b w hb hH => by exact exec_nilCheck rfl rfl hb) ?_
      refine h_q hflS rfl ?_
      refine h_val rfl (.slice A l.length c) (fun b w hb hH => exec_load rfl rfl (reads_one ty_s_uint8 rfl) (hH.row 0 rfl) hb) ?_
      refine h_val rfl (.int .i64 (l.length : Int)) (fun b w hb hH => e_len sl_uint8 rfl rfl hH hb) ?_
      refine h_val rfl (.bool false) (fun b w hb hH => exec_cmp rfl rfl rfl (cmp_eql_f (by omega)) hb) ?_
      refine h_done (d_else rfl (d_skip (f_to (d_reg ?_))))
      refine h_q hflS rfl ?_
      refine h_val rfl (.pointer (some ⟨g, 0, none⟩)) (fun b w hb hH => by exact exec_nilCheck rfl rfl hb) ?_
      refine h_q hflS rfl ?_
      refine h_val rfl (.slice A l.length c) (fun b w hb hH => exec_load rfl rfl (reads_one ty_s_uint8 rfl) (hH.row 0 rfl) hb) ?_
      refine h_val rfl (elp' (.slice A l.length c) (0 * 1)) (fun b w hb hH => e_ridx 1 hR.rd sl_uint8 rfl 0 h0 rfl rfl rfl hH hb) ?_
      refine h_val rfl (.int .u8 ((x).toNat : Int)) (fun b w hb hH => e_rload1 1 hR.rd ty_uint8 okB rfl 0 (a := x) hx rfl rfl rfl hH hb) ?_
      refine h_q hflS rfl ?_
      refine h_done (d_seq ?_)
      by_cases hb : most < x.toNat
      · skip
        obtain rfl : R = (0, l, 12) := h.symm.trans (rbyte_big hf hx hb)
        refine d_reg ?_
        refine h_q hflS rfl ?_
        refine h_val rfl (.bool true) (fun b w hb hH => exec_cmp rfl rfl rfl (cmp_gtr_t (by omega)) hb) ?_
        refine h_done (d_then rfl (d_reg ?_))
        refine h_q hflS rfl ?_
        refine h_val rfl (.pointer (some ⟨g, 0, none⟩)) (fun b w hb hH => by exact exec_nilCheck rfl rfl hb) ?_
        refine h_q hflS rfl ?_
        refine h_acts (post := fun _ => [cell g 99 #[.slice A l.length c, .int .i64 12], X]) rfl rfl (a_store 0 (v := .int .i64 12) #[.slice A l.length c, .int .i64 12] ty_api_Errno.2 rfl rfl rfl rfl rfl rfl rfl rfl rfl) ?_; rintro ⟨⟩
        refine h_done (d_reg ?_)
        refine h_q hflS rfl ?_
        refine h_done (d_ret (f_then_ret ?_))
        exact f_fin1 (.tmp rfl) (fun w h => tells () rfl [0, 1] rfl h (fun z hz => ⟨z, .refl _, Parts.one (RdT.mk_ rfl hR hL z hz)⟩)) rfl
      · skip
        obtain ⟨A2, hA2⟩ : ∃ A2, (if c = 1 then A else A.map (·.add 1)) = A2 := ⟨_, rfl⟩
        obtain ⟨l2, hl2⟩ : ∃ l2, l.drop 1 = l2 := ⟨_, rfl⟩
        have hR2 : Rd8 X (.slice A2 l2.length (c - 1)) l2 := by rw [← hA2, ← hl2]; exact hR.drop (by omega)
        have hn2 : l2.length = l.length - 1 := by rw [← hl2, List.length_drop]
        have hL2 : l2.length ≤ 140737488355328 := by omega
        have hsub : subv 1 (.slice A l.length c) 1 l.length = .slice A2 l2.length (c - 1) := by rw [← hA2]; exact sub_drop (by omega) (by omega)
        obtain rfl : R = (x.toNat, l2, f) := by rw [← h, ← hl2]; exact rbyte_fine hf hx hb
        refine d_reg ?_
        refine h_q hflS rfl ?_
        refine h_val rfl (.bool false) (fun b w hb hH => exec_cmp rfl rfl rfl (cmp_gtr_f (by omega)) hb) ?_
        refine h_done (d_else rfl (d_skip (f_to (d_reg ?_))))
        refine h_q hflS rfl ?_
        refine h_val rfl (.pointer (some ⟨g, 0, none⟩)) (fun b w hb hH => by exact exec_nilCheck rfl rfl hb) ?_
        refine h_q hflS rfl ?_
        refine h_val rfl (.slice A l.length c) (fun b w hb hH => exec_load rfl rfl (reads_one ty_s_uint8 rfl) (hH.row 0 rfl) hb) ?_
        refine h_val rfl (.slice A2 l2.length (c - 1)) (fun b w hb hH => e_sub_lo (i := 1) sl_uint8 hsub h0 rfl rfl rfl hH hb) ?_
        refine h_val rfl (.pointer (some ⟨g, 0, none⟩)) (fun b w hb hH => by exact exec_nilCheck rfl rfl hb) ?_
        refine h_q hflS rfl ?_
        refine h_acts (post := fun _ => [cell g 99 #[.slice A2 l2.length (c - 1), .int .i64 (f : Int)], X]) rfl rfl (a_store 0 (v := .slice A2 l2.length (c - 1)) #[.slice A2 l2.length (c - 1), .int .i64 (f : Int)] ty_s_uint8.2 rfl rfl rfl rfl rfl rfl rfl rfl rfl) ?_; rintro ⟨⟩
        refine h_done (d_reg ?_)
        refine h_q hflS rfl ?_
        refine h_done (d_ret ?_)
        exact f_fin1 (.tmp rfl) (fun w h => tells () rfl [0, 1] rfl h (fun z hz => ⟨z, .refl _, Parts.one (RdT.mk_ rfl hR2 hL2 z hz)⟩)) rfl
  · skip
    obtain rfl : R = (0, l, f) := h.symm.trans (rbyte_stop hf)
    refine d_reg ?_
    refine h_q hflS rfl ?_
    refine h_val rfl (.pointer (some ⟨g, 0, none⟩)) (fun b w hb hH => by exact exec_nilCheck rfl rfl hb) ?_
    refine h_q hflS rfl ?_
    refine h_val rfl (.int .i64 (f : Int)) (fun b w hb hH => exec_load rfl rfl (reads_one ty_api_Errno rfl) (hH.row 0 rfl) hb) ?_
    refine h_val rfl (.bool true) (fun b w hb hH => exec_cmp rfl rfl rfl (cmp_neq_t (by omega)) hb) ?_
    refine h_done (d_then rfl (d_reg ?_))
    refine h_q hflS rfl ?_
    refine h_done (d_ret (f_then_ret ?_))
    exact f_fin1 (.tmp rfl) (fun w h => tells () rfl [0, 1] rfl h (fun z hz => ⟨z, .refl _, Parts.one (RdT.mk_ rfl hR hL z hz)⟩)) rfl

set_option maxRecDepth 100000 in
theorem rd_num (g : Nat) (l : List UInt8) (f most : Nat) (hm : most < 18446744073709551616) (R : Nat × List UInt8 × Nat) (h : rnum most l f = R) : Does Try.prog 60 #[.pointer (some ⟨g, 0, none⟩), .int .u64 (most : Int)] [RdT g l f] (fun (_ : Unit) => .int .u64 (R.1 : Int)) (fun (_ : Unit) => [RdT g R.2.1 R.2.2]) := by
  refine d_ins (args := [.pointer (some ⟨g, 0, none⟩), .int .u64 (most : Int)]) 37 Try.func60 rfl rfl rfl ?_; intro w rs
  refine d_open 0 rfl RdT.open_ (fun _ => rfl) ?_; rintro ⟨⟨X, A, c⟩, hR, hL⟩
  refine WC2.keep (env' := [(0, .pointer (some ⟨g, 0, none⟩)), (1, .int .u64 (most : Int))]) ⟨rfl, rfl, trivial⟩ ?_
  refine WC2.mid [cell g 99 #[.slice A l.length c, .int .i64 (f : Int)], X] (.refl _) ?_
  refine d_reg ?_
  refine h_q hflS rfl ?_
  refine h_done (d_seq ?_)
  by_cases hf : f = 0
  · skip
    have hz := vnum_sz most l
    obtain ⟨⟨n, sz, e2⟩, hv⟩ : ∃ R, vnum most l 0 0 = R := ⟨_, rfl⟩
    rw [hv] at hz
    simp only at hz
    obtain ⟨A2, hA2⟩ : ∃ A2, (if c = sz then A else A.map (·.add sz)) = A2 := ⟨_, rfl⟩
    obtain ⟨l2, hl2⟩ : ∃ l2, l.drop sz = l2 := ⟨_, rfl⟩
    have hR2 : Rd8 X (.slice A2 l2.length (c - sz)) l2 := by rw [← hA2, ← hl2]; exact hR.drop (by omega)
    have hn2 : l2.length = l.length - sz := by rw [← hl2, List.length_drop]
    have hL2 : l2.length ≤ 140737488355328 := by omega
    have hsub : subv 1 (.slice A l.length c) sz l.length = .slice A2 l2.length (c - sz) := by rw [← hA2]; exact sub_drop (by omega) (by omega)
    obtain rfl : R = (n, l2, e2) := by rw [← h, ← hl2]; unfold rnum; rw [if_neg (by simp [hf]), hv]
    refine d_reg ?_
    refine h_q hflS rfl ?_
    refine h_val rfl (.pointer (some ⟨g, 0, none⟩)) (fun b w hb hH => by exact exec_nilCheck rfl rfl hb) ?_
    refine h_q hflS rfl ?_
    refine h_val rfl (.int .i64 (f : Int)) (fun b w hb hH => exec_load rfl rfl (reads_one ty_api_Errno rfl) (hH.row 0 rfl) hb) ?_
    refine h_val rfl (.bool false) (fun b w hb hH => exec_cmp rfl rfl rfl (cmp_neq_f (by omega)) hb) ?_
    refine h_done (d_else rfl (d_skip (f_to (d_reg ?_))))
    refine h_q hflS rfl ?_
    refine h_val rfl (.pointer (some ⟨g, 0, none⟩)) (fun b w hb hH => by exact exec_nilCheck rfl rfl hb) ?_
    refine h_q hflS rfl ?_
    refine h_val rfl (.slice A l.length c) (fun b w hb hH => exec_load rfl rfl (reads_one ty_s_uint8 rfl) (hH.row 0 rfl) hb) ?_
    refine h_q hflS rfl ?_
    refine h_act (post := fun _ => [cell g 99 #[.slice A l.length c, .int .i64 (f : Int)], X]) rfl (a_call (ent_of Try.func84 (by kernel_rfl) rfl) (fun w hH => varint8 (hH.rd8 1 rfl hR) hL most hm (n, sz, e2) hv) rfl rfl rfl) ?_; rintro ⟨⟩
    refine h_q hflS rfl ?_
    refine h_done (d_reg ?_)
    refine h_q hflS rfl ?_
    refine h_val rfl (.pointer (some ⟨g, 0, none⟩)) (fun b w hb hH => by exact exec_nilCheck rfl rfl hb) ?_
    refine h_q hflS rfl ?_
    refine h_acts (post := fun _ => [cell g 99 #[.slice A l.length c, .int .i64 (e2 : Int)], X]) rfl rfl (a_store 0 (v := .int .i64 (e2 : Int)) #[.slice A l.length c, .int .i64 (e2 : Int)] ty_api_Errno.2 rfl rfl rfl rfl rfl rfl rfl rfl rfl) ?_; rintro ⟨⟩
    refine h_done (d_reg ?_)
    refine h_q hflS rfl ?_
    refine h_val rfl (.pointer (some ⟨g, 0, none⟩)) (fun b w hb hH => by exact exec_nilCheck rfl rfl hb) ?_
    refine h_q hflS rfl ?_
    refine h_val rfl (.slice A l.length c) (fun b w hb hH => exec_load rfl rfl (reads_one ty_s_uint8 rfl) (hH.row 0 rfl) hb) ?_
    refine h_q hflS rfl ?_
    refine h_val rfl (.slice A2 l2.length (c - sz)) (fun b w hb hH => e_sub_lo (i := sz) sl_uint8 hsub hz rfl rfl rfl hH hb) ?_
    refine h_val rfl (.pointer (some ⟨g, 0, none⟩)) (fun b w hb hH => by exact exec_nilCheck rfl rfl hb) ?_
    refine h_q hflS rfl ?_
    refine h_acts (post := fun _ => [cell g 99 #[.slice A2 l2.length (c - sz), .int .i64 (e2 : Int)], X]) rfl rfl (a_store 0 (v := .slice A2 l2.length (c - sz)) #[.slice A2 l2.length (c - sz), .int .i64 (e2 : Int)] ty_s_uint8.2 rfl rfl rfl rfl rfl rfl rfl rfl rfl) ?_; rintro ⟨⟩
    refine h_done (d_reg ?_)
    refine h_q hflS rfl ?_
    refine h_done (d_ret ?_)
    exact f_fin1 (.tmp rfl) (fun w h => tells () rfl [0, 1] rfl h (fun z hz => ⟨z, .refl _, Parts.one (RdT.mk_ rfl hR2 hL2 z hz)⟩)) rfl
  · skip
    obtain rfl : R = (0, l, f) := h.symm.trans (rnum_stuck hf)
    refine d_reg ?_
    refine h_q hflS rfl ?_
    refine h_val rfl (.pointer (some ⟨g, 0, none⟩)) (fun b w hb hH => by exact exec_nilCheck rfl rfl hb) ?_
    refine h_q hflS rfl ?_
    refine h_val rfl (.int .i64 (f : Int)) (fun b w hb hH => exec_load rfl rfl (reads_one ty_api_Errno rfl) (hH.row 0 rfl) hb) ?_
    refine h_val rfl (.bool true) (fun b w hb hH => exec_cmp rfl rfl rfl (cmp_neq_t (by omega)) hb) ?_
    refine h_done (d_then rfl (d_reg ?_))
    refine h_q hflS rfl ?_
    refine h_done (d_ret (f_then_ret ?_))
    exact f_fin1 (.tmp rfl) (fun w h => tells () rfl [0, 1] rfl h (fun z hz => ⟨z, .refl _, Parts.one (RdT.mk_ rfl hR hL z hz)⟩)) rfl

set_option maxRecDepth 100000 in
theorem rd_end (g : Nat) (l : List UInt8) (f r : Nat) (h : rend l f = r) : Does Try.prog 43 #[.pointer (some ⟨g, 0, none⟩)] [RdT g l f] (fun (_ : Unit) => .int .i64 (r : Int)) (fun (_ : Unit) => [RdT g l f]) := by
  refine d_ins (args := [.pointer (some ⟨g, 0, none⟩)]) 20 Try.func43 rfl rfl rfl ?_; intro w rs
  refine d_open 0 rfl RdT.open_ (fun _ => rfl) ?_; rintro ⟨⟨X, A, c⟩, hR, hL⟩
  refine WC2.keep (env' := [(0, .pointer (some ⟨g, 0, none⟩))]) ⟨rfl, trivial⟩ ?_
  refine WC2.mid [cell g 99 #[.slice A l.length c, .int .i64 (f : Int)], X] (.refl _) ?_
  refine d_reg ?_
  refine h_q hflS rfl ?_
  refine h_done (d_seq ?_)
  have hc : (f = 0 ∧ 0 < l.length) ∨ (f = 0 ∧ ¬ 0 < l.length) ∨ f ≠ 0 := by omega
  rcases hc with ⟨hf, h0⟩ | ⟨hf, h0⟩ | hf
  · skip
    obtain rfl : r = 11 := by rw [← h]; unfold rend; rw [if_pos ⟨hf, h0⟩]
    refine d_reg ?_
    refine h_q hflS rfl ?_
    refine h_val rfl (.pointer (some ⟨g, 0, none⟩)) (fun b w hb hH => by exact exec_nilCheck rfl rfl hb) ?_
    refine h_q hflS rfl ?_
    refine h_val rfl (.int .i64 (f : Int)) (fun b w hb hH => exec_load rfl rfl (reads_one ty_api_Errno rfl) (hH.row 0 rfl) hb) ?_
    refine h_val rfl (.bool true) (fun b w hb hH => exec_cmp rfl rfl rfl (cmp_eql_t (by omega)) hb) ?_
    refine h_q hflS rfl ?_
    refine h_val rfl (.pointer (some ⟨g, 0, none⟩)) (fun b w hb hH => by exact exec_nilCheck rfl rfl hb) ?_
    refine h_q hflS rfl ?_
    refine h_val rfl (.slice A l.length c) (fun b w hb hH => exec_load rfl rfl (reads_one ty_s_uint8 rfl) (hH.row 0 rfl) hb) ?_
    refine h_val rfl (.int .i64 (l.length : Int)) (fun b w hb hH => e_len sl_uint8 rfl rfl hH hb) ?_
    refine h_val rfl (.bool true) (fun b w hb hH => exec_cmp rfl rfl rfl (cmp_gtr_t (by omega)) hb) ?_
    refine h_q hflS rfl ?_
    refine h_done (d_then rfl (d_reg ?_))
    refine h_q hflS rfl ?_
    refine h_done (d_ret (f_then_ret ?_))
    exact f_fin1 (.tmp rfl) (fun w h => tells () rfl [0, 1] rfl h (fun z hz => ⟨z, .refl _, Parts.one (RdT.mk_ rfl hR hL z hz)⟩)) rfl
  · skip
    have hr : r = f := by rw [← h]; unfold rend; rw [if_neg (fun hh => h0 hh.2)]
    refine d_reg ?_
    refine h_q hflS rfl ?_
    refine h_val rfl (.pointer (some ⟨g, 0, none⟩)) (fun b w hb hH => by exact exec_nilCheck rfl rfl hb) ?_
    refine h_q hflS rfl ?_
    refine h_val rfl (.int .i64 (f : Int)) (fun b w hb hH => exec_load rfl rfl (reads_one ty_api_Errno rfl) (hH.row 0 rfl) hb) ?_
    refine h_val rfl (.bool true) (fun b w hb hH => exec_cmp rfl rfl rfl (cmp_eql_t (by omega)) hb) ?_
    refine h_q hflS rfl ?_
    refine h_val rfl (.pointer (some ⟨g, 0, none⟩)) (fun b w hb hH => by exact exec_nilCheck rfl rfl hb) ?_
    refine h_q hflS rfl ?_
    refine h_val rfl (.slice A l.length c) (fun b w hb hH => exec_load rfl rfl (reads_one ty_s_uint8 rfl) (hH.row 0 rfl) hb) ?_
    refine h_val rfl (.int .i64 (l.length : Int)) (fun b w hb hH => e_len sl_uint8 rfl rfl hH hb) ?_
    refine h_val rfl (.bool false) (fun b w hb hH => exec_cmp rfl rfl rfl (cmp_gtr_f (by omega)) hb) ?_
    refine h_q hflS rfl ?_
    refine h_done (d_else rfl (d_skip (f_to (d_reg ?_))))
    refine h_q hflS rfl ?_
    refine h_val rfl (.pointer (some ⟨g, 0, none⟩)) (fun b w hb hH => by exact exec_nilCheck rfl rfl hb) ?_
    refine h_q hflS rfl ?_
    refine h_val rfl (.int .i64 (f : Int)) (fun b w hb hH => exec_load rfl rfl (reads_one ty_api_Errno rfl) (hH.row 0 rfl) hb) ?_
    refine h_q hflS rfl ?_
    refine h_done (d_ret ?_)
    exact f_fin1 (.tmp rfl) (fun w h => tells () (by rw [hr]) [0, 1] rfl h (fun z hz => ⟨z, .refl _, Parts.one (RdT.mk_ rfl hR hL z hz)⟩)) rfl
  · skip
    have hr : r = f := by rw [← h]; unfold rend; rw [if_neg (fun hh => hf hh.1)]
    refine d_reg ?_
    refine h_q hflS rfl ?_
    refine h_val rfl (.pointer (some ⟨g, 0, none⟩)) (fun b w hb hH => by exact exec_nilCheck rfl rfl hb) ?_
    refine h_q hflS rfl ?_
    refine h_val rfl (.int .i64 (f : Int)) (fun b w hb hH => exec_load rfl rfl (reads_one ty_api_Errno rfl) (hH.row 0 rfl) hb) ?_
    refine h_val rfl (.bool false) (fun b w hb hH => exec_cmp rfl rfl rfl (cmp_eql_f (by omega)) hb) ?_
    refine h_q hflS rfl ?_
    refine h_done (d_else rfl (d_skip (f_to (d_reg ?_))))
    refine h_q hflS rfl ?_
    refine h_val rfl (.pointer (some ⟨g, 0, none⟩)) (fun b w hb hH => by exact exec_nilCheck rfl rfl hb) ?_
    refine h_q hflS rfl ?_
    refine h_val rfl (.int .i64 (f : Int)) (fun b w hb hH => exec_load rfl rfl (reads_one ty_api_Errno rfl) (hH.row 0 rfl) hb) ?_
    refine h_q hflS rfl ?_
    refine h_done (d_ret ?_)
    exact f_fin1 (.tmp rfl) (fun w h => tells () (by rw [hr]) [0, 1] rfl h (fun z hz => ⟨z, .refl _, Parts.one (RdT.mk_ rfl hR hL z hz)⟩)) rfl
end Go.Proofs.Ytnhcbjlaeaohjaa.Sep

namespace Go.Proofs.Ytnhcbjlaeaohjaa.Sep
open Go.RowKit
open Go.Proofs.Ytnhcbjlaeaohjaa.Mem (Dist Blk Chg below0)

end Go.Proofs.Ytnhcbjlaeaohjaa.Sep

namespace Go.Proofs.Ytnhcbjlaeaohjaa
open Go.ChangeShapes Go.WideShapes Go.ChangeAt Go.RowKit

theorem own : ownKnob Try.prog.godebug = none := by kernel_rfl
theorem laidOut : laidOutB Try.prog = true := by kernel_rfl

section
variable {H : Type} {enc : TypeId × Value → H} {P : Program}

/-- what the arguments read as stays, where nothing that was there has changed -/
theorem trodAll_stays (hl : laidOutB P = true) {W W' : World} (hb : Below W.heap.size W W') :
    ∀ {ts : List TypeId} {vs : List Value} {ds : List (DataW H)} {ps : List MemPlace}, (∀ t ∈ ts, P.readableRec t = true ∧ t < P.types.size) → (∀ x ∈ ps, x.block < W.heap.size) →
      DataW.TrodAll enc P W 0 (fun _ => true) true ts vs ds ps → DataW.TrodAll enc P W' 0 (fun b => decide (b < W.heap.size)) true ts vs ds ps
  | [], vs, ds, ps, _, _, h => by
    obtain ⟨rfl, rfl, rfl⟩ := trodAll_nil h
    rfl
  | t :: ts, vs, ds, ps, ht, hp, h => by
    obtain ⟨v, vs1, d, ds1, a, b, rfl, rfl, rfl, h1, h2⟩ := trodAll_cons h
    obtain ⟨hr, hrow⟩ := ht t List.mem_cons_self
    exact ⟨a, b, Below.trod hl hr hrow h1 hb (fun x hx => hp x (List.mem_append_left _ hx)), trodAll_stays hl hb (fun t h => ht t (List.mem_cons_of_mem _ h)) (fun x hx => hp x (List.mem_append_right _ hx)) h2, rfl⟩

theorem law_post {f : Func} {s : ChangeSpec} {tb : TypeId} {W W' : World} {args : Array Value} {ds gs : List (DataW H)} {before : List MemPlace}
    (hl : laidOutB P = true) (hr : f.resultTypes = #[tb]) (htb : P.underlying tb = some .bool) (hread : ∀ t ∈ f.params.toList, P.readableRec t = true ∧ t < P.types.size)
    (hvars : s.vars = []) (hs : s.fn H ds = { results := [.lit (.bool true)], args := ds })
    (hW : DataW.Whole enc P f.params.toList s.vars false W args.toList ds gs before) (hb : Below W.heap.size W W') :
    s.post enc P f false true false false W args (.bool true) W' := by
  have hW' := hW
  obtain ⟨p, q, hA, hV, rfl, hfz, hnd⟩ := hW
  rw [hvars] at hV
  obtain ⟨rfl, rfl⟩ := trodVars_none hV
  have hlt : ∀ x ∈ p, x.block < W.heap.size := fun x hx => hW'.lt x (by simpa using hx)
  refine ⟨ds, [], p ++ [], [], p, [], hW', ?_, ?_, ?_, ?_, fun h => by cases h⟩
  · rw [List.append_nil, hs, hr]
    exact trodAll_cons_mk (shut_bool htb true) trodAll_mk0
  · rw [List.append_nil, hs]
    exact trodAll_stays hl hb hread hlt hA
  · rw [List.append_nil, hs, hvars]
    rfl
  · exact World.keptBut_mono (fun x hx => ⟨hx, .inr (.inl (by simpa using hx))⟩) (hb.frame (· ∈ p ++ []))
end

/-! ## Arguments, opened -/
section
variable {H : Type} {enc : TypeId × Value → H} {P : Program}

theorem spot_none {w : World} {a : Addr} {v : Value} (h : w.cell? a = some v) : a = ⟨a.block, a.off, none⟩ := by
  obtain ⟨b, o, s⟩ := a
  have : s = none := by simpa using World.cell?_spot h
  subst this
  rfl

/-- a []byte, wherever it is met -/
theorem trod_u8s {W : World} {base : Nat} {spare : Nat → Bool} {held : Bool} {t e : TypeId} {fuel : Nat} {cs : List Value} {x : DataW H × List MemPlace} (hu : U8 P t e) (hc : P.cellsOf e = 1)
    (hf : DataW.trod enc P W base spare held fuel t cs = some x) : ∃ A c l, cs = [.slice A l.length c] ∧ Bs (fun k => k < W.heap.size) W A c l ∧ ((x.1 = .nil ∧ l = []) ∨ ∃ es sp, x.1 = .slice es sp ∧ es.length = l.length) := by
  rcases open_ints hu.ht hu.he hc hf with ⟨hcs, hx⟩ | ⟨a, len, cap, zs, hcs, _, hl, hm, hz, hx, hcell, hwz⟩
  · subst hcs
    exact ⟨none, 0, [], rfl, Bs.nil _ _ _ (by simp [maxLen]), .inl ⟨by rw [hx], rfl⟩⟩
  · subst hcs
    have hlz : len ≤ zs.length := by rw [hz]; split <;> omega
    have e0 : ((zs.take len).map (fun z => UInt8.ofNat z.toNat)).length = len := by simp; omega
    refine ⟨some a, cap, (zs.take len).map (fun z => UInt8.ofNat z.toNat), by rw [e0], ⟨by omega, hm, fun hn => ?_⟩, .inr ⟨_, _, by rw [hx], by simp [lits]⟩⟩
    have h0 := hcell 0 (by omega)
    have hs : a = ⟨a.block, a.off, none⟩ := by
      have := h0
      rw [show a.add 0 = a by simp [Addr.add]] at this
      exact spot_none this
    have hb := World.block_lt_of_cell? _ _ h0
    rw [hs, Addr.add_lit] at hb
    refine ⟨a.block, a.off, by rw [← hs], hb, fun j b hj => ?_⟩
    have hjl := (List.getElem?_eq_some_iff.1 hj).1
    rw [e0] at hjl
    have hcj := hcell j (by omega)
    rw [hs, Addr.add_lit] at hcj
    rw [hcj]
    have hbj : b = UInt8.ofNat (zs.getD j 0).toNat := by
      rw [List.getElem?_map, List.getElem?_take, if_pos (by omega), List.getElem?_eq_getElem (by omega)] at hj
      simp only [Option.map_some, Option.some.injEq] at hj
      rw [← hj, List.getD, List.getElem?_eq_getElem (by omega)]
      rfl
    have hw : 0 ≤ zs.getD j 0 ∧ zs.getD j 0 ≤ 255 := by
      have hmem : zs.getD j 0 ∈ zs := by
        rw [List.getD, List.getElem?_eq_getElem (show j < zs.length by omega)]
        exact List.getElem_mem _
      simpa [Lit.wf, IntKind.min, IntKind.max, IntKind.signed, IntKind.bits] using hwz _ hmem
    rw [hbj]
    unfold u8v
    simp only [UInt8.toNat_ofNat']
    congr 2
    omega
/-- a []byte that comes in -/
theorem open_u8s {W : World} {base : Nat} {spare : Nat → Bool} {held : Bool} {r : Reach} {b0 : Nat} {t e : TypeId} {v : Value} {d : DataW H} {p : List MemPlace} (hu : U8 P t e) (hc : P.cellsOf e = 1)
    (hval : Value.okWide P W r b0 t v) (h : DataW.Trod enc P W base spare held t v d p) : ∃ A c l, v = .slice A l.length c ∧ Bs (fun k => k < W.heap.size) W A c l ∧ ((d = .nil ∧ l = []) ∨ ∃ es sp, d = .slice es sp ∧ es.length = l.length) := by
  obtain ⟨a, len, cap, rfl⟩ := okWide_slice hu.ht hval
  obtain ⟨fuel, hf⟩ := h
  obtain ⟨A, c, l, hcs, hb, hd⟩ := trod_u8s hu hc hf
  simp [Value.cells] at hcs
  obtain ⟨rfl, rfl, rfl⟩ := hcs
  exact ⟨a, cap, l, rfl, hb, hd⟩
end


theorem wf_i64 {x : Int} (h : (Lit.int .i64 x).wf = true) : -9223372036854775808 ≤ x ∧ x ≤ 9223372036854775807 := by
  simpa [Lit.wf, IntKind.min, IntKind.max, IntKind.signed, IntKind.bits] using h
theorem wf_u64 {x : Int} (h : (Lit.int .u64 x).wf = true) : 0 ≤ x ∧ x ≤ 18446744073709551615 := by
  simpa [Lit.wf, IntKind.min, IntKind.max, IntKind.signed, IntKind.bits] using h
theorem readable_of {P : Program} {l : List TypeId} (h : l.all (fun t => P.readableRec t && decide (t < P.types.size)) = true) : ∀ t ∈ l, P.readableRec t = true ∧ t < P.types.size := by
  intro t ht
  have := List.all_eq_true.1 h t ht
  simpa using this
theorem cells_u8 : Try.prog.cellsOf 5 = 1 := by kernel_rfl
theorem bytes_u8 : Try.prog.bytesOf 5 = 1 := by kernel_rfl

/-! ## The bound of the second form -/
theorem bound {H : Type} {l : List (DataW H)} (hk : Rows.uptoSmall H l = true) : Rows.uptoBulkAll l ≤ 1048576 := of_decide_eq_true hk
end Go.Proofs.Ytnhcbjlaeaohjaa

namespace Go.Proofs.Ytnhcbjlaeaohjaa.Sep
open Go.ChangeShapes Go.WideShapes Go.ChangeAt Go.RowKit
section
variable {H : Type} {enc : TypeId × Value → H} {W : World} {base b0 : Nat} {r : Reach} {spare : Nat → Bool} {held : Bool} {v : Value} {d : DataW H} {p : List MemPlace}
theorem open_8 {A : Option Addr} {c : Nat} {l : List UInt8} (hb : Bs (fun k => k < W.heap.size) W A c l) : Sl8 W (.slice A l.length c) l := ⟨A, c, rfl, hb.weaken fun _ _ _ => trivial⟩
end
end Go.Proofs.Ytnhcbjlaeaohjaa.Sep

namespace Go.Proofs.Ytnhcbjlaeaohjaa.Sep
open Go.RowKit
open Go.Proofs.Ytnhcbjlaeaohjaa.Mem (Dist Blk Chg below0)

end Go.Proofs.Ytnhcbjlaeaohjaa.Sep

namespace Go.Proofs.Ytnhcbjlaeaohjaa.Sep
open Go.RowKit
open Go.Proofs.Ytnhcbjlaeaohjaa.Mem (Dist Blk Chg below0)

end Go.Proofs.Ytnhcbjlaeaohjaa.Sep

namespace Go.Proofs.Ytnhcbjlaeaohjaa.Sep
open Go.RowKit
open Go.Proofs.Ytnhcbjlaeaohjaa.Mem (Dist Blk Chg below0)

end Go.Proofs.Ytnhcbjlaeaohjaa.Sep

namespace Go.Proofs.Ytnhcbjlaeaohjaa.Sep
open Go.RowKit
open Go.Proofs.Ytnhcbjlaeaohjaa.Mem (Dist Blk Chg below0)

theorem rbyte_le (most : Nat) (l : List UInt8) (f : Nat) : (rbyte most l f).1 ≤ most := by
  unfold rbyte
  split
  · exact Nat.zero_le _
  · cases l with
    | nil => exact Nat.zero_le _
    | cons b r =>
      simp only
      split
      · exact Nat.zero_le _
      · show b.toNat ≤ most; omega
theorem rr_mk {B : Value} {b : List UInt8} {g : Nat} : ∀ rs : List RowT, Parts [cell g 82 #[B, .int .i64 0, .int .i64 0]] rs → RrT B b g b 0 rs := fun rs hz => ⟨0, Nat.zero_le _, rfl, hz.one'⟩
end Go.Proofs.Ytnhcbjlaeaohjaa.Sep

namespace Go.Proofs.Ytnhcbjlaeaohjaa.Sep
open Go.RowKit
open Go.Proofs.Ytnhcbjlaeaohjaa.Mem (Dist Blk Chg below0)

structure RepD where
  code : Int
  val : Int
  hi : Int
  lo : Int
  sc : Int
deriving DecidableEq
structure RepD.ok (r : RepD) : Prop where
  code : I64 r.code
  val : U64 r.val
  hi : I64 r.hi
  lo : U64 r.lo
  sc : I64 r.sc
def RepD.right (r : RepD) : Bool := (decide (0 ≤ r.code) && decide (r.code ≤ 99)) && scB r.sc
end Go.Proofs.Ytnhcbjlaeaohjaa.Sep

namespace Go.Proofs.Ytnhcbjlaeaohjaa.Sep
open Go.RowKit
open Go.Proofs.Ytnhcbjlaeaohjaa.Mem (Dist Blk Chg below0)

end Go.Proofs.Ytnhcbjlaeaohjaa.Sep

namespace Go.Proofs.Ytnhcbjlaeaohjaa.Sep
open Go.RowKit
open Go.Proofs.Ytnhcbjlaeaohjaa.Mem (Dist Blk Chg below0)

set_option maxRecDepth 100000 in
theorem pick (w : World) (a m : Int) (ha : -9223372036854775808 ≤ a ∧ a ≤ 9223372036854775807) (hm : 1 ≤ m ∧ m ≤ 9223372036854775807) {r : Int} (hr : a % m = r) : Calls Try.prog 27 #[.int .i64 a, .int .i64 m] w fun e w' => e = .returned (.int .i64 r) ∧ Below w.heap.size w w' := by
  have hlt := Int.emod_lt_of_pos a (show 0 < m by omega)
  have hge := Int.emod_nonneg a (show m ≠ 0 by omega)
  have ht : (0 ≤ a.tmod m ∧ a.tmod m = r) ∨ (a.tmod m < 0 ∧ a.tmod m + m = r) := by
    rw [Int.tmod_eq_emod, ← hr]
    split
    · left; omega
    · rename_i h
      right
      have hne : a % m ≠ 0 := fun e => h (.inr (Int.dvd_of_emod_eq_zero e))
      omega
  rw [hr] at hlt hge
  obtain ⟨t, htm⟩ : ∃ t, a.tmod m = t := ⟨_, rfl⟩
  rw [htm] at ht
  refine d_in (args := [.int .i64 a, .int .i64 m]) 14 Try.func27 rfl rfl rfl ?_
  refine d_reg ?_
  refine h_q hflS rfl ?_
  refine h_done (d_reg ?_)
  refine h_q hflS rfl ?_
  refine h_val rfl (.int .i64 t) (fun b w hb hH => exec_remI rfl rfl rfl (by omega) htm hb) ?_
  refine h_q hflS rfl ?_
  refine h_done (d_seq ?_)
  rcases ht with ⟨h1, h2⟩ | ⟨h1, h2⟩
  · skip
    subst h2
    refine d_reg ?_
    refine h_q hflS rfl ?_
    refine h_val rfl (.bool false) (fun b w hb hH => exec_cmp rfl rfl rfl (cmp_lss_f (by omega)) hb) ?_
    refine h_done (d_else rfl (d_skip (f_to (d_reg ?_))))
    refine h_q hflS rfl ?_
    refine h_done (d_ret ?_)
    exact f_fin1 (.tmp rfl) (fun w h => ⟨rfl, below0 h.up⟩) rfl
  · skip
    refine d_reg ?_
    refine h_q hflS rfl ?_
    refine h_val rfl (.bool true) (fun b w hb hH => exec_cmp rfl rfl rfl (cmp_lss_t (by omega)) hb) ?_
    refine h_done (d_then rfl (d_reg1 ?_))
    refine h_q hflS rfl ?_
    refine h_val rfl (.int .i64 r) (fun b w hb hH => exec_ar rfl rfl rfl rfl (by rw [IntWalk.i64_in _ (by omega)]; omega) hb) ?_
    refine h_q hflS rfl ?_
    refine h_nil (f_to (d_reg ?_))
    refine h_q hflS rfl ?_
    refine h_done (d_ret ?_)
    exact f_fin1 (.tmp rfl) (fun w h => ⟨rfl, below0 h.up⟩) rfl
end Go.Proofs.Ytnhcbjlaeaohjaa.Sep

namespace Go.Proofs.Ytnhcbjlaeaohjaa
open Go.RowKit

def crcMask : BitVec 32 := 2197175160#32
/-- one bit -/
def crcBit (h : BitVec 32) : BitVec 32 := (h >>> 1) ^^^ (if h.getLsbD 0 then crcMask else 0#32)
def crcBits : Nat → BitVec 32 → BitVec 32
  | 0, h => h
  | n + 1, h => crcBit (crcBits n h)
/-- one byte -/
def crcByte (h : BitVec 32) (c : UInt8) : BitVec 32 := crcBits 8 (h ^^^ BitVec.ofNat 32 c.toNat)
def crcRun (h : BitVec 32) (l : List UInt8) : BitVec 32 := l.foldl crcByte h
def crcSum (l : List UInt8) : Nat := (~~~ crcRun (BitVec.allOnes 32) l).toNat

theorem crcSum_lt (l : List UInt8) : crcSum l < 4294967296 := (~~~ crcRun (BitVec.allOnes 32) l).isLt

/-! ## the model's words -/
theorem ofInt_u32 (a : Nat) (ha : a < 4294967296) : BitVec.ofInt 32 (a : Int) = BitVec.ofNat 32 a := BitVec.ofInt_natCast ..
theorem u32_xor (a b : BitVec 32) : bits .xor .u32 (a.toNat : Int) (b.toNat : Int) = ((a ^^^ b).toNat : Int) := by
  show IntKind.u32.wrap ((BitVec.ofInt 32 (a.toNat : Int) ^^^ BitVec.ofInt 32 (b.toNat : Int)).toNat : Int) = _
  rw [BitVec.ofInt_natCast, BitVec.ofInt_natCast, BitVec.ofNat_toNat, BitVec.ofNat_toNat, BitVec.setWidth_eq, BitVec.setWidth_eq, IntKind.wrap_u32]
  have := (a ^^^ b).isLt
  omega
theorem u32_and_one (a : BitVec 32) : bits .and .u32 (a.toNat : Int) 1 = if a.getLsbD 0 then 1 else 0 := by
  show IntKind.u32.wrap ((BitVec.ofInt 32 (a.toNat : Int) &&& BitVec.ofInt 32 1).toNat : Int) = _
  have h1 : BitVec.ofInt 32 1 = 1#32 := by decide
  rw [BitVec.ofInt_natCast, BitVec.ofNat_toNat, BitVec.setWidth_eq, h1, BitVec.toNat_and, IntKind.wrap_u32]
  have e : a.toNat &&& (1#32).toNat = a.toNat % 2 := Nat.and_one_is_mod _
  rw [e]
  have e2 : a.getLsbD 0 = decide (a.toNat % 2 = 1) := by simp [BitVec.getLsbD, Nat.testBit_zero]
  rw [e2]
  by_cases h : a.toNat % 2 = 1
  · simp [h]
  · have : a.toNat % 2 = 0 := by omega
    simp [this]
/-- a step as the program's Sum reckons it -/
theorem u32_bit (a : BitVec 32) : bits .xor .u32 ((a.toNat : Int) / 2) (IntKind.u32.wrap (bits .and .u32 (a.toNat : Int) 1 * 2197175160)) = ((crcBit a).toNat : Int) := by
  have e1 : (a.toNat : Int) / (2 : Int) = ((a >>> 1).toNat : Int) := by
    rw [BitVec.toNat_ushiftRight, Nat.shiftRight_eq_div_pow]; omega
  have e2 : IntKind.u32.wrap (bits .and .u32 (a.toNat : Int) 1 * 2197175160) = ((if a.getLsbD 0 then crcMask else 0#32).toNat : Int) := by
    rw [u32_and_one, IntKind.wrap_u32]
    cases a.getLsbD 0
    · rfl
    · rfl
  rw [e1, e2, u32_xor]
  rfl
/-- a step as the reference reckons it, where the bit is set -/
theorem u32_odd (a : BitVec 32) (h : a.getLsbD 0 = true) : bits .xor .u32 ((a.toNat : Int) / 2) 2197175160 = ((crcBit a).toNat : Int) := by
  have := u32_bit a
  rw [u32_and_one, h] at this
  exact this
theorem u32_even (a : BitVec 32) (h : a.getLsbD 0 = false) : (a.toNat : Int) / 2 = ((crcBit a).toNat : Int) := by
  have e1 : (a.toNat : Int) / (2 : Int) = ((a >>> 1).toNat : Int) := by
    rw [BitVec.toNat_ushiftRight, Nat.shiftRight_eq_div_pow]; omega
  rw [e1]
  unfold crcBit
  rw [h]
  simp
theorem u32_in (a : BitVec 32) (c : UInt8) : bits .xor .u32 (a.toNat : Int) (c.toNat : Int) = ((a ^^^ BitVec.ofNat 32 c.toNat).toNat : Int) := by
  rw [← u32_xor]
  have := UInt8.toNat_lt c
  rw [BitVec.toNat_ofNat, Nat.mod_eq_of_lt (by omega)]
theorem u32_or_nat (a b : Nat) (ha : a < 4294967296) (hb : b < 4294967296) : bits .or .u32 (a : Int) (b : Int) = ((a ||| b : Nat) : Int) := by
  have hx : a ||| b < 2 ^ 32 := Nat.or_lt_two_pow (by omega) (by omega)
  show IntKind.u32.wrap ((BitVec.ofInt 32 (a : Int) ||| BitVec.ofInt 32 (b : Int)).toNat : Int) = _
  rw [BitVec.toNat_or, ofInt_u32 a ha, ofInt_u32 b hb, BitVec.toNat_ofNat, BitVec.toNat_ofNat, Nat.mod_eq_of_lt (by omega), Nat.mod_eq_of_lt (by omega), IntKind.wrap_u32]
  omega
theorem or_above (a b k : Nat) (ha : a < 2 ^ k) : a ||| b * 2 ^ k = a + b * 2 ^ k := by
  rw [Nat.or_comm, Nat.add_comm, ← Nat.shiftLeft_eq, Nat.shiftLeft_add_eq_or_of_lt ha]
/-- four bytes put together -/
theorem u32_four (x0 x1 x2 x3 : Nat) (h0 : x0 < 256) (h1 : x1 < 256) (h2 : x2 < 256) (h3 : x3 < 256) :
    bits .or .u32 (bits .or .u32 (bits .or .u32 (x0 : Int) ((x1 : Int) * 256)) ((x2 : Int) * 65536)) ((x3 : Int) * 16777216) = ((x0 + x1 * 256 + x2 * 65536 + x3 * 16777216 : Nat) : Int) := by
  have e1 : (x1 : Int) * 256 = ((x1 * 2 ^ 8 : Nat) : Int) := by omega
  have e2 : (x2 : Int) * 65536 = ((x2 * 2 ^ 16 : Nat) : Int) := by omega
  have e3 : (x3 : Int) * 16777216 = ((x3 * 2 ^ 24 : Nat) : Int) := by omega
  rw [e1, u32_or_nat _ _ (by omega) (by omega), or_above _ _ _ (by omega), e2, u32_or_nat _ _ (by omega) (by omega), or_above _ _ _ (by omega), e3, u32_or_nat _ _ (by omega) (by omega), or_above _ _ _ (by omega)]
theorem u32_not (r : BitVec 32) : bits .xor .u32 IntKind.u32.max (r.toNat : Int) = ((~~~ r).toNat : Int) := by
  have h : IntKind.u32.max = ((BitVec.allOnes 32).toNat : Int) := by decide
  rw [h, u32_xor, BitVec.allOnes_xor]
theorem u32_not' (r : BitVec 32) : bits .xor .u32 (r.toNat : Int) 4294967295 = ((~~~ r).toNat : Int) := by
  have h : (4294967295 : Int) = ((BitVec.allOnes 32).toNat : Int) := by decide
  rw [h, u32_xor, BitVec.xor_allOnes]
end Go.Proofs.Ytnhcbjlaeaohjaa

namespace Go.Proofs.Ytnhcbjlaeaohjaa
open Go.RowKit

theorem sum_any {S : Nat → Prop} (w : World) (A : Option Addr) (c : Nat) (l : List UInt8) (h : Bs S w A c l) (hl : l.length ≤ 140737488355328) :
    Calls Try.prog 79 #[.slice A l.length c] w fun e w' => e = .returned (.int .u32 (crcSum l : Int)) ∧ w = w' := by
  go_enter Try.func79, Try.ntmps79
  go_wp2
  go_loop [3, 5, 6, 9] (fun h _ _ i => ∃ k : Nat, k ≤ l.length ∧ i = .int .i64 k ∧ h = .int .u32 ((crcRun (BitVec.allOnes 32) (l.take k)).toNat : Int)) (fun _ _ _ i => l.length - (intOf i).toNat)
  case atStart => exact ⟨0, Nat.zero_le _, rfl, rfl⟩
  case round =>
    obtain ⟨k, hk, rfl, rfl⟩ := hrel
    by_cases hlt : k < l.length
    · obtain ⟨g, o, rfl, hs, hc⟩ := h.2.2 (by omega)
      have hb := hc k l[k] (List.getElem?_eq_getElem hlt)
      unfold u8v at hb
      clear hc
      have ht : crcRun (BitVec.allOnes 32) (l.take (k + 1)) = crcByte (crcRun (BitVec.allOnes 32) (l.take k)) l[k] := by
        rw [List.take_succ_eq_append_getElem hlt]; unfold crcRun; rw [List.foldl_append]; rfl
      have HT := hid ht
      clear ht
      obtain ⟨b, hbb⟩ : ∃ b, b = l[k] := ⟨_, rfl⟩
      rw [← hbb] at hb HT
      have HB := hid hbb
      clear hbb
      obtain ⟨x, hx⟩ : ∃ x, x = crcRun (BitVec.allOnes 32) (l.take k) := ⟨_, rfl⟩
      rw [← hx] at HT ⊢
      have HX := hid hx
      clear hx
      have hin := u32_in x b
      obtain ⟨y, hy⟩ : ∃ y, y = x ^^^ BitVec.ofNat 32 b.toNat := ⟨_, rfl⟩
      rw [← hy] at hin
      have HY := hid hy
      clear hy
      obtain ⟨n, hn⟩ : ∃ n, n = b.toNat := ⟨_, rfl⟩
      have hn2 : n < 256 := by rw [hn]; exact UInt8.toNat_lt _
      rw [← hn] at hin hb
      clear hn
      go_wp2
      go_loop [3, 6, 17] (fun h _ j => ∃ i : Nat, i ≤ 8 ∧ j = .int .i64 i ∧ h = .int .u32 ((crcBits i y).toNat : Int)) (fun _ _ j => 8 - (intOf j).toNat)
      case atStart => exact ⟨0, by omega, rfl, rfl⟩
      case round =>
        obtain ⟨i, hi, rfl, rfl⟩ := hrel
        by_cases hi8 : i < 8
        · have hbit := u32_bit (crcBits i y)
          rw [IntKind.wrap_u32] at hbit
          obtain ⟨z, hz⟩ : ∃ z, z = crcBits i y := ⟨_, rfl⟩
          rw [← hz] at hbit ⊢
          have HZ := hid hz
          clear hz
          obtain ⟨z', hz'⟩ : ∃ z', z' = crcBit z := ⟨_, rfl⟩
          rw [← hz'] at hbit
          have HZ' := hid hz'
          clear hz'
          go_wp2
          go_round
          case rel => exact ⟨i + 1, by omega, by go_num, by rw [HZ'.out, HZ.out]; rfl⟩
          case measure => simp [intOf]; omega
        · have e8 : i = 8 := by omega
          subst e8
          obtain ⟨z, hz⟩ : ∃ z, z = crcBits 8 y := ⟨_, rfl⟩
          rw [← hz]
          have HZ := hid hz
          clear hz
          go_wp2
          go_round
          case rel => exact ⟨k + 1, by omega, by go_num, by rw [HT.out, HZ.out, HY.out]; rfl⟩
          case measure => simp [intOf]; omega
    · have e : l.take k = l := List.take_of_length_le (by omega)
      rw [e]
      clear e
      obtain ⟨r, hr⟩ : ∃ r, r = crcRun (BitVec.allOnes 32) l := ⟨_, rfl⟩
      rw [← hr]
      have HR := hid hr
      clear hr
      have hnot := u32_not r
      obtain ⟨q, hq⟩ : ∃ q : Nat, q = (~~~ r).toNat := ⟨_, rfl⟩
      rw [← hq] at hnot
      have HQ := hid hq
      clear hq
      go_wp2
      all_goals
        go_ret
        refine ⟨ret_int ?_, rfl⟩
        unfold crcSum
        rw [← HR.out, ← HQ.out]
end Go.Proofs.Ytnhcbjlaeaohjaa

namespace Go.Proofs.Ytnhcbjlaeaohjaa
open Go.RowKit

/-- a sum's four bytes, the least significant one first -/
def le4 (h : Nat) : List UInt8 := [UInt8.ofNat (h % 256), UInt8.ofNat (h / 256 % 256), UInt8.ofNat (h / 65536 % 256), UInt8.ofNat (h / 16777216 % 256)]
def sealed (l : List UInt8) : List UInt8 := l ++ le4 (crcSum l)
theorem ofNat_byte (n : Nat) : (UInt8.ofNat (n % 256)).toNat = n % 256 := by simp [UInt8.toNat_ofNat']

theorem le4_src (w : World) (s : Nat) (hs : s < 4294967296) :
    Bs (One w.heap.size) (w.alloc (.cells #[.int .u8 ((s : Int) % 256), .int .u8 ((s : Int) / 256 % 256), .int .u8 ((s : Int) / 65536 % 256), .int .u8 ((s : Int) / 16777216)] 5)) (some ⟨w.heap.size, 0, none⟩) 4 (le4 s) := by
  have h := new_src w 5 (le4 s) (by simp [le4, maxLen])
  have e : (u8s (le4 s)).toArray = #[.int .u8 ((s : Int) % 256), .int .u8 ((s : Int) / 256 % 256), .int .u8 ((s : Int) / 65536 % 256), .int .u8 ((s : Int) / 16777216)] := by
    have e0 : ((s % 256 : Nat) : Int) = (s : Int) % 256 := by omega
    have e1 : ((s / 256 % 256 : Nat) : Int) = (s : Int) / 256 % 256 := by omega
    have e2 : ((s / 65536 % 256 : Nat) : Int) = (s : Int) / 65536 % 256 := by omega
    have e3 : ((s / 16777216 % 256 : Nat) : Int) = (s : Int) / 16777216 := by omega
    simp only [u8s, le4, List.map_cons, List.map_nil, u8v, ofNat_byte, e0, e1, e2, e3]
  rw [e] at h
  exact h

theorem seal_any {S : Nat → Prop} (w : World) (A : Option Addr) (c : Nat) (l : List UInt8) (h : Bs S w A c l) (hl : l.length + 4 ≤ 140737488355328) :
    Calls Try.prog 38 #[.slice A l.length c] w fun e w' => ∃ v', e = .returned v' ∧ Own 5 w' w.heap.size v' (sealed l) ∧ Below w.heap.size w w' := by
  obtain ⟨i0, hi, hz0, hz1, hz2⟩ := info_parts tyU8.info
  have hb0 : i0.bytes * (l.length + 4) ≤ 281474976710656 := by rw [hz2]; omega
  have hs := crcSum_lt l
  obtain ⟨s, hss⟩ : ∃ s, s = crcSum l := ⟨_, rfl⟩
  rw [← hss] at hs
  have hle : sealed l = l ++ le4 s := by unfold sealed; rw [hss]
  rw [hle]
  have HS := hid hss
  clear hss hle
  go_enter Try.func38, Try.ntmps38
  go_wp2_with (first
    | (at_make; refine wpList_make_own _ rfl _ _ 26 rfl w.heap.size 5 i0 (.int .u8 0) 1 Try.underlying26 hi hz0 hz1 .i64 .i64 _ (l.length + 4) rfl rfl (by simp) hb0 (by unfold maxLen; omega) (Nat.le_refl _) ?_; intro w1 ho1' hg1; have ho1 : Own 5 w1 w.heap.size (.slice (some ⟨w.heap.size, 0, none⟩) 0 (l.length + 4)) [] := ho1'; have hm1 : Mod Nil w w1 := Mod.of_grown hg1 (fun _ h => by cases h); have hb1 := h.mod hm1 (fun _ _ hf => hf))
    | (at_builtin; refine wpList_append_bs (t := 26) tyU8 rfl (.tmp 9) (.tmp 10) rfl ho1 hm1.size hb1 l.length (by simp) rfl rfl (by omega) ?_; intro A2 c2 w2 ho2 hm2 ha2; have hmw := hm1.trans hm2 (fun k hk e => by rw [At.iff] at e; omega); have hb2 := h.mod hmw (fun _ _ hf => hf); have hB2 : w.heap.size ≤ (w2.alloc (.cells #[.int .u8 ((s : Int) % 256), .int .u8 ((s : Int) / 256 % 256), .int .u8 ((s : Int) / 65536 % 256), .int .u8 ((s : Int) / 16777216)] 5)).heap.size := Nat.le_trans hmw.size (by simp))
    | (go_at_call 79; refine (sum_any w2 A c l hb2 (by omega)).mono ?_; rintro e w' ⟨rfl, rfl⟩; rw [← HS.out])
    | (at_builtin; refine wpList_append_bs (t := 26) tyU8 rfl (.tmp 14) (.tmp 26) rfl (ho2.mod ((Mod.refl Nil w2).alloc _) (fun _ _ hf => hf)) hB2 (le4_src w2 s hs) (l.length + 4) (by simp [le4]) rfl rfl hl ?_; intro A3 c3 w3 ho3 hm3 ha3))
  go_ret
  refine ⟨_, rfl, by simpa using ho3, ?_⟩
  refine ((hmw.alloc _).trans hm3 (fun k hk e => ?_)).below (Nat.le_refl _) (fun _ hf => hf.elim)
  have := (ho2.lt k e).1
  omega

/-- what is unsealed, and what is wrong -/
def unsealed (l : List UInt8) : List UInt8 × Nat :=
  if l.length < 4 then ([], 10)
  else if l.drop (l.length - 4) = le4 (crcSum (l.take (l.length - 4))) then (l.take (l.length - 4), 0) else ([], 13)

theorem le4_four (b0 b1 b2 b3 : UInt8) (s : Nat) (hs : s < 4294967296) : [b0, b1, b2, b3] = le4 s ↔ b0.toNat + b1.toNat * 256 + b2.toNat * 65536 + b3.toNat * 16777216 = s := by
  have h0 := UInt8.toNat_lt b0
  have h1 := UInt8.toNat_lt b1
  have h2 := UInt8.toNat_lt b2
  have h3 := UInt8.toNat_lt b3
  unfold le4
  simp only [List.cons.injEq, and_true, ← UInt8.toNat_inj, ofNat_byte]
  omega

theorem unseal_any {S : Nat → Prop} (w : World) (A : Option Addr) (c : Nat) (l : List UInt8) (h : Bs S w A c l) (hl : l.length ≤ 140737488355328) :
    Calls Try.prog 40 #[.slice A l.length c] w fun e w' => ∃ v', e = .returned (.tuple #[v', .int .i64 ((unsealed l).2 : Int)]) ∧ Own 5 w' w.heap.size v' (unsealed l).1 ∧ Below w.heap.size w w' := by
  by_cases hs : l.length < 4
  · have hE : unsealed l = ([], 10) := by unfold unsealed; rw [if_pos hs]
    rw [hE]
    clear hE
    go_enter Try.func40, Try.ntmps40
    go_wp2
    go_ret2
    exact ⟨_, rfl, Own.nil _ _ _, Below.refl _ _⟩
  · obtain ⟨n, hn⟩ : ∃ n, l.length = n + 4 := ⟨l.length - 4, by omega⟩
    obtain ⟨A1, hb1, hsl1⟩ := run_from tyU8 h n (by omega)
    obtain ⟨A2, hb2, hsl2⟩ := run_upto tyU8 h n (by omega)
    have hd : (l.drop n).length = 4 := by rw [List.length_drop]; omega
    have ht : (l.take n).length = n := by rw [List.length_take]; omega
    have hE : unsealed l = if l.drop n = le4 (crcSum (l.take n)) then (l.take n, 0) else ([], 13) := by
      unfold unsealed; rw [if_neg hs, hn]; rfl
    obtain ⟨g, o, rfl, _, hc⟩ := hb1.2.2 (by omega)
    obtain ⟨b0, b1, b2, b3, hbs⟩ : ∃ b0 b1 b2 b3, l.drop n = [b0, b1, b2, b3] := by
      match l.drop n, hd with
      | [b0, b1, b2, b3], _ => exact ⟨b0, b1, b2, b3, rfl⟩
    rw [hbs] at hc hE hsl1
    have c0 := hc 0 b0 rfl
    have c1 := hc 1 b1 rfl
    have c2 := hc 2 b2 rfl
    have c3 := hc 3 b3 rfl
    unfold u8v at c0 c1 c2 c3
    rw [Nat.add_zero] at c0
    have hsl := crcSum_lt (l.take n)
    simp only [le4_four b0 b1 b2 b3 _ hsl] at hE
    obtain ⟨x0, e0⟩ : ∃ x, x = b0.toNat := ⟨_, rfl⟩
    obtain ⟨x1, e1⟩ : ∃ x, x = b1.toNat := ⟨_, rfl⟩
    obtain ⟨x2, e2⟩ : ∃ x, x = b2.toNat := ⟨_, rfl⟩
    obtain ⟨x3, e3⟩ : ∃ x, x = b3.toNat := ⟨_, rfl⟩
    have h0 : x0 < 256 := by rw [e0]; exact UInt8.toNat_lt _
    have h1 : x1 < 256 := by rw [e1]; exact UInt8.toNat_lt _
    have h2 : x2 < 256 := by rw [e2]; exact UInt8.toNat_lt _
    have h3 : x3 < 256 := by rw [e3]; exact UInt8.toNat_lt _
    rw [← e0, ← e1, ← e2, ← e3] at hE
    rw [← e0] at c0
    rw [← e1] at c1
    rw [← e2] at c2
    rw [← e3] at c3
    have hor := u32_four x0 x1 x2 x3 h0 h1 h2 h3
    obtain ⟨X, hX⟩ : ∃ X, X = x0 + x1 * 256 + x2 * 65536 + x3 * 16777216 := ⟨_, rfl⟩
    obtain ⟨s, hss⟩ : ∃ s, s = crcSum (l.take n) := ⟨_, rfl⟩
    rw [← hX] at hor hE
    rw [← hss] at hE hsl
    clear e0 e1 e2 e3
    have hCS : ∀ q, Calls Try.prog 79 #[.slice A2 n c] (w.drewN q) fun e w' => e = .returned (.int .u32 (s : Int)) ∧ w.drewN q = w' := fun q => by
      have := sum_any (w.drewN q) A2 c (l.take n) hb2 (by omega)
      rw [ht, ← hss] at this
      exact this
    have hCC : ∀ q, Calls Try.prog 80 #[.slice A2 n c] (w.drewN q) fun e w' => ∃ v', e = .returned v' ∧ Own 5 w' w.heap.size v' (l.take n) ∧ Below w.heap.size w w' := fun q => by
      have := clone_any (w.drewN q) A2 c (l.take n) hb2 (by omega)
      rw [ht] at this
      exact this.mono fun e w' ⟨v', h1, h2, h3⟩ => ⟨v', h1, h2, ⟨h3.os, h3.tape, h3.output, h3.size, h3.block⟩⟩
    rw [ht] at hsl2
    have HCS := hid hCS
    have HCC := hid hCC
    have HX := hid hX
    have HSS := hid hss
    clear hCS hCC hc hb1 hb2 hbs ht hd hX hss
    rw [hn] at hsl1 hsl2
    simp only [List.length_cons, List.length_nil] at hsl1
    have hs4 : ¬ n + 4 < 4 := by omega
    have hl4 : n + 4 ≤ 140737488355328 := by omega
    rw [hn]
    clear hs hl
    have HN := hid hn
    clear hn
    by_cases hXs : X = s
    · rw [if_pos hXs] at hE
      have HE := hid hE
      clear hE
      subst hXs
      go_enter Try.func40, Try.ntmps40
      go_wp2_with fail
      go_quiet (fail)
      go_wp2_with (first
        | (go_at_call 79; refine Calls.mono (HCS.out _) ?_; rintro e w' ⟨rfl, rfl⟩)
        | (go_at_call 80; refine Calls.mono (HCC.out _) ?_; rintro e w' ⟨v', rfl, ho, hb⟩))
      go_ret2
      rw [HE.out]
      exact ⟨_, rfl, ho, hb⟩
    · rw [if_neg hXs] at hE
      have HE := hid hE
      have hXs' : ((X : Int) != (s : Int)) = true := by simp; omega
      clear hE
      go_enter Try.func40, Try.ntmps40
      go_wp2_with fail
      go_quiet (fail)
      go_wp2_with (go_at_call 79; refine Calls.mono (HCS.out _) ?_; rintro e w' ⟨rfl, rfl⟩)
      go_ret2
      rw [HE.out]
      exact ⟨_, rfl, Own.nil _ _ _, ⟨rfl, rfl, rfl, Nat.le_refl _, fun _ _ => rfl⟩⟩

end Go.Proofs.Ytnhcbjlaeaohjaa

namespace Go.Proofs.Ytnhcbjlaeaohjaa
open Go.RowKit

theorem refSum_any {S : Nat → Prop} (w : World) (A : Option Addr) (c : Nat) (l : List UInt8) (h : Bs S w A c l) (hl : l.length ≤ 140737488355328) :
    Calls Try.prog 72 #[.slice A l.length c] w fun e w' => e = .returned (.int .u32 (crcSum l : Int)) ∧ w = w' := by
  go_enter Try.func72, Try.ntmps72
  go_wp2
  go_loop [3, 4, 5, 6] (fun h i _ _ => ∃ k : Nat, k ≤ l.length ∧ i = .int .i64 k ∧ h = .int .u32 ((crcRun (BitVec.allOnes 32) (l.take k)).toNat : Int)) (fun _ i _ _ => l.length - (intOf i).toNat)
  case atStart => exact ⟨0, Nat.zero_le _, rfl, rfl⟩
  case round =>
    obtain ⟨k, hk, rfl, rfl⟩ := hrel
    by_cases hlt : k < l.length
    · obtain ⟨g, o, rfl, hs, hc⟩ := h.2.2 (by omega)
      have hb := hc k l[k] (List.getElem?_eq_getElem hlt)
      unfold u8v at hb
      clear hc
      have ht : crcRun (BitVec.allOnes 32) (l.take (k + 1)) = crcByte (crcRun (BitVec.allOnes 32) (l.take k)) l[k] := by
        rw [List.take_succ_eq_append_getElem hlt]; unfold crcRun; rw [List.foldl_append]; rfl
      have HT := hid ht
      clear ht
      obtain ⟨b, hbb⟩ : ∃ b, b = l[k] := ⟨_, rfl⟩
      rw [← hbb] at hb HT
      have HB := hid hbb
      clear hbb
      obtain ⟨x, hx⟩ : ∃ x, x = crcRun (BitVec.allOnes 32) (l.take k) := ⟨_, rfl⟩
      rw [← hx] at HT ⊢
      have HX := hid hx
      clear hx
      have hin := u32_in x b
      obtain ⟨y, hy⟩ : ∃ y, y = x ^^^ BitVec.ofNat 32 b.toNat := ⟨_, rfl⟩
      rw [← hy] at hin
      have HY := hid hy
      clear hy
      obtain ⟨n, hn⟩ : ∃ n, n = b.toNat := ⟨_, rfl⟩
      have hn2 : n < 256 := by rw [hn]; exact UInt8.toNat_lt _
      rw [← hn] at hin hb
      clear hn
      go_wp2
      go_loop [3, 5, 6] (fun h j _ => ∃ i : Nat, i ≤ 8 ∧ j = .int .i64 i ∧ h = .int .u32 ((crcBits i y).toNat : Int)) (fun _ j _ => 8 - (intOf j).toNat)
      case atStart => exact ⟨0, by omega, rfl, rfl⟩
      case round =>
        obtain ⟨i, hi, rfl, rfl⟩ := hrel
        obtain ⟨z, hz⟩ : ∃ z, z = crcBits i y := ⟨_, rfl⟩
        rw [← hz]
        have HZ := hid hz
        clear hz
        by_cases hi8 : i < 8
        · have hand := u32_and_one z
          cases hodd : z.getLsbD 0
          · have hq := u32_even z hodd
            rw [hodd] at hand
            simp only [Bool.false_eq_true, if_false] at hand
            clear hodd
            have HQ := hid hq
            clear hq
            go_wp2
            go_round
            case rel => exact ⟨i + 1, by omega, by go_num, by rw [HQ.out, HZ.out]; rfl⟩
            case measure => simp [intOf]; omega
          · have hq := u32_odd z hodd
            rw [hodd] at hand
            simp only [if_true] at hand
            clear hodd
            obtain ⟨z', hz'⟩ : ∃ z', z' = crcBit z := ⟨_, rfl⟩
            rw [← hz'] at hq
            have HZ' := hid hz'
            clear hz'
            go_wp2
            go_round
            case rel => exact ⟨i + 1, by omega, by go_num, by rw [HZ'.out, HZ.out]; rfl⟩
            case measure => simp [intOf]; omega
        · have e8 : i = 8 := by omega
          subst e8
          go_wp2
          go_round
          case rel => exact ⟨k + 1, by omega, by go_num, by rw [HT.out, HZ.out, HY.out]; rfl⟩
          case measure => simp [intOf]; omega
    · have e : l.take k = l := List.take_of_length_le (by omega)
      rw [e]
      clear e
      obtain ⟨r, hr⟩ : ∃ r, r = crcRun (BitVec.allOnes 32) l := ⟨_, rfl⟩
      rw [← hr]
      have HR := hid hr
      clear hr
      have hnot := u32_not' r
      obtain ⟨q, hq⟩ : ∃ q : Nat, q = (~~~ r).toNat := ⟨_, rfl⟩
      rw [← hq] at hnot
      have HQ := hid hq
      clear hq
      go_wp2
      all_goals
        go_ret
        refine ⟨ret_int ?_, rfl⟩
        unfold crcSum
        rw [← HR.out, ← HQ.out]

theorem refSeal_any {S : Nat → Prop} (w : World) (A : Option Addr) (c : Nat) (l : List UInt8) (h : Bs S w A c l) (hl : l.length + 4 ≤ 140737488355328) :
    Calls Try.prog 32 #[.slice A l.length c] w fun e w' => ∃ v', e = .returned v' ∧ Own 5 w' w.heap.size v' (sealed l) ∧ Below w.heap.size w w' := by
  have hs := crcSum_lt l
  have hC := refSum_any w A c l h (by omega)
  obtain ⟨s, hss⟩ : ∃ s, s = crcSum l := ⟨_, rfl⟩
  rw [← hss] at hs hC
  have hle : sealed l = l ++ le4 s := by unfold sealed; rw [hss]
  rw [hle]
  have HC := hid hC
  clear hss hle hC
  have own0 : Own 5 (w.alloc (.cells #[] 5)) w.heap.size (.slice (some ⟨w.heap.size, 0, none⟩) 0 0) [] := World.ownsRow_made w #[] 0 (Nat.le_refl _) (by simp [maxLen]) rfl
  have src : Bs (fun k => S k ∧ k < w.heap.size) (w.alloc (.cells #[] 5)) A c l := (h.cut_old).mod ((Mod.refl Nil w).alloc _) (fun _ _ hf => hf)
  go_enter Try.func32, Try.ntmps32
  go_wp2_with (first
    | (go_at_call 72; refine Calls.mono HC.out ?_; rintro e w' ⟨rfl, rfl⟩)
    | (at_builtin; refine wpList_append_bs (t := 26) tyU8 rfl (.tmp 7) (.tmp 8) rfl own0 (by simp) src l.length (by simp) rfl rfl (by omega) ?_; intro A2 c2 w2 ho2 hm2 ha2; have hmw := ((Mod.refl Nil w).alloc (.cells #[] 5)).trans hm2 (fun k hk e => by rw [At.iff] at e; omega); have hB2 : w.heap.size ≤ (w2.alloc (.cells #[.int .u8 ((s : Int) % 256), .int .u8 ((s : Int) / 256 % 256), .int .u8 ((s : Int) / 65536 % 256), .int .u8 ((s : Int) / 16777216)] 5)).heap.size := Nat.le_trans hmw.size (by simp))
    | (at_builtin; refine wpList_append_bs (t := 26) tyU8 rfl (.tmp 10) (.tmp 22) rfl (ho2.mod ((Mod.refl Nil w2).alloc _) (fun _ _ hf => hf)) hB2 (le4_src w2 s hs) (l.length + 4) (by simp [le4]) rfl rfl hl ?_; intro A3 c3 w3 ho3 hm3 ha3))
  go_ret
  refine ⟨_, rfl, by simpa using ho3, ?_⟩
  refine ((hmw.alloc _).trans hm3 (fun k hk e => ?_)).below (Nat.le_refl _) (fun _ hf => hf.elim)
  have := (ho2.lt k e).1
  omega

theorem refUnseal_any {S : Nat → Prop} (w : World) (A : Option Addr) (c : Nat) (l : List UInt8) (h : Bs S w A c l) (hl : l.length ≤ 140737488355328) :
    Calls Try.prog 73 #[.slice A l.length c] w fun e w' => ∃ v', e = .returned (.tuple #[v', .int .i64 ((unsealed l).2 : Int)]) ∧ Own 5 w' w.heap.size v' (unsealed l).1 ∧ Below w.heap.size w w' := by
  by_cases hs : l.length < 4
  · have hE : unsealed l = ([], 10) := by unfold unsealed; rw [if_pos hs]
    rw [hE]
    clear hE
    go_enter Try.func73, Try.ntmps73
    go_wp2
    go_ret2
    exact ⟨_, rfl, Own.nil _ _ _, Below.refl _ _⟩
  · obtain ⟨n, hn⟩ : ∃ n, l.length = n + 4 := ⟨l.length - 4, by omega⟩
    obtain ⟨A2, hb2, hsl2⟩ := run_upto tyU8 h n (by omega)
    have hd : (l.drop n).length = 4 := by rw [List.length_drop]; omega
    have ht : (l.take n).length = n := by rw [List.length_take]; omega
    have hE : unsealed l = if l.drop n = le4 (crcSum (l.take n)) then (l.take n, 0) else ([], 13) := by
      unfold unsealed; rw [if_neg hs, hn]; rfl
    obtain ⟨g, o, rfl, _, hc⟩ := h.2.2 (by omega)
    obtain ⟨b0, b1, b2, b3, hbs⟩ : ∃ b0 b1 b2 b3, l.drop n = [b0, b1, b2, b3] := by
      match l.drop n, hd with
      | [b0, b1, b2, b3], _ => exact ⟨b0, b1, b2, b3, rfl⟩
    rw [hbs] at hE
    have hget : ∀ j b, [b0, b1, b2, b3][j]? = some b → l[n + j]? = some b := fun j b hj => by rw [← hbs, List.getElem?_drop] at hj; exact hj
    have c0 := hc n b0 (hget 0 b0 rfl)
    have c1 := hc (n + 1) b1 (hget 1 b1 rfl)
    have c2 := hc (n + 2) b2 (hget 2 b2 rfl)
    have c3 := hc (n + 3) b3 (hget 3 b3 rfl)
    unfold u8v at c0 c1 c2 c3
    have hsl := crcSum_lt (l.take n)
    simp only [le4_four b0 b1 b2 b3 _ hsl] at hE
    obtain ⟨x0, e0⟩ : ∃ x, x = b0.toNat := ⟨_, rfl⟩
    obtain ⟨x1, e1⟩ : ∃ x, x = b1.toNat := ⟨_, rfl⟩
    obtain ⟨x2, e2⟩ : ∃ x, x = b2.toNat := ⟨_, rfl⟩
    obtain ⟨x3, e3⟩ : ∃ x, x = b3.toNat := ⟨_, rfl⟩
    have h0 : x0 < 256 := by rw [e0]; exact UInt8.toNat_lt _
    have h1 : x1 < 256 := by rw [e1]; exact UInt8.toNat_lt _
    have h2 : x2 < 256 := by rw [e2]; exact UInt8.toNat_lt _
    have h3 : x3 < 256 := by rw [e3]; exact UInt8.toNat_lt _
    rw [← e0, ← e1, ← e2, ← e3] at hE
    rw [← e0] at c0
    rw [← e1] at c1
    rw [← e2] at c2
    rw [← e3] at c3
    have hCS := refSum_any w A2 c (l.take n) hb2 (by omega)
    obtain ⟨s, hss⟩ : ∃ s, s = crcSum (l.take n) := ⟨_, rfl⟩
    rw [← hss] at hE hsl hCS
    rw [ht] at hCS
    have own0 : Own 5 (w.alloc (.cells #[] 5)) w.heap.size (.slice (some ⟨w.heap.size, 0, none⟩) 0 0) [] := World.ownsRow_made w #[] 0 (Nat.le_refl _) (by simp [maxLen]) rfl
    have src : Bs (fun k => S k ∧ k < w.heap.size) (w.alloc (.cells #[] 5)) A2 c (l.take n) := (hb2.cut_old).mod ((Mod.refl Nil w).alloc _) (fun _ _ hf => hf)
    have hlen : n = ([] : List UInt8).length + (l.take n).length := by rw [ht]; simp
    rw [ht] at hsl2
    have HCS := hid hCS
    have HLN := hid hlen
    have HT := hid ht
    clear e0 e1 e2 e3 hCS hget hc hb2 hbs ht hd hss hlen
    rw [hn] at hsl2 hl
    rw [hn]
    have hs4 : ¬ n + 4 < 4 := by omega
    clear hs
    have HN := hid hn
    clear hn
    by_cases hX : x0 + x1 * 256 + x2 * 65536 + x3 * 16777216 = s
    · rw [if_pos hX] at hE
      have HE := hid hE
      have q0 : (((x0 : Int)) != (s : Int) % 256) = false := by simp; omega
      have q1 : (((x1 : Int)) != (s : Int) / 256 % 256) = false := by simp; omega
      have q2 : (((x2 : Int)) != (s : Int) / 65536 % 256) = false := by simp; omega
      have q3 : (((x3 : Int)) != (s : Int) / 16777216) = false := by simp; omega
      clear hE hX
      go_enter Try.func73, Try.ntmps73
      go_wp2_with (first
        | (go_at_call 72; refine Calls.mono HCS.out ?_; rintro e w' ⟨rfl, rfl⟩)
        | (at_builtin; refine wpList_append_bs (t := 26) tyU8 rfl (.tmp 56) (.tmp 59) rfl own0 (by simp) src n HLN.out rfl (congrArg (fun k => Value.slice A2 k c) HT.out.symm) (by omega) ?_; intro A3 c3 w3 ho3 hm3 ha3))
      go_ret2
      rw [HE.out]
      refine ⟨_, rfl, by simpa using ho3, ?_⟩
      exact ((Mod.refl Nil w).alloc _ |>.trans hm3 (fun i hi e => by rw [At.iff] at e; omega)).below (Nat.le_refl _) (fun _ hf => hf.elim)
    · rw [if_neg hX] at hE
      have HE := hid hE
      clear hE
      by_cases q0 : x0 = s % 256
      · have q0' : (((x0 : Int)) != (s : Int) % 256) = false := by simp; omega
        by_cases q1 : x1 = s / 256 % 256
        · have q1' : (((x1 : Int)) != (s : Int) / 256 % 256) = false := by simp; omega
          by_cases q2 : x2 = s / 65536 % 256
          · have q2' : (((x2 : Int)) != (s : Int) / 65536 % 256) = false := by simp; omega
            have q3' : (((x3 : Int)) != (s : Int) / 16777216) = true := by simp; omega
            clear hX q0 q1 q2
            go_enter Try.func73, Try.ntmps73
            go_wp2_with (go_at_call 72; refine Calls.mono HCS.out ?_; rintro e w' ⟨rfl, rfl⟩)
            go_ret2
            rw [HE.out]
            exact ⟨_, rfl, Own.nil _ _ _, Below.refl _ _⟩
          · have q2' : (((x2 : Int)) != (s : Int) / 65536 % 256) = true := by simp; omega
            clear hX q0 q1 q2
            go_enter Try.func73, Try.ntmps73
            go_wp2_with (go_at_call 72; refine Calls.mono HCS.out ?_; rintro e w' ⟨rfl, rfl⟩)
            go_ret2
            rw [HE.out]
            exact ⟨_, rfl, Own.nil _ _ _, Below.refl _ _⟩
        · have q1' : (((x1 : Int)) != (s : Int) / 256 % 256) = true := by simp; omega
          clear hX q0 q1
          go_enter Try.func73, Try.ntmps73
          go_wp2_with (go_at_call 72; refine Calls.mono HCS.out ?_; rintro e w' ⟨rfl, rfl⟩)
          go_ret2
          rw [HE.out]
          exact ⟨_, rfl, Own.nil _ _ _, Below.refl _ _⟩
      · have q0' : (((x0 : Int)) != (s : Int) % 256) = true := by simp; omega
        clear hX q0
        go_enter Try.func73, Try.ntmps73
        go_wp2_with (go_at_call 72; refine Calls.mono HCS.out ?_; rintro e w' ⟨rfl, rfl⟩)
        go_ret2
        rw [HE.out]
        exact ⟨_, rfl, Own.nil _ _ _, Below.refl _ _⟩
end Go.Proofs.Ytnhcbjlaeaohjaa
