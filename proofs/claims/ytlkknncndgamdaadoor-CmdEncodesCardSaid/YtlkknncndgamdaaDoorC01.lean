/-
  CmdR · CmdL
-/
import Derived.Test.YtlkknncndgamdaaDoorB03
set_option linter.unusedSimpArgs false
set_option linter.unusedVariables false

namespace Go.Proofs.YtlkknncndgamdaaDoor.Sep
open Go.RowKit
open Go.Proofs.YtlkknncndgamdaaDoor.Mem (Dist Blk Chg below0)

theorem rbyte_stop {most f : Nat} {l : List UInt8} (h : f ≠ 0) : rbyte most l f = (0, l, f) := rbyte_stuck h
theorem rbyte_nil {most f : Nat} {l : List UInt8} (hf : f = 0) (h : l.length = 0) : rbyte most l f = (0, l, 10) := by
  subst hf
  rw [List.eq_nil_of_length_eq_zero h]; rfl
theorem rbyte_big {most f : Nat} {l : List UInt8} {x : UInt8} (hf : f = 0) (hx : l[0]? = some x) (h : most < x.toNat) : rbyte most l f = (0, l, 12) := by
  subst hf
  cases l with
  | nil => simp at hx
  | cons b r =>
    simp only [List.getElem?_cons_zero, Option.some.injEq] at hx
    subst hx
    simp only [rbyte]
    rw [if_neg (by simp), if_pos h]
theorem rbyte_fine {most f : Nat} {l : List UInt8} {x : UInt8} (hf : f = 0) (hx : l[0]? = some x) (h : ¬ most < x.toNat) : rbyte most l f = (x.toNat, l.drop 1, f) := by
  subst hf
  cases l with
  | nil => simp at hx
  | cons b r =>
    simp only [List.getElem?_cons_zero, Option.some.injEq] at hx
    subst hx
    simp only [rbyte]
    rw [if_neg (by simp), if_neg h]; rfl
theorem vnum_sz (most : Nat) (l : List UInt8) : (vnum most l 0 0).2.1 ≤ l.length := by
  rcases vnum_ends most l 0 0 (by omega) (by decide) with h | h <;> omega
theorem byteR (most : Nat) (l : List UInt8) (f : Nat) : ∃ (x : UInt8) (l1 : List UInt8) (f1 : Nat), rbyte most l f = (x.toNat, l1, f1) := by
  have h := rbyte_lt most l f
  obtain ⟨⟨n, l1, f1⟩, e⟩ : ∃ R, rbyte most l f = R := ⟨_, rfl⟩
  rw [e] at h
  exact ⟨UInt8.ofNat n, l1, f1, by rw [e, byte_of n h]⟩
theorem unzig_xor {n h q : Nat} (hh : n / 2 = h) (hq : n % 2 = q) (hn : n < 18446744073709551616) : bits .xor .i64 (h : Int) (-(q : Int)) = unzig n := by
  unfold unzig
  rcases (show q = 0 ∨ q = 1 by omega) with rfl | rfl
  · rw [if_pos hq, hh]
    exact xor_none h (by omega)
  · rw [if_neg (by omega), hh]
    exact xor_ones h (by omega)
theorem and_one {n q : Nat} (hq : n % 2 = q) (hn : n < 18446744073709551616) : bits .and .u64 (n : Int) 1 = (q : Int) := by
  have := u64_and_nat n 1 hn (by decide)
  rw [Nat.and_one_is_mod, hq] at this
  exact this
section
variable {P : Program} {n : Nat} {B : Nat → Prop} {w0 w : World} {os : List Ass} {env : List (Nat × Value)} {o : Oper} {a : Act}
theorem exec_str3 (i : Nat) {T T' e t : TypeId} {g : Nat} {x0 x1 x2 : UInt8} {x : Operand} (hs : P.underlying T = some (.slice e)) (he : P.underlying e = some (.int .u8)) (hi : (P.info? e).map (fun i => (i.zero, i.size, i.bytes)) = some (some (.int .u8 0), 1, 1)) (hd : P.underlying T' = some .string)
    (hg : os[i]? = some (cell g t #[.int .u8 (x0.toNat : Int), .int .u8 (x1.toNat : Int), .int .u8 (x2.toNat : Int)])) (ho : o.op = .convert T T' x) (hx : evs env x = some (.slice (some ⟨g, 0, none⟩) 3 3)) (hH : Hp B w0 w os) (hF : Fr n a env) : (execOp a.eval o).run P w = .ok (.value (.string (bs [x0, x1, x2]))) w :=
  exec_str8 (l := [x0, x1, x2]) hs he hi hd ⟨_, 3, rfl, Nat.le_refl 3, by decide, fun _ => ⟨g, 0, rfl, trivial, fun j b hj => by
    have hr := hH.row i hg
    rw [Nat.zero_add, hr.cell]
    match j, hj with
    | 0, hj => simp at hj; subst hj; rfl
    | 1, hj => simp at hj; subst hj; rfl
    | 2, hj => simp at hj; subst hj; rfl⟩⟩ ho hx hF
end

set_option maxRecDepth 100000 in
theorem rd_new (u : World) (v : Value) (l : List UInt8) (hv : Sl8 u v l) (hl : l.length ≤ 140737488355328) : DoesU u Tryd.prog 37 #[v] [] (fun (g : Nat) => .pointer (some ⟨g, 0, none⟩)) (fun (g : Nat) => [RdT g l 0]) := by
  refine d_insU (args := [v]) 7 Tryd.func37 rfl rfl rfl ?_; intro w rs hU hS
  refine d_reg ?_
  refine h_q hflS rfl ?_
  refine h_done (d_reg ?_)
  refine h_q hflS rfl ?_
  refine h_act (post := fun v2 => [Vec 5 1 encB v2 l]) rfl (a_doesU hU hS (os' := fun v2 => [Vec 5 1 encB v2 l]) [] 0 (ent_of Tryd.func45 (by kernel_rfl) rfl) (clone8U u hv hl) rfl rfl rfl (fun _ => rfl) rfl rfl rfl) ?_; rintro v2
  refine WL2.fact 0 rfl (fun _ h => Vec.is h) ?_; rintro ⟨A, c, rfl⟩
  refine h_val rfl (.agg #[.slice A l.length c, .int .i64 0]) (fun b w hb hH => exec_build rfl rfl (by kernel_rfl) hb) ?_
  refine h_act (post := fun g1 => [cell g1 86 #[.slice A l.length c, .int .i64 0], Vec 5 1 encB (.slice A l.length c) l]) rfl (a_box (cs := #[.slice A l.length c, .int .i64 0]) rfl rfl rfl) ?_; rintro g1
  refine h_q hflS rfl ?_
  refine h_done (d_ret ?_)
  exact f_fin1 (.tmp rfl) (fun w h => tells g1 rfl [0, 1] rfl h (fun z hz => ⟨z, .refl _, Parts.one (RdT.mk_ rfl rd8_vec hl z hz)⟩)) rfl

set_option maxRecDepth 100000 in
theorem rd_byte (g : Nat) (l : List UInt8) (f most : Nat) (hm : most < 256) (R : Nat × List UInt8 × Nat) (h : rbyte most l f = R) : Does Tryd.prog 52 #[.pointer (some ⟨g, 0, none⟩), .int .u8 (most : Int)] [RdT g l f] (fun (_ : Unit) => .int .u8 (R.1 : Int)) (fun (_ : Unit) => [RdT g R.2.1 R.2.2]) := by
  refine d_ins (args := [.pointer (some ⟨g, 0, none⟩), .int .u8 (most : Int)]) 41 Tryd.func52 rfl rfl rfl ?_; intro w rs
  refine d_open 0 rfl RdT.open_ (fun _ => rfl) ?_; rintro ⟨⟨X, A, c⟩, hR, hL⟩
  refine WC2.keep (env' := [(0, .pointer (some ⟨g, 0, none⟩)), (1, .int .u8 (most : Int))]) ⟨rfl, rfl, trivial⟩ ?_
  refine WC2.mid [cell g 86 #[.slice A l.length c, .int .i64 (f : Int)], X] (.refl _) ?_
  refine d_reg ?_
  refine h_q hflS rfl ?_
  refine h_done (d_seq ?_)
  by_cases hf : f = 0
  · skip
    refine d_reg ?_
    refine h_q hflS rfl ?_
    refine h_val rfl (.pointer (some ⟨g, 0, none⟩)) (fun b w hb hH => by exact exec_nilCheck rfl rfl hb) ?_
    refine h_q hflS rfl ?_
    refine h_val rfl (.int .i64 (f : Int)) (fun b w hb hH => exec_load rfl rfl (reads_one ty_api_Errno rfl) (hH.row 0 rfl) hb) ?_
    refine h_val rfl (.bool false) (fun b w hb hH => exec_cmp rfl rfl rfl (cmp_neq_f (by omega)) hb) ?_
    refine h_done (d_else rfl (d_skip (f_to (d_seq ?_))))
    rcases Nat.eq_zero_or_pos l.length with h0 | h0
    · skip
      obtain rfl : R = (0, l, 10) := h.symm.trans (rbyte_nil hf h0)
      refine d_reg ?_
      refine h_q hflS rfl ?_
      refine h_val rfl (.pointer (some ⟨g, 0, none⟩)) (fun b w hb hH => by exact exec_nilCheck rfl rfl hb) ?_
      refine h_q hflS rfl ?_
      refine h_val rfl (.slice A l.length c) (fun b w hb hH => exec_load rfl rfl (reads_one ty_s_uint8 rfl) (hH.row 0 rfl) hb) ?_
      refine h_val rfl (.int .i64 (l.length : Int)) (fun b w hb hH => e_len sl_uint8 rfl rfl hH hb) ?_
      refine h_val rfl (.bool true) (fun b w hb hH => exec_cmp rfl rfl rfl (cmp_eql_t (by omega)) hb) ?_
      refine h_done (d_then rfl (d_reg ?_))
      refine h_q hflS rfl ?_
      refine h_val rfl (.pointer (some ⟨g, 0, none⟩)) (fun b w hb hH => by exact exec_nilCheck rfl rfl hb) ?_
      refine h_q hflS rfl ?_
      refine h_acts (post := fun _ => [cell g 86 #[.slice A l.length c, .int .i64 10], X]) rfl rfl (a_store 0 (v := .int .i64 10) #[.slice A l.length c, .int .i64 10] ty_api_Errno.2 rfl rfl rfl rfl rfl rfl rfl rfl rfl) ?_; rintro ⟨⟩
      refine h_done (d_reg ?_)
      refine h_q hflS rfl ?_
      refine h_done (d_ret (f_then_ret ?_))
      exact f_fin1 (.tmp rfl) (fun w h => tells () rfl [0, 1] rfl h (fun z hz => ⟨z, .refl _, Parts.one (RdT.mk_ rfl hR hL z hz)⟩)) rfl
    · skip
      obtain ⟨x, hx⟩ : ∃ x, l[0]? = some x := ⟨_, List.getElem?_eq_getElem h0⟩
      refine d_reg ?_
      refine h_q hflS rfl ?_
      refine h_val rfl (.pointer (some ⟨g, 0, none⟩)) (fun b w hb hH => by exact exec_nilCheck rfl rfl hb) ?_
      refine h_q hflS rfl ?_
      refine h_val rfl (.slice A l.length c) (fun b w hb hH => exec_load rfl rfl (reads_one ty_s_uint8 rfl) (hH.row 0 rfl) hb) ?_
      refine h_val rfl (.int .i64 (l.length : Int)) (fun b w hb hH => e_len sl_uint8 rfl rfl hH hb) ?_
      refine h_val rfl (.bool false) (fun b w hb hH => exec_cmp rfl rfl rfl (cmp_eql_f (by omega)) hb) ?_
      refine h_done (d_else rfl (d_skip (f_to (d_reg ?_))))
      refine h_q hflS rfl ?_
      refine h_val rfl (.pointer (some ⟨g, 0, none⟩)) (fun b w hb hH => by exact exec_nilCheck rfl rfl hb) ?_
      refine h_q hflS rfl ?_
      refine h_val rfl (.slice A l.length c) (fun b w hb hH => exec_load rfl rfl (reads_one ty_s_uint8 rfl) (hH.row 0 rfl) hb) ?_
      refine h_val rfl (elp' (.slice A l.length c) (0 * 1)) (fun b w hb hH => e_ridx 1 hR.rd sl_uint8 rfl 0 h0 rfl rfl rfl hH hb) ?_
      refine h_val rfl (.int .u8 ((x).toNat : Int)) (fun b w hb hH => e_rload1 1 hR.rd ty_uint8 okB rfl 0 (a := x) hx rfl rfl rfl hH hb) ?_
      refine h_q hflS rfl ?_
      refine h_done (d_seq ?_)
      by_cases hb : most < x.toNat
      · skip
        obtain rfl : R = (0, l, 12) := h.symm.trans (rbyte_big hf hx hb)
        refine d_reg ?_
        refine h_q hflS rfl ?_
        refine h_val rfl (.bool true) (fun b w hb hH => exec_cmp rfl rfl rfl (cmp_gtr_t (by omega)) hb) ?_
        refine h_done (d_then rfl (d_reg ?_))
        refine h_q hflS rfl ?_
        refine h_val rfl (.pointer (some ⟨g, 0, none⟩)) (fun b w hb hH => by exact exec_nilCheck rfl rfl hb) ?_
        refine h_q hflS rfl ?_
        refine h_acts (post := fun _ => [cell g 86 #[.slice A l.length c, .int .i64 12], X]) rfl rfl (a_store 0 (v := .int .i64 12) #[.slice A l.length c, .int .i64 12] ty_api_Errno.2 rfl rfl rfl rfl rfl rfl rfl rfl rfl) ?_; rintro ⟨⟩
        refine h_done (d_reg ?_)
        refine h_q hflS rfl ?_
        refine h_done (d_ret (f_then_ret ?_))
        exact f_fin1 (.tmp rfl) (fun w h => tells () rfl [0, 1] rfl h (fun z hz => ⟨z, .refl _, Parts.one (RdT.mk_ rfl hR hL z hz)⟩)) rfl
      · skip
        obtain ⟨A2, hA2⟩ : ∃ A2, (if c = 1 then A else A.map (·.add 1)) = A2 := ⟨_, rfl⟩
        obtain ⟨l2, hl2⟩ : ∃ l2, l.drop 1 = l2 := ⟨_, rfl⟩
        have hR2 : Rd8 X (.slice A2 l2.length (c - 1)) l2 := by rw [← hA2, ← hl2]; exact hR.drop (by omega)
        have hn2 : l2.length = l.length - 1 := by rw [← hl2, List.length_drop]
        have hL2 : l2.length ≤ 140737488355328 := by omega
        have hsub : subv 1 (.slice A l.length c) 1 l.length = .slice A2 l2.length (c - 1) := by rw [← hA2]; exact sub_drop (by omega) (by omega)
        obtain rfl : R = (x.toNat, l2, f) := by rw [← h, ← hl2]; exact rbyte_fine hf hx hb
        refine d_reg ?_
        refine h_q hflS rfl ?_
        refine h_val rfl (.bool false) (fun b w hb hH => exec_cmp rfl rfl rfl (cmp_gtr_f (by omega)) hb) ?_
        refine h_done (d_else rfl (d_skip (f_to (d_reg ?_))))
        refine h_q hflS rfl ?_
        refine h_val rfl (.pointer (some ⟨g, 0, none⟩)) (fun b w hb hH => by exact exec_nilCheck rfl rfl hb) ?_
        refine h_q hflS rfl ?_
        refine h_val rfl (.slice A l.length c) (fun b w hb hH => exec_load rfl rfl (reads_one ty_s_uint8 rfl) (hH.row 0 rfl) hb) ?_
        refine h_val rfl (.slice A2 l2.length (c - 1)) (fun b w hb hH => e_sub_lo (i := 1) sl_uint8 hsub h0 rfl rfl rfl hH hb) ?_
        refine h_val rfl (.pointer (some ⟨g, 0, none⟩)) (fun b w hb hH => by exact exec_nilCheck rfl rfl hb) ?_
        refine h_q hflS rfl ?_
        refine h_acts (post := fun _ => [cell g 86 #[.slice A2 l2.length (c - 1), .int .i64 (f : Int)], X]) rfl rfl (a_store 0 (v := .slice A2 l2.length (c - 1)) #[.slice A2 l2.length (c - 1), .int .i64 (f : Int)] ty_s_uint8.2 rfl rfl rfl rfl rfl rfl rfl rfl rfl) ?_; rintro ⟨⟩
        refine h_done (d_reg ?_)
        refine h_q hflS rfl ?_
        refine h_done (d_ret ?_)
        exact f_fin1 (.tmp rfl) (fun w h => tells () rfl [0, 1] rfl h (fun z hz => ⟨z, .refl _, Parts.one (RdT.mk_ rfl hR2 hL2 z hz)⟩)) rfl
  · skip
    obtain rfl : R = (0, l, f) := h.symm.trans (rbyte_stop hf)
    refine d_reg ?_
    refine h_q hflS rfl ?_
    refine h_val rfl (.pointer (some ⟨g, 0, none⟩)) (fun b w hb hH => by exact exec_nilCheck rfl rfl hb) ?_
    refine h_q hflS rfl ?_
    refine h_val rfl (.int .i64 (f : Int)) (fun b w hb hH => exec_load rfl rfl (reads_one ty_api_Errno rfl) (hH.row 0 rfl) hb) ?_
    refine h_val rfl (.bool true) (fun b w hb hH => exec_cmp rfl rfl rfl (cmp_neq_t (by omega)) hb) ?_
    refine h_done (d_then rfl (d_reg ?_))
    refine h_q hflS rfl ?_
    refine h_done (d_ret (f_then_ret ?_))
    exact f_fin1 (.tmp rfl) (fun w h => tells () rfl [0, 1] rfl h (fun z hz => ⟨z, .refl _, Parts.one (RdT.mk_ rfl hR hL z hz)⟩)) rfl

set_option maxRecDepth 100000 in
theorem rd_num (g : Nat) (l : List UInt8) (f most : Nat) (hm : most < 18446744073709551616) (R : Nat × List UInt8 × Nat) (h : rnum most l f = R) : Does Tryd.prog 53 #[.pointer (some ⟨g, 0, none⟩), .int .u64 (most : Int)] [RdT g l f] (fun (_ : Unit) => .int .u64 (R.1 : Int)) (fun (_ : Unit) => [RdT g R.2.1 R.2.2]) := by
  refine d_ins (args := [.pointer (some ⟨g, 0, none⟩), .int .u64 (most : Int)]) 37 Tryd.func53 rfl rfl rfl ?_; intro w rs
  refine d_open 0 rfl RdT.open_ (fun _ => rfl) ?_; rintro ⟨⟨X, A, c⟩, hR, hL⟩
  refine WC2.keep (env' := [(0, .pointer (some ⟨g, 0, none⟩)), (1, .int .u64 (most : Int))]) ⟨rfl, rfl, trivial⟩ ?_
  refine WC2.mid [cell g 86 #[.slice A l.length c, .int .i64 (f : Int)], X] (.refl _) ?_
  refine d_reg ?_
  refine h_q hflS rfl ?_
  refine h_done (d_seq ?_)
  by_cases hf : f = 0
  · skip
    have hz := vnum_sz most l
    obtain ⟨⟨n, sz, e2⟩, hv⟩ : ∃ R, vnum most l 0 0 = R := ⟨_, rfl⟩
    rw [hv] at hz
    simp only at hz
    obtain ⟨A2, hA2⟩ : ∃ A2, (if c = sz then A else A.map (·.add sz)) = A2 := ⟨_, rfl⟩
    obtain ⟨l2, hl2⟩ : ∃ l2, l.drop sz = l2 := ⟨_, rfl⟩
    have hR2 : Rd8 X (.slice A2 l2.length (c - sz)) l2 := by rw [← hA2, ← hl2]; exact hR.drop (by omega)
    have hn2 : l2.length = l.length - sz := by rw [← hl2, List.length_drop]
    have hL2 : l2.length ≤ 140737488355328 := by omega
    have hsub : subv 1 (.slice A l.length c) sz l.length = .slice A2 l2.length (c - sz) := by rw [← hA2]; exact sub_drop (by omega) (by omega)
    obtain rfl : R = (n, l2, e2) := by rw [← h, ← hl2]; unfold rnum; rw [if_neg (by simp [hf]), hv]
    refine d_reg ?_
    refine h_q hflS rfl ?_
    refine h_val rfl (.pointer (some ⟨g, 0, none⟩)) (fun b w hb hH => by exact exec_nilCheck rfl rfl hb) ?_
    refine h_q hflS rfl ?_
    refine h_val rfl (.int .i64 (f : Int)) (fun b w hb hH => exec_load rfl rfl (reads_one ty_api_Errno rfl) (hH.row 0 rfl) hb) ?_
    refine h_val rfl (.bool false) (fun b w hb hH => exec_cmp rfl rfl rfl (cmp_neq_f (by omega)) hb) ?_
    refine h_done (d_else rfl (d_skip (f_to (d_reg ?_))))
    refine h_q hflS rfl ?_
    refine h_val rfl (.pointer (some ⟨g, 0, none⟩)) (fun b w hb hH => by exact exec_nilCheck rfl rfl hb) ?_
    refine h_q hflS rfl ?_
    refine h_val rfl (.slice A l.length c) (fun b w hb hH => exec_load rfl rfl (reads_one ty_s_uint8 rfl) (hH.row 0 rfl) hb) ?_
    refine h_q hflS rfl ?_
    refine h_act (post := fun _ => [cell g 86 #[.slice A l.length c, .int .i64 (f : Int)], X]) rfl (a_call (ent_of Tryd.func58 (by kernel_rfl) rfl) (fun w hH => varint8 (hH.rd8 1 rfl hR) hL most hm (n, sz, e2) hv) rfl rfl rfl) ?_; rintro ⟨⟩
    refine h_q hflS rfl ?_
    refine h_done (d_reg ?_)
    refine h_q hflS rfl ?_
    refine h_val rfl (.pointer (some ⟨g, 0, none⟩)) (fun b w hb hH => by exact exec_nilCheck rfl rfl hb) ?_
    refine h_q hflS rfl ?_
    refine h_acts (post := fun _ => [cell g 86 #[.slice A l.length c, .int .i64 (e2 : Int)], X]) rfl rfl (a_store 0 (v := .int .i64 (e2 : Int)) #[.slice A l.length c, .int .i64 (e2 : Int)] ty_api_Errno.2 rfl rfl rfl rfl rfl rfl rfl rfl rfl) ?_; rintro ⟨⟩
    refine h_done (d_reg ?_)
    refine h_q hflS rfl ?_
    refine h_val rfl (.pointer (some ⟨g, 0, none⟩)) (fun b w hb hH => by exact exec_nilCheck rfl rfl hb) ?_
    refine h_q hflS rfl ?_
    refine h_val rfl (.slice A l.length c) (fun b w hb hH => exec_load rfl rfl (reads_one ty_s_uint8 rfl) (hH.row 0 rfl) hb) ?_
    refine h_q hflS rfl ?_
    refine h_val rfl (.slice A2 l2.length (c - sz)) (fun b w hb hH => e_sub_lo (i := sz) sl_uint8 hsub hz rfl rfl rfl hH hb) ?_
    refine h_val rfl (.pointer (some ⟨g, 0, none⟩)) (fun b w hb hH => by exact exec_nilCheck rfl rfl hb) ?_
    refine h_q hflS rfl ?_
    refine h_acts (post := fun _ => [cell g 86 #[.slice A2 l2.length (c - sz), .int .i64 (e2 : Int)], X]) rfl rfl (a_store 0 (v := .slice A2 l2.length (c - sz)) #[.slice A2 l2.length (c - sz), .int .i64 (e2 : Int)] ty_s_uint8.2 rfl rfl rfl rfl rfl rfl rfl rfl rfl) ?_; rintro ⟨⟩
    refine h_done (d_reg ?_)
    refine h_q hflS rfl ?_
    refine h_done (d_ret ?_)
    exact f_fin1 (.tmp rfl) (fun w h => tells () rfl [0, 1] rfl h (fun z hz => ⟨z, .refl _, Parts.one (RdT.mk_ rfl hR2 hL2 z hz)⟩)) rfl
  · skip
    obtain rfl : R = (0, l, f) := h.symm.trans (rnum_stuck hf)
    refine d_reg ?_
    refine h_q hflS rfl ?_
    refine h_val rfl (.pointer (some ⟨g, 0, none⟩)) (fun b w hb hH => by exact exec_nilCheck rfl rfl hb) ?_
    refine h_q hflS rfl ?_
    refine h_val rfl (.int .i64 (f : Int)) (fun b w hb hH => exec_load rfl rfl (reads_one ty_api_Errno rfl) (hH.row 0 rfl) hb) ?_
    refine h_val rfl (.bool true) (fun b w hb hH => exec_cmp rfl rfl rfl (cmp_neq_t (by omega)) hb) ?_
    refine h_done (d_then rfl (d_reg ?_))
    refine h_q hflS rfl ?_
    refine h_done (d_ret (f_then_ret ?_))
    exact f_fin1 (.tmp rfl) (fun w h => tells () rfl [0, 1] rfl h (fun z hz => ⟨z, .refl _, Parts.one (RdT.mk_ rfl hR hL z hz)⟩)) rfl

set_option maxRecDepth 100000 in
theorem rd_int (g : Nat) (l : List UInt8) (f : Nat) (R : Int × List UInt8 × Nat) (h : rint l f = R) : Does Tryd.prog 59 #[.pointer (some ⟨g, 0, none⟩)] [RdT g l f] (fun (_ : Unit) => .int .i64 R.1) (fun (_ : Unit) => [RdT g R.2.1 R.2.2]) := by
  have hlt := rnum_lt 18446744073709551615 l f
  obtain ⟨⟨n, l1, f1⟩, h1⟩ : ∃ R, rnum 18446744073709551615 l f = R := ⟨_, rfl⟩
  obtain rfl : R = (unzig n, l1, f1) := by rw [← h]; unfold rint; rw [h1]
  rw [h1] at hlt
  have hlt : n < 18446744073709551616 := hlt
  obtain ⟨q2, hq2⟩ : ∃ q2, n / 2 = q2 := ⟨_, rfl⟩
  obtain ⟨q, hq⟩ : ∃ q, n % 2 = q := ⟨_, rfl⟩
  refine d_ins (args := [.pointer (some ⟨g, 0, none⟩)]) 14 Tryd.func59 rfl rfl rfl ?_; intro w rs
  refine d_reg ?_
  refine h_q hflS rfl ?_
  refine h_done (d_reg ?_)
  refine h_q hflS rfl ?_
  refine h_act (post := fun _ => [RdT g l1 f1]) rfl (a_does (os' := fun _ => [RdT g l1 f1]) [0] 0 (ent_of Tryd.func53 (by kernel_rfl) rfl) (rd_num g l f 18446744073709551615 (by decide) (n, l1, f1) h1) rfl rfl rfl (fun _ => rfl) rfl rfl rfl) ?_; rintro ⟨⟩
  refine h_q hflS rfl ?_
  refine h_done (d_reg ?_)
  refine h_q hflS rfl ?_
  refine h_val rfl (.int .u64 (q2 : Int)) (fun b w hb hH => exec_shr1 hlt hq2 rfl rfl rfl hb) ?_
  refine h_val rfl (.int .i64 (q2 : Int)) (fun b w hb hH => by exact exec_conv Tryd.underlying22 Tryd.underlying2 (IntWalk.i64_in _ (by omega)) rfl rfl hb) ?_
  refine h_q hflS rfl ?_
  refine h_val rfl (.int .u64 (q : Int)) (fun b w hb hH => exec_and (and_one hq hlt) rfl rfl rfl hb) ?_
  refine h_val rfl (.int .i64 (q : Int)) (fun b w hb hH => by exact exec_conv Tryd.underlying22 Tryd.underlying2 (IntWalk.i64_in _ (by omega)) rfl rfl hb) ?_
  refine h_val rfl (.int .i64 (-(q : Int))) (fun b w hb hH => exec_neg rfl rfl (by rw [IntWalk.i64_in _ (by omega)]; omega) hb) ?_
  refine h_val rfl (.int .i64 (unzig n)) (fun b w hb hH => exec_xor (unzig_xor hq2 hq hlt) rfl rfl rfl hb) ?_
  refine h_q hflS rfl ?_
  refine h_done (d_ret ?_)
  exact f_fin1 (.tmp rfl) (fun w h => tells () rfl [0] rfl h same_parts) rfl

set_option maxRecDepth 100000 in
theorem rd_end (g : Nat) (l : List UInt8) (f r : Nat) (h : rend l f = r) : Does Tryd.prog 39 #[.pointer (some ⟨g, 0, none⟩)] [RdT g l f] (fun (_ : Unit) => .int .i64 (r : Int)) (fun (_ : Unit) => [RdT g l f]) := by
  refine d_ins (args := [.pointer (some ⟨g, 0, none⟩)]) 20 Tryd.func39 rfl rfl rfl ?_; intro w rs
  refine d_open 0 rfl RdT.open_ (fun _ => rfl) ?_; rintro ⟨⟨X, A, c⟩, hR, hL⟩
  refine WC2.keep (env' := [(0, .pointer (some ⟨g, 0, none⟩))]) ⟨rfl, trivial⟩ ?_
  refine WC2.mid [cell g 86 #[.slice A l.length c, .int .i64 (f : Int)], X] (.refl _) ?_
  refine d_reg ?_
  refine h_q hflS rfl ?_
  refine h_done (d_seq ?_)
  have hc : (f = 0 ∧ 0 < l.length) ∨ (f = 0 ∧ ¬ 0 < l.length) ∨ f ≠ 0 := by omega
  rcases hc with ⟨hf, h0⟩ | ⟨hf, h0⟩ | hf
  · skip
    obtain rfl : r = 11 := by rw [← h]; unfold rend; rw [if_pos ⟨hf, h0⟩]
    refine d_reg ?_
    refine h_q hflS rfl ?_
    refine h_val rfl (.pointer (some ⟨g, 0, none⟩)) (fun b w hb hH => by exact exec_nilCheck rfl rfl hb) ?_
    refine h_q hflS rfl ?_
    refine h_val rfl (.int .i64 (f : Int)) (fun b w hb hH => exec_load rfl rfl (reads_one ty_api_Errno rfl) (hH.row 0 rfl) hb) ?_
    refine h_val rfl (.bool true) (fun b w hb hH => exec_cmp rfl rfl rfl (cmp_eql_t (by omega)) hb) ?_
    refine h_q hflS rfl ?_
    refine h_val rfl (.pointer (some ⟨g, 0, none⟩)) (fun b w hb hH => by exact exec_nilCheck rfl rfl hb) ?_
    refine h_q hflS rfl ?_
    refine h_val rfl (.slice A l.length c) (fun b w hb hH => exec_load rfl rfl (reads_one ty_s_uint8 rfl) (hH.row 0 rfl) hb) ?_
    refine h_val rfl (.int .i64 (l.length : Int)) (fun b w hb hH => e_len sl_uint8 rfl rfl hH hb) ?_
    refine h_val rfl (.bool true) (fun b w hb hH => exec_cmp rfl rfl rfl (cmp_gtr_t (by omega)) hb) ?_
    refine h_q hflS rfl ?_
    refine h_done (d_then rfl (d_reg ?_))
    refine h_q hflS rfl ?_
    refine h_done (d_ret (f_then_ret ?_))
    exact f_fin1 (.tmp rfl) (fun w h => tells () rfl [0, 1] rfl h (fun z hz => ⟨z, .refl _, Parts.one (RdT.mk_ rfl hR hL z hz)⟩)) rfl
  · skip
    have hr : r = f := by rw [← h]; unfold rend; rw [if_neg (fun hh => h0 hh.2)]
    refine d_reg ?_
    refine h_q hflS rfl ?_
    refine h_val rfl (.pointer (some ⟨g, 0, none⟩)) (fun b w hb hH => by exact exec_nilCheck rfl rfl hb) ?_
    refine h_q hflS rfl ?_
    refine h_val rfl (.int .i64 (f : Int)) (fun b w hb hH => exec_load rfl rfl (reads_one ty_api_Errno rfl) (hH.row 0 rfl) hb) ?_
    refine h_val rfl (.bool true) (fun b w hb hH => exec_cmp rfl rfl rfl (cmp_eql_t (by omega)) hb) ?_
    refine h_q hflS rfl ?_
    refine h_val rfl (.pointer (some ⟨g, 0, none⟩)) (fun b w hb hH => by exact exec_nilCheck rfl rfl hb) ?_
    refine h_q hflS rfl ?_
    refine h_val rfl (.slice A l.length c) (fun b w hb hH => exec_load rfl rfl (reads_one ty_s_uint8 rfl) (hH.row 0 rfl) hb) ?_
    refine h_val rfl (.int .i64 (l.length : Int)) (fun b w hb hH => e_len sl_uint8 rfl rfl hH hb) ?_
    refine h_val rfl (.bool false) (fun b w hb hH => exec_cmp rfl rfl rfl (cmp_gtr_f (by omega)) hb) ?_
    refine h_q hflS rfl ?_
    refine h_done (d_else rfl (d_skip (f_to (d_reg ?_))))
    refine h_q hflS rfl ?_
    refine h_val rfl (.pointer (some ⟨g, 0, none⟩)) (fun b w hb hH => by exact exec_nilCheck rfl rfl hb) ?_
    refine h_q hflS rfl ?_
    refine h_val rfl (.int .i64 (f : Int)) (fun b w hb hH => exec_load rfl rfl (reads_one ty_api_Errno rfl) (hH.row 0 rfl) hb) ?_
    refine h_q hflS rfl ?_
    refine h_done (d_ret ?_)
    exact f_fin1 (.tmp rfl) (fun w h => tells () (by rw [hr]) [0, 1] rfl h (fun z hz => ⟨z, .refl _, Parts.one (RdT.mk_ rfl hR hL z hz)⟩)) rfl
  · skip
    have hr : r = f := by rw [← h]; unfold rend; rw [if_neg (fun hh => hf hh.1)]
    refine d_reg ?_
    refine h_q hflS rfl ?_
    refine h_val rfl (.pointer (some ⟨g, 0, none⟩)) (fun b w hb hH => by exact exec_nilCheck rfl rfl hb) ?_
    refine h_q hflS rfl ?_
    refine h_val rfl (.int .i64 (f : Int)) (fun b w hb hH => exec_load rfl rfl (reads_one ty_api_Errno rfl) (hH.row 0 rfl) hb) ?_
    refine h_val rfl (.bool false) (fun b w hb hH => exec_cmp rfl rfl rfl (cmp_eql_f (by omega)) hb) ?_
    refine h_q hflS rfl ?_
    refine h_done (d_else rfl (d_skip (f_to (d_reg ?_))))
    refine h_q hflS rfl ?_
    refine h_val rfl (.pointer (some ⟨g, 0, none⟩)) (fun b w hb hH => by exact exec_nilCheck rfl rfl hb) ?_
    refine h_q hflS rfl ?_
    refine h_val rfl (.int .i64 (f : Int)) (fun b w hb hH => exec_load rfl rfl (reads_one ty_api_Errno rfl) (hH.row 0 rfl) hb) ?_
    refine h_q hflS rfl ?_
    refine h_done (d_ret ?_)
    exact f_fin1 (.tmp rfl) (fun w h => tells () (by rw [hr]) [0, 1] rfl h (fun z hz => ⟨z, .refl _, Parts.one (RdT.mk_ rfl hR hL z hz)⟩)) rfl
end Go.Proofs.YtlkknncndgamdaaDoor.Sep

namespace Go.Proofs.YtlkknncndgamdaaDoor.Sep
open Go.RowKit
open Go.Proofs.YtlkknncndgamdaaDoor.Mem (Dist Blk Chg below0)

theorem take_step {s : List UInt8} {x : UInt8} {i : Nat} {l L L' : List UInt8} (hx : s[i]? = some x) (hL : L = l ++ s.take i) (hr : L ++ [UInt8.ofNat ((x.toNat : Nat) : Int).toNat] = L') : L' = l ++ s.take (i + 1) := by
  have e : UInt8.ofNat ((x.toNat : Nat) : Int).toNat = x := by rw [Int.toNat_natCast]; simp
  rw [← hr, e, hL, List.take_add_one, hx, List.append_assoc]; rfl

set_option maxRecDepth 100000 in
theorem layName_does (g : Nat) (l s r : List UInt8) (hr : l ++ s = r) (hl : l.length + s.length + 1 ≤ 140737488355328) : Does Tryd.prog 31 #[.pointer (some ⟨g, 0, none⟩), .string (bs s)] [WtT g l] (fun (_ : Unit) => .tuple #[]) (fun (_ : Unit) => [WtT g r]) := by
  refine d_ins (args := [.pointer (some ⟨g, 0, none⟩), .string (bs s)]) 16 Tryd.func31 rfl rfl rfl ?_; intro w rs
  refine d_reg ?_
  refine h_q hflS rfl ?_
  refine h_val rfl (.int .i64 (s.length : Int)) (fun b w hb hH => exec_builtin2 rfl rfl (fun cs => (fun w cs => run_len_bs Tryd.underlying9 _ _ w cs) w cs) hb) ?_
  refine h_q hflS rfl ?_
  refine h_done (d_block ?_)
  refine d_loop (α := Nat × List UInt8) (fun ⟨i, L⟩ => [(0, .pointer (some ⟨g, 0, none⟩)), (1, .string (bs s)), (6, .int .i64 (s.length : Int)), (7, .int .i64 ((i : Nat) : Int))]) (fun ⟨i, L⟩ => [WtT g L]) (fun ⟨i, L⟩ => i ≤ s.length ∧ L = l ++ s.take i) (fun ⟨i, L⟩ => s.length - i) (0, l) ⟨Nat.zero_le _, by simp⟩ ⟨rfl, rfl, rfl, rfl, trivial⟩ rfl ?_
  rintro ⟨i, L⟩ hI
  refine WC2.at_ (env' := [(0, .pointer (some ⟨g, 0, none⟩)), (1, .string (bs s)), (6, .int .i64 (s.length : Int)), (7, .int .i64 ((i : Nat) : Int))]) (rs' := [WtT g L]) ⟨rfl, rfl, rfl, rfl, trivial⟩ rfl ?_
  have hI1 : i ≤ s.length := hI.1
  have hI2 : L = l ++ s.take i := hI.2
  have hlen : L.length = l.length + i := by rw [hI2, List.length_append, List.length_take]; omega
  rcases Nat.lt_or_ge i s.length with hi | hi
  · skip
    obtain ⟨x, hx⟩ : ∃ x, s[i]? = some x := ⟨_, List.getElem?_eq_getElem hi⟩
    have hxl := UInt8.toNat_lt x
    obtain ⟨L2, hL2⟩ : ∃ L2, L ++ [UInt8.ofNat ((x.toNat : Nat) : Int).toNat] = L2 := ⟨_, rfl⟩
    refine d_reg ?_
    refine h_q hflS rfl ?_
    refine h_val rfl (.bool true) (fun b w hb hH => exec_cmp rfl rfl rfl (cmp_lss_t (by omega)) hb) ?_
    refine h_done (d_seq (d_then rfl (d_skip (f_to (d_seq (d_block (d_reg ?_)))))))
    refine h_q hflS rfl ?_
    refine h_done (d_reg1 ?_)
    refine h_q hflS rfl ?_
    refine h_val rfl (.int .u8 (x.toNat : Int)) (fun b w hb hH => by exact exec_index (i := (i)) Tryd.underlying9 hx rfl rfl rfl hb) ?_
    refine h_act (post := fun _ => [WtT g L2]) rfl (a_does (os' := fun _ => [WtT g L2]) [0] 0 (ent_of Tryd.func28 (by kernel_rfl) rfl) (wt_byte g L (x.toNat : Int) (by omega) L2 hL2 (by omega)) rfl rfl rfl (fun _ => rfl) rfl rfl rfl) ?_; rintro ⟨⟩
    refine h_nil (f_block (f_to (d_reg1 ?_)))
    refine h_q hflS rfl ?_
    refine h_val rfl (.int .i64 ((i + 1 : Nat) : Int)) (fun b w hb hH => exec_ar rfl rfl rfl rfl (by rw [IntWalk.i64_in _ (by omega)]; omega) hb) ?_
    refine h_q hflS rfl ?_
    refine h_nil ?_
    exact f_again (i + 1, L2) 0 ⟨hi, take_step hx hI2 hL2⟩ (show s.length - (i + 1) < s.length - i by omega) ⟨rfl, rfl, rfl, rfl, trivial⟩ rfl
  · skip
    obtain rfl : L = r := by rw [hI2, List.take_of_length_le hi]; exact hr
    refine d_reg ?_
    refine h_q hflS rfl ?_
    refine h_val rfl (.bool false) (fun b w hb hH => exec_cmp rfl rfl rfl (cmp_lss_f (by omega)) hb) ?_
    refine h_done (d_seq (d_else rfl (d_exit (f_then_exit (f_then_exit (f_block_exit ?_))))))
    exact f_fin0n  (fun w h => tells () rfl [0] rfl h same_parts) rfl

set_option maxRecDepth 100000 in
theorem layAmount_does (g : Nat) (l : List UInt8) (hi lo sc : Int) (h1 : I64 hi) (h2 : U64 lo) (h3 : 0 ≤ sc ∧ sc ≤ 18) (r : List UInt8) (hr : l ++ layD hi lo sc = r) (hl : l.length + 40 ≤ 140737488355328) : Does Tryd.prog 30 #[.pointer (some ⟨g, 0, none⟩), .agg #[.int .i64 hi, .int .u64 lo, .int .i64 sc]] [WtT g l] (fun (_ : Unit) => .tuple #[]) (fun (_ : Unit) => [WtT g r]) := by
  have hz := zig_len h1
  obtain ⟨l1, e1⟩ : ∃ l1, l ++ [UInt8.ofNat sc.toNat] = l1 := ⟨_, rfl⟩
  obtain ⟨l2, e2⟩ : ∃ l2, l1 ++ vlay (zig hi) = l2 := ⟨_, rfl⟩
  have e3 : l2 ++ layU lo = r := by rw [← hr, ← e2, ← e1]; simp [layD]
  have n1 : l1.length = l.length + 1 := by rw [← e1]; simp
  have n2 : l2.length = l1.length + (vlay (zig hi)).length := by rw [← e2]; simp
  have h31 := h3.1
  have h32 := h3.2
  refine d_ins (args := [.pointer (some ⟨g, 0, none⟩), .agg #[.int .i64 hi, .int .u64 lo, .int .i64 sc]]) 19 Tryd.func30 rfl rfl rfl ?_; intro w rs
  refine d_reg ?_
  refine h_q hflS rfl ?_
  refine h_act (post := fun g1 => [cell g1 26 #[.int .i64 hi, .int .u64 lo, .int .i64 sc], WtT g l]) rfl (a_box (cs := #[.int .i64 hi, .int .u64 lo, .int .i64 sc]) rfl rfl rfl) ?_; rintro g1
  refine h_done (d_reg ?_)
  refine h_q hflS rfl ?_
  refine h_val rfl (.int .i64 sc) (fun b w hb hH => exec_load rfl rfl (reads_one ty_int rfl) (hH.row 0 rfl) hb) ?_
  refine h_val rfl (.int .u8 sc) (fun b w hb hH => by exact exec_conv Tryd.underlying3 Tryd.underlying5 (IntWalk.u8_in _ (by omega)) rfl rfl hb) ?_
  refine h_act (post := fun _ => [cell g1 26 #[.int .i64 hi, .int .u64 lo, .int .i64 sc], WtT g l1]) rfl (a_does (os' := fun _ => [cell g1 26 #[.int .i64 hi, .int .u64 lo, .int .i64 sc], WtT g l1]) [1] 0 (ent_of Tryd.func28 (by kernel_rfl) rfl) (wt_byte g l sc (by omega) l1 e1 (by omega)) rfl rfl rfl (fun _ => rfl) rfl rfl rfl) ?_; rintro ⟨⟩
  refine h_done (d_reg ?_)
  refine h_q hflS rfl ?_
  refine h_val rfl (.int .i64 hi) (fun b w hb hH => exec_load rfl rfl (reads_one ty_int64 rfl) (hH.row 0 rfl) hb) ?_
  refine h_act (post := fun _ => [cell g1 26 #[.int .i64 hi, .int .u64 lo, .int .i64 sc], WtT g l2]) rfl (a_does (os' := fun _ => [cell g1 26 #[.int .i64 hi, .int .u64 lo, .int .i64 sc], WtT g l2]) [1] 0 (ent_of Tryd.func44 (by kernel_rfl) rfl) (wt_int g l1 hi h1 l2 e2 (by omega)) rfl rfl rfl (fun _ => rfl) rfl rfl rfl) ?_; rintro ⟨⟩
  refine h_done (d_reg1 ?_)
  refine h_q hflS rfl ?_
  refine h_val rfl (.int .u64 lo) (fun b w hb hH => exec_load rfl rfl (reads_one ty_uint64 rfl) (hH.row 0 rfl) hb) ?_
  refine h_act (post := fun _ => [cell g1 26 #[.int .i64 hi, .int .u64 lo, .int .i64 sc], WtT g r]) rfl (a_does (os' := fun _ => [cell g1 26 #[.int .i64 hi, .int .u64 lo, .int .i64 sc], WtT g r]) [1] 0 (ent_of Tryd.func29 (by kernel_rfl) rfl) (wt_num g l2 lo h2 r e3 (by omega)) rfl rfl rfl (fun _ => rfl) rfl rfl rfl) ?_; rintro ⟨⟩
  refine h_nil ?_
  exact f_fin0n  (fun w h => tells () rfl [1] rfl h same_parts) rfl

set_option maxRecDepth 100000 in
theorem readName_does (g : Nat) (l : List UInt8) (f : Nat) (R : List UInt8 × List UInt8 × Nat) (h : rnam l f = R) : Does Tryd.prog 55 #[.pointer (some ⟨g, 0, none⟩)] [RdT g l f] (fun (_ : Unit) => .string (bs R.1)) (fun (_ : Unit) => [RdT g R.2.1 R.2.2]) := by
  obtain ⟨x0, l1, f1, h1⟩ := byteR 90 l f
  obtain ⟨x1, l2, f2, h2⟩ := byteR 90 l1 f1
  obtain ⟨x2, l3, f3, h3⟩ := byteR 90 l2 f2
  obtain rfl : R = ([x0, x1, x2], l3, f3) := by
    rw [← h, rnam_of h1 h2 h3]
    simp
  refine d_ins (args := [.pointer (some ⟨g, 0, none⟩)]) 15 Tryd.func55 rfl rfl rfl ?_; intro w rs
  refine d_reg ?_
  refine h_q hflS rfl ?_
  refine h_done (d_reg ?_)
  refine h_q hflS rfl ?_
  refine h_act (post := fun gb => [cell gb 93 #[.int .u8 0, .int .u8 0, .int .u8 0], RdT g l f]) rfl (a_alloc ze_of_3_uint8 rfl) ?_; rintro gb
  refine h_done (d_seq (d_reg ?_))
  refine h_q hflS rfl ?_
  refine h_done (d_block ?_)
  refine d_rounds 4 (r_step ?_)
  refine d_reg ?_
  refine h_q hflS rfl ?_
  refine h_val rfl (.bool true) (fun b w hb hH => exec_cmp rfl rfl rfl (cmp_lss_t (by decide)) hb) ?_
  refine h_done (d_seq (d_then rfl (d_skip (f_to (d_seq (d_block (d_reg ?_)))))))
  refine h_q hflS rfl ?_
  refine h_done (d_reg1 ?_)
  refine h_q hflS rfl ?_
  refine h_act (post := fun _ => [cell gb 93 #[.int .u8 0, .int .u8 0, .int .u8 0], RdT g l1 f1]) rfl (a_does (os' := fun _ => [cell gb 93 #[.int .u8 0, .int .u8 0, .int .u8 0], RdT g l1 f1]) [1] 0 (ent_of Tryd.func52 (by kernel_rfl) rfl) (rd_byte g l f 90 (by decide) (x0.toNat, l1, f1) h1) rfl rfl rfl (fun _ => rfl) rfl rfl rfl) ?_; rintro ⟨⟩
  refine h_val rfl (.pointer (some ⟨gb, 0, none⟩)) (fun b w hb hH => exec_idx (off := 0) (k := 0) (ix_of_3_uint8 0 (by decide)) rfl rfl rfl hb) ?_
  refine h_acts (post := fun _ => [cell gb 93 #[.int .u8 (x0.toNat : Int), .int .u8 0, .int .u8 0], RdT g l1 f1]) rfl rfl (a_store 0 (v := .int .u8 (x0.toNat : Int)) #[.int .u8 (x0.toNat : Int), .int .u8 0, .int .u8 0] ty_uint8.2 rfl rfl rfl rfl rfl rfl rfl rfl rfl) ?_; rintro ⟨⟩
  refine h_nil (f_block (f_to (d_reg1 ?_)))
  refine h_q hflS rfl ?_
  refine h_val rfl (.int .i64 1) (fun b w hb hH => exec_ar rfl rfl rfl rfl (by decide) hb) ?_
  refine h_q hflS rfl ?_
  refine h_nil ?_
  refine f_next (r_step ?_)
  refine d_reg ?_
  refine h_q hflS rfl ?_
  refine h_val rfl (.bool true) (fun b w hb hH => exec_cmp rfl rfl rfl (cmp_lss_t (by decide)) hb) ?_
  refine h_done (d_seq (d_then rfl (d_skip (f_to (d_seq (d_block (d_reg ?_)))))))
  refine h_q hflS rfl ?_
  refine h_done (d_reg1 ?_)
  refine h_q hflS rfl ?_
  refine h_act (post := fun _ => [cell gb 93 #[.int .u8 (x0.toNat : Int), .int .u8 0, .int .u8 0], RdT g l2 f2]) rfl (a_does (os' := fun _ => [cell gb 93 #[.int .u8 (x0.toNat : Int), .int .u8 0, .int .u8 0], RdT g l2 f2]) [1] 0 (ent_of Tryd.func52 (by kernel_rfl) rfl) (rd_byte g l1 f1 90 (by decide) (x1.toNat, l2, f2) h2) rfl rfl rfl (fun _ => rfl) rfl rfl rfl) ?_; rintro ⟨⟩
  refine h_val rfl (.pointer (some ⟨gb, 1, none⟩)) (fun b w hb hH => exec_idx (off := 0) (k := 1) (ix_of_3_uint8 1 (by decide)) rfl rfl rfl hb) ?_
  refine h_acts (post := fun _ => [cell gb 93 #[.int .u8 (x0.toNat : Int), .int .u8 (x1.toNat : Int), .int .u8 0], RdT g l2 f2]) rfl rfl (a_store 0 (v := .int .u8 (x1.toNat : Int)) #[.int .u8 (x0.toNat : Int), .int .u8 (x1.toNat : Int), .int .u8 0] ty_uint8.2 rfl rfl rfl rfl rfl rfl rfl rfl rfl) ?_; rintro ⟨⟩
  refine h_nil (f_block (f_to (d_reg1 ?_)))
  refine h_q hflS rfl ?_
  refine h_val rfl (.int .i64 2) (fun b w hb hH => exec_ar rfl rfl rfl rfl (by decide) hb) ?_
  refine h_q hflS rfl ?_
  refine h_nil ?_
  refine f_next (r_step ?_)
  refine d_reg ?_
  refine h_q hflS rfl ?_
  refine h_val rfl (.bool true) (fun b w hb hH => exec_cmp rfl rfl rfl (cmp_lss_t (by decide)) hb) ?_
  refine h_done (d_seq (d_then rfl (d_skip (f_to (d_seq (d_block (d_reg ?_)))))))
  refine h_q hflS rfl ?_
  refine h_done (d_reg1 ?_)
  refine h_q hflS rfl ?_
  refine h_act (post := fun _ => [cell gb 93 #[.int .u8 (x0.toNat : Int), .int .u8 (x1.toNat : Int), .int .u8 0], RdT g l3 f3]) rfl (a_does (os' := fun _ => [cell gb 93 #[.int .u8 (x0.toNat : Int), .int .u8 (x1.toNat : Int), .int .u8 0], RdT g l3 f3]) [1] 0 (ent_of Tryd.func52 (by kernel_rfl) rfl) (rd_byte g l2 f2 90 (by decide) (x2.toNat, l3, f3) h3) rfl rfl rfl (fun _ => rfl) rfl rfl rfl) ?_; rintro ⟨⟩
  refine h_val rfl (.pointer (some ⟨gb, 2, none⟩)) (fun b w hb hH => exec_idx (off := 0) (k := 2) (ix_of_3_uint8 2 (by decide)) rfl rfl rfl hb) ?_
  refine h_acts (post := fun _ => [cell gb 93 #[.int .u8 (x0.toNat : Int), .int .u8 (x1.toNat : Int), .int .u8 (x2.toNat : Int)], RdT g l3 f3]) rfl rfl (a_store 0 (v := .int .u8 (x2.toNat : Int)) #[.int .u8 (x0.toNat : Int), .int .u8 (x1.toNat : Int), .int .u8 (x2.toNat : Int)] ty_uint8.2 rfl rfl rfl rfl rfl rfl rfl rfl rfl) ?_; rintro ⟨⟩
  refine h_nil (f_block (f_to (d_reg1 ?_)))
  refine h_q hflS rfl ?_
  refine h_val rfl (.int .i64 3) (fun b w hb hH => exec_ar rfl rfl rfl rfl (by decide) hb) ?_
  refine h_q hflS rfl ?_
  refine h_nil ?_
  refine f_next (r_step ?_)
  refine d_reg ?_
  refine h_q hflS rfl ?_
  refine h_val rfl (.bool false) (fun b w hb hH => exec_cmp rfl rfl rfl (cmp_lss_f (by decide)) hb) ?_
  refine h_done (d_seq (d_else rfl (d_exit (f_then_exit (f_then_exit (f_block_exit (f_to (d_reg ?_))))))))
  refine h_q hflS rfl ?_
  refine h_val rfl (.slice (some ⟨gb, 0, none⟩) 3 3) (fun b w hb hH => exec_sub_arr (fun w => by kernel_rfl) rfl rfl hb) ?_
  refine h_val rfl (.string (bs ([x0, x1, x2]))) (fun b w hb hH => exec_str3 0 Tryd.underlying33 Tryd.underlying5 (by kernel_rfl) Tryd.underlying9 rfl rfl rfl hH hb) ?_
  refine h_q hflS rfl ?_
  refine h_done (d_ret ?_)
  exact f_fin1 (.tmp rfl) (fun w h => tells () rfl [1] rfl h same_parts) rfl

set_option maxRecDepth 100000 in
theorem readAmount_does (g : Nat) (l : List UInt8) (f : Nat) (R : (Int × Nat × Nat) × List UInt8 × Nat) (h : rdec l f = R) : Does Tryd.prog 54 #[.pointer (some ⟨g, 0, none⟩)] [RdT g l f] (fun (_ : Unit) => .agg #[.int .i64 R.1.1, .int .u64 (R.1.2.1 : Int), .int .i64 (R.1.2.2 : Int)]) (fun (_ : Unit) => [RdT g R.2.1 R.2.2]) := by
  obtain ⟨x0, l1, f1, h1⟩ := byteR 18 l f
  obtain ⟨⟨i0, l2, f2⟩, h2⟩ : ∃ R, rint l1 f1 = R := ⟨_, rfl⟩
  obtain ⟨⟨n0, l3, f3⟩, h3⟩ : ∃ R, rnum 18446744073709551615 l2 f2 = R := ⟨_, rfl⟩
  have hx0 := UInt8.toNat_lt x0
  obtain rfl : R = ((i0, n0, x0.toNat), l3, f3) := by rw [← h]; exact rdec_of h1 h2 h3
  refine d_ins (args := [.pointer (some ⟨g, 0, none⟩)]) 16 Tryd.func54 rfl rfl rfl ?_; intro w rs
  refine d_reg ?_
  refine h_q hflS rfl ?_
  refine h_act (post := fun g1 => [cell g1 26 #[.int .i64 0, .int .u64 0, .int .i64 0], RdT g l f]) rfl (a_alloc ze_api_Dec rfl) ?_; rintro g1
  refine h_done (d_reg ?_)
  refine h_q hflS rfl ?_
  refine h_act (post := fun _ => [cell g1 26 #[.int .i64 0, .int .u64 0, .int .i64 0], RdT g l1 f1]) rfl (a_does (os' := fun _ => [cell g1 26 #[.int .i64 0, .int .u64 0, .int .i64 0], RdT g l1 f1]) [1] 0 (ent_of Tryd.func52 (by kernel_rfl) rfl) (rd_byte g l f 18 (by decide) (x0.toNat, l1, f1) h1) rfl rfl rfl (fun _ => rfl) rfl rfl rfl) ?_; rintro ⟨⟩
  refine h_val rfl (.int .i64 (x0.toNat : Int)) (fun b w hb hH => by exact exec_conv Tryd.underlying5 Tryd.underlying3 (IntWalk.i64_in _ (by omega)) rfl rfl hb) ?_
  refine h_q hflS rfl ?_
  refine h_acts (post := fun _ => [cell g1 26 #[.int .i64 0, .int .u64 0, .int .i64 (x0.toNat : Int)], RdT g l1 f1]) rfl rfl (a_store 0 (v := .int .i64 (x0.toNat : Int)) #[.int .i64 0, .int .u64 0, .int .i64 (x0.toNat : Int)] ty_int.2 rfl rfl rfl rfl rfl rfl rfl rfl rfl) ?_; rintro ⟨⟩
  refine h_done (d_reg ?_)
  refine h_q hflS rfl ?_
  refine h_act (post := fun _ => [cell g1 26 #[.int .i64 0, .int .u64 0, .int .i64 (x0.toNat : Int)], RdT g l2 f2]) rfl (a_does (os' := fun _ => [cell g1 26 #[.int .i64 0, .int .u64 0, .int .i64 (x0.toNat : Int)], RdT g l2 f2]) [1] 0 (ent_of Tryd.func59 (by kernel_rfl) rfl) (rd_int g l1 f1 (i0, l2, f2) h2) rfl rfl rfl (fun _ => rfl) rfl rfl rfl) ?_; rintro ⟨⟩
  refine h_q hflS rfl ?_
  refine h_acts (post := fun _ => [cell g1 26 #[.int .i64 i0, .int .u64 0, .int .i64 (x0.toNat : Int)], RdT g l2 f2]) rfl rfl (a_store 0 (v := .int .i64 i0) #[.int .i64 i0, .int .u64 0, .int .i64 (x0.toNat : Int)] ty_int64.2 rfl rfl rfl rfl rfl rfl rfl rfl rfl) ?_; rintro ⟨⟩
  refine h_done (d_reg ?_)
  refine h_q hflS rfl ?_
  refine h_act (post := fun _ => [cell g1 26 #[.int .i64 i0, .int .u64 0, .int .i64 (x0.toNat : Int)], RdT g l3 f3]) rfl (a_does (os' := fun _ => [cell g1 26 #[.int .i64 i0, .int .u64 0, .int .i64 (x0.toNat : Int)], RdT g l3 f3]) [1] 0 (ent_of Tryd.func53 (by kernel_rfl) rfl) (rd_num g l2 f2 18446744073709551615 (by decide) (n0, l3, f3) h3) rfl rfl rfl (fun _ => rfl) rfl rfl rfl) ?_; rintro ⟨⟩
  refine h_q hflS rfl ?_
  refine h_acts (post := fun _ => [cell g1 26 #[.int .i64 i0, .int .u64 (n0 : Int), .int .i64 (x0.toNat : Int)], RdT g l3 f3]) rfl rfl (a_store 0 (v := .int .u64 (n0 : Int)) #[.int .i64 i0, .int .u64 (n0 : Int), .int .i64 (x0.toNat : Int)] ty_uint64.2 rfl rfl rfl rfl rfl rfl rfl rfl rfl) ?_; rintro ⟨⟩
  refine h_done (d_reg ?_)
  refine h_q hflS rfl ?_
  refine h_val rfl (.agg #[.int .i64 i0, .int .u64 (n0 : Int), .int .i64 (x0.toNat : Int)]) (fun b w hb hH => exec_load rfl rfl (reads_agg (cs := [.int .i64 i0, .int .u64 (n0 : Int), .int .i64 (x0.toNat : Int)]) ty_api_Dec rfl) (hH.row 0 rfl) hb) ?_
  refine h_acts (post := fun _ => [cell g1 26 #[.int .i64 i0, .int .u64 (n0 : Int), .int .i64 (x0.toNat : Int)], RdT g l3 f3]) rfl rfl (a_store 0 (v := .agg #[.int .i64 i0, .int .u64 (n0 : Int), .int .i64 (x0.toNat : Int)]) #[.int .i64 i0, .int .u64 (n0 : Int), .int .i64 (x0.toNat : Int)] ty_api_Dec.2 rfl rfl rfl rfl rfl rfl rfl rfl rfl) ?_; rintro ⟨⟩
  refine h_done (d_ret ?_)
  exact f_fin1 (.cell 0 (v := .agg #[.int .i64 i0, .int .u64 (n0 : Int), .int .i64 (x0.toNat : Int)]) (reads_agg (cs := [.int .i64 i0, .int .u64 (n0 : Int), .int .i64 (x0.toNat : Int)]) ty_api_Dec rfl) rfl rfl) (fun w h => tells () rfl [1] rfl h same_parts) rfl

set_option maxRecDepth 100000 in
theorem letters_does (u : World) (B : Value) (b0 : List UInt8) (hB : Sl8 u B b0) (hb0 : b0.length ≤ 140737488355328) (g : Nat) (l : List UInt8) (f : Nat) (R : List UInt8 × List UInt8 × Nat) (h : rnam l f = R) : DoesU u Tryd.prog 50 #[.pointer (some ⟨g, 0, none⟩)] [RrT B b0 g l f] (fun (_ : Unit) => .string (bs R.1)) (fun (_ : Unit) => [RrT B b0 g R.2.1 R.2.2]) := by
  obtain ⟨x0, l1, f1, h1⟩ := byteR 90 l f
  obtain ⟨x1, l2, f2, h2⟩ := byteR 90 l1 f1
  obtain ⟨x2, l3, f3, h3⟩ := byteR 90 l2 f2
  obtain rfl : R = ([x0, x1, x2], l3, f3) := by
    rw [← h, rnam_of h1 h2 h3]
    simp
  refine d_insU (args := [.pointer (some ⟨g, 0, none⟩)]) 16 Tryd.func50 rfl rfl rfl ?_; intro w rs hU hS
  refine d_nilvec 5 1 encB ?_
  refine d_reg ?_
  refine h_q hflS rfl ?_
  refine h_done (d_reg ?_)
  refine h_q hflS rfl ?_
  refine h_done (d_seq (d_reg ?_))
  refine h_q hflS rfl ?_
  refine h_done (d_block ?_)
  refine d_rounds 4 (r_step ?_)
  refine d_seq (d_reg ?_)
  refine h_q hflS rfl ?_
  refine h_val rfl (.bool true) (fun b w hb hH => exec_cmp rfl rfl rfl (cmp_lss_t (by decide)) hb) ?_
  refine h_done (d_then rfl (d_skip (f_to (d_seq (d_block (d_reg1 ?_))))))
  refine h_q hflS rfl ?_
  refine h_act (post := fun _ => [Vec 5 1 encB (.slice none 0 0) ([]), RrT B b0 g l1 f1]) rfl (a_doesU hU hS (os' := fun _ => [Vec 5 1 encB (.slice none 0 0) ([]), RrT B b0 g l1 f1]) [1] 0 (ent_of Tryd.func47 (by kernel_rfl) rfl) (rr_byte hB hb0 90 (by decide) (x0.toNat, l1, f1) h1) rfl rfl rfl (fun _ => rfl) rfl rfl rfl) ?_; rintro ⟨⟩
  refine h_act (X := Value) (val := fun v : Value => v) (post := fun u1 => [Vec 5 1 encB u1 ([x0]), Vec 5 1 encB (.slice none 0 0) ([]), RrT B b0 g l1 f1]) rfl (by refine a_build1 (e := 5) (t := 33) (enc := encB) (x := .tmp 11) (c := .int .u8 ((x0).toNat : Int)) ?_ ?_ x0 ?_ ?_ ?_; exact sl_uint8; exact okB; exact rfl; exact rfl; exact rfl) ?_; rintro u1
  refine h_act (post := fun u2 => [Vec 5 1 encB u1 ([x0]), Vec 5 1 encB u2 ([x0]), RrT B b0 g l1 f1]) rfl (a_append 1 sl_uint8 okB rfl ([x0]) (fun w hH => hH.vec 0 rfl okB) (by simp) rfl rfl rfl rfl) ?_; rintro u2
  refine h_q hflS rfl ?_
  refine h_nil (f_block (f_to (d_reg1 ?_)))
  refine h_q hflS rfl ?_
  refine h_val rfl (.int .i64 1) (fun b w hb hH => exec_ar rfl rfl rfl rfl (by decide) hb) ?_
  refine h_q hflS rfl ?_
  refine h_nil ?_
  refine f_next (r_step ?_)
  refine d_seq (d_reg ?_)
  refine h_q hflS rfl ?_
  refine h_val rfl (.bool true) (fun b w hb hH => exec_cmp rfl rfl rfl (cmp_lss_t (by decide)) hb) ?_
  refine h_done (d_then rfl (d_skip (f_to (d_seq (d_block (d_reg1 ?_))))))
  refine h_q hflS rfl ?_
  refine h_act (post := fun _ => [Vec 5 1 encB u1 ([x0]), Vec 5 1 encB u2 ([x0]), RrT B b0 g l2 f2]) rfl (a_doesU hU hS (os' := fun _ => [Vec 5 1 encB u1 ([x0]), Vec 5 1 encB u2 ([x0]), RrT B b0 g l2 f2]) [2] 0 (ent_of Tryd.func47 (by kernel_rfl) rfl) (rr_byte hB hb0 90 (by decide) (x1.toNat, l2, f2) h2) rfl rfl rfl (fun _ => rfl) rfl rfl rfl) ?_; rintro ⟨⟩
  refine h_act (X := Value) (val := fun v : Value => v) (post := fun u3 => [Vec 5 1 encB u3 ([x1]), Vec 5 1 encB u1 ([x0]), Vec 5 1 encB u2 ([x0]), RrT B b0 g l2 f2]) rfl (by refine a_build1 (e := 5) (t := 33) (enc := encB) (x := .tmp 11) (c := .int .u8 ((x1).toNat : Int)) ?_ ?_ x1 ?_ ?_ ?_; exact sl_uint8; exact okB; exact rfl; exact rfl; exact rfl) ?_; rintro u3
  refine h_act (post := fun u4 => [Vec 5 1 encB u3 ([x1]), Vec 5 1 encB u1 ([x0]), Vec 5 1 encB u4 ([x0, x1]), RrT B b0 g l2 f2]) rfl (a_append 2 sl_uint8 okB rfl ([x1]) (fun w hH => hH.vec 0 rfl okB) (by simp) rfl rfl rfl rfl) ?_; rintro u4
  refine h_q hflS rfl ?_
  refine h_nil (f_block (f_to (d_reg1 ?_)))
  refine h_q hflS rfl ?_
  refine h_val rfl (.int .i64 2) (fun b w hb hH => exec_ar rfl rfl rfl rfl (by decide) hb) ?_
  refine h_q hflS rfl ?_
  refine h_nil ?_
  refine f_next (r_step ?_)
  refine d_seq (d_reg ?_)
  refine h_q hflS rfl ?_
  refine h_val rfl (.bool true) (fun b w hb hH => exec_cmp rfl rfl rfl (cmp_lss_t (by decide)) hb) ?_
  refine h_done (d_then rfl (d_skip (f_to (d_seq (d_block (d_reg1 ?_))))))
  refine h_q hflS rfl ?_
  refine h_act (post := fun _ => [Vec 5 1 encB u3 ([x1]), Vec 5 1 encB u1 ([x0]), Vec 5 1 encB u4 ([x0, x1]), RrT B b0 g l3 f3]) rfl (a_doesU hU hS (os' := fun _ => [Vec 5 1 encB u3 ([x1]), Vec 5 1 encB u1 ([x0]), Vec 5 1 encB u4 ([x0, x1]), RrT B b0 g l3 f3]) [3] 0 (ent_of Tryd.func47 (by kernel_rfl) rfl) (rr_byte hB hb0 90 (by decide) (x2.toNat, l3, f3) h3) rfl rfl rfl (fun _ => rfl) rfl rfl rfl) ?_; rintro ⟨⟩
  refine h_act (X := Value) (val := fun v : Value => v) (post := fun u5 => [Vec 5 1 encB u5 ([x2]), Vec 5 1 encB u3 ([x1]), Vec 5 1 encB u1 ([x0]), Vec 5 1 encB u4 ([x0, x1]), RrT B b0 g l3 f3]) rfl (by refine a_build1 (e := 5) (t := 33) (enc := encB) (x := .tmp 11) (c := .int .u8 ((x2).toNat : Int)) ?_ ?_ x2 ?_ ?_ ?_; exact sl_uint8; exact okB; exact rfl; exact rfl; exact rfl) ?_; rintro u5
  refine h_act (post := fun u6 => [Vec 5 1 encB u5 ([x2]), Vec 5 1 encB u3 ([x1]), Vec 5 1 encB u1 ([x0]), Vec 5 1 encB u6 ([x0, x1, x2]), RrT B b0 g l3 f3]) rfl (a_append 3 sl_uint8 okB rfl ([x2]) (fun w hH => hH.vec 0 rfl okB) (by simp) rfl rfl rfl rfl) ?_; rintro u6
  refine h_q hflS rfl ?_
  refine h_nil (f_block (f_to (d_reg1 ?_)))
  refine h_q hflS rfl ?_
  refine h_val rfl (.int .i64 3) (fun b w hb hH => exec_ar rfl rfl rfl rfl (by decide) hb) ?_
  refine h_q hflS rfl ?_
  refine h_nil ?_
  refine f_next (r_step ?_)
  refine d_seq (d_reg ?_)
  refine h_q hflS rfl ?_
  refine h_val rfl (.bool false) (fun b w hb hH => exec_cmp rfl rfl rfl (cmp_lss_f (by decide)) hb) ?_
  refine h_done (d_else rfl (d_exit (f_then_exit (f_then_exit (f_block_exit (f_to (d_reg ?_)))))))
  refine h_q hflS rfl ?_
  refine h_val rfl (.string (bs ([x0, x1, x2]))) (fun b w hb hH => exec_str8 Tryd.underlying33 Tryd.underlying5 (by kernel_rfl) Tryd.underlying9 (hH.sl8 3 rfl) rfl rfl hb) ?_
  refine h_q hflS rfl ?_
  refine h_done (d_ret ?_)
  exact f_fin1 (.tmp rfl) (fun w h => tells () rfl [4] rfl h same_parts) rfl

set_option maxRecDepth 100000 in
theorem rReadAmount_does (u : World) (B : Value) (b0 : List UInt8) (hB : Sl8 u B b0) (hb0 : b0.length ≤ 140737488355328) (g : Nat) (l : List UInt8) (f : Nat) (R : (Int × Nat × Nat) × List UInt8 × Nat) (h : rdec l f = R) : DoesU u Tryd.prog 49 #[.pointer (some ⟨g, 0, none⟩)] [RrT B b0 g l f] (fun (_ : Unit) => .agg #[.int .i64 R.1.1, .int .u64 (R.1.2.1 : Int), .int .i64 (R.1.2.2 : Int)]) (fun (_ : Unit) => [RrT B b0 g R.2.1 R.2.2]) := by
  obtain ⟨x0, l1, f1, h1⟩ := byteR 18 l f
  obtain ⟨⟨i0, l2, f2⟩, h2⟩ : ∃ R, rint l1 f1 = R := ⟨_, rfl⟩
  obtain ⟨⟨n0, l3, f3⟩, h3⟩ : ∃ R, rnum 18446744073709551615 l2 f2 = R := ⟨_, rfl⟩
  have hx0 := UInt8.toNat_lt x0
  obtain rfl : R = ((i0, n0, x0.toNat), l3, f3) := by rw [← h]; exact rdec_of h1 h2 h3
  refine d_insU (args := [.pointer (some ⟨g, 0, none⟩)]) 16 Tryd.func49 rfl rfl rfl ?_; intro w rs hU hS
  refine d_reg ?_
  refine h_q hflS rfl ?_
  refine h_act (post := fun g1 => [cell g1 26 #[.int .i64 0, .int .u64 0, .int .i64 0], RrT B b0 g l f]) rfl (a_alloc ze_api_Dec rfl) ?_; rintro g1
  refine h_done (d_reg ?_)
  refine h_q hflS rfl ?_
  refine h_act (post := fun _ => [cell g1 26 #[.int .i64 0, .int .u64 0, .int .i64 0], RrT B b0 g l1 f1]) rfl (a_doesU hU hS (os' := fun _ => [cell g1 26 #[.int .i64 0, .int .u64 0, .int .i64 0], RrT B b0 g l1 f1]) [1] 0 (ent_of Tryd.func47 (by kernel_rfl) rfl) (rr_byte hB hb0 18 (by decide) (x0.toNat, l1, f1) h1) rfl rfl rfl (fun _ => rfl) rfl rfl rfl) ?_; rintro ⟨⟩
  refine h_val rfl (.int .i64 (x0.toNat : Int)) (fun b w hb hH => by exact exec_conv Tryd.underlying5 Tryd.underlying3 (IntWalk.i64_in _ (by omega)) rfl rfl hb) ?_
  refine h_q hflS rfl ?_
  refine h_done (d_reg ?_)
  refine h_q hflS rfl ?_
  refine h_act (post := fun _ => [cell g1 26 #[.int .i64 0, .int .u64 0, .int .i64 0], RrT B b0 g l2 f2]) rfl (a_doesU hU hS (os' := fun _ => [cell g1 26 #[.int .i64 0, .int .u64 0, .int .i64 0], RrT B b0 g l2 f2]) [1] 0 (ent_of Tryd.func57 (by kernel_rfl) rfl) (rr_int hB hb0 (i0, l2, f2) h2) rfl rfl rfl (fun _ => rfl) rfl rfl rfl) ?_; rintro ⟨⟩
  refine h_q hflS rfl ?_
  refine h_done (d_reg ?_)
  refine h_q hflS rfl ?_
  refine h_act (post := fun _ => [cell g1 26 #[.int .i64 0, .int .u64 0, .int .i64 0], RrT B b0 g l3 f3]) rfl (a_doesU hU hS (os' := fun _ => [cell g1 26 #[.int .i64 0, .int .u64 0, .int .i64 0], RrT B b0 g l3 f3]) [1] 0 (ent_of Tryd.func48 (by kernel_rfl) rfl) (rr_num hB hb0 18446744073709551615 (by decide) (n0, l3, f3) h3) rfl rfl rfl (fun _ => rfl) rfl rfl rfl) ?_; rintro ⟨⟩
  refine h_val rfl (.agg #[.int .i64 i0, .int .u64 (n0 : Int)]) (fun b w hb hH => exec_build rfl rfl (by kernel_rfl) hb) ?_
  refine h_q hflS rfl ?_
  refine h_val rfl (.agg #[.int .i64 i0, .int .u64 (n0 : Int), .int .i64 (x0.toNat : Int)]) (fun b w hb hH => exec_build rfl rfl (by kernel_rfl) hb) ?_
  refine h_acts (post := fun _ => [cell g1 26 #[.int .i64 i0, .int .u64 (n0 : Int), .int .i64 (x0.toNat : Int)], RrT B b0 g l3 f3]) rfl rfl (a_store 0 (v := .agg #[.int .i64 i0, .int .u64 (n0 : Int), .int .i64 (x0.toNat : Int)]) #[.int .i64 i0, .int .u64 (n0 : Int), .int .i64 (x0.toNat : Int)] ty_api_Dec.2 rfl rfl rfl rfl rfl rfl rfl rfl rfl) ?_; rintro ⟨⟩
  refine h_done (d_ret ?_)
  exact f_fin1 (.cell 0 (v := .agg #[.int .i64 i0, .int .u64 (n0 : Int), .int .i64 (x0.toNat : Int)]) (reads_agg (cs := [.int .i64 i0, .int .u64 (n0 : Int), .int .i64 (x0.toNat : Int)]) ty_api_Dec rfl) rfl rfl) (fun w h => tells () rfl [1] rfl h same_parts) rfl

set_option maxRecDepth 100000 in
theorem rAmount_does (hi lo sc : Int) (h1 : I64 hi) (h2 : U64 lo) (h3 : 0 ≤ sc ∧ sc ≤ 18) : Does Tryd.prog 34 #[.agg #[.int .i64 hi, .int .u64 lo, .int .i64 sc]] [] (fun (v : Value) => v) (fun (v : Value) => [Vec 5 1 encB v (layD hi lo sc)]) := by
  have h31 := h3.1
  have h32 := h3.2
  have hz := zig_len h1
  have hu := layU_len h2
  obtain ⟨x0, hx0⟩ : ∃ x0, UInt8.ofNat sc.toNat = x0 := ⟨_, rfl⟩
  have hx : (sc : Int) = (x0.toNat : Int) := by rw [← hx0, byte_of _ (by omega)]; omega
  refine d_ins (args := [.agg #[.int .i64 hi, .int .u64 lo, .int .i64 sc]]) 17 Tryd.func34 rfl rfl rfl ?_; intro w rs
  refine d_reg ?_
  refine h_q hflS rfl ?_
  refine h_act (post := fun g1 => [cell g1 26 #[.int .i64 hi, .int .u64 lo, .int .i64 sc]]) rfl (a_box (cs := #[.int .i64 hi, .int .u64 lo, .int .i64 sc]) rfl rfl rfl) ?_; rintro g1
  refine h_q hflS rfl ?_
  refine h_done (d_seq ?_)
  refine d_emps 3 rfl ?_
  refine d_parS 14 5 [⟨.quiet, [none, none, none, none, none], fun _ => .pointer (some ⟨g1, 2, none⟩), []⟩, ⟨.quiet, [none, none, none, none, none], fun _ => .int .i64 sc, [0]⟩, ⟨.quiet, [none, none, none, none, none], fun _ => .int .u8 (x0.toNat : Int), [1]⟩, ⟨.act 0, [some false, none, some false, some false, some false], fun _ => undef, [2]⟩, ⟨.quiet, [none, none, none, none, none], fun _ => .pointer (some ⟨g1, 0, none⟩), []⟩, ⟨.quiet, [none, none, none, none, none], fun _ => .pointer (some ⟨g1, 0, none⟩), [4]⟩, ⟨.quiet, [none, none, none, none, none], fun _ => .int .i64 hi, [5]⟩, ⟨.act 1, [none, some false, some false, some false, some false], fun _ => undef, [6]⟩, ⟨.act 2, [some true, some true, some false, some false, some false], fun _ => undef, [3, 7]⟩, ⟨.quiet, [none, none, none, none, none], fun _ => .pointer (some ⟨g1, 0, none⟩), []⟩, ⟨.quiet, [none, none, none, none, none], fun _ => .pointer (some ⟨g1, 1, none⟩), [9]⟩, ⟨.quiet, [none, none, none, none, none], fun _ => .int .u64 lo, [10]⟩, ⟨.act 3, [some true, some true, some true, some false, some false], fun _ => undef, [11]⟩, ⟨.act 4, [some true, some true, some true, some true, some false], fun _ => undef, [8, 12]⟩] [(1, .pointer (some ⟨g1, 0, none⟩)), (2, .slice none 0 0)] (fun ρ => match ρ with | [r0, r1, r2, r3, r4] => [selS r3 (fun vb => Vec 5 1 encB vb (layU lo)) (emp), selS r1 (fun va => Vec 5 1 encB va (vlay (zig hi))) (emp), selS r4 (fun u4 => Vec 5 1 encB u4 (layD hi lo sc)) (selS r2 (fun u3 => Vec 5 1 encB u3 ([x0] ++ vlay (zig hi))) (selS r0 (fun u2 => Vec 5 1 encB u2 ([x0])) (emp))), cell g1 26 #[.int .i64 hi, .int .u64 lo, .int .i64 sc]] | _ => []) (by kernel_rfl) (by kernel_rfl) ⟨rfl, rfl, trivial⟩ rfl ?_ ?_
  · skip
    refine s_cons (by intro r0_ r1_ r2_ r3_ r4_; exact ⟨rfl, fun b w hH hb => exec_q1 hflS rfl hb⟩) ?_
    refine s_cons (by intro r0_ r1_ r2_ r3_ r4_; exact ⟨rfl, fun b w hH hb => exec_load rfl rfl (reads_one ty_int rfl) (hH.row 3 rfl) hb⟩) ?_
    refine s_cons (by intro r0_ r1_ r2_ r3_ r4_; exact ⟨rfl, fun b w hH hb => by exact exec_conv Tryd.underlying3 Tryd.underlying5 (by rw [IntWalk.u8_in _ (by omega)]; exact hx) rfl rfl hb⟩) ?_
    refine s_cons (by intro r1_; exact ⟨rfl, Acts.s (Acts.place (val := fun u2 : Value => u2) (t := fun u2 => Vec 5 1 encB u2 ([x0])) (os' := fun u2 => [emp, selS r1_ (fun va => Vec 5 1 encB va (vlay (zig hi))) (emp), Vec 5 1 encB u2 ([x0]), cell g1 26 #[.int .i64 hi, .int .u64 lo, .int .i64 sc]]) 2 rfl (by refine a_build1 (e := 5) (t := 33) (enc := encB) (x := .tmp 5) (c := .int .u8 ((x0).toNat : Int)) ?_ ?_ x0 ?_ ?_ ?_; exact sl_uint8; exact okB; exact rfl; exact rfl; exact rfl) (fun _ => rfl)) (fun _ => rfl)⟩) ?_
    refine s_cons (by intro r0_ r1_ r2_ r3_ r4_; exact ⟨rfl, fun b w hH hb => exec_q1 hflS rfl hb⟩) ?_
    refine s_cons (by intro r0_ r1_ r2_ r3_ r4_; exact ⟨rfl, fun b w hH hb => exec_q1 hflS rfl hb⟩) ?_
    refine s_cons (by intro r0_ r1_ r2_ r3_ r4_; exact ⟨rfl, fun b w hH hb => exec_load rfl rfl (reads_one ty_int64 rfl) (hH.row 3 rfl) hb⟩) ?_
    refine s_cons (by intro r0_; exact ⟨rfl, Acts.s (a_does (os' := fun va => [emp, Vec 5 1 encB va (vlay (zig hi)), selS r0_ (fun u2 => Vec 5 1 encB u2 ([x0])) (emp), cell g1 26 #[.int .i64 hi, .int .u64 lo, .int .i64 sc]]) [1] 1 (ent_of Tryd.func46 (by kernel_rfl) rfl) (r1_int hi h1) rfl rfl rfl (fun _ => rfl) rfl rfl rfl) (fun _ => rfl)⟩) ?_
    refine s_cons (by intro u2 va; exact ⟨rfl, Acts.s (a_append 2 sl_uint8 okB rfl (vlay (zig hi)) (fun w hH => hH.vec 1 rfl okB) (by simp; omega) rfl rfl rfl rfl) (fun _ => rfl)⟩) ?_
    refine s_cons (by intro r0_ r1_ r2_ r3_ r4_; exact ⟨rfl, fun b w hH hb => exec_q1 hflS rfl hb⟩) ?_
    refine s_cons (by intro r0_ r1_ r2_ r3_ r4_; exact ⟨rfl, fun b w hH hb => exec_q1 hflS rfl hb⟩) ?_
    refine s_cons (by intro r0_ r1_ r2_ r3_ r4_; exact ⟨rfl, fun b w hH hb => exec_load rfl rfl (reads_one ty_uint64 rfl) (hH.row 3 rfl) hb⟩) ?_
    refine s_cons (by intro u2 va u3; exact ⟨rfl, Acts.s (a_does (os' := fun vb => [Vec 5 1 encB vb (layU lo), Vec 5 1 encB va (vlay (zig hi)), Vec 5 1 encB u3 ([x0] ++ vlay (zig hi)), cell g1 26 #[.int .i64 hi, .int .u64 lo, .int .i64 sc]]) [0] 1 (ent_of Tryd.func33 (by kernel_rfl) rfl) (r1_num lo h2) rfl rfl rfl (fun _ => rfl) rfl rfl rfl) (fun _ => rfl)⟩) ?_
    refine s_cons (by intro u2 va u3 vb; exact ⟨rfl, Acts.s (a_append 2 sl_uint8 okB rfl (layU lo) (fun w hH => hH.vec 0 rfl okB) (by simp; omega) rfl rfl rfl (by rw [← hx0]; rfl)) (fun _ => rfl)⟩) ?_
    exact s_nil
  intro u2 va u3 vb u4
  refine WL2.keep (env' := [(2, .slice none 0 0), (16, u4)]) ⟨rfl, rfl, trivial⟩ ?_
  refine h_q hflS rfl ?_
  refine h_nil (f_to (d_ret ?_))
  exact f_fin1 (.tmp rfl) (fun w h => tells u4 rfl [2] rfl h same_parts) rfl
end Go.Proofs.YtlkknncndgamdaaDoor.Sep
