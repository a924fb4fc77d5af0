/-
  RpcI · RpcJ
-/
import Derived.Test.YtnhcbjlaeaohjaaBE01
set_option linter.unusedSimpArgs false
set_option linter.unusedVariables false

namespace Go.Proofs.Ytnhcbjlaeaohjaa.Sep
open Go.RowKit
open Go.Proofs.Ytnhcbjlaeaohjaa.Mem (Dist Blk Chg below0)

set_option maxRecDepth 100000 in
theorem layBool_does (g : Nat) (l : List UInt8) (b : Bool) (r : List UInt8) (hr : l ++ [UInt8.ofNat (flagN b)] = r) (hl : l.length + 1 ≤ 140737488355328) : Does Try.prog 77 #[.pointer (some ⟨g, 0, none⟩), .bool b] [WtT g l] (fun (_ : Unit) => .tuple #[]) (fun (_ : Unit) => [WtT g r]) := by
  refine d_ins (args := [.pointer (some ⟨g, 0, none⟩), .bool b]) 9 Try.func77 rfl rfl rfl ?_; intro w rs
  cases b
  · skip
    refine d_reg ?_
    refine h_q hflS rfl ?_
    refine h_done (d_else rfl (d_reg1 ?_))
    refine h_q hflS rfl ?_
    refine h_act (post := fun _ => [WtT g r]) rfl (a_does (os' := fun _ => [WtT g r]) [0] 0 (ent_of Try.func35 (by kernel_rfl) rfl) (wt_byte g l 0 (by omega) r hr (by omega)) rfl rfl rfl (fun _ => rfl) rfl rfl rfl) ?_; rintro ⟨⟩
    refine h_nil ?_
    exact f_fin0n  (fun w h => tells () rfl [0] rfl h same_parts) rfl
  · skip
    refine d_reg ?_
    refine h_q hflS rfl ?_
    refine h_done (d_then rfl (d_reg1 ?_))
    refine h_q hflS rfl ?_
    refine h_act (post := fun _ => [WtT g r]) rfl (a_does (os' := fun _ => [WtT g r]) [0] 0 (ent_of Try.func35 (by kernel_rfl) rfl) (wt_byte g l 1 (by omega) r hr (by omega)) rfl rfl rfl (fun _ => rfl) rfl rfl rfl) ?_; rintro ⟨⟩
    refine h_nil ?_
    exact f_fin0n  (fun w h => tells () rfl [0] rfl h same_parts) rfl

set_option maxRecDepth 100000 in
theorem layBase_does (g : Nat) (l : List UInt8) (b0 b1 b2 : Int) (h0 : 0 ≤ b0 ∧ b0 ≤ 72057594037927935) (h1 : 0 ≤ b1 ∧ b1 ≤ 72057594037927935) (h2 : 0 ≤ b2 ∧ b2 ≤ 254) (r : List UInt8) (hr : l ++ layB (b0, b1, b2) = r) (hl : l.length + 40 ≤ 140737488355328) : Does Try.prog 78 #[.pointer (some ⟨g, 0, none⟩), .agg #[.int .u64 b0, .int .u64 b1, .int .i64 b2]] [WtT g l] (fun (_ : Unit) => .tuple #[]) (fun (_ : Unit) => [WtT g r]) := by
  obtain ⟨l1, hl1⟩ : ∃ l1, l ++ layU b0 = l1 := ⟨_, rfl⟩
  obtain ⟨l2, hl2⟩ : ∃ l2, l1 ++ layU b1 = l2 := ⟨_, rfl⟩
  have e3 : l2 ++ [UInt8.ofNat b2.toNat] = r := by rw [← hr, ← hl2, ← hl1]; simp [layB]
  have n0 := layU_mlen h0.2
  have n1 := layU_mlen h1.2
  have m1 : l1.length = l.length + (layU b0).length := by rw [← hl1]; simp
  have m2 : l2.length = l1.length + (layU b1).length := by rw [← hl2]; simp
  refine d_ins (args := [.pointer (some ⟨g, 0, none⟩), .agg #[.int .u64 b0, .int .u64 b1, .int .i64 b2]]) 17 Try.func78 rfl rfl rfl ?_; intro w rs
  refine d_reg ?_
  refine h_q hflS rfl ?_
  refine h_act (post := fun gb => [cell gb 25 #[.int .u64 b0, .int .u64 b1, .int .i64 b2], WtT g l]) rfl (a_box (cs := #[.int .u64 b0, .int .u64 b1, .int .i64 b2]) rfl rfl rfl) ?_; rintro gb
  refine h_done (d_reg ?_)
  refine h_q hflS rfl ?_
  refine h_val rfl (.int .u64 b0) (fun b w hb hH => exec_load rfl rfl (reads_one ty_uint64 rfl) (hH.row 0 rfl) hb) ?_
  refine h_act (post := fun _ => [cell gb 25 #[.int .u64 b0, .int .u64 b1, .int .i64 b2], WtT g l1]) rfl (a_does (os' := fun _ => [cell gb 25 #[.int .u64 b0, .int .u64 b1, .int .i64 b2], WtT g l1]) [1] 0 (ent_of Try.func44 (by kernel_rfl) rfl) (wt_num g l b0 ⟨by omega, by omega⟩ l1 hl1 (by omega)) rfl rfl rfl (fun _ => rfl) rfl rfl rfl) ?_; rintro ⟨⟩
  refine h_done (d_reg ?_)
  refine h_q hflS rfl ?_
  refine h_val rfl (.int .u64 b1) (fun b w hb hH => exec_load rfl rfl (reads_one ty_uint64 rfl) (hH.row 0 rfl) hb) ?_
  refine h_act (post := fun _ => [cell gb 25 #[.int .u64 b0, .int .u64 b1, .int .i64 b2], WtT g l2]) rfl (a_does (os' := fun _ => [cell gb 25 #[.int .u64 b0, .int .u64 b1, .int .i64 b2], WtT g l2]) [1] 0 (ent_of Try.func44 (by kernel_rfl) rfl) (wt_num g l1 b1 ⟨by omega, by omega⟩ l2 hl2 (by omega)) rfl rfl rfl (fun _ => rfl) rfl rfl rfl) ?_; rintro ⟨⟩
  refine h_done (d_reg1 ?_)
  refine h_q hflS rfl ?_
  refine h_val rfl (.int .i64 b2) (fun b w hb hH => exec_load rfl rfl (reads_one ty_int rfl) (hH.row 0 rfl) hb) ?_
  refine h_val rfl (.int .u8 b2) (fun b w hb hH => exec_conv Try.underlying3 Try.underlying5 (IntWalk.u8_in _ (by omega)) rfl rfl hb) ?_
  refine h_act (post := fun _ => [cell gb 25 #[.int .u64 b0, .int .u64 b1, .int .i64 b2], WtT g r]) rfl (a_does (os' := fun _ => [cell gb 25 #[.int .u64 b0, .int .u64 b1, .int .i64 b2], WtT g r]) [1] 0 (ent_of Try.func35 (by kernel_rfl) rfl) (wt_byte g l2 b2 (by omega) r e3 (by omega)) rfl rfl rfl (fun _ => rfl) rfl rfl rfl) ?_; rintro ⟨⟩
  refine h_nil ?_
  exact f_fin0n  (fun w h => tells () rfl [1] rfl h same_parts) rfl

theorem take_len_le {es : List EntD} {j : Nat} (h : ∀ e, e ∈ es → rightE e = true) (h4 : es.length ≤ 4) : (layEs (es.take j)).length ≤ 596 := by
  have h1 := layEs_len (es := es.take j) fun e he => h e (List.mem_of_mem_take he)
  have h2 : (es.take j).length ≤ 4 := by rw [List.length_take]; omega
  omega

set_option maxRecDepth 100000 in
theorem layEntries_does (u : World) (v : Value) (es : List EntV) (hv : EntsRd u v es) (E : List EntD) (hE : es.map (·.e) = E) (hr : ∀ e, e ∈ E → rightE e = true) (h4 : E.length ≤ 4) (g : Nat) (l r : List UInt8) (hlr : l ++ layN E = r) (hl : l.length ≤ 1000) : DoesU u Try.prog 76 #[.pointer (some ⟨g, 0, none⟩), v] [WtT g l] (fun (_ : Unit) => .tuple #[]) (fun (_ : Unit) => [WtT g r]) := by
  have hln : E.length = es.length := by rw [← hE, List.length_map]
  obtain ⟨L0, hL0⟩ : ∃ L0, l ++ vlay E.length = L0 := ⟨_, rfl⟩
  have hv0 : (vlay E.length).length ≤ 1 := by have := vlay_length_pow 0 E.length (by omega); omega
  have n0 : L0.length ≤ l.length + 1 := by rw [← hL0, List.length_append]; omega
  refine d_insU (args := [.pointer (some ⟨g, 0, none⟩), v]) 28 Try.func76 rfl rfl rfl ?_; intro w rs hU hS
  refine d_reg ?_
  refine h_q hflS rfl ?_
  refine h_val rfl (.int .i64 (es.length : Int)) (fun b w hb hH => e_slen ((argEs hv hU hS hH).1) Try.underlying23 rfl rfl hb) ?_
  refine h_val rfl (.int .u64 (es.length : Int)) (fun b w hb hH => exec_conv Try.underlying3 Try.underlying22 (IntWalk.u64_in _ (by omega)) rfl rfl hb) ?_
  refine h_act (post := fun _ => [WtT g L0]) rfl (a_does (os' := fun _ => [WtT g L0]) [0] 0 (ent_of Try.func44 (by kernel_rfl) rfl) (wt_num g l (es.length : Int) ⟨by omega, by omega⟩ L0 (by rw [← hL0, ← hln]; rfl) (by omega)) rfl rfl rfl (fun _ => rfl) rfl rfl rfl) ?_; rintro ⟨⟩
  refine h_done (d_reg ?_)
  refine h_q hflS rfl ?_
  refine h_val rfl (.int .i64 (es.length : Int)) (fun b w hb hH => e_slen ((argEs hv hU hS hH).1) Try.underlying23 rfl rfl hb) ?_
  refine h_q hflS rfl ?_
  refine h_done (d_block ?_)
  refine d_loop (α := Nat × List UInt8) (fun ⟨j, L⟩ => [(0, .pointer (some ⟨g, 0, none⟩)), (13, v), (14, .int .i64 (es.length : Int)), (15, .int .i64 ((j : Nat) : Int))]) (fun ⟨j, L⟩ => [WtT g L]) (fun ⟨j, L⟩ => j ≤ es.length ∧ L = L0 ++ layEs (E.take j)) (fun ⟨j, L⟩ => es.length - j) (0, L0) ⟨Nat.zero_le _, by simp [layEs]⟩ ⟨rfl, rfl, rfl, rfl, trivial⟩ rfl ?_
  rintro ⟨j, L⟩ hI
  refine WC2.at_ (env' := [(0, .pointer (some ⟨g, 0, none⟩)), (13, v), (14, .int .i64 (es.length : Int)), (15, .int .i64 ((j : Nat) : Int))]) (rs' := [WtT g L]) ⟨rfl, rfl, rfl, rfl, trivial⟩ rfl ?_
  have hI1 : j ≤ es.length := hI.1
  have hI2 : L = L0 ++ layEs (E.take j) := hI.2
  rcases Nat.lt_or_ge j es.length with hj | hj
  · skip
    obtain ⟨e, he⟩ : ∃ e, es[j]? = some e := ⟨_, List.getElem?_eq_getElem hj⟩
    have hm := List.mem_of_getElem? he
    have hEj : E[j]? = some e.e := by rw [← hE, List.getElem?_map, he]; rfl
    have hre : rightE e.e = true := hr e.e (List.mem_of_getElem? hEj)
    have hlen := layE_len hre
    obtain ⟨L2, hL2⟩ : ∃ L2, L ++ layT (layE e.e) = L2 := ⟨_, rfl⟩
    have hLL : L2 = L0 ++ layEs (E.take (j + 1)) := by rw [← hL2, hI2, layEs_at hEj, List.append_assoc]
    have nL : L.length ≤ l.length + 597 := by rw [hI2, List.length_append]; have := take_len_le (j := j) hr h4; omega
    refine d_reg ?_
    refine h_q hflS rfl ?_
    refine h_val rfl (.bool true) (fun b w hb hH => exec_cmp rfl rfl rfl (cmp_lss_t (by omega)) hb) ?_
    refine h_done (d_seq (d_then rfl (d_skip (f_to (d_seq (d_block (d_reg ?_)))))))
    refine h_q hflS rfl ?_
    refine h_val rfl (elp v (j * 5)) (fun b w hb hH => e_sidx okV ((argEs hv hU hS hH).1) sl_api_Entry (j := j) he rfl rfl rfl hb) ?_
    refine h_val rfl (.agg (encV e).toArray) (fun b w hb hH => e_sagg okV (by decide) ((argEs hv hU hS hH).1) (j := j) he ty_api_Entry rfl rfl hb) ?_
    refine h_act (post := fun g5 => [cell g5 36 #[.int .i64 0, .int .u64 0, .int .u64 0, .slice none 0 0, .int .i64 0], WtT g L]) rfl (a_alloc ze_api_Entry rfl) ?_; rintro g5
    refine h_acts (post := fun _ => [cell g5 36 #[.int .i64 e.e.k, .int .u64 e.e.t, .int .u64 e.e.i, e.v, .int .i64 e.e.c], WtT g L]) rfl rfl (a_store 0 (v := .agg (encV e).toArray) #[.int .i64 e.e.k, .int .u64 e.e.t, .int .u64 e.e.i, e.v, .int .i64 e.e.c] ty_api_Entry.2 rfl rfl rfl rfl rfl rfl rfl rfl rfl) ?_; rintro ⟨⟩
    refine h_done (d_reg ?_)
    refine h_q hflS rfl ?_
    refine h_val rfl (.agg #[.int .i64 e.e.k, .int .u64 e.e.t, .int .u64 e.e.i, e.v, .int .i64 e.e.c]) (fun b w hb hH => exec_load rfl rfl (reads_agg (cs := [.int .i64 e.e.k, .int .u64 e.e.t, .int .u64 e.e.i, e.v, .int .i64 e.e.c]) ty_api_Entry rfl) (hH.row 0 rfl) hb) ?_
    refine h_act (post := fun v9 => [Vec 5 1 encB v9 (layE e.e), cell g5 36 #[.int .i64 e.e.k, .int .u64 e.e.t, .int .u64 e.e.i, e.v, .int .i64 e.e.c], WtT g L]) rfl (a_doesU hU hS (os' := fun v9 => [Vec 5 1 encB v9 (layE e.e), cell g5 36 #[.int .i64 e.e.k, .int .u64 e.e.t, .int .u64 e.e.i, e.v, .int .i64 e.e.c], WtT g L]) [] 0 (ent_of Try.func16 (by kernel_rfl) rfl) (laye_does u e (hv.2 e hm) hre) rfl rfl rfl (fun _ => rfl) rfl rfl rfl) ?_; rintro v9
    refine h_q hflS rfl ?_
    refine h_done (d_reg1 ?_)
    refine h_q hflS rfl ?_
    refine h_act (post := fun _ => [Vec 5 1 encB v9 (layE e.e), cell g5 36 #[.int .i64 e.e.k, .int .u64 e.e.t, .int .u64 e.e.i, e.v, .int .i64 e.e.c], WtT g L2]) rfl (a_does (os' := fun _ => [Vec 5 1 encB v9 (layE e.e), cell g5 36 #[.int .i64 e.e.k, .int .u64 e.e.t, .int .u64 e.e.i, e.v, .int .i64 e.e.c], WtT g L2]) [2, 0] 0 (ent_of Try.func45 (by kernel_rfl) rfl) (wt_textV g L (layE e.e) v9 L2 hL2 (by omega)) rfl rfl rfl (fun _ => rfl) rfl rfl rfl) ?_; rintro ⟨⟩
    refine h_nil (f_block (f_to ?_))
    refine WC2.leave [0, 1] rfl rfl ?_
    refine d_reg1 ?_
    refine h_q hflS rfl ?_
    refine h_val rfl (.int .i64 ((j + 1 : Nat) : Int)) (fun b w hb hH => exec_ar rfl rfl rfl rfl (by rw [IntWalk.i64_in _ (by omega)]; omega) hb) ?_
    refine h_q hflS rfl ?_
    refine h_nil ?_
    exact f_again (j + 1, L2) 0 ⟨hj, hLL⟩ (show es.length - (j + 1) < es.length - j by omega) ⟨rfl, rfl, rfl, rfl, trivial⟩ rfl
  · skip
    obtain rfl : L = r := by rw [hI2, List.take_of_length_le (by omega), ← hlr, ← hL0, List.append_assoc]; rfl
    refine d_reg ?_
    refine h_q hflS rfl ?_
    refine h_val rfl (.bool false) (fun b w hb hH => exec_cmp rfl rfl rfl (cmp_lss_f (by omega)) hb) ?_
    refine h_done (d_seq (d_else rfl (d_exit (f_then_exit (f_then_exit (f_block_exit ?_))))))
    exact f_fin0n  (fun w h => tells () rfl [0] rfl h same_parts) rfl
end Go.Proofs.Ytnhcbjlaeaohjaa.Sep

namespace Go.Proofs.Ytnhcbjlaeaohjaa.Sep
open Go.RowKit
open Go.Proofs.Ytnhcbjlaeaohjaa.Mem (Dist Blk Chg below0)

set_option maxRecDepth 100000 in
theorem lay_does (u : World) (x : MsgV) (hx : MsgOk u x) (hr : rightM x.m = true) (h : Nat) (hh : fp x.m.k = h) (g : Nat) : DoesU u Try.prog 36 #[.pointer (some ⟨g, 0, none⟩), .agg #[.int .i64 x.m.k, .int .i64 x.m.a, .int .i64 x.m.b, .int .u64 x.m.t, .int .u64 x.m.i, .int .u64 x.m.lt, x.ev, .int .u64 x.m.co, .bool x.m.rf, .int .u64 x.m.bi, .int .u64 x.m.bt, .int .i64 x.m.bc, .int .i64 x.m.o, x.dv, .bool x.m.la], .int .i64 (h : Int)] [WtT g (headM x.m)] (fun (_ : Unit) => .tuple #[]) (fun (_ : Unit) => [WtT g (layM x.m)]) := by
  have RD := rightM_iff hr
  have N := numsD hx.ok.i hx.ok.lt hx.ok.co hr
  have hk1 := N.k
  have ha1 := RD.a
  have hb1_ := RD.b
  have ht1 := RD.t
  have i1 := N.i
  have i2 := N.lt
  have i3 := N.co
  have i6 := N.bi
  have i7 := N.bt
  have i8 := N.bc
  have i9 := N.o
  have hes := hx.es
  have h4 := N.es.1
  have hed := N.d
  obtain ⟨b1, hb1⟩ : ∃ b1, wth (fm x.m.k) 1 = b1 := ⟨_, rfl⟩
  obtain ⟨b2, hb2⟩ : ∃ b2, wth (fm x.m.k) 2 = b2 := ⟨_, rfl⟩
  obtain ⟨b3, hb3⟩ : ∃ b3, wth (fm x.m.k) 4 = b3 := ⟨_, rfl⟩
  obtain ⟨b4, hb4⟩ : ∃ b4, wth (fm x.m.k) 8 = b4 := ⟨_, rfl⟩
  obtain ⟨b5, hb5⟩ : ∃ b5, wth (fm x.m.k) 16 = b5 := ⟨_, rfl⟩
  obtain ⟨b6, hb6⟩ : ∃ b6, wth (fm x.m.k) 32 = b6 := ⟨_, rfl⟩
  obtain ⟨b7, hb7⟩ : ∃ b7, wth (fm x.m.k) 64 = b7 := ⟨_, rfl⟩
  obtain ⟨b8, hb8⟩ : ∃ b8, wth (fm x.m.k) 128 = b8 := ⟨_, rfl⟩
  obtain ⟨b9, hb9⟩ : ∃ b9, wth (fm x.m.k) 256 = b9 := ⟨_, rfl⟩
  obtain ⟨L0, hL0⟩ : ∃ L0, headM x.m ++ layU x.m.t = L0 := ⟨_, rfl⟩
  obtain ⟨L1, hL1⟩ : ∃ L1, putIf b1 L0 (layU x.m.i) = L1 := ⟨_, rfl⟩
  obtain ⟨L2, hL2⟩ : ∃ L2, putIf b2 L1 (layU x.m.lt) = L2 := ⟨_, rfl⟩
  obtain ⟨L3, hL3⟩ : ∃ L3, putIf b3 L2 (layU x.m.co) = L3 := ⟨_, rfl⟩
  obtain ⟨L4, hL4⟩ : ∃ L4, putIf b4 L3 (layN x.m.es) = L4 := ⟨_, rfl⟩
  obtain ⟨L5, hL5⟩ : ∃ L5, putIf b5 L4 ([UInt8.ofNat (flagN x.m.rf)]) = L5 := ⟨_, rfl⟩
  obtain ⟨L6, hL6⟩ : ∃ L6, putIf b6 L5 (layB (x.m.bi, x.m.bt, x.m.bc)) = L6 := ⟨_, rfl⟩
  obtain ⟨L7, hL7⟩ : ∃ L7, putIf b7 L6 (layU x.m.o) = L7 := ⟨_, rfl⟩
  obtain ⟨L8, hL8⟩ : ∃ L8, putIf b8 L7 ([UInt8.ofNat (flagN x.m.la)]) = L8 := ⟨_, rfl⟩
  obtain ⟨L9, hL9⟩ : ∃ L9, putIf b9 L8 (layT x.m.d) = L9 := ⟨_, rfl⟩
  have u0 := layU_mlen ht1.2
  have hn0 : L0.length ≤ 11 ∧ 3 ≤ L0.length := by rw [← hL0, List.length_append]; have : (headM x.m).length = 3 := rfl; omega
  have hn1 := putIf_len3 hL1 (fun _ => layU_mlen i1.2)
  have hn2 := putIf_len3 hL2 (fun _ => layU_mlen i2.2)
  have hn3 := putIf_len3 hL3 (fun _ => layU_mlen i3.2)
  have hn4 : L4.length ≤ L3.length + 597 := putIf_len3 hL4 (fun _ => by
    have h1 := layEs_len N.es.2
    have h2 := vlay_length_pow 0 x.m.es.length (by omega)
    unfold layN
    rw [List.length_append]
    omega)
  have hn5 : L5.length ≤ L4.length + 1 := putIf_len3 hL5 (fun _ => by simp)
  have hn6 : L6.length ≤ L5.length + 17 := putIf_len3 hL6 (fun _ => by
    have h1 := layU_mlen i6.2
    have h2 := layU_mlen i7.2
    unfold layB
    simp only [List.length_append, List.length_cons, List.length_nil]
    omega)
  have hn7 : L7.length ≤ L6.length + 8 := putIf_len3 hL7 (fun _ => layU_mlen (n := x.m.o) (by omega))
  have hn8 : L8.length ≤ L7.length + 1 := putIf_len3 hL8 (fun _ => by simp)
  have hn9 : L9.length ≤ L8.length + 258 := putIf_len3 hL9 (fun _ => layT_len2 hed)
  have hE : L9 = layM x.m := by
    rw [← hL9, ← hL8, ← hL7, ← hL6, ← hL5, ← hL4, ← hL3, ← hL2, ← hL1, ← hL0]
    simp only [putIf_eq]
    unfold layM
    rw [hb1, hb2, hb3, hb4, hb5, hb6, hb7, hb8, hb9]
    simp only [List.append_assoc]
  have hlt : h < 1024 := hh ▸ fp_lt x.m.k
  have hp0 : wth h 1 = true := by rw [← hh]; exact fp_term RD.k
  have hp1 : wth h 2 = b1 := by rw [← hh, fp_index, hb1]
  have hp2 : wth h 4 = b2 := by rw [← hh, fp_logterm, hb2]
  have hp3 : wth h 8 = b3 := by rw [← hh, fp_commit, hb3]
  have hp4 : wth h 16 = b4 := by rw [← hh, fp_entries, hb4]
  have hp5 : wth h 32 = b5 := by rw [← hh, fp_refused, hb5]
  have hp6 : wth h 64 = b6 := by rw [← hh, fp_base, hb6]
  have hp7 : wth h 128 = b7 := by rw [← hh, fp_offset, hb7]
  have hp8 : wth h 256 = b8 := by rw [← hh, fp_last, hb8]
  have hp9 : wth h 512 = b9 := by rw [← hh, fp_data, hb9]
  refine d_insU (args := [.pointer (some ⟨g, 0, none⟩), .agg #[.int .i64 x.m.k, .int .i64 x.m.a, .int .i64 x.m.b, .int .u64 x.m.t, .int .u64 x.m.i, .int .u64 x.m.lt, x.ev, .int .u64 x.m.co, .bool x.m.rf, .int .u64 x.m.bi, .int .u64 x.m.bt, .int .i64 x.m.bc, .int .i64 x.m.o, x.dv, .bool x.m.la], .int .i64 (h : Int)]) 67 Try.func36 rfl rfl rfl ?_; intro w rs hU hS
  refine d_reg ?_
  refine h_q hflS rfl ?_
  refine h_act (post := fun gm => [cell gm 28 #[.int .i64 x.m.k, .int .i64 x.m.a, .int .i64 x.m.b, .int .u64 x.m.t, .int .u64 x.m.i, .int .u64 x.m.lt, x.ev, .int .u64 x.m.co, .bool x.m.rf, .int .u64 x.m.bi, .int .u64 x.m.bt, .int .i64 x.m.bc, .int .i64 x.m.o, x.dv, .bool x.m.la], WtT g (headM x.m)]) rfl (a_box (cs := #[.int .i64 x.m.k, .int .i64 x.m.a, .int .i64 x.m.b, .int .u64 x.m.t, .int .u64 x.m.i, .int .u64 x.m.lt, x.ev, .int .u64 x.m.co, .bool x.m.rf, .int .u64 x.m.bi, .int .u64 x.m.bt, .int .i64 x.m.bc, .int .i64 x.m.o, x.dv, .bool x.m.la]) rfl rfl rfl) ?_; rintro gm
  refine h_done (d_seq (d_reg ?_))
  refine h_q hflS rfl ?_
  refine h_act (post := fun _ => [cell gm 28 #[.int .i64 x.m.k, .int .i64 x.m.a, .int .i64 x.m.b, .int .u64 x.m.t, .int .u64 x.m.i, .int .u64 x.m.lt, x.ev, .int .u64 x.m.co, .bool x.m.rf, .int .u64 x.m.bi, .int .u64 x.m.bt, .int .i64 x.m.bc, .int .i64 x.m.o, x.dv, .bool x.m.la], WtT g (headM x.m)]) rfl (a_call (ent_of Try.func49 (by kernel_rfl) rfl) (fun w hH => with_r w h 1 hlt (by decide) true hp0) rfl rfl rfl) ?_; rintro ⟨⟩
  refine h_done (d_then rfl (d_reg1 ?_))
  refine h_q hflS rfl ?_
  refine h_val rfl (.int .u64 x.m.t) (fun b w hb hH => exec_load rfl rfl (reads_one ty_uint64 rfl) (hH.row 0 rfl) hb) ?_
  refine h_act (post := fun _ => [cell gm 28 #[.int .i64 x.m.k, .int .i64 x.m.a, .int .i64 x.m.b, .int .u64 x.m.t, .int .u64 x.m.i, .int .u64 x.m.lt, x.ev, .int .u64 x.m.co, .bool x.m.rf, .int .u64 x.m.bi, .int .u64 x.m.bt, .int .i64 x.m.bc, .int .i64 x.m.o, x.dv, .bool x.m.la], WtT g L0]) rfl (a_does (os' := fun _ => [cell gm 28 #[.int .i64 x.m.k, .int .i64 x.m.a, .int .i64 x.m.b, .int .u64 x.m.t, .int .u64 x.m.i, .int .u64 x.m.lt, x.ev, .int .u64 x.m.co, .bool x.m.rf, .int .u64 x.m.bi, .int .u64 x.m.bt, .int .i64 x.m.bc, .int .i64 x.m.o, x.dv, .bool x.m.la], WtT g L0]) [1] 0 (ent_of Try.func44 (by kernel_rfl) rfl) (wt_num g (headM x.m) x.m.t ⟨by omega, by omega⟩ L0 hL0 (by have : (headM x.m).length = 3 := rfl; omega)) rfl rfl rfl (fun _ => rfl) rfl rfl rfl) ?_; rintro ⟨⟩
  refine h_nil (f_to (d_seq (d_reg ?_)))
  refine h_q hflS rfl ?_
  refine h_act (post := fun _ => [cell gm 28 #[.int .i64 x.m.k, .int .i64 x.m.a, .int .i64 x.m.b, .int .u64 x.m.t, .int .u64 x.m.i, .int .u64 x.m.lt, x.ev, .int .u64 x.m.co, .bool x.m.rf, .int .u64 x.m.bi, .int .u64 x.m.bt, .int .i64 x.m.bc, .int .i64 x.m.o, x.dv, .bool x.m.la], WtT g L0]) rfl (a_call (ent_of Try.func49 (by kernel_rfl) rfl) (fun w hH => with_r w h 2 hlt (by decide) b1 hp1) rfl rfl rfl) ?_; rintro ⟨⟩
  refine h_done ?_
  refine d_mid [(0, .pointer (some ⟨g, 0, none⟩)), (2, .int .i64 (h : Int)), (4, .pointer (some ⟨gm, 0, none⟩))] [cell gm 28 #[.int .i64 x.m.k, .int .i64 x.m.a, .int .i64 x.m.b, .int .u64 x.m.t, .int .u64 x.m.i, .int .u64 x.m.lt, x.ev, .int .u64 x.m.co, .bool x.m.rf, .int .u64 x.m.bi, .int .u64 x.m.bt, .int .i64 x.m.bc, .int .i64 x.m.o, x.dv, .bool x.m.la], WtT g L1] ?_ ?_
  · skip
    cases b1
    · skip
      obtain rfl : L0 = L1 := hL1
      refine d_else rfl (d_skip ?_)
      exact f_mid 0 ⟨rfl, rfl, rfl, trivial⟩ rfl
    · skip
      refine d_then rfl (d_reg1 ?_)
      refine h_q hflS rfl ?_
      refine h_val rfl (.int .u64 x.m.i) (fun b w hb hH => exec_load rfl rfl (reads_one ty_uint64 rfl) (hH.row 0 rfl) hb) ?_
      refine h_act (post := fun _ => [cell gm 28 #[.int .i64 x.m.k, .int .i64 x.m.a, .int .i64 x.m.b, .int .u64 x.m.t, .int .u64 x.m.i, .int .u64 x.m.lt, x.ev, .int .u64 x.m.co, .bool x.m.rf, .int .u64 x.m.bi, .int .u64 x.m.bt, .int .i64 x.m.bc, .int .i64 x.m.o, x.dv, .bool x.m.la], WtT g L1]) rfl (a_does (os' := fun _ => [cell gm 28 #[.int .i64 x.m.k, .int .i64 x.m.a, .int .i64 x.m.b, .int .u64 x.m.t, .int .u64 x.m.i, .int .u64 x.m.lt, x.ev, .int .u64 x.m.co, .bool x.m.rf, .int .u64 x.m.bi, .int .u64 x.m.bt, .int .i64 x.m.bc, .int .i64 x.m.o, x.dv, .bool x.m.la], WtT g L1]) [1] 0 (ent_of Try.func44 (by kernel_rfl) rfl) (wt_num g L0 x.m.i ⟨by omega, by omega⟩ L1 hL1 (by omega)) rfl rfl rfl (fun _ => rfl) rfl rfl rfl) ?_; rintro ⟨⟩
      refine h_nil ?_
      exact f_mid 0 ⟨rfl, rfl, rfl, trivial⟩ rfl
  refine f_to (d_seq (d_reg ?_))
  refine h_q hflS rfl ?_
  refine h_act (post := fun _ => [cell gm 28 #[.int .i64 x.m.k, .int .i64 x.m.a, .int .i64 x.m.b, .int .u64 x.m.t, .int .u64 x.m.i, .int .u64 x.m.lt, x.ev, .int .u64 x.m.co, .bool x.m.rf, .int .u64 x.m.bi, .int .u64 x.m.bt, .int .i64 x.m.bc, .int .i64 x.m.o, x.dv, .bool x.m.la], WtT g L1]) rfl (a_call (ent_of Try.func49 (by kernel_rfl) rfl) (fun w hH => with_r w h 4 hlt (by decide) b2 hp2) rfl rfl rfl) ?_; rintro ⟨⟩
  refine h_done ?_
  refine d_mid [(0, .pointer (some ⟨g, 0, none⟩)), (2, .int .i64 (h : Int)), (4, .pointer (some ⟨gm, 0, none⟩))] [cell gm 28 #[.int .i64 x.m.k, .int .i64 x.m.a, .int .i64 x.m.b, .int .u64 x.m.t, .int .u64 x.m.i, .int .u64 x.m.lt, x.ev, .int .u64 x.m.co, .bool x.m.rf, .int .u64 x.m.bi, .int .u64 x.m.bt, .int .i64 x.m.bc, .int .i64 x.m.o, x.dv, .bool x.m.la], WtT g L2] ?_ ?_
  · skip
    cases b2
    · skip
      obtain rfl : L1 = L2 := hL2
      refine d_else rfl (d_skip ?_)
      exact f_mid 0 ⟨rfl, rfl, rfl, trivial⟩ rfl
    · skip
      refine d_then rfl (d_reg1 ?_)
      refine h_q hflS rfl ?_
      refine h_val rfl (.int .u64 x.m.lt) (fun b w hb hH => exec_load rfl rfl (reads_one ty_uint64 rfl) (hH.row 0 rfl) hb) ?_
      refine h_act (post := fun _ => [cell gm 28 #[.int .i64 x.m.k, .int .i64 x.m.a, .int .i64 x.m.b, .int .u64 x.m.t, .int .u64 x.m.i, .int .u64 x.m.lt, x.ev, .int .u64 x.m.co, .bool x.m.rf, .int .u64 x.m.bi, .int .u64 x.m.bt, .int .i64 x.m.bc, .int .i64 x.m.o, x.dv, .bool x.m.la], WtT g L2]) rfl (a_does (os' := fun _ => [cell gm 28 #[.int .i64 x.m.k, .int .i64 x.m.a, .int .i64 x.m.b, .int .u64 x.m.t, .int .u64 x.m.i, .int .u64 x.m.lt, x.ev, .int .u64 x.m.co, .bool x.m.rf, .int .u64 x.m.bi, .int .u64 x.m.bt, .int .i64 x.m.bc, .int .i64 x.m.o, x.dv, .bool x.m.la], WtT g L2]) [1] 0 (ent_of Try.func44 (by kernel_rfl) rfl) (wt_num g L1 x.m.lt ⟨by omega, by omega⟩ L2 hL2 (by omega)) rfl rfl rfl (fun _ => rfl) rfl rfl rfl) ?_; rintro ⟨⟩
      refine h_nil ?_
      exact f_mid 0 ⟨rfl, rfl, rfl, trivial⟩ rfl
  refine f_to (d_seq (d_reg ?_))
  refine h_q hflS rfl ?_
  refine h_act (post := fun _ => [cell gm 28 #[.int .i64 x.m.k, .int .i64 x.m.a, .int .i64 x.m.b, .int .u64 x.m.t, .int .u64 x.m.i, .int .u64 x.m.lt, x.ev, .int .u64 x.m.co, .bool x.m.rf, .int .u64 x.m.bi, .int .u64 x.m.bt, .int .i64 x.m.bc, .int .i64 x.m.o, x.dv, .bool x.m.la], WtT g L2]) rfl (a_call (ent_of Try.func49 (by kernel_rfl) rfl) (fun w hH => with_r w h 8 hlt (by decide) b3 hp3) rfl rfl rfl) ?_; rintro ⟨⟩
  refine h_done ?_
  refine d_mid [(0, .pointer (some ⟨g, 0, none⟩)), (2, .int .i64 (h : Int)), (4, .pointer (some ⟨gm, 0, none⟩))] [cell gm 28 #[.int .i64 x.m.k, .int .i64 x.m.a, .int .i64 x.m.b, .int .u64 x.m.t, .int .u64 x.m.i, .int .u64 x.m.lt, x.ev, .int .u64 x.m.co, .bool x.m.rf, .int .u64 x.m.bi, .int .u64 x.m.bt, .int .i64 x.m.bc, .int .i64 x.m.o, x.dv, .bool x.m.la], WtT g L3] ?_ ?_
  · skip
    cases b3
    · skip
      obtain rfl : L2 = L3 := hL3
      refine d_else rfl (d_skip ?_)
      exact f_mid 0 ⟨rfl, rfl, rfl, trivial⟩ rfl
    · skip
      refine d_then rfl (d_reg1 ?_)
      refine h_q hflS rfl ?_
      refine h_val rfl (.int .u64 x.m.co) (fun b w hb hH => exec_load rfl rfl (reads_one ty_uint64 rfl) (hH.row 0 rfl) hb) ?_
      refine h_act (post := fun _ => [cell gm 28 #[.int .i64 x.m.k, .int .i64 x.m.a, .int .i64 x.m.b, .int .u64 x.m.t, .int .u64 x.m.i, .int .u64 x.m.lt, x.ev, .int .u64 x.m.co, .bool x.m.rf, .int .u64 x.m.bi, .int .u64 x.m.bt, .int .i64 x.m.bc, .int .i64 x.m.o, x.dv, .bool x.m.la], WtT g L3]) rfl (a_does (os' := fun _ => [cell gm 28 #[.int .i64 x.m.k, .int .i64 x.m.a, .int .i64 x.m.b, .int .u64 x.m.t, .int .u64 x.m.i, .int .u64 x.m.lt, x.ev, .int .u64 x.m.co, .bool x.m.rf, .int .u64 x.m.bi, .int .u64 x.m.bt, .int .i64 x.m.bc, .int .i64 x.m.o, x.dv, .bool x.m.la], WtT g L3]) [1] 0 (ent_of Try.func44 (by kernel_rfl) rfl) (wt_num g L2 x.m.co ⟨by omega, by omega⟩ L3 hL3 (by omega)) rfl rfl rfl (fun _ => rfl) rfl rfl rfl) ?_; rintro ⟨⟩
      refine h_nil ?_
      exact f_mid 0 ⟨rfl, rfl, rfl, trivial⟩ rfl
  refine f_to (d_seq (d_reg ?_))
  refine h_q hflS rfl ?_
  refine h_act (post := fun _ => [cell gm 28 #[.int .i64 x.m.k, .int .i64 x.m.a, .int .i64 x.m.b, .int .u64 x.m.t, .int .u64 x.m.i, .int .u64 x.m.lt, x.ev, .int .u64 x.m.co, .bool x.m.rf, .int .u64 x.m.bi, .int .u64 x.m.bt, .int .i64 x.m.bc, .int .i64 x.m.o, x.dv, .bool x.m.la], WtT g L3]) rfl (a_call (ent_of Try.func49 (by kernel_rfl) rfl) (fun w hH => with_r w h 16 hlt (by decide) b4 hp4) rfl rfl rfl) ?_; rintro ⟨⟩
  refine h_done ?_
  refine d_mid [(0, .pointer (some ⟨g, 0, none⟩)), (2, .int .i64 (h : Int)), (4, .pointer (some ⟨gm, 0, none⟩))] [cell gm 28 #[.int .i64 x.m.k, .int .i64 x.m.a, .int .i64 x.m.b, .int .u64 x.m.t, .int .u64 x.m.i, .int .u64 x.m.lt, x.ev, .int .u64 x.m.co, .bool x.m.rf, .int .u64 x.m.bi, .int .u64 x.m.bt, .int .i64 x.m.bc, .int .i64 x.m.o, x.dv, .bool x.m.la], WtT g L4] ?_ ?_
  · skip
    cases b4
    · skip
      obtain rfl : L3 = L4 := hL4
      refine d_else rfl (d_skip ?_)
      exact f_mid 0 ⟨rfl, rfl, rfl, trivial⟩ rfl
    · skip
      refine d_then rfl (d_reg1 ?_)
      refine h_q hflS rfl ?_
      refine h_val rfl (x.ev) (fun b w hb hH => exec_load rfl rfl (reads_one ty_s_api_Entry rfl) (hH.row 0 rfl) hb) ?_
      refine h_act (post := fun _ => [cell gm 28 #[.int .i64 x.m.k, .int .i64 x.m.a, .int .i64 x.m.b, .int .u64 x.m.t, .int .u64 x.m.i, .int .u64 x.m.lt, x.ev, .int .u64 x.m.co, .bool x.m.rf, .int .u64 x.m.bi, .int .u64 x.m.bt, .int .i64 x.m.bc, .int .i64 x.m.o, x.dv, .bool x.m.la], WtT g L4]) rfl (a_doesU hU hS (os' := fun _ => [cell gm 28 #[.int .i64 x.m.k, .int .i64 x.m.a, .int .i64 x.m.b, .int .u64 x.m.t, .int .u64 x.m.i, .int .u64 x.m.lt, x.ev, .int .u64 x.m.co, .bool x.m.rf, .int .u64 x.m.bi, .int .u64 x.m.bt, .int .i64 x.m.bc, .int .i64 x.m.o, x.dv, .bool x.m.la], WtT g L4]) [1] 0 (ent_of Try.func76 (by kernel_rfl) rfl) (layEntries_does u x.ev x.es hx.rd x.m.es hes.symm N.es.2 h4 g L3 L4 hL4 (by omega)) rfl rfl rfl (fun _ => rfl) rfl rfl rfl) ?_; rintro ⟨⟩
      refine h_nil ?_
      exact f_mid 0 ⟨rfl, rfl, rfl, trivial⟩ rfl
  refine f_to (d_seq (d_reg ?_))
  refine h_q hflS rfl ?_
  refine h_act (post := fun _ => [cell gm 28 #[.int .i64 x.m.k, .int .i64 x.m.a, .int .i64 x.m.b, .int .u64 x.m.t, .int .u64 x.m.i, .int .u64 x.m.lt, x.ev, .int .u64 x.m.co, .bool x.m.rf, .int .u64 x.m.bi, .int .u64 x.m.bt, .int .i64 x.m.bc, .int .i64 x.m.o, x.dv, .bool x.m.la], WtT g L4]) rfl (a_call (ent_of Try.func49 (by kernel_rfl) rfl) (fun w hH => with_r w h 32 hlt (by decide) b5 hp5) rfl rfl rfl) ?_; rintro ⟨⟩
  refine h_done ?_
  refine d_mid [(0, .pointer (some ⟨g, 0, none⟩)), (2, .int .i64 (h : Int)), (4, .pointer (some ⟨gm, 0, none⟩))] [cell gm 28 #[.int .i64 x.m.k, .int .i64 x.m.a, .int .i64 x.m.b, .int .u64 x.m.t, .int .u64 x.m.i, .int .u64 x.m.lt, x.ev, .int .u64 x.m.co, .bool x.m.rf, .int .u64 x.m.bi, .int .u64 x.m.bt, .int .i64 x.m.bc, .int .i64 x.m.o, x.dv, .bool x.m.la], WtT g L5] ?_ ?_
  · skip
    cases b5
    · skip
      obtain rfl : L4 = L5 := hL5
      refine d_else rfl (d_skip ?_)
      exact f_mid 0 ⟨rfl, rfl, rfl, trivial⟩ rfl
    · skip
      refine d_then rfl (d_reg1 ?_)
      refine h_q hflS rfl ?_
      refine h_val rfl (.bool x.m.rf) (fun b w hb hH => exec_load rfl rfl (reads_one ty_bool rfl) (hH.row 0 rfl) hb) ?_
      refine h_act (post := fun _ => [cell gm 28 #[.int .i64 x.m.k, .int .i64 x.m.a, .int .i64 x.m.b, .int .u64 x.m.t, .int .u64 x.m.i, .int .u64 x.m.lt, x.ev, .int .u64 x.m.co, .bool x.m.rf, .int .u64 x.m.bi, .int .u64 x.m.bt, .int .i64 x.m.bc, .int .i64 x.m.o, x.dv, .bool x.m.la], WtT g L5]) rfl (a_does (os' := fun _ => [cell gm 28 #[.int .i64 x.m.k, .int .i64 x.m.a, .int .i64 x.m.b, .int .u64 x.m.t, .int .u64 x.m.i, .int .u64 x.m.lt, x.ev, .int .u64 x.m.co, .bool x.m.rf, .int .u64 x.m.bi, .int .u64 x.m.bt, .int .i64 x.m.bc, .int .i64 x.m.o, x.dv, .bool x.m.la], WtT g L5]) [1] 0 (ent_of Try.func77 (by kernel_rfl) rfl) (layBool_does g L4 x.m.rf L5 hL5 (by omega)) rfl rfl rfl (fun _ => rfl) rfl rfl rfl) ?_; rintro ⟨⟩
      refine h_nil ?_
      exact f_mid 0 ⟨rfl, rfl, rfl, trivial⟩ rfl
  refine f_to (d_seq (d_reg ?_))
  refine h_q hflS rfl ?_
  refine h_act (post := fun _ => [cell gm 28 #[.int .i64 x.m.k, .int .i64 x.m.a, .int .i64 x.m.b, .int .u64 x.m.t, .int .u64 x.m.i, .int .u64 x.m.lt, x.ev, .int .u64 x.m.co, .bool x.m.rf, .int .u64 x.m.bi, .int .u64 x.m.bt, .int .i64 x.m.bc, .int .i64 x.m.o, x.dv, .bool x.m.la], WtT g L5]) rfl (a_call (ent_of Try.func49 (by kernel_rfl) rfl) (fun w hH => with_r w h 64 hlt (by decide) b6 hp6) rfl rfl rfl) ?_; rintro ⟨⟩
  refine h_done ?_
  refine d_mid [(0, .pointer (some ⟨g, 0, none⟩)), (2, .int .i64 (h : Int)), (4, .pointer (some ⟨gm, 0, none⟩))] [cell gm 28 #[.int .i64 x.m.k, .int .i64 x.m.a, .int .i64 x.m.b, .int .u64 x.m.t, .int .u64 x.m.i, .int .u64 x.m.lt, x.ev, .int .u64 x.m.co, .bool x.m.rf, .int .u64 x.m.bi, .int .u64 x.m.bt, .int .i64 x.m.bc, .int .i64 x.m.o, x.dv, .bool x.m.la], WtT g L6] ?_ ?_
  · skip
    cases b6
    · skip
      obtain rfl : L5 = L6 := hL6
      refine d_else rfl (d_skip ?_)
      exact f_mid 0 ⟨rfl, rfl, rfl, trivial⟩ rfl
    · skip
      refine d_then rfl (d_reg1 ?_)
      refine h_q hflS rfl ?_
      refine h_val rfl (.agg #[.int .u64 x.m.bi, .int .u64 x.m.bt, .int .i64 x.m.bc]) (fun b w hb hH => exec_load rfl rfl (reads_agg (cs := [.int .i64 x.m.k, .int .i64 x.m.a, .int .i64 x.m.b, .int .u64 x.m.t, .int .u64 x.m.i, .int .u64 x.m.lt, x.ev, .int .u64 x.m.co, .bool x.m.rf, .int .u64 x.m.bi, .int .u64 x.m.bt, .int .i64 x.m.bc, .int .i64 x.m.o, x.dv, .bool x.m.la]) ty_api_Base rfl) (hH.row 0 rfl) hb) ?_
      refine h_act (post := fun _ => [cell gm 28 #[.int .i64 x.m.k, .int .i64 x.m.a, .int .i64 x.m.b, .int .u64 x.m.t, .int .u64 x.m.i, .int .u64 x.m.lt, x.ev, .int .u64 x.m.co, .bool x.m.rf, .int .u64 x.m.bi, .int .u64 x.m.bt, .int .i64 x.m.bc, .int .i64 x.m.o, x.dv, .bool x.m.la], WtT g L6]) rfl (a_does (os' := fun _ => [cell gm 28 #[.int .i64 x.m.k, .int .i64 x.m.a, .int .i64 x.m.b, .int .u64 x.m.t, .int .u64 x.m.i, .int .u64 x.m.lt, x.ev, .int .u64 x.m.co, .bool x.m.rf, .int .u64 x.m.bi, .int .u64 x.m.bt, .int .i64 x.m.bc, .int .i64 x.m.o, x.dv, .bool x.m.la], WtT g L6]) [1] 0 (ent_of Try.func78 (by kernel_rfl) rfl) (layBase_does g L5 x.m.bi x.m.bt x.m.bc i6 i7 i8 L6 hL6 (by omega)) rfl rfl rfl (fun _ => rfl) rfl rfl rfl) ?_; rintro ⟨⟩
      refine h_nil ?_
      exact f_mid 0 ⟨rfl, rfl, rfl, trivial⟩ rfl
  refine f_to (d_seq (d_reg ?_))
  refine h_q hflS rfl ?_
  refine h_act (post := fun _ => [cell gm 28 #[.int .i64 x.m.k, .int .i64 x.m.a, .int .i64 x.m.b, .int .u64 x.m.t, .int .u64 x.m.i, .int .u64 x.m.lt, x.ev, .int .u64 x.m.co, .bool x.m.rf, .int .u64 x.m.bi, .int .u64 x.m.bt, .int .i64 x.m.bc, .int .i64 x.m.o, x.dv, .bool x.m.la], WtT g L6]) rfl (a_call (ent_of Try.func49 (by kernel_rfl) rfl) (fun w hH => with_r w h 128 hlt (by decide) b7 hp7) rfl rfl rfl) ?_; rintro ⟨⟩
  refine h_done ?_
  refine d_mid [(0, .pointer (some ⟨g, 0, none⟩)), (2, .int .i64 (h : Int)), (4, .pointer (some ⟨gm, 0, none⟩))] [cell gm 28 #[.int .i64 x.m.k, .int .i64 x.m.a, .int .i64 x.m.b, .int .u64 x.m.t, .int .u64 x.m.i, .int .u64 x.m.lt, x.ev, .int .u64 x.m.co, .bool x.m.rf, .int .u64 x.m.bi, .int .u64 x.m.bt, .int .i64 x.m.bc, .int .i64 x.m.o, x.dv, .bool x.m.la], WtT g L7] ?_ ?_
  · skip
    cases b7
    · skip
      obtain rfl : L6 = L7 := hL7
      refine d_else rfl (d_skip ?_)
      exact f_mid 0 ⟨rfl, rfl, rfl, trivial⟩ rfl
    · skip
      refine d_then rfl (d_reg1 ?_)
      refine h_q hflS rfl ?_
      refine h_val rfl (.int .i64 x.m.o) (fun b w hb hH => exec_load rfl rfl (reads_one ty_int rfl) (hH.row 0 rfl) hb) ?_
      refine h_val rfl (.int .u64 x.m.o) (fun b w hb hH => exec_conv Try.underlying3 Try.underlying22 (IntWalk.u64_in _ (by omega)) rfl rfl hb) ?_
      refine h_act (post := fun _ => [cell gm 28 #[.int .i64 x.m.k, .int .i64 x.m.a, .int .i64 x.m.b, .int .u64 x.m.t, .int .u64 x.m.i, .int .u64 x.m.lt, x.ev, .int .u64 x.m.co, .bool x.m.rf, .int .u64 x.m.bi, .int .u64 x.m.bt, .int .i64 x.m.bc, .int .i64 x.m.o, x.dv, .bool x.m.la], WtT g L7]) rfl (a_does (os' := fun _ => [cell gm 28 #[.int .i64 x.m.k, .int .i64 x.m.a, .int .i64 x.m.b, .int .u64 x.m.t, .int .u64 x.m.i, .int .u64 x.m.lt, x.ev, .int .u64 x.m.co, .bool x.m.rf, .int .u64 x.m.bi, .int .u64 x.m.bt, .int .i64 x.m.bc, .int .i64 x.m.o, x.dv, .bool x.m.la], WtT g L7]) [1] 0 (ent_of Try.func44 (by kernel_rfl) rfl) (wt_num g L6 x.m.o ⟨by omega, by omega⟩ L7 hL7 (by omega)) rfl rfl rfl (fun _ => rfl) rfl rfl rfl) ?_; rintro ⟨⟩
      refine h_nil ?_
      exact f_mid 0 ⟨rfl, rfl, rfl, trivial⟩ rfl
  refine f_to (d_seq (d_reg ?_))
  refine h_q hflS rfl ?_
  refine h_act (post := fun _ => [cell gm 28 #[.int .i64 x.m.k, .int .i64 x.m.a, .int .i64 x.m.b, .int .u64 x.m.t, .int .u64 x.m.i, .int .u64 x.m.lt, x.ev, .int .u64 x.m.co, .bool x.m.rf, .int .u64 x.m.bi, .int .u64 x.m.bt, .int .i64 x.m.bc, .int .i64 x.m.o, x.dv, .bool x.m.la], WtT g L7]) rfl (a_call (ent_of Try.func49 (by kernel_rfl) rfl) (fun w hH => with_r w h 256 hlt (by decide) b8 hp8) rfl rfl rfl) ?_; rintro ⟨⟩
  refine h_done ?_
  refine d_mid [(0, .pointer (some ⟨g, 0, none⟩)), (2, .int .i64 (h : Int)), (4, .pointer (some ⟨gm, 0, none⟩))] [cell gm 28 #[.int .i64 x.m.k, .int .i64 x.m.a, .int .i64 x.m.b, .int .u64 x.m.t, .int .u64 x.m.i, .int .u64 x.m.lt, x.ev, .int .u64 x.m.co, .bool x.m.rf, .int .u64 x.m.bi, .int .u64 x.m.bt, .int .i64 x.m.bc, .int .i64 x.m.o, x.dv, .bool x.m.la], WtT g L8] ?_ ?_
  · skip
    cases b8
    · skip
      obtain rfl : L7 = L8 := hL8
      refine d_else rfl (d_skip ?_)
      exact f_mid 0 ⟨rfl, rfl, rfl, trivial⟩ rfl
    · skip
      refine d_then rfl (d_reg1 ?_)
      refine h_q hflS rfl ?_
      refine h_val rfl (.bool x.m.la) (fun b w hb hH => exec_load rfl rfl (reads_one ty_bool rfl) (hH.row 0 rfl) hb) ?_
      refine h_act (post := fun _ => [cell gm 28 #[.int .i64 x.m.k, .int .i64 x.m.a, .int .i64 x.m.b, .int .u64 x.m.t, .int .u64 x.m.i, .int .u64 x.m.lt, x.ev, .int .u64 x.m.co, .bool x.m.rf, .int .u64 x.m.bi, .int .u64 x.m.bt, .int .i64 x.m.bc, .int .i64 x.m.o, x.dv, .bool x.m.la], WtT g L8]) rfl (a_does (os' := fun _ => [cell gm 28 #[.int .i64 x.m.k, .int .i64 x.m.a, .int .i64 x.m.b, .int .u64 x.m.t, .int .u64 x.m.i, .int .u64 x.m.lt, x.ev, .int .u64 x.m.co, .bool x.m.rf, .int .u64 x.m.bi, .int .u64 x.m.bt, .int .i64 x.m.bc, .int .i64 x.m.o, x.dv, .bool x.m.la], WtT g L8]) [1] 0 (ent_of Try.func77 (by kernel_rfl) rfl) (layBool_does g L7 x.m.la L8 hL8 (by omega)) rfl rfl rfl (fun _ => rfl) rfl rfl rfl) ?_; rintro ⟨⟩
      refine h_nil ?_
      exact f_mid 0 ⟨rfl, rfl, rfl, trivial⟩ rfl
  refine f_to (d_reg ?_)
  refine h_q hflS rfl ?_
  refine h_act (post := fun _ => [cell gm 28 #[.int .i64 x.m.k, .int .i64 x.m.a, .int .i64 x.m.b, .int .u64 x.m.t, .int .u64 x.m.i, .int .u64 x.m.lt, x.ev, .int .u64 x.m.co, .bool x.m.rf, .int .u64 x.m.bi, .int .u64 x.m.bt, .int .i64 x.m.bc, .int .i64 x.m.o, x.dv, .bool x.m.la], WtT g L8]) rfl (a_call (ent_of Try.func49 (by kernel_rfl) rfl) (fun w hH => with_r w h 512 hlt (by decide) b9 hp9) rfl rfl rfl) ?_; rintro ⟨⟩
  refine h_done ?_
  refine d_mid [] [cell gm 28 #[.int .i64 x.m.k, .int .i64 x.m.a, .int .i64 x.m.b, .int .u64 x.m.t, .int .u64 x.m.i, .int .u64 x.m.lt, x.ev, .int .u64 x.m.co, .bool x.m.rf, .int .u64 x.m.bi, .int .u64 x.m.bt, .int .i64 x.m.bc, .int .i64 x.m.o, x.dv, .bool x.m.la], WtT g L9] ?_ ?_
  · skip
    cases b9
    · skip
      obtain rfl : L8 = L9 := hL9
      refine d_else rfl (d_skip ?_)
      exact f_mid 0 trivial rfl
    · skip
      refine d_then rfl (d_reg1 ?_)
      refine h_q hflS rfl ?_
      refine h_val rfl (x.dv) (fun b w hb hH => exec_load rfl rfl (reads_one ty_s_uint8 rfl) (hH.row 0 rfl) hb) ?_
      refine h_act (post := fun _ => [cell gm 28 #[.int .i64 x.m.k, .int .i64 x.m.a, .int .i64 x.m.b, .int .u64 x.m.t, .int .u64 x.m.i, .int .u64 x.m.lt, x.ev, .int .u64 x.m.co, .bool x.m.rf, .int .u64 x.m.bi, .int .u64 x.m.bt, .int .i64 x.m.bc, .int .i64 x.m.o, x.dv, .bool x.m.la], WtT g L9]) rfl (a_doesU hU hS (os' := fun _ => [cell gm 28 #[.int .i64 x.m.k, .int .i64 x.m.a, .int .i64 x.m.b, .int .u64 x.m.t, .int .u64 x.m.i, .int .u64 x.m.lt, x.ev, .int .u64 x.m.co, .bool x.m.rf, .int .u64 x.m.bi, .int .u64 x.m.bt, .int .i64 x.m.bc, .int .i64 x.m.o, x.dv, .bool x.m.la], WtT g L9]) [1] 0 (ent_of Try.func45 (by kernel_rfl) rfl) (wt_textU hx.d g L8 L9 hL9 (by omega)) rfl rfl rfl (fun _ => rfl) rfl rfl rfl) ?_; rintro ⟨⟩
      refine h_nil ?_
      exact f_mid 0 trivial rfl
  exact f_fin0n  (fun w h => tells () rfl [1] rfl h (fun z hz => ⟨z, .refl _, by rw [← hE]; exact hz⟩)) rfl

set_option maxRecDepth 100000 in
theorem encodeM_does (u : World) (x : MsgV) (hx : MsgOk u x) (hr : rightM x.m = true) : DoesU u Try.prog 14 #[.agg #[.int .i64 x.m.k, .int .i64 x.m.a, .int .i64 x.m.b, .int .u64 x.m.t, .int .u64 x.m.i, .int .u64 x.m.lt, x.ev, .int .u64 x.m.co, .bool x.m.rf, .int .u64 x.m.bi, .int .u64 x.m.bt, .int .i64 x.m.bc, .int .i64 x.m.o, x.dv, .bool x.m.la]] [] (fun (v : Value) => .tuple #[v, .int .i64 0]) (fun (v : Value) => [Vec 5 1 encB v (encM x.m)]) := by
  have RD := rightM_iff hr
  have N := numsD hx.ok.i hx.ok.lt hx.ok.co hr
  have hk1 := N.k
  have ha1 := RD.a
  have hb1_ := RD.b
  have hll := layM_len hx.ok.i hx.ok.lt hx.ok.co hr
  obtain ⟨h, hh⟩ : ∃ h, fp x.m.k = h := ⟨_, rfl⟩
  obtain ⟨H1, hH1⟩ : ∃ H1, [UInt8.ofNat x.m.k.toNat] = H1 := ⟨_, rfl⟩
  obtain ⟨H2, hH2⟩ : ∃ H2, H1 ++ [UInt8.ofNat x.m.a.toNat] = H2 := ⟨_, rfl⟩
  have e3 : H2 ++ [UInt8.ofNat x.m.b.toNat] = headM x.m := by rw [← hH2, ← hH1]; rfl
  have n1 : H1.length = 1 := by rw [← hH1]; rfl
  have n2 : H2.length = 2 := by rw [← hH2, ← hH1]; rfl
  refine d_insU (args := [.agg #[.int .i64 x.m.k, .int .i64 x.m.a, .int .i64 x.m.b, .int .u64 x.m.t, .int .u64 x.m.i, .int .u64 x.m.lt, x.ev, .int .u64 x.m.co, .bool x.m.rf, .int .u64 x.m.bi, .int .u64 x.m.bt, .int .i64 x.m.bc, .int .i64 x.m.o, x.dv, .bool x.m.la]]) 33 Try.func14 rfl rfl rfl ?_; intro w rs hU hS
  refine d_reg ?_
  refine h_q hflS rfl ?_
  refine h_act (post := fun g1 => [cell g1 28 #[.int .i64 x.m.k, .int .i64 x.m.a, .int .i64 x.m.b, .int .u64 x.m.t, .int .u64 x.m.i, .int .u64 x.m.lt, x.ev, .int .u64 x.m.co, .bool x.m.rf, .int .u64 x.m.bi, .int .u64 x.m.bt, .int .i64 x.m.bc, .int .i64 x.m.o, x.dv, .bool x.m.la]]) rfl (a_box (cs := #[.int .i64 x.m.k, .int .i64 x.m.a, .int .i64 x.m.b, .int .u64 x.m.t, .int .u64 x.m.i, .int .u64 x.m.lt, x.ev, .int .u64 x.m.co, .bool x.m.rf, .int .u64 x.m.bi, .int .u64 x.m.bt, .int .i64 x.m.bc, .int .i64 x.m.o, x.dv, .bool x.m.la]) rfl rfl rfl) ?_; rintro g1
  refine h_q hflS rfl ?_
  refine h_done (d_seq (d_reg ?_))
  refine h_q hflS rfl ?_
  refine h_val rfl (.agg #[.int .i64 x.m.k, .int .i64 x.m.a, .int .i64 x.m.b, .int .u64 x.m.t, .int .u64 x.m.i, .int .u64 x.m.lt, x.ev, .int .u64 x.m.co, .bool x.m.rf, .int .u64 x.m.bi, .int .u64 x.m.bt, .int .i64 x.m.bc, .int .i64 x.m.o, x.dv, .bool x.m.la]) (fun b w hb hH => exec_load rfl rfl (reads_agg (cs := [.int .i64 x.m.k, .int .i64 x.m.a, .int .i64 x.m.b, .int .u64 x.m.t, .int .u64 x.m.i, .int .u64 x.m.lt, x.ev, .int .u64 x.m.co, .bool x.m.rf, .int .u64 x.m.bi, .int .u64 x.m.bt, .int .i64 x.m.bc, .int .i64 x.m.o, x.dv, .bool x.m.la]) ty_api_Msg rfl) (hH.row 0 rfl) hb) ?_
  refine h_act (post := fun _ => [cell g1 28 #[.int .i64 x.m.k, .int .i64 x.m.a, .int .i64 x.m.b, .int .u64 x.m.t, .int .u64 x.m.i, .int .u64 x.m.lt, x.ev, .int .u64 x.m.co, .bool x.m.rf, .int .u64 x.m.bi, .int .u64 x.m.bt, .int .i64 x.m.bc, .int .i64 x.m.o, x.dv, .bool x.m.la]]) rfl (a_call (ent_of Try.func19 (by kernel_rfl) rfl) (fun w hH => rightM_any w x (argM hx hU hS hH) true hr) rfl rfl rfl) ?_; rintro ⟨⟩
  refine h_q hflS rfl ?_
  refine h_done (d_else rfl (d_skip (f_to (d_reg ?_))))
  refine h_q hflS rfl ?_
  refine h_act (post := fun g => [WtT g ([]), cell g1 28 #[.int .i64 x.m.k, .int .i64 x.m.a, .int .i64 x.m.b, .int .u64 x.m.t, .int .u64 x.m.i, .int .u64 x.m.lt, x.ev, .int .u64 x.m.co, .bool x.m.rf, .int .u64 x.m.bi, .int .u64 x.m.bt, .int .i64 x.m.bc, .int .i64 x.m.o, x.dv, .bool x.m.la]]) rfl (a_does (os' := fun g => [WtT g ([]), cell g1 28 #[.int .i64 x.m.k, .int .i64 x.m.a, .int .i64 x.m.b, .int .u64 x.m.t, .int .u64 x.m.i, .int .u64 x.m.lt, x.ev, .int .u64 x.m.co, .bool x.m.rf, .int .u64 x.m.bi, .int .u64 x.m.bt, .int .i64 x.m.bc, .int .i64 x.m.o, x.dv, .bool x.m.la]]) [] 0 (ent_of Try.func34 (by kernel_rfl) rfl) (wt_new) rfl rfl rfl (fun _ => rfl) rfl rfl rfl) ?_; rintro g
  refine h_q hflS rfl ?_
  refine h_done (d_reg ?_)
  refine h_q hflS rfl ?_
  refine h_val rfl (.int .i64 x.m.k) (fun b w hb hH => exec_load rfl rfl (reads_one ty_int rfl) (hH.row 1 rfl) hb) ?_
  refine h_val rfl (.int .u8 x.m.k) (fun b w hb hH => exec_conv Try.underlying3 Try.underlying5 (IntWalk.u8_in _ (by omega)) rfl rfl hb) ?_
  refine h_act (post := fun _ => [WtT g H1, cell g1 28 #[.int .i64 x.m.k, .int .i64 x.m.a, .int .i64 x.m.b, .int .u64 x.m.t, .int .u64 x.m.i, .int .u64 x.m.lt, x.ev, .int .u64 x.m.co, .bool x.m.rf, .int .u64 x.m.bi, .int .u64 x.m.bt, .int .i64 x.m.bc, .int .i64 x.m.o, x.dv, .bool x.m.la]]) rfl (a_does (os' := fun _ => [WtT g H1, cell g1 28 #[.int .i64 x.m.k, .int .i64 x.m.a, .int .i64 x.m.b, .int .u64 x.m.t, .int .u64 x.m.i, .int .u64 x.m.lt, x.ev, .int .u64 x.m.co, .bool x.m.rf, .int .u64 x.m.bi, .int .u64 x.m.bt, .int .i64 x.m.bc, .int .i64 x.m.o, x.dv, .bool x.m.la]]) [0] 0 (ent_of Try.func35 (by kernel_rfl) rfl) (wt_byte g ([]) x.m.k (by omega) H1 (by rw [← hH1]; rfl) (by simp)) rfl rfl rfl (fun _ => rfl) rfl rfl rfl) ?_; rintro ⟨⟩
  refine h_done (d_reg ?_)
  refine h_q hflS rfl ?_
  refine h_val rfl (.int .i64 x.m.a) (fun b w hb hH => exec_load rfl rfl (reads_one ty_int rfl) (hH.row 1 rfl) hb) ?_
  refine h_val rfl (.int .u8 x.m.a) (fun b w hb hH => exec_conv Try.underlying3 Try.underlying5 (IntWalk.u8_in _ (by omega)) rfl rfl hb) ?_
  refine h_act (post := fun _ => [WtT g H2, cell g1 28 #[.int .i64 x.m.k, .int .i64 x.m.a, .int .i64 x.m.b, .int .u64 x.m.t, .int .u64 x.m.i, .int .u64 x.m.lt, x.ev, .int .u64 x.m.co, .bool x.m.rf, .int .u64 x.m.bi, .int .u64 x.m.bt, .int .i64 x.m.bc, .int .i64 x.m.o, x.dv, .bool x.m.la]]) rfl (a_does (os' := fun _ => [WtT g H2, cell g1 28 #[.int .i64 x.m.k, .int .i64 x.m.a, .int .i64 x.m.b, .int .u64 x.m.t, .int .u64 x.m.i, .int .u64 x.m.lt, x.ev, .int .u64 x.m.co, .bool x.m.rf, .int .u64 x.m.bi, .int .u64 x.m.bt, .int .i64 x.m.bc, .int .i64 x.m.o, x.dv, .bool x.m.la]]) [0] 0 (ent_of Try.func35 (by kernel_rfl) rfl) (wt_byte g H1 x.m.a (by omega) H2 hH2 (by omega)) rfl rfl rfl (fun _ => rfl) rfl rfl rfl) ?_; rintro ⟨⟩
  refine h_done (d_reg ?_)
  refine h_q hflS rfl ?_
  refine h_val rfl (.int .i64 x.m.b) (fun b w hb hH => exec_load rfl rfl (reads_one ty_int rfl) (hH.row 1 rfl) hb) ?_
  refine h_val rfl (.int .u8 x.m.b) (fun b w hb hH => exec_conv Try.underlying3 Try.underlying5 (IntWalk.u8_in _ (by omega)) rfl rfl hb) ?_
  refine h_act (post := fun _ => [WtT g (headM x.m), cell g1 28 #[.int .i64 x.m.k, .int .i64 x.m.a, .int .i64 x.m.b, .int .u64 x.m.t, .int .u64 x.m.i, .int .u64 x.m.lt, x.ev, .int .u64 x.m.co, .bool x.m.rf, .int .u64 x.m.bi, .int .u64 x.m.bt, .int .i64 x.m.bc, .int .i64 x.m.o, x.dv, .bool x.m.la]]) rfl (a_does (os' := fun _ => [WtT g (headM x.m), cell g1 28 #[.int .i64 x.m.k, .int .i64 x.m.a, .int .i64 x.m.b, .int .u64 x.m.t, .int .u64 x.m.i, .int .u64 x.m.lt, x.ev, .int .u64 x.m.co, .bool x.m.rf, .int .u64 x.m.bi, .int .u64 x.m.bt, .int .i64 x.m.bc, .int .i64 x.m.o, x.dv, .bool x.m.la]]) [0] 0 (ent_of Try.func35 (by kernel_rfl) rfl) (wt_byte g H2 x.m.b (by omega) (headM x.m) e3 (by omega)) rfl rfl rfl (fun _ => rfl) rfl rfl rfl) ?_; rintro ⟨⟩
  refine h_done (d_seq ?_)
  refine d_parS 6 2 [⟨.quiet, [none, none], fun _ => .pointer (some ⟨g, 0, none⟩), []⟩, ⟨.quiet, [none, none], fun _ => .agg #[.int .i64 x.m.k, .int .i64 x.m.a, .int .i64 x.m.b, .int .u64 x.m.t, .int .u64 x.m.i, .int .u64 x.m.lt, x.ev, .int .u64 x.m.co, .bool x.m.rf, .int .u64 x.m.bi, .int .u64 x.m.bt, .int .i64 x.m.bc, .int .i64 x.m.o, x.dv, .bool x.m.la], []⟩, ⟨.quiet, [none, none], fun _ => .pointer (some ⟨g1, 0, none⟩), []⟩, ⟨.quiet, [none, none], fun _ => .int .i64 x.m.k, [2]⟩, ⟨.actv 0, [some false, some false], fun _ => .int .i64 (h : Int), [3]⟩, ⟨.actv 1, [some true, some false], fun _ => .tuple #[], [0, 1, 4]⟩] [(1, .pointer (some ⟨g1, 0, none⟩)), (2, .slice none 0 0), (3, .int .i64 0), (4, .pointer (some ⟨g, 0, none⟩))] (fun ρ => match ρ with | [r0, r1] => [selS r1 (fun _ => WtT g (layM x.m)) (WtT g (headM x.m)), cell g1 28 #[.int .i64 x.m.k, .int .i64 x.m.a, .int .i64 x.m.b, .int .u64 x.m.t, .int .u64 x.m.i, .int .u64 x.m.lt, x.ev, .int .u64 x.m.co, .bool x.m.rf, .int .u64 x.m.bi, .int .u64 x.m.bt, .int .i64 x.m.bc, .int .i64 x.m.o, x.dv, .bool x.m.la]] | _ => []) (by kernel_rfl) (by kernel_rfl) ⟨rfl, rfl, rfl, rfl, trivial⟩ rfl ?_ ?_
  · skip
    refine s_cons (by intro r0_ r1_; exact ⟨rfl, fun b w hH hb => exec_q1 hflS rfl hb⟩) ?_
    refine s_cons (by intro r0_ r1_; exact ⟨rfl, fun b w hH hb => exec_load rfl rfl (reads_agg (cs := [.int .i64 x.m.k, .int .i64 x.m.a, .int .i64 x.m.b, .int .u64 x.m.t, .int .u64 x.m.i, .int .u64 x.m.lt, x.ev, .int .u64 x.m.co, .bool x.m.rf, .int .u64 x.m.bi, .int .u64 x.m.bt, .int .i64 x.m.bc, .int .i64 x.m.o, x.dv, .bool x.m.la]) ty_api_Msg rfl) (hH.row 1 rfl) hb⟩) ?_
    refine s_cons (by intro r0_ r1_; exact ⟨rfl, fun b w hH hb => exec_q1 hflS rfl hb⟩) ?_
    refine s_cons (by intro r0_ r1_; exact ⟨rfl, fun b w hH hb => exec_load rfl rfl (reads_one ty_int rfl) (hH.row 1 rfl) hb⟩) ?_
    refine s_cons (by exact ⟨rfl, Acts.su (a_call (ent_of Try.func37 (by kernel_rfl) rfl) (fun w hH => fields_any w x.m.k h hh) rfl rfl rfl) rfl⟩) ?_
    refine s_cons (by intro v0_; exact ⟨rfl, Acts.su (a_doesU hU hS (os' := fun _ => [WtT g (layM x.m), cell g1 28 #[.int .i64 x.m.k, .int .i64 x.m.a, .int .i64 x.m.b, .int .u64 x.m.t, .int .u64 x.m.i, .int .u64 x.m.lt, x.ev, .int .u64 x.m.co, .bool x.m.rf, .int .u64 x.m.bi, .int .u64 x.m.bt, .int .i64 x.m.bc, .int .i64 x.m.o, x.dv, .bool x.m.la]]) [0] 0 (ent_of Try.func36 (by kernel_rfl) rfl) (lay_does u x hx hr h hh g) rfl rfl rfl (fun _ => rfl) rfl rfl rfl) rfl⟩) ?_
    exact s_nil
  intro v0_ v1_
  refine WL2.keep (env' := [(2, .slice none 0 0), (3, .int .i64 0), (4, .pointer (some ⟨g, 0, none⟩))]) ⟨rfl, rfl, rfl, trivial⟩ ?_
  refine h_nil (f_to (d_reg ?_))
  refine h_q hflS rfl ?_
  refine h_act (post := fun v8 => [Vec 5 1 encB v8 (layM x.m), WtT g (layM x.m), cell g1 28 #[.int .i64 x.m.k, .int .i64 x.m.a, .int .i64 x.m.b, .int .u64 x.m.t, .int .u64 x.m.i, .int .u64 x.m.lt, x.ev, .int .u64 x.m.co, .bool x.m.rf, .int .u64 x.m.bi, .int .u64 x.m.bt, .int .i64 x.m.bc, .int .i64 x.m.o, x.dv, .bool x.m.la]]) rfl (a_does (os' := fun v8 => [Vec 5 1 encB v8 (layM x.m), WtT g (layM x.m), cell g1 28 #[.int .i64 x.m.k, .int .i64 x.m.a, .int .i64 x.m.b, .int .u64 x.m.t, .int .u64 x.m.i, .int .u64 x.m.lt, x.ev, .int .u64 x.m.co, .bool x.m.rf, .int .u64 x.m.bi, .int .u64 x.m.bt, .int .i64 x.m.bc, .int .i64 x.m.o, x.dv, .bool x.m.la]]) [0] 0 (ent_of Try.func39 (by kernel_rfl) rfl) (wt_bytes g (layM x.m) (by omega)) rfl rfl rfl (fun _ => rfl) rfl rfl rfl) ?_; rintro v8
  refine h_act (post := fun v9 => [Vec 5 1 encB v9 (encM x.m), Vec 5 1 encB v8 (layM x.m), WtT g (layM x.m), cell g1 28 #[.int .i64 x.m.k, .int .i64 x.m.a, .int .i64 x.m.b, .int .u64 x.m.t, .int .u64 x.m.i, .int .u64 x.m.lt, x.ev, .int .u64 x.m.co, .bool x.m.rf, .int .u64 x.m.bi, .int .u64 x.m.bt, .int .i64 x.m.bc, .int .i64 x.m.o, x.dv, .bool x.m.la]]) rfl (a_makes (os' := fun v9 => [Vec 5 1 encB v9 (encM x.m), Vec 5 1 encB v8 (layM x.m), WtT g (layM x.m), cell g1 28 #[.int .i64 x.m.k, .int .i64 x.m.a, .int .i64 x.m.b, .int .u64 x.m.t, .int .u64 x.m.i, .int .u64 x.m.lt, x.ev, .int .u64 x.m.co, .bool x.m.rf, .int .u64 x.m.bi, .int .u64 x.m.bt, .int .i64 x.m.bc, .int .i64 x.m.o, x.dv, .bool x.m.la]]) [] 0 (ent_of Try.func38 (by kernel_rfl) rfl) (fun w hH => seal_mk (hH.sl8 0 rfl) (by omega) _ rfl) rfl rfl rfl (fun _ => rfl) rfl rfl rfl) ?_; rintro v9
  refine h_q hflS rfl ?_
  refine h_done (d_ret ?_)
  exact f_fin2 (.tmp rfl) (.tmp rfl) (fun w h => tells v9 rfl [0] rfl h same_parts) rfl

end Go.Proofs.Ytnhcbjlaeaohjaa.Sep
