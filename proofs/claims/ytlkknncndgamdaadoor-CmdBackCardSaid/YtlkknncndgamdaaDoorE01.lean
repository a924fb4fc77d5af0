/-
  CmdE
-/
import Derived.Test.YtlkknncndgamdaaDoorC02
set_option linter.unusedSimpArgs false
set_option linter.unusedVariables false

namespace Go.Proofs.YtlkknncndgamdaaDoor.Sep
open Go.RowKit
open Go.Proofs.YtlkknncndgamdaaDoor.Mem (Dist Blk Chg below0)

set_option maxRecDepth 100000 in
theorem encode_does (c : CmdD) (ho : c.ok) (hr : rightB c = true) : Does Tryd.prog 11 #[.agg #[.int .i64 c.k, .int .u64 c.s, .int .u64 c.q, .int .u64 c.a, .int .u64 c.b, .int .i64 c.hi, .int .u64 c.lo, .int .i64 c.sc, .string (bs c.x), .string (bs c.y)]] [] (fun (v : Value) => .tuple #[v, .int .i64 0]) (fun (v : Value) => [Vec 5 1 encB v (encL c)]) := by
  have hk := fo_kinds (rightB_iff hr).k
  have hk1 : 1 ≤ c.k := by omega
  have hk2 : c.k ≤ 11 := by omega
  obtain ⟨h, hh⟩ : ∃ h, fo c.k = h := ⟨_, rfl⟩
  obtain ⟨b1, hb1⟩ : ∃ b1, wth h 1 = b1 := ⟨_, rfl⟩
  obtain ⟨b2, hb2⟩ : ∃ b2, wth h 2 = b2 := ⟨_, rfl⟩
  obtain ⟨b3, hb3⟩ : ∃ b3, wth h 4 = b3 := ⟨_, rfl⟩
  obtain ⟨b4, hb4⟩ : ∃ b4, wth h 8 = b4 := ⟨_, rfl⟩
  obtain ⟨b5, hb5⟩ : ∃ b5, wth h 16 = b5 := ⟨_, rfl⟩
  obtain ⟨b6, hb6⟩ : ∃ b6, wth h 32 = b6 := ⟨_, rfl⟩
  obtain ⟨b7, hb7⟩ : ∃ b7, wth h 64 = b7 := ⟨_, rfl⟩
  have hlt : h < 128 := hh ▸ fo_lt c.k
  have RD := rightB_iff hr
  have h5 : b5 = true → 0 ≤ c.sc ∧ c.sc ≤ 18 := fun e => scB_iff (mayB_t RD.d (by rw [hh, hb5, e]))
  have h6 : b6 = true → c.x.length ≤ 3 := fun e => by obtain ⟨_, _, _, e, _⟩ := nameB_iff (mayB_t RD.x (by rw [hh, hb6, e])); rw [e]; simp
  have h7 : b7 = true → c.y.length ≤ 3 := fun e => by obtain ⟨_, _, _, e, _⟩ := nameB_iff (mayB_t RD.y (by rw [hh, hb7, e])); rw [e]; simp
  obtain ⟨L0, hL0⟩ : ∃ L0, [UInt8.ofNat c.k.toNat] = L0 := ⟨_, rfl⟩
  obtain ⟨L1, hL1⟩ : ∃ L1, putIf b1 L0 (layU c.s) = L1 := ⟨_, rfl⟩
  obtain ⟨L2, hL2⟩ : ∃ L2, putIf b2 L1 (layU c.q) = L2 := ⟨_, rfl⟩
  obtain ⟨L3, hL3⟩ : ∃ L3, putIf b3 L2 (layU c.a) = L3 := ⟨_, rfl⟩
  obtain ⟨L4, hL4⟩ : ∃ L4, putIf b4 L3 (layU c.b) = L4 := ⟨_, rfl⟩
  obtain ⟨L5, hL5⟩ : ∃ L5, putIf b5 L4 (layD c.hi c.lo c.sc) = L5 := ⟨_, rfl⟩
  obtain ⟨L6, hL6⟩ : ∃ L6, putIf b6 L5 c.x = L6 := ⟨_, rfl⟩
  obtain ⟨L7, hL7⟩ : ∃ L7, putIf b7 L6 c.y = L7 := ⟨_, rfl⟩
  have hn0 : L0.length = 1 := by rw [← hL0]; rfl
  have hn1 := putIf_len3 hL1 (fun _ => layU_len ho.s)
  have hn2 := putIf_len3 hL2 (fun _ => layU_len ho.q)
  have hn3 := putIf_len3 hL3 (fun _ => layU_len ho.a)
  have hn4 := putIf_len3 hL4 (fun _ => layU_len ho.b)
  have hn5 := putIf_len3 hL5 (fun _ => layD_len ho.hi ho.lo)
  have hn6 := putIf_len3 hL6 h6
  have hn7 := putIf_len3 hL7 h7
  have hE : L7 = encL c := by
    unfold encL
    rw [hh, hb1, hb2, hb3, hb4, hb5, hb6, hb7, hL0, hL1, hL2, hL3, hL4, hL5, hL6, hL7]
  refine d_ins (args := [.agg #[.int .i64 c.k, .int .u64 c.s, .int .u64 c.q, .int .u64 c.a, .int .u64 c.b, .int .i64 c.hi, .int .u64 c.lo, .int .i64 c.sc, .string (bs c.x), .string (bs c.y)]]) 62 Tryd.func11 rfl rfl rfl ?_; intro w rs
  refine d_reg ?_
  refine h_q hflS rfl ?_
  refine h_act (post := fun g1 => [cell g1 28 #[.int .i64 c.k, .int .u64 c.s, .int .u64 c.q, .int .u64 c.a, .int .u64 c.b, .int .i64 c.hi, .int .u64 c.lo, .int .i64 c.sc, .string (bs c.x), .string (bs c.y)]]) rfl (a_box (cs := #[.int .i64 c.k, .int .u64 c.s, .int .u64 c.q, .int .u64 c.a, .int .u64 c.b, .int .i64 c.hi, .int .u64 c.lo, .int .i64 c.sc, .string (bs c.x), .string (bs c.y)]) rfl rfl rfl) ?_; rintro g1
  refine h_q hflS rfl ?_
  refine h_done (d_seq (d_reg ?_))
  refine h_q hflS rfl ?_
  refine h_val rfl (.agg #[.int .i64 c.k, .int .u64 c.s, .int .u64 c.q, .int .u64 c.a, .int .u64 c.b, .int .i64 c.hi, .int .u64 c.lo, .int .i64 c.sc, .string (bs c.x), .string (bs c.y)]) (fun b w hb hH => exec_load rfl rfl (reads_agg (cs := [.int .i64 c.k, .int .u64 c.s, .int .u64 c.q, .int .u64 c.a, .int .u64 c.b, .int .i64 c.hi, .int .u64 c.lo, .int .i64 c.sc, .string (bs c.x), .string (bs c.y)]) ty_api_Cmd rfl) (hH.row 0 rfl) hb) ?_
  refine h_act (post := fun _ => [cell g1 28 #[.int .i64 c.k, .int .u64 c.s, .int .u64 c.q, .int .u64 c.a, .int .u64 c.b, .int .i64 c.hi, .int .u64 c.lo, .int .i64 c.sc, .string (bs c.x), .string (bs c.y)]]) rfl (a_call (ent_of Tryd.func9 (by kernel_rfl) rfl) (fun w hH => right_any w c ho true hr) rfl rfl rfl) ?_; rintro ⟨⟩
  refine h_q hflS rfl ?_
  refine h_done (d_else rfl (d_skip (f_to (d_reg ?_))))
  refine h_q hflS rfl ?_
  refine h_act (post := fun g => [WtT g ([]), cell g1 28 #[.int .i64 c.k, .int .u64 c.s, .int .u64 c.q, .int .u64 c.a, .int .u64 c.b, .int .i64 c.hi, .int .u64 c.lo, .int .i64 c.sc, .string (bs c.x), .string (bs c.y)]]) rfl (a_does (os' := fun g => [WtT g ([]), cell g1 28 #[.int .i64 c.k, .int .u64 c.s, .int .u64 c.q, .int .u64 c.a, .int .u64 c.b, .int .i64 c.hi, .int .u64 c.lo, .int .i64 c.sc, .string (bs c.x), .string (bs c.y)]]) [] 0 (ent_of Tryd.func27 (by kernel_rfl) rfl) (wt_new) rfl rfl rfl (fun _ => rfl) rfl rfl rfl) ?_; rintro g
  refine h_q hflS rfl ?_
  refine h_done (d_reg ?_)
  refine h_q hflS rfl ?_
  refine h_val rfl (.int .i64 c.k) (fun b w hb hH => exec_load rfl rfl (reads_one ty_int rfl) (hH.row 1 rfl) hb) ?_
  refine h_val rfl (.int .u8 c.k) (fun b w hb hH => by exact exec_conv Tryd.underlying3 Tryd.underlying5 (IntWalk.u8_in _ (by omega)) rfl rfl hb) ?_
  refine h_act (post := fun _ => [WtT g L0, cell g1 28 #[.int .i64 c.k, .int .u64 c.s, .int .u64 c.q, .int .u64 c.a, .int .u64 c.b, .int .i64 c.hi, .int .u64 c.lo, .int .i64 c.sc, .string (bs c.x), .string (bs c.y)]]) rfl (a_does (os' := fun _ => [WtT g L0, cell g1 28 #[.int .i64 c.k, .int .u64 c.s, .int .u64 c.q, .int .u64 c.a, .int .u64 c.b, .int .i64 c.hi, .int .u64 c.lo, .int .i64 c.sc, .string (bs c.x), .string (bs c.y)]]) [0] 0 (ent_of Tryd.func28 (by kernel_rfl) rfl) (wt_byte g ([]) c.k (by omega) L0 (by rw [← hL0]; rfl) (by simp)) rfl rfl rfl (fun _ => rfl) rfl rfl rfl) ?_; rintro ⟨⟩
  refine h_done (d_reg ?_)
  refine h_q hflS rfl ?_
  refine h_val rfl (.int .i64 c.k) (fun b w hb hH => exec_load rfl rfl (reads_one ty_int rfl) (hH.row 1 rfl) hb) ?_
  refine h_act (post := fun _ => [WtT g L0, cell g1 28 #[.int .i64 c.k, .int .u64 c.s, .int .u64 c.q, .int .u64 c.a, .int .u64 c.b, .int .i64 c.hi, .int .u64 c.lo, .int .i64 c.sc, .string (bs c.x), .string (bs c.y)]]) rfl (a_call (ent_of Tryd.func18 (by kernel_rfl) rfl) (fun w hH => fieldsOf_any w c.k h hh) rfl rfl rfl) ?_; rintro ⟨⟩
  refine h_q hflS rfl ?_
  refine h_done (d_seq (d_reg ?_))
  refine h_q hflS rfl ?_
  refine h_act (post := fun _ => [WtT g L0, cell g1 28 #[.int .i64 c.k, .int .u64 c.s, .int .u64 c.q, .int .u64 c.a, .int .u64 c.b, .int .i64 c.hi, .int .u64 c.lo, .int .i64 c.sc, .string (bs c.x), .string (bs c.y)]]) rfl (a_call (ent_of Tryd.func20 (by kernel_rfl) rfl) (fun w hH => with_any w h 1 hlt (by decide) b1 hb1) rfl rfl rfl) ?_; rintro ⟨⟩
  refine h_done ?_
  refine d_mid [(1, .pointer (some ⟨g1, 0, none⟩)), (2, .slice none 0 0), (3, .int .i64 0), (4, .pointer (some ⟨g, 0, none⟩)), (5, .int .i64 (h : Int))] [WtT g L1, cell g1 28 #[.int .i64 c.k, .int .u64 c.s, .int .u64 c.q, .int .u64 c.a, .int .u64 c.b, .int .i64 c.hi, .int .u64 c.lo, .int .i64 c.sc, .string (bs c.x), .string (bs c.y)]] ?_ ?_
  · skip
    cases b1
    · skip
      obtain rfl : L0 = L1 := hL1
      refine d_else rfl (d_skip ?_)
      exact f_mid 0 ⟨rfl, rfl, rfl, rfl, rfl, trivial⟩ rfl
    · skip
      refine d_then rfl (d_reg1 ?_)
      refine h_q hflS rfl ?_
      refine h_val rfl (.int .u64 c.s) (fun b w hb hH => exec_load rfl rfl (reads_one ty_uint64 rfl) (hH.row 1 rfl) hb) ?_
      refine h_act (post := fun _ => [WtT g L1, cell g1 28 #[.int .i64 c.k, .int .u64 c.s, .int .u64 c.q, .int .u64 c.a, .int .u64 c.b, .int .i64 c.hi, .int .u64 c.lo, .int .i64 c.sc, .string (bs c.x), .string (bs c.y)]]) rfl (a_does (os' := fun _ => [WtT g L1, cell g1 28 #[.int .i64 c.k, .int .u64 c.s, .int .u64 c.q, .int .u64 c.a, .int .u64 c.b, .int .i64 c.hi, .int .u64 c.lo, .int .i64 c.sc, .string (bs c.x), .string (bs c.y)]]) [0] 0 (ent_of Tryd.func29 (by kernel_rfl) rfl) (wt_num g L0 c.s ho.s L1 hL1 (by omega)) rfl rfl rfl (fun _ => rfl) rfl rfl rfl) ?_; rintro ⟨⟩
      refine h_nil ?_
      exact f_mid 0 ⟨rfl, rfl, rfl, rfl, rfl, trivial⟩ rfl
  refine f_to (d_seq (d_reg ?_))
  refine h_q hflS rfl ?_
  refine h_act (post := fun _ => [WtT g L1, cell g1 28 #[.int .i64 c.k, .int .u64 c.s, .int .u64 c.q, .int .u64 c.a, .int .u64 c.b, .int .i64 c.hi, .int .u64 c.lo, .int .i64 c.sc, .string (bs c.x), .string (bs c.y)]]) rfl (a_call (ent_of Tryd.func20 (by kernel_rfl) rfl) (fun w hH => with_any w h 2 hlt (by decide) b2 hb2) rfl rfl rfl) ?_; rintro ⟨⟩
  refine h_done ?_
  refine d_mid [(1, .pointer (some ⟨g1, 0, none⟩)), (2, .slice none 0 0), (3, .int .i64 0), (4, .pointer (some ⟨g, 0, none⟩)), (5, .int .i64 (h : Int))] [WtT g L2, cell g1 28 #[.int .i64 c.k, .int .u64 c.s, .int .u64 c.q, .int .u64 c.a, .int .u64 c.b, .int .i64 c.hi, .int .u64 c.lo, .int .i64 c.sc, .string (bs c.x), .string (bs c.y)]] ?_ ?_
  · skip
    cases b2
    · skip
      obtain rfl : L1 = L2 := hL2
      refine d_else rfl (d_skip ?_)
      exact f_mid 0 ⟨rfl, rfl, rfl, rfl, rfl, trivial⟩ rfl
    · skip
      refine d_then rfl (d_reg1 ?_)
      refine h_q hflS rfl ?_
      refine h_val rfl (.int .u64 c.q) (fun b w hb hH => exec_load rfl rfl (reads_one ty_uint64 rfl) (hH.row 1 rfl) hb) ?_
      refine h_act (post := fun _ => [WtT g L2, cell g1 28 #[.int .i64 c.k, .int .u64 c.s, .int .u64 c.q, .int .u64 c.a, .int .u64 c.b, .int .i64 c.hi, .int .u64 c.lo, .int .i64 c.sc, .string (bs c.x), .string (bs c.y)]]) rfl (a_does (os' := fun _ => [WtT g L2, cell g1 28 #[.int .i64 c.k, .int .u64 c.s, .int .u64 c.q, .int .u64 c.a, .int .u64 c.b, .int .i64 c.hi, .int .u64 c.lo, .int .i64 c.sc, .string (bs c.x), .string (bs c.y)]]) [0] 0 (ent_of Tryd.func29 (by kernel_rfl) rfl) (wt_num g L1 c.q ho.q L2 hL2 (by omega)) rfl rfl rfl (fun _ => rfl) rfl rfl rfl) ?_; rintro ⟨⟩
      refine h_nil ?_
      exact f_mid 0 ⟨rfl, rfl, rfl, rfl, rfl, trivial⟩ rfl
  refine f_to (d_seq (d_reg ?_))
  refine h_q hflS rfl ?_
  refine h_act (post := fun _ => [WtT g L2, cell g1 28 #[.int .i64 c.k, .int .u64 c.s, .int .u64 c.q, .int .u64 c.a, .int .u64 c.b, .int .i64 c.hi, .int .u64 c.lo, .int .i64 c.sc, .string (bs c.x), .string (bs c.y)]]) rfl (a_call (ent_of Tryd.func20 (by kernel_rfl) rfl) (fun w hH => with_any w h 4 hlt (by decide) b3 hb3) rfl rfl rfl) ?_; rintro ⟨⟩
  refine h_done ?_
  refine d_mid [(1, .pointer (some ⟨g1, 0, none⟩)), (2, .slice none 0 0), (3, .int .i64 0), (4, .pointer (some ⟨g, 0, none⟩)), (5, .int .i64 (h : Int))] [WtT g L3, cell g1 28 #[.int .i64 c.k, .int .u64 c.s, .int .u64 c.q, .int .u64 c.a, .int .u64 c.b, .int .i64 c.hi, .int .u64 c.lo, .int .i64 c.sc, .string (bs c.x), .string (bs c.y)]] ?_ ?_
  · skip
    cases b3
    · skip
      obtain rfl : L2 = L3 := hL3
      refine d_else rfl (d_skip ?_)
      exact f_mid 0 ⟨rfl, rfl, rfl, rfl, rfl, trivial⟩ rfl
    · skip
      refine d_then rfl (d_reg1 ?_)
      refine h_q hflS rfl ?_
      refine h_val rfl (.int .u64 c.a) (fun b w hb hH => exec_load rfl rfl (reads_one ty_uint64 rfl) (hH.row 1 rfl) hb) ?_
      refine h_act (post := fun _ => [WtT g L3, cell g1 28 #[.int .i64 c.k, .int .u64 c.s, .int .u64 c.q, .int .u64 c.a, .int .u64 c.b, .int .i64 c.hi, .int .u64 c.lo, .int .i64 c.sc, .string (bs c.x), .string (bs c.y)]]) rfl (a_does (os' := fun _ => [WtT g L3, cell g1 28 #[.int .i64 c.k, .int .u64 c.s, .int .u64 c.q, .int .u64 c.a, .int .u64 c.b, .int .i64 c.hi, .int .u64 c.lo, .int .i64 c.sc, .string (bs c.x), .string (bs c.y)]]) [0] 0 (ent_of Tryd.func29 (by kernel_rfl) rfl) (wt_num g L2 c.a ho.a L3 hL3 (by omega)) rfl rfl rfl (fun _ => rfl) rfl rfl rfl) ?_; rintro ⟨⟩
      refine h_nil ?_
      exact f_mid 0 ⟨rfl, rfl, rfl, rfl, rfl, trivial⟩ rfl
  refine f_to (d_seq (d_reg ?_))
  refine h_q hflS rfl ?_
  refine h_act (post := fun _ => [WtT g L3, cell g1 28 #[.int .i64 c.k, .int .u64 c.s, .int .u64 c.q, .int .u64 c.a, .int .u64 c.b, .int .i64 c.hi, .int .u64 c.lo, .int .i64 c.sc, .string (bs c.x), .string (bs c.y)]]) rfl (a_call (ent_of Tryd.func20 (by kernel_rfl) rfl) (fun w hH => with_any w h 8 hlt (by decide) b4 hb4) rfl rfl rfl) ?_; rintro ⟨⟩
  refine h_done ?_
  refine d_mid [(1, .pointer (some ⟨g1, 0, none⟩)), (2, .slice none 0 0), (3, .int .i64 0), (4, .pointer (some ⟨g, 0, none⟩)), (5, .int .i64 (h : Int))] [WtT g L4, cell g1 28 #[.int .i64 c.k, .int .u64 c.s, .int .u64 c.q, .int .u64 c.a, .int .u64 c.b, .int .i64 c.hi, .int .u64 c.lo, .int .i64 c.sc, .string (bs c.x), .string (bs c.y)]] ?_ ?_
  · skip
    cases b4
    · skip
      obtain rfl : L3 = L4 := hL4
      refine d_else rfl (d_skip ?_)
      exact f_mid 0 ⟨rfl, rfl, rfl, rfl, rfl, trivial⟩ rfl
    · skip
      refine d_then rfl (d_reg1 ?_)
      refine h_q hflS rfl ?_
      refine h_val rfl (.int .u64 c.b) (fun b w hb hH => exec_load rfl rfl (reads_one ty_uint64 rfl) (hH.row 1 rfl) hb) ?_
      refine h_act (post := fun _ => [WtT g L4, cell g1 28 #[.int .i64 c.k, .int .u64 c.s, .int .u64 c.q, .int .u64 c.a, .int .u64 c.b, .int .i64 c.hi, .int .u64 c.lo, .int .i64 c.sc, .string (bs c.x), .string (bs c.y)]]) rfl (a_does (os' := fun _ => [WtT g L4, cell g1 28 #[.int .i64 c.k, .int .u64 c.s, .int .u64 c.q, .int .u64 c.a, .int .u64 c.b, .int .i64 c.hi, .int .u64 c.lo, .int .i64 c.sc, .string (bs c.x), .string (bs c.y)]]) [0] 0 (ent_of Tryd.func29 (by kernel_rfl) rfl) (wt_num g L3 c.b ho.b L4 hL4 (by omega)) rfl rfl rfl (fun _ => rfl) rfl rfl rfl) ?_; rintro ⟨⟩
      refine h_nil ?_
      exact f_mid 0 ⟨rfl, rfl, rfl, rfl, rfl, trivial⟩ rfl
  refine f_to (d_seq (d_reg ?_))
  refine h_q hflS rfl ?_
  refine h_act (post := fun _ => [WtT g L4, cell g1 28 #[.int .i64 c.k, .int .u64 c.s, .int .u64 c.q, .int .u64 c.a, .int .u64 c.b, .int .i64 c.hi, .int .u64 c.lo, .int .i64 c.sc, .string (bs c.x), .string (bs c.y)]]) rfl (a_call (ent_of Tryd.func20 (by kernel_rfl) rfl) (fun w hH => with_any w h 16 hlt (by decide) b5 hb5) rfl rfl rfl) ?_; rintro ⟨⟩
  refine h_done ?_
  refine d_mid [(1, .pointer (some ⟨g1, 0, none⟩)), (2, .slice none 0 0), (3, .int .i64 0), (4, .pointer (some ⟨g, 0, none⟩)), (5, .int .i64 (h : Int))] [WtT g L5, cell g1 28 #[.int .i64 c.k, .int .u64 c.s, .int .u64 c.q, .int .u64 c.a, .int .u64 c.b, .int .i64 c.hi, .int .u64 c.lo, .int .i64 c.sc, .string (bs c.x), .string (bs c.y)]] ?_ ?_
  · skip
    cases b5
    · skip
      obtain rfl : L4 = L5 := hL5
      refine d_else rfl (d_skip ?_)
      exact f_mid 0 ⟨rfl, rfl, rfl, rfl, rfl, trivial⟩ rfl
    · skip
      refine d_then rfl (d_reg1 ?_)
      refine h_q hflS rfl ?_
      refine h_val rfl (.agg #[.int .i64 c.hi, .int .u64 c.lo, .int .i64 c.sc]) (fun b w hb hH => exec_load rfl rfl (reads_agg (cs := [.int .i64 c.k, .int .u64 c.s, .int .u64 c.q, .int .u64 c.a, .int .u64 c.b, .int .i64 c.hi, .int .u64 c.lo, .int .i64 c.sc, .string (bs c.x), .string (bs c.y)]) ty_api_Dec rfl) (hH.row 1 rfl) hb) ?_
      refine h_act (post := fun _ => [WtT g L5, cell g1 28 #[.int .i64 c.k, .int .u64 c.s, .int .u64 c.q, .int .u64 c.a, .int .u64 c.b, .int .i64 c.hi, .int .u64 c.lo, .int .i64 c.sc, .string (bs c.x), .string (bs c.y)]]) rfl (a_does (os' := fun _ => [WtT g L5, cell g1 28 #[.int .i64 c.k, .int .u64 c.s, .int .u64 c.q, .int .u64 c.a, .int .u64 c.b, .int .i64 c.hi, .int .u64 c.lo, .int .i64 c.sc, .string (bs c.x), .string (bs c.y)]]) [0] 0 (ent_of Tryd.func30 (by kernel_rfl) rfl) (layAmount_does g L4 c.hi c.lo c.sc ho.hi ho.lo (h5 rfl) L5 hL5 (by omega)) rfl rfl rfl (fun _ => rfl) rfl rfl rfl) ?_; rintro ⟨⟩
      refine h_nil ?_
      exact f_mid 0 ⟨rfl, rfl, rfl, rfl, rfl, trivial⟩ rfl
  refine f_to (d_seq (d_reg ?_))
  refine h_q hflS rfl ?_
  refine h_act (post := fun _ => [WtT g L5, cell g1 28 #[.int .i64 c.k, .int .u64 c.s, .int .u64 c.q, .int .u64 c.a, .int .u64 c.b, .int .i64 c.hi, .int .u64 c.lo, .int .i64 c.sc, .string (bs c.x), .string (bs c.y)]]) rfl (a_call (ent_of Tryd.func20 (by kernel_rfl) rfl) (fun w hH => with_any w h 32 hlt (by decide) b6 hb6) rfl rfl rfl) ?_; rintro ⟨⟩
  refine h_done ?_
  refine d_mid [(1, .pointer (some ⟨g1, 0, none⟩)), (2, .slice none 0 0), (3, .int .i64 0), (4, .pointer (some ⟨g, 0, none⟩)), (5, .int .i64 (h : Int))] [WtT g L6, cell g1 28 #[.int .i64 c.k, .int .u64 c.s, .int .u64 c.q, .int .u64 c.a, .int .u64 c.b, .int .i64 c.hi, .int .u64 c.lo, .int .i64 c.sc, .string (bs c.x), .string (bs c.y)]] ?_ ?_
  · skip
    cases b6
    · skip
      obtain rfl : L5 = L6 := hL6
      refine d_else rfl (d_skip ?_)
      exact f_mid 0 ⟨rfl, rfl, rfl, rfl, rfl, trivial⟩ rfl
    · skip
      refine d_then rfl (d_reg1 ?_)
      refine h_q hflS rfl ?_
      refine h_val rfl (.string (bs c.x)) (fun b w hb hH => exec_load rfl rfl (reads_one ty_string rfl) (hH.row 1 rfl) hb) ?_
      refine h_act (post := fun _ => [WtT g L6, cell g1 28 #[.int .i64 c.k, .int .u64 c.s, .int .u64 c.q, .int .u64 c.a, .int .u64 c.b, .int .i64 c.hi, .int .u64 c.lo, .int .i64 c.sc, .string (bs c.x), .string (bs c.y)]]) rfl (a_does (os' := fun _ => [WtT g L6, cell g1 28 #[.int .i64 c.k, .int .u64 c.s, .int .u64 c.q, .int .u64 c.a, .int .u64 c.b, .int .i64 c.hi, .int .u64 c.lo, .int .i64 c.sc, .string (bs c.x), .string (bs c.y)]]) [0] 0 (ent_of Tryd.func31 (by kernel_rfl) rfl) (layName_does g L5 c.x L6 hL6 (by have := h6 rfl; omega)) rfl rfl rfl (fun _ => rfl) rfl rfl rfl) ?_; rintro ⟨⟩
      refine h_nil ?_
      exact f_mid 0 ⟨rfl, rfl, rfl, rfl, rfl, trivial⟩ rfl
  refine f_to (d_seq (d_reg ?_))
  refine h_q hflS rfl ?_
  refine h_act (post := fun _ => [WtT g L6, cell g1 28 #[.int .i64 c.k, .int .u64 c.s, .int .u64 c.q, .int .u64 c.a, .int .u64 c.b, .int .i64 c.hi, .int .u64 c.lo, .int .i64 c.sc, .string (bs c.x), .string (bs c.y)]]) rfl (a_call (ent_of Tryd.func20 (by kernel_rfl) rfl) (fun w hH => with_any w h 64 hlt (by decide) b7 hb7) rfl rfl rfl) ?_; rintro ⟨⟩
  refine h_done ?_
  refine d_mid [(2, .slice none 0 0), (3, .int .i64 0), (4, .pointer (some ⟨g, 0, none⟩))] [WtT g L7, cell g1 28 #[.int .i64 c.k, .int .u64 c.s, .int .u64 c.q, .int .u64 c.a, .int .u64 c.b, .int .i64 c.hi, .int .u64 c.lo, .int .i64 c.sc, .string (bs c.x), .string (bs c.y)]] ?_ ?_
  · skip
    cases b7
    · skip
      obtain rfl : L6 = L7 := hL7
      refine d_else rfl (d_skip ?_)
      exact f_mid 0 ⟨rfl, rfl, rfl, trivial⟩ rfl
    · skip
      refine d_then rfl (d_reg1 ?_)
      refine h_q hflS rfl ?_
      refine h_val rfl (.string (bs c.y)) (fun b w hb hH => exec_load rfl rfl (reads_one ty_string rfl) (hH.row 1 rfl) hb) ?_
      refine h_act (post := fun _ => [WtT g L7, cell g1 28 #[.int .i64 c.k, .int .u64 c.s, .int .u64 c.q, .int .u64 c.a, .int .u64 c.b, .int .i64 c.hi, .int .u64 c.lo, .int .i64 c.sc, .string (bs c.x), .string (bs c.y)]]) rfl (a_does (os' := fun _ => [WtT g L7, cell g1 28 #[.int .i64 c.k, .int .u64 c.s, .int .u64 c.q, .int .u64 c.a, .int .u64 c.b, .int .i64 c.hi, .int .u64 c.lo, .int .i64 c.sc, .string (bs c.x), .string (bs c.y)]]) [0] 0 (ent_of Tryd.func31 (by kernel_rfl) rfl) (layName_does g L6 c.y L7 hL7 (by have := h7 rfl; omega)) rfl rfl rfl (fun _ => rfl) rfl rfl rfl) ?_; rintro ⟨⟩
      refine h_nil ?_
      exact f_mid 0 ⟨rfl, rfl, rfl, trivial⟩ rfl
  refine f_to (d_reg ?_)
  refine h_q hflS rfl ?_
  refine h_act (post := fun v => [Vec 5 1 encB v L7, WtT g L7, cell g1 28 #[.int .i64 c.k, .int .u64 c.s, .int .u64 c.q, .int .u64 c.a, .int .u64 c.b, .int .i64 c.hi, .int .u64 c.lo, .int .i64 c.sc, .string (bs c.x), .string (bs c.y)]]) rfl (a_does (os' := fun v => [Vec 5 1 encB v L7, WtT g L7, cell g1 28 #[.int .i64 c.k, .int .u64 c.s, .int .u64 c.q, .int .u64 c.a, .int .u64 c.b, .int .i64 c.hi, .int .u64 c.lo, .int .i64 c.sc, .string (bs c.x), .string (bs c.y)]]) [0] 0 (ent_of Tryd.func32 (by kernel_rfl) rfl) (wt_bytes g L7 (by omega)) rfl rfl rfl (fun _ => rfl) rfl rfl rfl) ?_; rintro v
  refine h_q hflS rfl ?_
  refine h_done (d_ret ?_)
  exact f_fin2 (.tmp rfl) (.tmp rfl) (fun w h => tells v rfl [0] rfl h (fun z hz => ⟨z, .refl _, by rw [← hE]; exact hz⟩)) rfl

set_option maxRecDepth 100000 in
theorem encode_bad (w : World) (c : CmdD) (ho : c.ok) (hr : rightB c = false) : Calls Tryd.prog 11 #[.agg #[.int .i64 c.k, .int .u64 c.s, .int .u64 c.q, .int .u64 c.a, .int .u64 c.b, .int .i64 c.hi, .int .u64 c.lo, .int .i64 c.sc, .string (bs c.x), .string (bs c.y)]] w fun e w' => e = .returned (.tuple #[.slice none 0 0, .int .i64 1]) ∧ Below w.heap.size w w' := by
  refine d_in (args := [.agg #[.int .i64 c.k, .int .u64 c.s, .int .u64 c.q, .int .u64 c.a, .int .u64 c.b, .int .i64 c.hi, .int .u64 c.lo, .int .i64 c.sc, .string (bs c.x), .string (bs c.y)]]) 62 Tryd.func11 rfl rfl rfl ?_
  refine d_reg ?_
  refine h_q hflS rfl ?_
  refine h_act (post := fun g1 => [cell g1 28 #[.int .i64 c.k, .int .u64 c.s, .int .u64 c.q, .int .u64 c.a, .int .u64 c.b, .int .i64 c.hi, .int .u64 c.lo, .int .i64 c.sc, .string (bs c.x), .string (bs c.y)]]) rfl (a_box (cs := #[.int .i64 c.k, .int .u64 c.s, .int .u64 c.q, .int .u64 c.a, .int .u64 c.b, .int .i64 c.hi, .int .u64 c.lo, .int .i64 c.sc, .string (bs c.x), .string (bs c.y)]) rfl rfl rfl) ?_; rintro g1
  refine h_q hflS rfl ?_
  refine h_done (d_seq (d_reg ?_))
  refine h_q hflS rfl ?_
  refine h_val rfl (.agg #[.int .i64 c.k, .int .u64 c.s, .int .u64 c.q, .int .u64 c.a, .int .u64 c.b, .int .i64 c.hi, .int .u64 c.lo, .int .i64 c.sc, .string (bs c.x), .string (bs c.y)]) (fun b w hb hH => exec_load rfl rfl (reads_agg (cs := [.int .i64 c.k, .int .u64 c.s, .int .u64 c.q, .int .u64 c.a, .int .u64 c.b, .int .i64 c.hi, .int .u64 c.lo, .int .i64 c.sc, .string (bs c.x), .string (bs c.y)]) ty_api_Cmd rfl) (hH.row 0 rfl) hb) ?_
  refine h_act (post := fun _ => [cell g1 28 #[.int .i64 c.k, .int .u64 c.s, .int .u64 c.q, .int .u64 c.a, .int .u64 c.b, .int .i64 c.hi, .int .u64 c.lo, .int .i64 c.sc, .string (bs c.x), .string (bs c.y)]]) rfl (a_call (ent_of Tryd.func9 (by kernel_rfl) rfl) (fun w hH => right_any w c ho false hr) rfl rfl rfl) ?_; rintro ⟨⟩
  refine h_q hflS rfl ?_
  refine h_done (d_then rfl (d_reg ?_))
  refine h_q hflS rfl ?_
  refine h_done (d_ret (f_then_ret ?_))
  exact f_fin2 (.tmp rfl) (.tmp rfl) (fun w h => ⟨rfl, below0 h.up⟩) rfl

set_option maxRecDepth 100000 in
theorem read_does (g : Nat) (l : List UInt8) (c : CmdD) (l' : List UInt8) (f' : Nat) (H : Read l c l' f') : Does Tryd.prog 38 #[.pointer (some ⟨g, 0, none⟩)] [RdT g l 0] (fun (_ : Unit) => .agg #[.int .i64 c.k, .int .u64 c.s, .int .u64 c.q, .int .u64 c.a, .int .u64 c.b, .int .i64 c.hi, .int .u64 c.lo, .int .i64 c.sc, .string (bs c.x), .string (bs c.y)]) (fun (_ : Unit) => [RdT g l' f']) := by
  obtain ⟨n0, l0, f0, h0, n1, l1, f1, h1, n2, l2, f2, h2, n3, l3, f3, h3, n4, l4, f4, h4, hi, lo, sc, l5, f5, h5, x, l6, f6, h6, y, h7, rfl⟩ := H
  have hn0 := rbyte_lt 11 l 0
  rw [h0] at hn0
  have hn0 : n0 < 256 := hn0
  obtain ⟨h, hh⟩ : ∃ h, fo (n0 : Int) = h := ⟨_, rfl⟩
  have hlt : h < 128 := hh ▸ fo_lt _
  rw [hh] at h1 h2 h3 h4 h5 h6 h7
  obtain ⟨b1, hb1⟩ : ∃ b1, wth h 1 = b1 := ⟨_, rfl⟩
  rw [hb1] at h1
  obtain ⟨b2, hb2⟩ : ∃ b2, wth h 2 = b2 := ⟨_, rfl⟩
  rw [hb2] at h2
  obtain ⟨b3, hb3⟩ : ∃ b3, wth h 4 = b3 := ⟨_, rfl⟩
  rw [hb3] at h3
  obtain ⟨b4, hb4⟩ : ∃ b4, wth h 8 = b4 := ⟨_, rfl⟩
  rw [hb4] at h4
  obtain ⟨b5, hb5⟩ : ∃ b5, wth h 16 = b5 := ⟨_, rfl⟩
  rw [hb5] at h5
  obtain ⟨b6, hb6⟩ : ∃ b6, wth h 32 = b6 := ⟨_, rfl⟩
  rw [hb6] at h6
  obtain ⟨b7, hb7⟩ : ∃ b7, wth h 64 = b7 := ⟨_, rfl⟩
  rw [hb7] at h7
  refine d_ins (args := [.pointer (some ⟨g, 0, none⟩)]) 47 Tryd.func38 rfl rfl rfl ?_; intro w rs
  refine d_reg ?_
  refine h_q hflS rfl ?_
  refine h_act (post := fun gc => [cell gc 28 #[.int .i64 0, .int .u64 0, .int .u64 0, .int .u64 0, .int .u64 0, .int .i64 0, .int .u64 0, .int .i64 0, .string { data := #[] }, .string { data := #[] }], RdT g l 0]) rfl (a_alloc ze_api_Cmd rfl) ?_; rintro gc
  refine h_done (d_reg ?_)
  refine h_q hflS rfl ?_
  refine h_act (post := fun _ => [cell gc 28 #[.int .i64 0, .int .u64 0, .int .u64 0, .int .u64 0, .int .u64 0, .int .i64 0, .int .u64 0, .int .i64 0, .string { data := #[] }, .string { data := #[] }], RdT g l0 f0]) rfl (a_does (os' := fun _ => [cell gc 28 #[.int .i64 0, .int .u64 0, .int .u64 0, .int .u64 0, .int .u64 0, .int .i64 0, .int .u64 0, .int .i64 0, .string { data := #[] }, .string { data := #[] }], RdT g l0 f0]) [1] 0 (ent_of Tryd.func52 (by kernel_rfl) rfl) (rd_byte g l 0 11 (by decide) (n0, l0, f0) h0) rfl rfl rfl (fun _ => rfl) rfl rfl rfl) ?_; rintro ⟨⟩
  refine h_val rfl (.int .i64 (n0 : Int)) (fun b w hb hH => by exact exec_conv Tryd.underlying5 Tryd.underlying3 (IntWalk.i64_in _ (by omega)) rfl rfl hb) ?_
  refine h_q hflS rfl ?_
  refine h_acts (post := fun _ => [cell gc 28 #[.int .i64 (n0 : Int), .int .u64 0, .int .u64 0, .int .u64 0, .int .u64 0, .int .i64 0, .int .u64 0, .int .i64 0, .string { data := #[] }, .string { data := #[] }], RdT g l0 f0]) rfl rfl (a_store 0 (v := .int .i64 (n0 : Int)) #[.int .i64 (n0 : Int), .int .u64 0, .int .u64 0, .int .u64 0, .int .u64 0, .int .i64 0, .int .u64 0, .int .i64 0, .string { data := #[] }, .string { data := #[] }] ty_int.2 rfl rfl rfl rfl rfl rfl rfl rfl rfl) ?_; rintro ⟨⟩
  refine h_done (d_reg ?_)
  refine h_q hflS rfl ?_
  refine h_val rfl (.int .i64 (n0 : Int)) (fun b w hb hH => exec_load rfl rfl (reads_one ty_int rfl) (hH.row 0 rfl) hb) ?_
  refine h_act (post := fun _ => [cell gc 28 #[.int .i64 (n0 : Int), .int .u64 0, .int .u64 0, .int .u64 0, .int .u64 0, .int .i64 0, .int .u64 0, .int .i64 0, .string { data := #[] }, .string { data := #[] }], RdT g l0 f0]) rfl (a_call (ent_of Tryd.func18 (by kernel_rfl) rfl) (fun w hH => fieldsOf_any w (n0 : Int) h hh) rfl rfl rfl) ?_; rintro ⟨⟩
  refine h_q hflS rfl ?_
  refine h_done (d_seq (d_reg ?_))
  refine h_q hflS rfl ?_
  refine h_act (post := fun _ => [cell gc 28 #[.int .i64 (n0 : Int), .int .u64 0, .int .u64 0, .int .u64 0, .int .u64 0, .int .i64 0, .int .u64 0, .int .i64 0, .string { data := #[] }, .string { data := #[] }], RdT g l0 f0]) rfl (a_call (ent_of Tryd.func20 (by kernel_rfl) rfl) (fun w hH => with_any w h 1 hlt (by decide) b1 hb1) rfl rfl rfl) ?_; rintro ⟨⟩
  refine h_done ?_
  refine d_mid [(0, .pointer (some ⟨g, 0, none⟩)), (2, .pointer (some ⟨gc, 0, none⟩)), (3, .int .i64 (h : Int))] [cell gc 28 #[.int .i64 (n0 : Int), .int .u64 (n1 : Int), .int .u64 0, .int .u64 0, .int .u64 0, .int .i64 0, .int .u64 0, .int .i64 0, .string (bs ([])), .string (bs ([]))], RdT g l1 f1] ?_ ?_
  · skip
    cases b1
    · skip
      obtain ⟨rfl, rfl, rfl⟩ : 0 = n1 ∧ l0 = l1 ∧ f0 = f1 := by simpa [rIf] using h1
      refine d_else rfl (d_skip ?_)
      exact f_mid 0 ⟨rfl, rfl, rfl, trivial⟩ rfl
    · skip
      refine d_then rfl (d_reg1 ?_)
      refine h_q hflS rfl ?_
      refine h_act (post := fun _ => [cell gc 28 #[.int .i64 (n0 : Int), .int .u64 0, .int .u64 0, .int .u64 0, .int .u64 0, .int .i64 0, .int .u64 0, .int .i64 0, .string { data := #[] }, .string { data := #[] }], RdT g l1 f1]) rfl (a_does (os' := fun _ => [cell gc 28 #[.int .i64 (n0 : Int), .int .u64 0, .int .u64 0, .int .u64 0, .int .u64 0, .int .i64 0, .int .u64 0, .int .i64 0, .string { data := #[] }, .string { data := #[] }], RdT g l1 f1]) [1] 0 (ent_of Tryd.func53 (by kernel_rfl) rfl) (rd_num g l0 f0 72057594037927935 (by decide) (n1, l1, f1) h1) rfl rfl rfl (fun _ => rfl) rfl rfl rfl) ?_; rintro ⟨⟩
      refine h_q hflS rfl ?_
      refine h_acts (post := fun _ => [cell gc 28 #[.int .i64 (n0 : Int), .int .u64 (n1 : Int), .int .u64 0, .int .u64 0, .int .u64 0, .int .i64 0, .int .u64 0, .int .i64 0, .string { data := #[] }, .string { data := #[] }], RdT g l1 f1]) rfl rfl (a_store 0 (v := .int .u64 (n1 : Int)) #[.int .i64 (n0 : Int), .int .u64 (n1 : Int), .int .u64 0, .int .u64 0, .int .u64 0, .int .i64 0, .int .u64 0, .int .i64 0, .string { data := #[] }, .string { data := #[] }] ty_uint64.2 rfl rfl rfl rfl rfl rfl rfl rfl rfl) ?_; rintro ⟨⟩
      refine h_nil ?_
      exact f_mid 0 ⟨rfl, rfl, rfl, trivial⟩ rfl
  refine f_to (d_seq (d_reg ?_))
  refine h_q hflS rfl ?_
  refine h_act (post := fun _ => [cell gc 28 #[.int .i64 (n0 : Int), .int .u64 (n1 : Int), .int .u64 0, .int .u64 0, .int .u64 0, .int .i64 0, .int .u64 0, .int .i64 0, .string (bs ([])), .string (bs ([]))], RdT g l1 f1]) rfl (a_call (ent_of Tryd.func20 (by kernel_rfl) rfl) (fun w hH => with_any w h 2 hlt (by decide) b2 hb2) rfl rfl rfl) ?_; rintro ⟨⟩
  refine h_done ?_
  refine d_mid [(0, .pointer (some ⟨g, 0, none⟩)), (2, .pointer (some ⟨gc, 0, none⟩)), (3, .int .i64 (h : Int))] [cell gc 28 #[.int .i64 (n0 : Int), .int .u64 (n1 : Int), .int .u64 (n2 : Int), .int .u64 0, .int .u64 0, .int .i64 0, .int .u64 0, .int .i64 0, .string (bs ([])), .string (bs ([]))], RdT g l2 f2] ?_ ?_
  · skip
    cases b2
    · skip
      obtain ⟨rfl, rfl, rfl⟩ : 0 = n2 ∧ l1 = l2 ∧ f1 = f2 := by simpa [rIf] using h2
      refine d_else rfl (d_skip ?_)
      exact f_mid 0 ⟨rfl, rfl, rfl, trivial⟩ rfl
    · skip
      refine d_then rfl (d_reg1 ?_)
      refine h_q hflS rfl ?_
      refine h_act (post := fun _ => [cell gc 28 #[.int .i64 (n0 : Int), .int .u64 (n1 : Int), .int .u64 0, .int .u64 0, .int .u64 0, .int .i64 0, .int .u64 0, .int .i64 0, .string (bs ([])), .string (bs ([]))], RdT g l2 f2]) rfl (a_does (os' := fun _ => [cell gc 28 #[.int .i64 (n0 : Int), .int .u64 (n1 : Int), .int .u64 0, .int .u64 0, .int .u64 0, .int .i64 0, .int .u64 0, .int .i64 0, .string (bs ([])), .string (bs ([]))], RdT g l2 f2]) [1] 0 (ent_of Tryd.func53 (by kernel_rfl) rfl) (rd_num g l1 f1 72057594037927935 (by decide) (n2, l2, f2) h2) rfl rfl rfl (fun _ => rfl) rfl rfl rfl) ?_; rintro ⟨⟩
      refine h_q hflS rfl ?_
      refine h_acts (post := fun _ => [cell gc 28 #[.int .i64 (n0 : Int), .int .u64 (n1 : Int), .int .u64 (n2 : Int), .int .u64 0, .int .u64 0, .int .i64 0, .int .u64 0, .int .i64 0, .string (bs ([])), .string (bs ([]))], RdT g l2 f2]) rfl rfl (a_store 0 (v := .int .u64 (n2 : Int)) #[.int .i64 (n0 : Int), .int .u64 (n1 : Int), .int .u64 (n2 : Int), .int .u64 0, .int .u64 0, .int .i64 0, .int .u64 0, .int .i64 0, .string (bs ([])), .string (bs ([]))] ty_uint64.2 rfl rfl rfl rfl rfl rfl rfl rfl rfl) ?_; rintro ⟨⟩
      refine h_nil ?_
      exact f_mid 0 ⟨rfl, rfl, rfl, trivial⟩ rfl
  refine f_to (d_seq (d_reg ?_))
  refine h_q hflS rfl ?_
  refine h_act (post := fun _ => [cell gc 28 #[.int .i64 (n0 : Int), .int .u64 (n1 : Int), .int .u64 (n2 : Int), .int .u64 0, .int .u64 0, .int .i64 0, .int .u64 0, .int .i64 0, .string (bs ([])), .string (bs ([]))], RdT g l2 f2]) rfl (a_call (ent_of Tryd.func20 (by kernel_rfl) rfl) (fun w hH => with_any w h 4 hlt (by decide) b3 hb3) rfl rfl rfl) ?_; rintro ⟨⟩
  refine h_done ?_
  refine d_mid [(0, .pointer (some ⟨g, 0, none⟩)), (2, .pointer (some ⟨gc, 0, none⟩)), (3, .int .i64 (h : Int))] [cell gc 28 #[.int .i64 (n0 : Int), .int .u64 (n1 : Int), .int .u64 (n2 : Int), .int .u64 (n3 : Int), .int .u64 0, .int .i64 0, .int .u64 0, .int .i64 0, .string (bs ([])), .string (bs ([]))], RdT g l3 f3] ?_ ?_
  · skip
    cases b3
    · skip
      obtain ⟨rfl, rfl, rfl⟩ : 0 = n3 ∧ l2 = l3 ∧ f2 = f3 := by simpa [rIf] using h3
      refine d_else rfl (d_skip ?_)
      exact f_mid 0 ⟨rfl, rfl, rfl, trivial⟩ rfl
    · skip
      refine d_then rfl (d_reg1 ?_)
      refine h_q hflS rfl ?_
      refine h_act (post := fun _ => [cell gc 28 #[.int .i64 (n0 : Int), .int .u64 (n1 : Int), .int .u64 (n2 : Int), .int .u64 0, .int .u64 0, .int .i64 0, .int .u64 0, .int .i64 0, .string (bs ([])), .string (bs ([]))], RdT g l3 f3]) rfl (a_does (os' := fun _ => [cell gc 28 #[.int .i64 (n0 : Int), .int .u64 (n1 : Int), .int .u64 (n2 : Int), .int .u64 0, .int .u64 0, .int .i64 0, .int .u64 0, .int .i64 0, .string (bs ([])), .string (bs ([]))], RdT g l3 f3]) [1] 0 (ent_of Tryd.func53 (by kernel_rfl) rfl) (rd_num g l2 f2 18446744073709551615 (by decide) (n3, l3, f3) h3) rfl rfl rfl (fun _ => rfl) rfl rfl rfl) ?_; rintro ⟨⟩
      refine h_q hflS rfl ?_
      refine h_acts (post := fun _ => [cell gc 28 #[.int .i64 (n0 : Int), .int .u64 (n1 : Int), .int .u64 (n2 : Int), .int .u64 (n3 : Int), .int .u64 0, .int .i64 0, .int .u64 0, .int .i64 0, .string (bs ([])), .string (bs ([]))], RdT g l3 f3]) rfl rfl (a_store 0 (v := .int .u64 (n3 : Int)) #[.int .i64 (n0 : Int), .int .u64 (n1 : Int), .int .u64 (n2 : Int), .int .u64 (n3 : Int), .int .u64 0, .int .i64 0, .int .u64 0, .int .i64 0, .string (bs ([])), .string (bs ([]))] ty_uint64.2 rfl rfl rfl rfl rfl rfl rfl rfl rfl) ?_; rintro ⟨⟩
      refine h_nil ?_
      exact f_mid 0 ⟨rfl, rfl, rfl, trivial⟩ rfl
  refine f_to (d_seq (d_reg ?_))
  refine h_q hflS rfl ?_
  refine h_act (post := fun _ => [cell gc 28 #[.int .i64 (n0 : Int), .int .u64 (n1 : Int), .int .u64 (n2 : Int), .int .u64 (n3 : Int), .int .u64 0, .int .i64 0, .int .u64 0, .int .i64 0, .string (bs ([])), .string (bs ([]))], RdT g l3 f3]) rfl (a_call (ent_of Tryd.func20 (by kernel_rfl) rfl) (fun w hH => with_any w h 8 hlt (by decide) b4 hb4) rfl rfl rfl) ?_; rintro ⟨⟩
  refine h_done ?_
  refine d_mid [(0, .pointer (some ⟨g, 0, none⟩)), (2, .pointer (some ⟨gc, 0, none⟩)), (3, .int .i64 (h : Int))] [cell gc 28 #[.int .i64 (n0 : Int), .int .u64 (n1 : Int), .int .u64 (n2 : Int), .int .u64 (n3 : Int), .int .u64 (n4 : Int), .int .i64 0, .int .u64 0, .int .i64 0, .string (bs ([])), .string (bs ([]))], RdT g l4 f4] ?_ ?_
  · skip
    cases b4
    · skip
      obtain ⟨rfl, rfl, rfl⟩ : 0 = n4 ∧ l3 = l4 ∧ f3 = f4 := by simpa [rIf] using h4
      refine d_else rfl (d_skip ?_)
      exact f_mid 0 ⟨rfl, rfl, rfl, trivial⟩ rfl
    · skip
      refine d_then rfl (d_reg1 ?_)
      refine h_q hflS rfl ?_
      refine h_act (post := fun _ => [cell gc 28 #[.int .i64 (n0 : Int), .int .u64 (n1 : Int), .int .u64 (n2 : Int), .int .u64 (n3 : Int), .int .u64 0, .int .i64 0, .int .u64 0, .int .i64 0, .string (bs ([])), .string (bs ([]))], RdT g l4 f4]) rfl (a_does (os' := fun _ => [cell gc 28 #[.int .i64 (n0 : Int), .int .u64 (n1 : Int), .int .u64 (n2 : Int), .int .u64 (n3 : Int), .int .u64 0, .int .i64 0, .int .u64 0, .int .i64 0, .string (bs ([])), .string (bs ([]))], RdT g l4 f4]) [1] 0 (ent_of Tryd.func53 (by kernel_rfl) rfl) (rd_num g l3 f3 18446744073709551615 (by decide) (n4, l4, f4) h4) rfl rfl rfl (fun _ => rfl) rfl rfl rfl) ?_; rintro ⟨⟩
      refine h_q hflS rfl ?_
      refine h_acts (post := fun _ => [cell gc 28 #[.int .i64 (n0 : Int), .int .u64 (n1 : Int), .int .u64 (n2 : Int), .int .u64 (n3 : Int), .int .u64 (n4 : Int), .int .i64 0, .int .u64 0, .int .i64 0, .string (bs ([])), .string (bs ([]))], RdT g l4 f4]) rfl rfl (a_store 0 (v := .int .u64 (n4 : Int)) #[.int .i64 (n0 : Int), .int .u64 (n1 : Int), .int .u64 (n2 : Int), .int .u64 (n3 : Int), .int .u64 (n4 : Int), .int .i64 0, .int .u64 0, .int .i64 0, .string (bs ([])), .string (bs ([]))] ty_uint64.2 rfl rfl rfl rfl rfl rfl rfl rfl rfl) ?_; rintro ⟨⟩
      refine h_nil ?_
      exact f_mid 0 ⟨rfl, rfl, rfl, trivial⟩ rfl
  refine f_to (d_seq (d_reg ?_))
  refine h_q hflS rfl ?_
  refine h_act (post := fun _ => [cell gc 28 #[.int .i64 (n0 : Int), .int .u64 (n1 : Int), .int .u64 (n2 : Int), .int .u64 (n3 : Int), .int .u64 (n4 : Int), .int .i64 0, .int .u64 0, .int .i64 0, .string (bs ([])), .string (bs ([]))], RdT g l4 f4]) rfl (a_call (ent_of Tryd.func20 (by kernel_rfl) rfl) (fun w hH => with_any w h 16 hlt (by decide) b5 hb5) rfl rfl rfl) ?_; rintro ⟨⟩
  refine h_done ?_
  refine d_mid [(0, .pointer (some ⟨g, 0, none⟩)), (2, .pointer (some ⟨gc, 0, none⟩)), (3, .int .i64 (h : Int))] [cell gc 28 #[.int .i64 (n0 : Int), .int .u64 (n1 : Int), .int .u64 (n2 : Int), .int .u64 (n3 : Int), .int .u64 (n4 : Int), .int .i64 hi, .int .u64 (lo : Int), .int .i64 (sc : Int), .string (bs ([])), .string (bs ([]))], RdT g l5 f5] ?_ ?_
  · skip
    cases b5
    · skip
      obtain ⟨⟨rfl, rfl, rfl⟩, rfl, rfl⟩ : (0 = hi ∧ 0 = lo ∧ 0 = sc) ∧ l4 = l5 ∧ f4 = f5 := by simpa [rIfD] using h5
      refine d_else rfl (d_skip ?_)
      exact f_mid 0 ⟨rfl, rfl, rfl, trivial⟩ rfl
    · skip
      refine d_then rfl (d_reg1 ?_)
      refine h_q hflS rfl ?_
      refine h_act (post := fun _ => [cell gc 28 #[.int .i64 (n0 : Int), .int .u64 (n1 : Int), .int .u64 (n2 : Int), .int .u64 (n3 : Int), .int .u64 (n4 : Int), .int .i64 0, .int .u64 0, .int .i64 0, .string (bs ([])), .string (bs ([]))], RdT g l5 f5]) rfl (a_does (os' := fun _ => [cell gc 28 #[.int .i64 (n0 : Int), .int .u64 (n1 : Int), .int .u64 (n2 : Int), .int .u64 (n3 : Int), .int .u64 (n4 : Int), .int .i64 0, .int .u64 0, .int .i64 0, .string (bs ([])), .string (bs ([]))], RdT g l5 f5]) [1] 0 (ent_of Tryd.func54 (by kernel_rfl) rfl) (readAmount_does g l4 f4 ((hi, lo, sc), l5, f5) h5) rfl rfl rfl (fun _ => rfl) rfl rfl rfl) ?_; rintro ⟨⟩
      refine h_q hflS rfl ?_
      refine h_acts (post := fun _ => [cell gc 28 #[.int .i64 (n0 : Int), .int .u64 (n1 : Int), .int .u64 (n2 : Int), .int .u64 (n3 : Int), .int .u64 (n4 : Int), .int .i64 hi, .int .u64 (lo : Int), .int .i64 (sc : Int), .string (bs ([])), .string (bs ([]))], RdT g l5 f5]) rfl rfl (a_store 0 (v := .agg #[.int .i64 hi, .int .u64 (lo : Int), .int .i64 (sc : Int)]) #[.int .i64 (n0 : Int), .int .u64 (n1 : Int), .int .u64 (n2 : Int), .int .u64 (n3 : Int), .int .u64 (n4 : Int), .int .i64 hi, .int .u64 (lo : Int), .int .i64 (sc : Int), .string (bs ([])), .string (bs ([]))] ty_api_Dec.2 rfl rfl rfl rfl rfl rfl rfl rfl rfl) ?_; rintro ⟨⟩
      refine h_nil ?_
      exact f_mid 0 ⟨rfl, rfl, rfl, trivial⟩ rfl
  refine f_to (d_seq (d_reg ?_))
  refine h_q hflS rfl ?_
  refine h_act (post := fun _ => [cell gc 28 #[.int .i64 (n0 : Int), .int .u64 (n1 : Int), .int .u64 (n2 : Int), .int .u64 (n3 : Int), .int .u64 (n4 : Int), .int .i64 hi, .int .u64 (lo : Int), .int .i64 (sc : Int), .string (bs ([])), .string (bs ([]))], RdT g l5 f5]) rfl (a_call (ent_of Tryd.func20 (by kernel_rfl) rfl) (fun w hH => with_any w h 32 hlt (by decide) b6 hb6) rfl rfl rfl) ?_; rintro ⟨⟩
  refine h_done ?_
  refine d_mid [(0, .pointer (some ⟨g, 0, none⟩)), (2, .pointer (some ⟨gc, 0, none⟩)), (3, .int .i64 (h : Int))] [cell gc 28 #[.int .i64 (n0 : Int), .int .u64 (n1 : Int), .int .u64 (n2 : Int), .int .u64 (n3 : Int), .int .u64 (n4 : Int), .int .i64 hi, .int .u64 (lo : Int), .int .i64 (sc : Int), .string (bs x), .string (bs ([]))], RdT g l6 f6] ?_ ?_
  · skip
    cases b6
    · skip
      obtain ⟨rfl, rfl, rfl⟩ : [] = x ∧ l5 = l6 ∧ f5 = f6 := by simpa [rIfX, eq_comm] using h6
      refine d_else rfl (d_skip ?_)
      exact f_mid 0 ⟨rfl, rfl, rfl, trivial⟩ rfl
    · skip
      refine d_then rfl (d_reg1 ?_)
      refine h_q hflS rfl ?_
      refine h_act (post := fun _ => [cell gc 28 #[.int .i64 (n0 : Int), .int .u64 (n1 : Int), .int .u64 (n2 : Int), .int .u64 (n3 : Int), .int .u64 (n4 : Int), .int .i64 hi, .int .u64 (lo : Int), .int .i64 (sc : Int), .string (bs ([])), .string (bs ([]))], RdT g l6 f6]) rfl (a_does (os' := fun _ => [cell gc 28 #[.int .i64 (n0 : Int), .int .u64 (n1 : Int), .int .u64 (n2 : Int), .int .u64 (n3 : Int), .int .u64 (n4 : Int), .int .i64 hi, .int .u64 (lo : Int), .int .i64 (sc : Int), .string (bs ([])), .string (bs ([]))], RdT g l6 f6]) [1] 0 (ent_of Tryd.func55 (by kernel_rfl) rfl) (readName_does g l5 f5 (x, l6, f6) h6) rfl rfl rfl (fun _ => rfl) rfl rfl rfl) ?_; rintro ⟨⟩
      refine h_q hflS rfl ?_
      refine h_acts (post := fun _ => [cell gc 28 #[.int .i64 (n0 : Int), .int .u64 (n1 : Int), .int .u64 (n2 : Int), .int .u64 (n3 : Int), .int .u64 (n4 : Int), .int .i64 hi, .int .u64 (lo : Int), .int .i64 (sc : Int), .string (bs x), .string (bs ([]))], RdT g l6 f6]) rfl rfl (a_store 0 (v := .string (bs x)) #[.int .i64 (n0 : Int), .int .u64 (n1 : Int), .int .u64 (n2 : Int), .int .u64 (n3 : Int), .int .u64 (n4 : Int), .int .i64 hi, .int .u64 (lo : Int), .int .i64 (sc : Int), .string (bs x), .string (bs ([]))] ty_string.2 rfl rfl rfl rfl rfl rfl rfl rfl rfl) ?_; rintro ⟨⟩
      refine h_nil ?_
      exact f_mid 0 ⟨rfl, rfl, rfl, trivial⟩ rfl
  refine f_to (d_seq (d_reg ?_))
  refine h_q hflS rfl ?_
  refine h_act (post := fun _ => [cell gc 28 #[.int .i64 (n0 : Int), .int .u64 (n1 : Int), .int .u64 (n2 : Int), .int .u64 (n3 : Int), .int .u64 (n4 : Int), .int .i64 hi, .int .u64 (lo : Int), .int .i64 (sc : Int), .string (bs x), .string (bs ([]))], RdT g l6 f6]) rfl (a_call (ent_of Tryd.func20 (by kernel_rfl) rfl) (fun w hH => with_any w h 64 hlt (by decide) b7 hb7) rfl rfl rfl) ?_; rintro ⟨⟩
  refine h_done ?_
  refine d_mid [(2, .pointer (some ⟨gc, 0, none⟩))] [cell gc 28 #[.int .i64 (n0 : Int), .int .u64 (n1 : Int), .int .u64 (n2 : Int), .int .u64 (n3 : Int), .int .u64 (n4 : Int), .int .i64 hi, .int .u64 (lo : Int), .int .i64 (sc : Int), .string (bs x), .string (bs y)], RdT g l' f'] ?_ ?_
  · skip
    cases b7
    · skip
      obtain ⟨rfl, rfl, rfl⟩ : [] = y ∧ l6 = l' ∧ f6 = f' := by simpa [rIfX, eq_comm] using h7
      refine d_else rfl (d_skip ?_)
      exact f_mid 0 ⟨rfl, trivial⟩ rfl
    · skip
      refine d_then rfl (d_reg1 ?_)
      refine h_q hflS rfl ?_
      refine h_act (post := fun _ => [cell gc 28 #[.int .i64 (n0 : Int), .int .u64 (n1 : Int), .int .u64 (n2 : Int), .int .u64 (n3 : Int), .int .u64 (n4 : Int), .int .i64 hi, .int .u64 (lo : Int), .int .i64 (sc : Int), .string (bs x), .string (bs ([]))], RdT g l' f']) rfl (a_does (os' := fun _ => [cell gc 28 #[.int .i64 (n0 : Int), .int .u64 (n1 : Int), .int .u64 (n2 : Int), .int .u64 (n3 : Int), .int .u64 (n4 : Int), .int .i64 hi, .int .u64 (lo : Int), .int .i64 (sc : Int), .string (bs x), .string (bs ([]))], RdT g l' f']) [1] 0 (ent_of Tryd.func55 (by kernel_rfl) rfl) (readName_does g l6 f6 (y, l', f') h7) rfl rfl rfl (fun _ => rfl) rfl rfl rfl) ?_; rintro ⟨⟩
      refine h_q hflS rfl ?_
      refine h_acts (post := fun _ => [cell gc 28 #[.int .i64 (n0 : Int), .int .u64 (n1 : Int), .int .u64 (n2 : Int), .int .u64 (n3 : Int), .int .u64 (n4 : Int), .int .i64 hi, .int .u64 (lo : Int), .int .i64 (sc : Int), .string (bs x), .string (bs y)], RdT g l' f']) rfl rfl (a_store 0 (v := .string (bs y)) #[.int .i64 (n0 : Int), .int .u64 (n1 : Int), .int .u64 (n2 : Int), .int .u64 (n3 : Int), .int .u64 (n4 : Int), .int .i64 hi, .int .u64 (lo : Int), .int .i64 (sc : Int), .string (bs x), .string (bs y)] ty_string.2 rfl rfl rfl rfl rfl rfl rfl rfl rfl) ?_; rintro ⟨⟩
      refine h_nil ?_
      exact f_mid 0 ⟨rfl, trivial⟩ rfl
  refine f_to (d_reg ?_)
  refine h_q hflS rfl ?_
  refine h_val rfl (.agg #[.int .i64 (n0 : Int), .int .u64 (n1 : Int), .int .u64 (n2 : Int), .int .u64 (n3 : Int), .int .u64 (n4 : Int), .int .i64 hi, .int .u64 (lo : Int), .int .i64 (sc : Int), .string (bs x), .string (bs y)]) (fun b w hb hH => exec_load rfl rfl (reads_agg (cs := [.int .i64 (n0 : Int), .int .u64 (n1 : Int), .int .u64 (n2 : Int), .int .u64 (n3 : Int), .int .u64 (n4 : Int), .int .i64 hi, .int .u64 (lo : Int), .int .i64 (sc : Int), .string (bs x), .string (bs y)]) ty_api_Cmd rfl) (hH.row 0 rfl) hb) ?_
  refine h_acts (post := fun _ => [cell gc 28 #[.int .i64 (n0 : Int), .int .u64 (n1 : Int), .int .u64 (n2 : Int), .int .u64 (n3 : Int), .int .u64 (n4 : Int), .int .i64 hi, .int .u64 (lo : Int), .int .i64 (sc : Int), .string (bs x), .string (bs y)], RdT g l' f']) rfl rfl (a_store 0 (v := .agg #[.int .i64 (n0 : Int), .int .u64 (n1 : Int), .int .u64 (n2 : Int), .int .u64 (n3 : Int), .int .u64 (n4 : Int), .int .i64 hi, .int .u64 (lo : Int), .int .i64 (sc : Int), .string (bs x), .string (bs y)]) #[.int .i64 (n0 : Int), .int .u64 (n1 : Int), .int .u64 (n2 : Int), .int .u64 (n3 : Int), .int .u64 (n4 : Int), .int .i64 hi, .int .u64 (lo : Int), .int .i64 (sc : Int), .string (bs x), .string (bs y)] ty_api_Cmd.2 rfl rfl rfl rfl rfl rfl rfl rfl rfl) ?_; rintro ⟨⟩
  refine h_done (d_ret ?_)
  exact f_fin1 (.cell 0 (v := .agg #[.int .i64 (n0 : Int), .int .u64 (n1 : Int), .int .u64 (n2 : Int), .int .u64 (n3 : Int), .int .u64 (n4 : Int), .int .i64 hi, .int .u64 (lo : Int), .int .i64 (sc : Int), .string (bs x), .string (bs y)]) (reads_agg (cs := [.int .i64 (n0 : Int), .int .u64 (n1 : Int), .int .u64 (n2 : Int), .int .u64 (n3 : Int), .int .u64 (n4 : Int), .int .i64 hi, .int .u64 (lo : Int), .int .i64 (sc : Int), .string (bs x), .string (bs y)]) ty_api_Cmd rfl) rfl rfl) (fun w h => tells () rfl [1] rfl h same_parts) rfl

set_option maxRecDepth 100000 in
theorem decode_any (w : World) (v : Value) (l : List UInt8) (hv : Sl8 w v l) (hl : l.length ≤ 140737488355328) (c : CmdD) (en : Nat) (hD : Decoded l c en) : Calls Tryd.prog 15 #[v] w fun e w' => e = .returned (.tuple #[.agg #[.int .i64 c.k, .int .u64 c.s, .int .u64 c.q, .int .u64 c.a, .int .u64 c.b, .int .i64 c.hi, .int .u64 c.lo, .int .i64 c.sc, .string (bs c.x), .string (bs c.y)], .int .i64 (en : Int)]) ∧ Below w.heap.size w w' := by
  refine d_in (args := [v]) 26 Tryd.func15 rfl rfl rfl ?_
  refine d_reg ?_
  refine h_q hflS rfl ?_
  refine h_act (post := fun g1 => [cell g1 28 #[.int .i64 0, .int .u64 0, .int .u64 0, .int .u64 0, .int .u64 0, .int .i64 0, .int .u64 0, .int .i64 0, .string { data := #[] }, .string { data := #[] }]]) rfl (a_alloc ze_api_Cmd rfl) ?_; rintro g1
  refine h_q hflS rfl ?_
  refine h_done (d_seq ?_)
  rcases hD.is with ⟨q1, rfl, rfl⟩ | ⟨q1, c0, l', f', ⟨hr⟩, hq⟩
  · skip
    refine d_reg ?_
    refine h_q hflS rfl ?_
    refine h_val rfl (.int .i64 (l.length : Int)) (fun b w hb hH => e_slen ((arg80 hv hH).rd) Tryd.underlying33 rfl rfl hb) ?_
    refine h_val rfl (.bool true) (fun b w hb hH => exec_cmp rfl rfl rfl (cmp_gtr_t (by omega)) hb) ?_
    refine h_done (d_then rfl (d_reg ?_))
    refine h_q hflS rfl ?_
    refine h_val rfl (.agg #[.int .i64 0, .int .u64 0, .int .u64 0, .int .u64 0, .int .u64 0, .int .i64 0, .int .u64 0, .int .i64 0, .string { data := #[] }, .string { data := #[] }]) (fun b w hb hH => exec_build rfl rfl (by kernel_rfl) hb) ?_
    refine h_acts (post := fun _ => [cell g1 28 #[.int .i64 0, .int .u64 0, .int .u64 0, .int .u64 0, .int .u64 0, .int .i64 0, .int .u64 0, .int .i64 0, .string { data := #[] }, .string { data := #[] }]]) rfl rfl (a_store 0 (v := .agg #[.int .i64 0, .int .u64 0, .int .u64 0, .int .u64 0, .int .u64 0, .int .i64 0, .int .u64 0, .int .i64 0, .string { data := #[] }, .string { data := #[] }]) #[.int .i64 0, .int .u64 0, .int .u64 0, .int .u64 0, .int .u64 0, .int .i64 0, .int .u64 0, .int .i64 0, .string { data := #[] }, .string { data := #[] }] ty_api_Cmd.2 rfl rfl rfl rfl rfl rfl rfl rfl rfl) ?_; rintro ⟨⟩
    refine h_q hflS rfl ?_
    refine h_done (d_ret (f_then_ret ?_))
    exact f_fin2 (.cell 0 (v := .agg #[.int .i64 0, .int .u64 0, .int .u64 0, .int .u64 0, .int .u64 0, .int .i64 0, .int .u64 0, .int .i64 0, .string { data := #[] }, .string { data := #[] }]) (reads_agg (cs := [.int .i64 0, .int .u64 0, .int .u64 0, .int .u64 0, .int .u64 0, .int .i64 0, .int .u64 0, .int .i64 0, .string { data := #[] }, .string { data := #[] }]) ty_api_Cmd rfl) rfl rfl) (.tmp rfl) (fun w h => ⟨rfl, below0 h.up⟩) rfl
  · skip
    have ho := hr.ok
    refine d_reg ?_
    refine h_q hflS rfl ?_
    refine h_val rfl (.int .i64 (l.length : Int)) (fun b w hb hH => e_slen ((arg80 hv hH).rd) Tryd.underlying33 rfl rfl hb) ?_
    refine h_val rfl (.bool false) (fun b w hb hH => exec_cmp rfl rfl rfl (cmp_gtr_f (by omega)) hb) ?_
    refine h_done (d_else rfl (d_skip (f_to (d_reg ?_))))
    refine h_q hflS rfl ?_
    refine h_act (post := fun g => [RdT g l 0, cell g1 28 #[.int .i64 0, .int .u64 0, .int .u64 0, .int .u64 0, .int .u64 0, .int .i64 0, .int .u64 0, .int .i64 0, .string { data := #[] }, .string { data := #[] }]]) rfl (a_doesU (Below.refl _ _) (fun _ h => h.elim) (os' := fun g => [RdT g l 0, cell g1 28 #[.int .i64 0, .int .u64 0, .int .u64 0, .int .u64 0, .int .u64 0, .int .i64 0, .int .u64 0, .int .i64 0, .string { data := #[] }, .string { data := #[] }]]) [] 0 (ent_of Tryd.func37 (by kernel_rfl) rfl) (rd_new w v l hv hl) rfl rfl rfl (fun _ => rfl) rfl rfl rfl) ?_; rintro g
    refine h_q hflS rfl ?_
    refine h_done (d_reg ?_)
    refine h_q hflS rfl ?_
    refine h_act (post := fun _ => [RdT g l' f', cell g1 28 #[.int .i64 0, .int .u64 0, .int .u64 0, .int .u64 0, .int .u64 0, .int .i64 0, .int .u64 0, .int .i64 0, .string { data := #[] }, .string { data := #[] }]]) rfl (a_does (os' := fun _ => [RdT g l' f', cell g1 28 #[.int .i64 0, .int .u64 0, .int .u64 0, .int .u64 0, .int .u64 0, .int .i64 0, .int .u64 0, .int .i64 0, .string { data := #[] }, .string { data := #[] }]]) [0] 0 (ent_of Tryd.func38 (by kernel_rfl) rfl) (read_does g l c0 l' f' hr) rfl rfl rfl (fun _ => rfl) rfl rfl rfl) ?_; rintro ⟨⟩
    refine h_act (post := fun g5 => [cell g5 28 #[.int .i64 0, .int .u64 0, .int .u64 0, .int .u64 0, .int .u64 0, .int .i64 0, .int .u64 0, .int .i64 0, .string { data := #[] }, .string { data := #[] }], RdT g l' f', cell g1 28 #[.int .i64 0, .int .u64 0, .int .u64 0, .int .u64 0, .int .u64 0, .int .i64 0, .int .u64 0, .int .i64 0, .string { data := #[] }, .string { data := #[] }]]) rfl (a_alloc ze_api_Cmd rfl) ?_; rintro g5
    refine h_acts (post := fun _ => [cell g5 28 #[.int .i64 c0.k, .int .u64 c0.s, .int .u64 c0.q, .int .u64 c0.a, .int .u64 c0.b, .int .i64 c0.hi, .int .u64 c0.lo, .int .i64 c0.sc, .string (bs c0.x), .string (bs c0.y)], RdT g l' f', cell g1 28 #[.int .i64 0, .int .u64 0, .int .u64 0, .int .u64 0, .int .u64 0, .int .i64 0, .int .u64 0, .int .i64 0, .string { data := #[] }, .string { data := #[] }]]) rfl rfl (a_store 0 (v := .agg #[.int .i64 c0.k, .int .u64 c0.s, .int .u64 c0.q, .int .u64 c0.a, .int .u64 c0.b, .int .i64 c0.hi, .int .u64 c0.lo, .int .i64 c0.sc, .string (bs c0.x), .string (bs c0.y)]) #[.int .i64 c0.k, .int .u64 c0.s, .int .u64 c0.q, .int .u64 c0.a, .int .u64 c0.b, .int .i64 c0.hi, .int .u64 c0.lo, .int .i64 c0.sc, .string (bs c0.x), .string (bs c0.y)] ty_api_Cmd.2 rfl rfl rfl rfl rfl rfl rfl rfl rfl) ?_; rintro ⟨⟩
    refine h_done (d_seq ?_)
    rcases hq with ⟨q2, rfl, rfl⟩ | ⟨q2, q3, rfl, rfl⟩ | ⟨q2, q3, hcc, rfl⟩
    · skip
      refine d_reg ?_
      refine h_q hflS rfl ?_
      refine h_act (post := fun _ => [cell g5 28 #[.int .i64 c0.k, .int .u64 c0.s, .int .u64 c0.q, .int .u64 c0.a, .int .u64 c0.b, .int .i64 c0.hi, .int .u64 c0.lo, .int .i64 c0.sc, .string (bs c0.x), .string (bs c0.y)], RdT g l' f', cell g1 28 #[.int .i64 0, .int .u64 0, .int .u64 0, .int .u64 0, .int .u64 0, .int .i64 0, .int .u64 0, .int .i64 0, .string { data := #[] }, .string { data := #[] }]]) rfl (a_does (os' := fun _ => [cell g5 28 #[.int .i64 c0.k, .int .u64 c0.s, .int .u64 c0.q, .int .u64 c0.a, .int .u64 c0.b, .int .i64 c0.hi, .int .u64 c0.lo, .int .i64 c0.sc, .string (bs c0.x), .string (bs c0.y)], RdT g l' f', cell g1 28 #[.int .i64 0, .int .u64 0, .int .u64 0, .int .u64 0, .int .u64 0, .int .i64 0, .int .u64 0, .int .i64 0, .string { data := #[] }, .string { data := #[] }]]) [1] 0 (ent_of Tryd.func39 (by kernel_rfl) rfl) (rd_end g l' f' (rend l' f') rfl) rfl rfl rfl (fun _ => rfl) rfl rfl rfl) ?_; rintro ⟨⟩
      refine h_q hflS rfl ?_
      refine h_done (d_reg ?_)
      refine h_q hflS rfl ?_
      refine h_val rfl (.bool true) (fun b w hb hH => exec_cmp rfl rfl rfl (cmp_neq_t (by omega)) hb) ?_
      refine h_done (d_then rfl (d_reg ?_))
      refine h_q hflS rfl ?_
      refine h_val rfl (.agg #[.int .i64 0, .int .u64 0, .int .u64 0, .int .u64 0, .int .u64 0, .int .i64 0, .int .u64 0, .int .i64 0, .string { data := #[] }, .string { data := #[] }]) (fun b w hb hH => exec_build rfl rfl (by kernel_rfl) hb) ?_
      refine h_q hflS rfl ?_
      refine h_acts (post := fun _ => [cell g5 28 #[.int .i64 c0.k, .int .u64 c0.s, .int .u64 c0.q, .int .u64 c0.a, .int .u64 c0.b, .int .i64 c0.hi, .int .u64 c0.lo, .int .i64 c0.sc, .string (bs c0.x), .string (bs c0.y)], RdT g l' f', cell g1 28 #[.int .i64 0, .int .u64 0, .int .u64 0, .int .u64 0, .int .u64 0, .int .i64 0, .int .u64 0, .int .i64 0, .string { data := #[] }, .string { data := #[] }]]) rfl rfl (a_store 2 (v := .agg #[.int .i64 0, .int .u64 0, .int .u64 0, .int .u64 0, .int .u64 0, .int .i64 0, .int .u64 0, .int .i64 0, .string { data := #[] }, .string { data := #[] }]) #[.int .i64 0, .int .u64 0, .int .u64 0, .int .u64 0, .int .u64 0, .int .i64 0, .int .u64 0, .int .i64 0, .string { data := #[] }, .string { data := #[] }] ty_api_Cmd.2 rfl rfl rfl rfl rfl rfl rfl rfl rfl) ?_; rintro ⟨⟩
      refine h_q hflS rfl ?_
      refine h_done (d_ret (f_then_ret ?_))
      exact f_fin2 (.cell 2 (v := .agg #[.int .i64 0, .int .u64 0, .int .u64 0, .int .u64 0, .int .u64 0, .int .i64 0, .int .u64 0, .int .i64 0, .string { data := #[] }, .string { data := #[] }]) (reads_agg (cs := [.int .i64 0, .int .u64 0, .int .u64 0, .int .u64 0, .int .u64 0, .int .i64 0, .int .u64 0, .int .i64 0, .string { data := #[] }, .string { data := #[] }]) ty_api_Cmd rfl) rfl rfl) (.tmp rfl) (fun w h => ⟨rfl, below0 h.up⟩) rfl
    · skip
      refine d_reg ?_
      refine h_q hflS rfl ?_
      refine h_act (post := fun _ => [cell g5 28 #[.int .i64 c0.k, .int .u64 c0.s, .int .u64 c0.q, .int .u64 c0.a, .int .u64 c0.b, .int .i64 c0.hi, .int .u64 c0.lo, .int .i64 c0.sc, .string (bs c0.x), .string (bs c0.y)], RdT g l' f', cell g1 28 #[.int .i64 0, .int .u64 0, .int .u64 0, .int .u64 0, .int .u64 0, .int .i64 0, .int .u64 0, .int .i64 0, .string { data := #[] }, .string { data := #[] }]]) rfl (a_does (os' := fun _ => [cell g5 28 #[.int .i64 c0.k, .int .u64 c0.s, .int .u64 c0.q, .int .u64 c0.a, .int .u64 c0.b, .int .i64 c0.hi, .int .u64 c0.lo, .int .i64 c0.sc, .string (bs c0.x), .string (bs c0.y)], RdT g l' f', cell g1 28 #[.int .i64 0, .int .u64 0, .int .u64 0, .int .u64 0, .int .u64 0, .int .i64 0, .int .u64 0, .int .i64 0, .string { data := #[] }, .string { data := #[] }]]) [1] 0 (ent_of Tryd.func39 (by kernel_rfl) rfl) (rd_end g l' f' 0 q2) rfl rfl rfl (fun _ => rfl) rfl rfl rfl) ?_; rintro ⟨⟩
      refine h_q hflS rfl ?_
      refine h_done (d_reg ?_)
      refine h_q hflS rfl ?_
      refine h_val rfl (.bool false) (fun b w hb hH => exec_cmp rfl rfl rfl (cmp_neq_f (by decide)) hb) ?_
      refine h_done (d_else rfl (d_skip (f_to (d_seq (d_reg ?_)))))
      refine h_q hflS rfl ?_
      refine h_val rfl (.agg #[.int .i64 c0.k, .int .u64 c0.s, .int .u64 c0.q, .int .u64 c0.a, .int .u64 c0.b, .int .i64 c0.hi, .int .u64 c0.lo, .int .i64 c0.sc, .string (bs c0.x), .string (bs c0.y)]) (fun b w hb hH => exec_load rfl rfl (reads_agg (cs := [.int .i64 c0.k, .int .u64 c0.s, .int .u64 c0.q, .int .u64 c0.a, .int .u64 c0.b, .int .i64 c0.hi, .int .u64 c0.lo, .int .i64 c0.sc, .string (bs c0.x), .string (bs c0.y)]) ty_api_Cmd rfl) (hH.row 0 rfl) hb) ?_
      refine h_act (post := fun _ => [cell g5 28 #[.int .i64 c0.k, .int .u64 c0.s, .int .u64 c0.q, .int .u64 c0.a, .int .u64 c0.b, .int .i64 c0.hi, .int .u64 c0.lo, .int .i64 c0.sc, .string (bs c0.x), .string (bs c0.y)], RdT g l' f', cell g1 28 #[.int .i64 0, .int .u64 0, .int .u64 0, .int .u64 0, .int .u64 0, .int .i64 0, .int .u64 0, .int .i64 0, .string { data := #[] }, .string { data := #[] }]]) rfl (a_call (ent_of Tryd.func9 (by kernel_rfl) rfl) (fun w hH => right_any w c0 ho false q3) rfl rfl rfl) ?_; rintro ⟨⟩
      refine h_q hflS rfl ?_
      refine h_done (d_then rfl (d_reg ?_))
      refine h_q hflS rfl ?_
      refine h_val rfl (.agg #[.int .i64 0, .int .u64 0, .int .u64 0, .int .u64 0, .int .u64 0, .int .i64 0, .int .u64 0, .int .i64 0, .string { data := #[] }, .string { data := #[] }]) (fun b w hb hH => exec_build rfl rfl (by kernel_rfl) hb) ?_
      refine h_acts (post := fun _ => [cell g5 28 #[.int .i64 c0.k, .int .u64 c0.s, .int .u64 c0.q, .int .u64 c0.a, .int .u64 c0.b, .int .i64 c0.hi, .int .u64 c0.lo, .int .i64 c0.sc, .string (bs c0.x), .string (bs c0.y)], RdT g l' f', cell g1 28 #[.int .i64 0, .int .u64 0, .int .u64 0, .int .u64 0, .int .u64 0, .int .i64 0, .int .u64 0, .int .i64 0, .string { data := #[] }, .string { data := #[] }]]) rfl rfl (a_store 2 (v := .agg #[.int .i64 0, .int .u64 0, .int .u64 0, .int .u64 0, .int .u64 0, .int .i64 0, .int .u64 0, .int .i64 0, .string { data := #[] }, .string { data := #[] }]) #[.int .i64 0, .int .u64 0, .int .u64 0, .int .u64 0, .int .u64 0, .int .i64 0, .int .u64 0, .int .i64 0, .string { data := #[] }, .string { data := #[] }] ty_api_Cmd.2 rfl rfl rfl rfl rfl rfl rfl rfl rfl) ?_; rintro ⟨⟩
      refine h_q hflS rfl ?_
      refine h_done (d_ret (f_then_ret ?_))
      exact f_fin2 (.cell 2 (v := .agg #[.int .i64 0, .int .u64 0, .int .u64 0, .int .u64 0, .int .u64 0, .int .i64 0, .int .u64 0, .int .i64 0, .string { data := #[] }, .string { data := #[] }]) (reads_agg (cs := [.int .i64 0, .int .u64 0, .int .u64 0, .int .u64 0, .int .u64 0, .int .i64 0, .int .u64 0, .int .i64 0, .string { data := #[] }, .string { data := #[] }]) ty_api_Cmd rfl) rfl rfl) (.tmp rfl) (fun w h => ⟨rfl, below0 h.up⟩) rfl
    · skip
      refine d_reg ?_
      refine h_q hflS rfl ?_
      refine h_act (post := fun _ => [cell g5 28 #[.int .i64 c0.k, .int .u64 c0.s, .int .u64 c0.q, .int .u64 c0.a, .int .u64 c0.b, .int .i64 c0.hi, .int .u64 c0.lo, .int .i64 c0.sc, .string (bs c0.x), .string (bs c0.y)], RdT g l' f', cell g1 28 #[.int .i64 0, .int .u64 0, .int .u64 0, .int .u64 0, .int .u64 0, .int .i64 0, .int .u64 0, .int .i64 0, .string { data := #[] }, .string { data := #[] }]]) rfl (a_does (os' := fun _ => [cell g5 28 #[.int .i64 c0.k, .int .u64 c0.s, .int .u64 c0.q, .int .u64 c0.a, .int .u64 c0.b, .int .i64 c0.hi, .int .u64 c0.lo, .int .i64 c0.sc, .string (bs c0.x), .string (bs c0.y)], RdT g l' f', cell g1 28 #[.int .i64 0, .int .u64 0, .int .u64 0, .int .u64 0, .int .u64 0, .int .i64 0, .int .u64 0, .int .i64 0, .string { data := #[] }, .string { data := #[] }]]) [1] 0 (ent_of Tryd.func39 (by kernel_rfl) rfl) (rd_end g l' f' 0 q2) rfl rfl rfl (fun _ => rfl) rfl rfl rfl) ?_; rintro ⟨⟩
      refine h_q hflS rfl ?_
      refine h_done (d_reg ?_)
      refine h_q hflS rfl ?_
      refine h_val rfl (.bool false) (fun b w hb hH => exec_cmp rfl rfl rfl (cmp_neq_f (by decide)) hb) ?_
      refine h_done (d_else rfl (d_skip (f_to (d_seq (d_reg ?_)))))
      refine h_q hflS rfl ?_
      refine h_val rfl (.agg #[.int .i64 c0.k, .int .u64 c0.s, .int .u64 c0.q, .int .u64 c0.a, .int .u64 c0.b, .int .i64 c0.hi, .int .u64 c0.lo, .int .i64 c0.sc, .string (bs c0.x), .string (bs c0.y)]) (fun b w hb hH => exec_load rfl rfl (reads_agg (cs := [.int .i64 c0.k, .int .u64 c0.s, .int .u64 c0.q, .int .u64 c0.a, .int .u64 c0.b, .int .i64 c0.hi, .int .u64 c0.lo, .int .i64 c0.sc, .string (bs c0.x), .string (bs c0.y)]) ty_api_Cmd rfl) (hH.row 0 rfl) hb) ?_
      refine h_act (post := fun _ => [cell g5 28 #[.int .i64 c0.k, .int .u64 c0.s, .int .u64 c0.q, .int .u64 c0.a, .int .u64 c0.b, .int .i64 c0.hi, .int .u64 c0.lo, .int .i64 c0.sc, .string (bs c0.x), .string (bs c0.y)], RdT g l' f', cell g1 28 #[.int .i64 0, .int .u64 0, .int .u64 0, .int .u64 0, .int .u64 0, .int .i64 0, .int .u64 0, .int .i64 0, .string { data := #[] }, .string { data := #[] }]]) rfl (a_call (ent_of Tryd.func9 (by kernel_rfl) rfl) (fun w hH => right_any w c0 ho true q3) rfl rfl rfl) ?_; rintro ⟨⟩
      refine h_q hflS rfl ?_
      refine h_done (d_else rfl (d_skip (f_to (d_reg ?_))))
      refine h_q hflS rfl ?_
      refine h_val rfl (.agg #[.int .i64 c0.k, .int .u64 c0.s, .int .u64 c0.q, .int .u64 c0.a, .int .u64 c0.b, .int .i64 c0.hi, .int .u64 c0.lo, .int .i64 c0.sc, .string (bs c0.x), .string (bs c0.y)]) (fun b w hb hH => exec_load rfl rfl (reads_agg (cs := [.int .i64 c0.k, .int .u64 c0.s, .int .u64 c0.q, .int .u64 c0.a, .int .u64 c0.b, .int .i64 c0.hi, .int .u64 c0.lo, .int .i64 c0.sc, .string (bs c0.x), .string (bs c0.y)]) ty_api_Cmd rfl) (hH.row 0 rfl) hb) ?_
      refine h_acts (post := fun _ => [cell g5 28 #[.int .i64 c0.k, .int .u64 c0.s, .int .u64 c0.q, .int .u64 c0.a, .int .u64 c0.b, .int .i64 c0.hi, .int .u64 c0.lo, .int .i64 c0.sc, .string (bs c0.x), .string (bs c0.y)], RdT g l' f', cell g1 28 #[.int .i64 c0.k, .int .u64 c0.s, .int .u64 c0.q, .int .u64 c0.a, .int .u64 c0.b, .int .i64 c0.hi, .int .u64 c0.lo, .int .i64 c0.sc, .string (bs c0.x), .string (bs c0.y)]]) rfl rfl (a_store 2 (v := .agg #[.int .i64 c0.k, .int .u64 c0.s, .int .u64 c0.q, .int .u64 c0.a, .int .u64 c0.b, .int .i64 c0.hi, .int .u64 c0.lo, .int .i64 c0.sc, .string (bs c0.x), .string (bs c0.y)]) #[.int .i64 c0.k, .int .u64 c0.s, .int .u64 c0.q, .int .u64 c0.a, .int .u64 c0.b, .int .i64 c0.hi, .int .u64 c0.lo, .int .i64 c0.sc, .string (bs c0.x), .string (bs c0.y)] ty_api_Cmd.2 rfl rfl rfl rfl rfl rfl rfl rfl rfl) ?_; rintro ⟨⟩
      refine h_q hflS rfl ?_
      refine h_done (d_ret ?_)
      exact f_fin2 (.cell 2 (v := .agg #[.int .i64 c0.k, .int .u64 c0.s, .int .u64 c0.q, .int .u64 c0.a, .int .u64 c0.b, .int .i64 c0.hi, .int .u64 c0.lo, .int .i64 c0.sc, .string (bs c0.x), .string (bs c0.y)]) (reads_agg (cs := [.int .i64 c0.k, .int .u64 c0.s, .int .u64 c0.q, .int .u64 c0.a, .int .u64 c0.b, .int .i64 c0.hi, .int .u64 c0.lo, .int .i64 c0.sc, .string (bs c0.x), .string (bs c0.y)]) ty_api_Cmd rfl) rfl rfl) (.tmp rfl) (fun w h => ⟨by rw [hcc]; rfl, below0 h.up⟩) rfl
end Go.Proofs.YtlkknncndgamdaaDoor.Sep
