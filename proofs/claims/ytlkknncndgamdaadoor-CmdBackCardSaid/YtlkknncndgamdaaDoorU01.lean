/-
  CmdU
-/
import Derived.Test.YtlkknncndgamdaaDoorT01
set_option linter.unusedSimpArgs false
set_option linter.unusedVariables false

namespace Go.Proofs.YtlkknncndgamdaaDoor.Sep
open Go.RowKit
open Go.Proofs.YtlkknncndgamdaaDoor.Mem (Dist Blk Chg below0)

set_option maxRecDepth 100000 in
theorem rencode_does (c : CmdD) (ho : c.ok) (hr : rightB c = true) : Does Tryd.prog 12 #[.agg #[.int .i64 c.k, .int .u64 c.s, .int .u64 c.q, .int .u64 c.a, .int .u64 c.b, .int .i64 c.hi, .int .u64 c.lo, .int .i64 c.sc, .string (bs c.x), .string (bs c.y)]] [] (fun (v : Value) => .tuple #[v, .int .i64 0]) (fun (v : Value) => [Vec 5 1 encB v (encL c)]) := by
  have RD := rightB_iff hr
  have hk := fo_kinds RD.k
  have hk1 : 1 ≤ c.k := by omega
  have hk2 : c.k ≤ 11 := by omega
  obtain ⟨h, hh⟩ : ∃ h, fo c.k = h := ⟨_, rfl⟩
  obtain ⟨b1, hb1⟩ : ∃ b1, wth h 1 = b1 := ⟨_, rfl⟩
  obtain ⟨b2, hb2⟩ : ∃ b2, wth h 2 = b2 := ⟨_, rfl⟩
  obtain ⟨b3, hb3⟩ : ∃ b3, wth h 4 = b3 := ⟨_, rfl⟩
  obtain ⟨b4, hb4⟩ : ∃ b4, wth h 8 = b4 := ⟨_, rfl⟩
  obtain ⟨b5, hb5⟩ : ∃ b5, wth h 16 = b5 := ⟨_, rfl⟩
  obtain ⟨b6, hb6⟩ : ∃ b6, wth h 32 = b6 := ⟨_, rfl⟩
  obtain ⟨b7, hb7⟩ : ∃ b7, wth h 64 = b7 := ⟨_, rfl⟩
  have hs1 : b1 = true := by rw [← hb1, ← hh]; exact fo_session RD.k
  have h5 : b5 = true → 0 ≤ c.sc ∧ c.sc ≤ 18 := fun e => scB_iff (mayB_t RD.d (by rw [hh, hb5, e]))
  have h6 : c.x.length ≤ 3 ∧ opt b6 c.x = c.x := by
    cases hb : b6
    · have := mayB_f RD.x (by rw [hh, hb6, hb]); simp at this; rw [this]; exact ⟨by decide, rfl⟩
    · obtain ⟨_, _, _, e, _⟩ := nameB_iff (mayB_t RD.x (by rw [hh, hb6, hb])); rw [e]; exact ⟨by simp, rfl⟩
  have h7 : c.y.length ≤ 3 ∧ opt b7 c.y = c.y := by
    cases hb : b7
    · have := mayB_f RD.y (by rw [hh, hb7, hb]); simp at this; rw [this]; exact ⟨by decide, rfl⟩
    · obtain ⟨_, _, _, e, _⟩ := nameB_iff (mayB_t RD.y (by rw [hh, hb7, hb])); rw [e]; exact ⟨by simp, rfl⟩
  obtain ⟨h6, h6e⟩ := h6
  obtain ⟨h7, h7e⟩ := h7
  obtain ⟨L0, hL0⟩ : ∃ L0, [UInt8.ofNat c.k.toNat] = L0 := ⟨_, rfl⟩
  obtain ⟨L1, hL1⟩ : ∃ L1, L0 ++ layU c.s = L1 := ⟨_, rfl⟩
  obtain ⟨L2, hL2⟩ : ∃ L2, putIf b2 L1 (layU c.q) = L2 := ⟨_, rfl⟩
  obtain ⟨L3, hL3⟩ : ∃ L3, putIf b3 L2 (layU c.a) = L3 := ⟨_, rfl⟩
  obtain ⟨L4, hL4⟩ : ∃ L4, putIf b4 L3 (layU c.b) = L4 := ⟨_, rfl⟩
  obtain ⟨L5, hL5⟩ : ∃ L5, putIf b5 L4 (layD c.hi c.lo c.sc) = L5 := ⟨_, rfl⟩
  obtain ⟨L6, hL6⟩ : ∃ L6, L5 ++ c.x = L6 := ⟨_, rfl⟩
  have u1 := layU_len ho.s
  have u2 := layU_len ho.q
  have u3 := layU_len ho.a
  have u4 := layU_len ho.b
  have u5 := layD_len (sc := c.sc) ho.hi ho.lo
  have hn0 : L0.length = 1 := by rw [← hL0]; rfl
  have hn1 : L1.length ≤ 11 ∧ 0 < L1.length := by have := layU_len ho.s; rw [← hL1, List.length_append]; omega
  have hn2 := putIf_len3 hL2 (fun _ => layU_len ho.q)
  have hn3 := putIf_len3 hL3 (fun _ => layU_len ho.a)
  have hn4 := putIf_len3 hL4 (fun _ => layU_len ho.b)
  have hn5 := putIf_len3 hL5 (fun _ => layD_len ho.hi ho.lo)
  have hp2 : 0 < L2.length := by rw [← hL2, putIf_eq, List.length_append]; omega
  have hp3 : 0 < L3.length := by rw [← hL3, putIf_eq, List.length_append]; omega
  have hp4 : 0 < L4.length := by rw [← hL4, putIf_eq, List.length_append]; omega
  have hp5 : 0 < L5.length := by rw [← hL5, putIf_eq, List.length_append]; omega
  have hn6 : L6.length ≤ L5.length + 3 ∧ 0 < L6.length := by rw [← hL6, List.length_append]; omega
  have hE : L6 ++ c.y = encL c := by
    unfold encL
    rw [hh, hb1, hb2, hb3, hb4, hb5, hb6, hb7, hs1, hL0]
    show _ = putIf b7 (putIf b6 (putIf b5 (putIf b4 (putIf b3 (putIf b2 (L0 ++ layU c.s) (layU c.q)) (layU c.a)) (layU c.b)) (layD c.hi c.lo c.sc)) c.x) c.y
    rw [hL1, hL2, hL3, hL4, hL5, putIf_eq b6, h6e, hL6, putIf_eq b7, h7e]
  obtain ⟨x0, hx0⟩ : ∃ x0, UInt8.ofNat c.k.toNat = x0 := ⟨_, rfl⟩
  have hx : (c.k : Int) = (x0.toNat : Int) := by rw [← hx0, byte_of _ (by omega)]; omega
  obtain ⟨l, hl⟩ : ∃ l, ofL c.k = l := ⟨_, rfl⟩
  have hll : l.length ≤ 9223372036854775806 := by have := ofL_len c.k; rw [hl] at this; omega
  have ha2 : hasB l [115, 101, 113] = b2 := by rw [← hl, has_seq, hh, hb2]
  have ha3 : hasB l [97] = b3 := by rw [← hl, has_a, hh, hb3]
  have ha4 : hasB l [98] = b4 := by rw [← hl, has_b, hh, hb4]
  have ha5 : hasB l [97, 109, 111, 117, 110, 116] = b5 := by rw [← hl, has_amount, hh, hb5]
  refine d_ins (args := [.agg #[.int .i64 c.k, .int .u64 c.s, .int .u64 c.q, .int .u64 c.a, .int .u64 c.b, .int .i64 c.hi, .int .u64 c.lo, .int .i64 c.sc, .string (bs c.x), .string (bs c.y)]]) 55 Tryd.func12 rfl rfl rfl ?_; intro w rs
  refine d_reg ?_
  refine h_q hflS rfl ?_
  refine h_act (post := fun g1 => [cell g1 28 #[.int .i64 c.k, .int .u64 c.s, .int .u64 c.q, .int .u64 c.a, .int .u64 c.b, .int .i64 c.hi, .int .u64 c.lo, .int .i64 c.sc, .string (bs c.x), .string (bs c.y)]]) rfl (a_box (cs := #[.int .i64 c.k, .int .u64 c.s, .int .u64 c.q, .int .u64 c.a, .int .u64 c.b, .int .i64 c.hi, .int .u64 c.lo, .int .i64 c.sc, .string (bs c.x), .string (bs c.y)]) rfl rfl rfl) ?_; rintro g1
  refine h_q hflS rfl ?_
  refine h_done (d_seq (d_reg ?_))
  refine h_q hflS rfl ?_
  refine h_val rfl (.agg #[.int .i64 c.k, .int .u64 c.s, .int .u64 c.q, .int .u64 c.a, .int .u64 c.b, .int .i64 c.hi, .int .u64 c.lo, .int .i64 c.sc, .string (bs c.x), .string (bs c.y)]) (fun b w hb hH => exec_load rfl rfl (reads_agg (cs := [.int .i64 c.k, .int .u64 c.s, .int .u64 c.q, .int .u64 c.a, .int .u64 c.b, .int .i64 c.hi, .int .u64 c.lo, .int .i64 c.sc, .string (bs c.x), .string (bs c.y)]) ty_api_Cmd rfl) (hH.row 0 rfl) hb) ?_
  refine h_act (post := fun _ => [cell g1 28 #[.int .i64 c.k, .int .u64 c.s, .int .u64 c.q, .int .u64 c.a, .int .u64 c.b, .int .i64 c.hi, .int .u64 c.lo, .int .i64 c.sc, .string (bs c.x), .string (bs c.y)]]) rfl (a_call (ent_of Tryd.func10 (by kernel_rfl) rfl) (fun w hH => rright_any w c ho true hr) rfl rfl rfl) ?_; rintro ⟨⟩
  refine h_q hflS rfl ?_
  refine h_done (d_else rfl (d_skip (f_to (d_reg ?_))))
  refine h_q hflS rfl ?_
  refine h_val rfl (.int .i64 c.k) (fun b w hb hH => exec_load rfl rfl (reads_one ty_int rfl) (hH.row 0 rfl) hb) ?_
  refine h_act (post := fun _ => [cell g1 28 #[.int .i64 c.k, .int .u64 c.s, .int .u64 c.q, .int .u64 c.a, .int .u64 c.b, .int .i64 c.hi, .int .u64 c.lo, .int .i64 c.sc, .string (bs c.x), .string (bs c.y)]]) rfl (a_call (ent_of Tryd.func23 (by kernel_rfl) rfl) (fun w hH => of_any w c.k l hl) rfl rfl rfl) ?_; rintro ⟨⟩
  refine h_q hflS rfl ?_
  refine h_done (d_seq ?_)
  refine d_emps 2 rfl ?_
  refine d_parS 8 3 [⟨.quiet, [none, none, none], fun _ => .pointer (some ⟨g1, 0, none⟩), []⟩, ⟨.quiet, [none, none, none], fun _ => .int .i64 c.k, [0]⟩, ⟨.quiet, [none, none, none], fun _ => .int .u8 (x0.toNat : Int), [1]⟩, ⟨.act 0, [some false, none, some false], fun _ => undef, [2]⟩, ⟨.quiet, [none, none, none], fun _ => .pointer (some ⟨g1, 1, none⟩), []⟩, ⟨.quiet, [none, none, none], fun _ => .int .u64 c.s, [4]⟩, ⟨.act 1, [none, some false, some false], fun _ => undef, [5]⟩, ⟨.act 2, [some true, some true, some false], fun _ => undef, [3, 6]⟩] [(1, .pointer (some ⟨g1, 0, none⟩)), (2, .slice none 0 0), (3, .int .i64 0), (4, .string (bs l))] (fun ρ => match ρ with | [r0, r1, r2] => [selS r1 (fun va1 => Vec 5 1 encB va1 (layU c.s)) (emp), selS r2 (fun u3 => Vec 5 1 encB u3 L1) (selS r0 (fun u2 => Vec 5 1 encB u2 ([x0])) (emp)), cell g1 28 #[.int .i64 c.k, .int .u64 c.s, .int .u64 c.q, .int .u64 c.a, .int .u64 c.b, .int .i64 c.hi, .int .u64 c.lo, .int .i64 c.sc, .string (bs c.x), .string (bs c.y)]] | _ => []) (by kernel_rfl) (by kernel_rfl) ⟨rfl, rfl, rfl, rfl, trivial⟩ rfl ?_ ?_
  · skip
    refine s_cons (by intro r0_ r1_ r2_; exact ⟨rfl, fun b w hH hb => exec_q1 hflS rfl hb⟩) ?_
    refine s_cons (by intro r0_ r1_ r2_; exact ⟨rfl, fun b w hH hb => exec_load rfl rfl (reads_one ty_int rfl) (hH.row 2 rfl) hb⟩) ?_
    refine s_cons (by intro r0_ r1_ r2_; exact ⟨rfl, fun b w hH hb => exec_conv Tryd.underlying3 Tryd.underlying5 (by rw [IntWalk.u8_in _ (by omega)]; exact hx) rfl rfl hb⟩) ?_
    refine s_cons (by intro r1_; exact ⟨rfl, Acts.s (Acts.place (val := fun u2 : Value => u2) (t := fun u2 => Vec 5 1 encB u2 ([x0])) (os' := fun u2 => [selS r1_ (fun va1 => Vec 5 1 encB va1 (layU c.s)) (emp), Vec 5 1 encB u2 ([x0]), cell g1 28 #[.int .i64 c.k, .int .u64 c.s, .int .u64 c.q, .int .u64 c.a, .int .u64 c.b, .int .i64 c.hi, .int .u64 c.lo, .int .i64 c.sc, .string (bs c.x), .string (bs c.y)]]) 1 rfl (by refine a_build1 (e := 5) (t := 33) (enc := encB) (x := .tmp 14) (c := .int .u8 ((x0).toNat : Int)) ?_ ?_ x0 ?_ ?_ ?_; exact sl_uint8; exact okB; exact rfl; exact rfl; exact rfl) (fun _ => rfl)) (fun _ => rfl)⟩) ?_
    refine s_cons (by intro r0_ r1_ r2_; exact ⟨rfl, fun b w hH hb => exec_q1 hflS rfl hb⟩) ?_
    refine s_cons (by intro r0_ r1_ r2_; exact ⟨rfl, fun b w hH hb => exec_load rfl rfl (reads_one ty_uint64 rfl) (hH.row 2 rfl) hb⟩) ?_
    refine s_cons (by intro r0_; exact ⟨rfl, Acts.s (a_does (os' := fun va1 => [Vec 5 1 encB va1 (layU c.s), selS r0_ (fun u2 => Vec 5 1 encB u2 ([x0])) (emp), cell g1 28 #[.int .i64 c.k, .int .u64 c.s, .int .u64 c.q, .int .u64 c.a, .int .u64 c.b, .int .i64 c.hi, .int .u64 c.lo, .int .i64 c.sc, .string (bs c.x), .string (bs c.y)]]) [0] 1 (ent_of Tryd.func33 (by kernel_rfl) rfl) (r1_num c.s ho.s) rfl rfl rfl (fun _ => rfl) rfl rfl rfl) (fun _ => rfl)⟩) ?_
    refine s_cons (by intro u2 va1; exact ⟨rfl, Acts.s (a_append 1 sl_uint8 okB rfl (layU c.s) (fun w hH => hH.vec 0 rfl okB) (by simp; omega) rfl rfl rfl (by rw [← hL1, ← hL0, hx0])) (fun _ => rfl)⟩) ?_
    exact s_nil
  intro u2 va1 u3
  refine WL2.keep (env' := [(1, .pointer (some ⟨g1, 0, none⟩)), (2, .slice none 0 0), (3, .int .i64 0), (4, .string (bs l)), (19, u3)]) ⟨rfl, rfl, rfl, rfl, rfl, trivial⟩ ?_
  refine h_q hflS rfl ?_
  refine h_nil (f_to (d_seq (d_reg ?_)))
  refine h_q hflS rfl ?_
  refine h_act (post := fun _ => [Vec 5 1 encB va1 (layU c.s), Vec 5 1 encB u3 L1, cell g1 28 #[.int .i64 c.k, .int .u64 c.s, .int .u64 c.q, .int .u64 c.a, .int .u64 c.b, .int .i64 c.hi, .int .u64 c.lo, .int .i64 c.sc, .string (bs c.x), .string (bs c.y)]]) rfl (a_call (ent_of Tryd.func25 (by kernel_rfl) rfl) (fun w hH => has_any w l [115, 101, 113] b2 ha2 hll) rfl rfl rfl) ?_; rintro ⟨⟩
  refine h_done ?_
  refine d_midx (X := Value) (fun y2 => [(1, .pointer (some ⟨g1, 0, none⟩)), (2, .slice none 0 0), (3, .int .i64 0), (4, .string (bs l)), (5, y2)]) (fun y2 => [Vec 5 1 encB va1 (layU c.s), Vec 5 1 encB y2 L2, cell g1 28 #[.int .i64 c.k, .int .u64 c.s, .int .u64 c.q, .int .u64 c.a, .int .u64 c.b, .int .i64 c.hi, .int .u64 c.lo, .int .i64 c.sc, .string (bs c.x), .string (bs c.y)]]) ?_ ?_
  · skip
    cases b2
    · skip
      obtain rfl : L1 = L2 := hL2
      refine d_else rfl (d_skip ?_)
      exact f_midx (u3) 0 ⟨rfl, rfl, rfl, rfl, rfl, trivial⟩ rfl
    · skip
      refine d_then rfl (d_reg1 ?_)
      refine h_q hflS rfl ?_
      refine h_val rfl (.int .u64 c.q) (fun b w hb hH => exec_load rfl rfl (reads_one ty_uint64 rfl) (hH.row 2 rfl) hb) ?_
      refine h_act (post := fun va2 => [Vec 5 1 encB va2 (layU c.q), Vec 5 1 encB va1 (layU c.s), Vec 5 1 encB u3 L1, cell g1 28 #[.int .i64 c.k, .int .u64 c.s, .int .u64 c.q, .int .u64 c.a, .int .u64 c.b, .int .i64 c.hi, .int .u64 c.lo, .int .i64 c.sc, .string (bs c.x), .string (bs c.y)]]) rfl (a_does (os' := fun va2 => [Vec 5 1 encB va2 (layU c.q), Vec 5 1 encB va1 (layU c.s), Vec 5 1 encB u3 L1, cell g1 28 #[.int .i64 c.k, .int .u64 c.s, .int .u64 c.q, .int .u64 c.a, .int .u64 c.b, .int .i64 c.hi, .int .u64 c.lo, .int .i64 c.sc, .string (bs c.x), .string (bs c.y)]]) [] 0 (ent_of Tryd.func33 (by kernel_rfl) rfl) (r1_num c.q ho.q) rfl rfl rfl (fun _ => rfl) rfl rfl rfl) ?_; rintro va2
      refine h_act (post := fun u4 => [Vec 5 1 encB va2 (layU c.q), Vec 5 1 encB va1 (layU c.s), Vec 5 1 encB u4 L2, cell g1 28 #[.int .i64 c.k, .int .u64 c.s, .int .u64 c.q, .int .u64 c.a, .int .u64 c.b, .int .i64 c.hi, .int .u64 c.lo, .int .i64 c.sc, .string (bs c.x), .string (bs c.y)]]) rfl (a_append 2 sl_uint8 okB rfl (layU c.q) (fun w hH => hH.vec 0 rfl okB) (by omega) rfl rfl rfl hL2) ?_; rintro u4
      refine h_q hflS rfl ?_
      refine h_nil ?_
      exact f_midx (u4) 1 ⟨rfl, rfl, rfl, rfl, rfl, trivial⟩ rfl
  intro y2
  refine f_to (d_seq (d_reg ?_))
  refine h_q hflS rfl ?_
  refine h_act (post := fun _ => [Vec 5 1 encB va1 (layU c.s), Vec 5 1 encB y2 L2, cell g1 28 #[.int .i64 c.k, .int .u64 c.s, .int .u64 c.q, .int .u64 c.a, .int .u64 c.b, .int .i64 c.hi, .int .u64 c.lo, .int .i64 c.sc, .string (bs c.x), .string (bs c.y)]]) rfl (a_call (ent_of Tryd.func25 (by kernel_rfl) rfl) (fun w hH => has_any w l [97] b3 ha3 hll) rfl rfl rfl) ?_; rintro ⟨⟩
  refine h_done ?_
  refine d_midx (X := Value) (fun y3 => [(1, .pointer (some ⟨g1, 0, none⟩)), (2, .slice none 0 0), (3, .int .i64 0), (4, .string (bs l)), (5, y3)]) (fun y3 => [Vec 5 1 encB va1 (layU c.s), Vec 5 1 encB y3 L3, cell g1 28 #[.int .i64 c.k, .int .u64 c.s, .int .u64 c.q, .int .u64 c.a, .int .u64 c.b, .int .i64 c.hi, .int .u64 c.lo, .int .i64 c.sc, .string (bs c.x), .string (bs c.y)]]) ?_ ?_
  · skip
    cases b3
    · skip
      obtain rfl : L2 = L3 := hL3
      refine d_else rfl (d_skip ?_)
      exact f_midx (y2) 0 ⟨rfl, rfl, rfl, rfl, rfl, trivial⟩ rfl
    · skip
      refine d_then rfl (d_reg1 ?_)
      refine h_q hflS rfl ?_
      refine h_val rfl (.int .u64 c.a) (fun b w hb hH => exec_load rfl rfl (reads_one ty_uint64 rfl) (hH.row 2 rfl) hb) ?_
      refine h_act (post := fun va3 => [Vec 5 1 encB va3 (layU c.a), Vec 5 1 encB va1 (layU c.s), Vec 5 1 encB y2 L2, cell g1 28 #[.int .i64 c.k, .int .u64 c.s, .int .u64 c.q, .int .u64 c.a, .int .u64 c.b, .int .i64 c.hi, .int .u64 c.lo, .int .i64 c.sc, .string (bs c.x), .string (bs c.y)]]) rfl (a_does (os' := fun va3 => [Vec 5 1 encB va3 (layU c.a), Vec 5 1 encB va1 (layU c.s), Vec 5 1 encB y2 L2, cell g1 28 #[.int .i64 c.k, .int .u64 c.s, .int .u64 c.q, .int .u64 c.a, .int .u64 c.b, .int .i64 c.hi, .int .u64 c.lo, .int .i64 c.sc, .string (bs c.x), .string (bs c.y)]]) [] 0 (ent_of Tryd.func33 (by kernel_rfl) rfl) (r1_num c.a ho.a) rfl rfl rfl (fun _ => rfl) rfl rfl rfl) ?_; rintro va3
      refine h_act (post := fun u5 => [Vec 5 1 encB va3 (layU c.a), Vec 5 1 encB va1 (layU c.s), Vec 5 1 encB u5 L3, cell g1 28 #[.int .i64 c.k, .int .u64 c.s, .int .u64 c.q, .int .u64 c.a, .int .u64 c.b, .int .i64 c.hi, .int .u64 c.lo, .int .i64 c.sc, .string (bs c.x), .string (bs c.y)]]) rfl (a_append 2 sl_uint8 okB rfl (layU c.a) (fun w hH => hH.vec 0 rfl okB) (by omega) rfl rfl rfl hL3) ?_; rintro u5
      refine h_q hflS rfl ?_
      refine h_nil ?_
      exact f_midx (u5) 1 ⟨rfl, rfl, rfl, rfl, rfl, trivial⟩ rfl
  intro y3
  refine f_to (d_seq (d_reg ?_))
  refine h_q hflS rfl ?_
  refine h_act (post := fun _ => [Vec 5 1 encB va1 (layU c.s), Vec 5 1 encB y3 L3, cell g1 28 #[.int .i64 c.k, .int .u64 c.s, .int .u64 c.q, .int .u64 c.a, .int .u64 c.b, .int .i64 c.hi, .int .u64 c.lo, .int .i64 c.sc, .string (bs c.x), .string (bs c.y)]]) rfl (a_call (ent_of Tryd.func25 (by kernel_rfl) rfl) (fun w hH => has_any w l [98] b4 ha4 hll) rfl rfl rfl) ?_; rintro ⟨⟩
  refine h_done ?_
  refine d_midx (X := Value) (fun y4 => [(1, .pointer (some ⟨g1, 0, none⟩)), (2, .slice none 0 0), (3, .int .i64 0), (4, .string (bs l)), (5, y4)]) (fun y4 => [Vec 5 1 encB va1 (layU c.s), Vec 5 1 encB y4 L4, cell g1 28 #[.int .i64 c.k, .int .u64 c.s, .int .u64 c.q, .int .u64 c.a, .int .u64 c.b, .int .i64 c.hi, .int .u64 c.lo, .int .i64 c.sc, .string (bs c.x), .string (bs c.y)]]) ?_ ?_
  · skip
    cases b4
    · skip
      obtain rfl : L3 = L4 := hL4
      refine d_else rfl (d_skip ?_)
      exact f_midx (y3) 0 ⟨rfl, rfl, rfl, rfl, rfl, trivial⟩ rfl
    · skip
      refine d_then rfl (d_reg1 ?_)
      refine h_q hflS rfl ?_
      refine h_val rfl (.int .u64 c.b) (fun b w hb hH => exec_load rfl rfl (reads_one ty_uint64 rfl) (hH.row 2 rfl) hb) ?_
      refine h_act (post := fun va4 => [Vec 5 1 encB va4 (layU c.b), Vec 5 1 encB va1 (layU c.s), Vec 5 1 encB y3 L3, cell g1 28 #[.int .i64 c.k, .int .u64 c.s, .int .u64 c.q, .int .u64 c.a, .int .u64 c.b, .int .i64 c.hi, .int .u64 c.lo, .int .i64 c.sc, .string (bs c.x), .string (bs c.y)]]) rfl (a_does (os' := fun va4 => [Vec 5 1 encB va4 (layU c.b), Vec 5 1 encB va1 (layU c.s), Vec 5 1 encB y3 L3, cell g1 28 #[.int .i64 c.k, .int .u64 c.s, .int .u64 c.q, .int .u64 c.a, .int .u64 c.b, .int .i64 c.hi, .int .u64 c.lo, .int .i64 c.sc, .string (bs c.x), .string (bs c.y)]]) [] 0 (ent_of Tryd.func33 (by kernel_rfl) rfl) (r1_num c.b ho.b) rfl rfl rfl (fun _ => rfl) rfl rfl rfl) ?_; rintro va4
      refine h_act (post := fun u6 => [Vec 5 1 encB va4 (layU c.b), Vec 5 1 encB va1 (layU c.s), Vec 5 1 encB u6 L4, cell g1 28 #[.int .i64 c.k, .int .u64 c.s, .int .u64 c.q, .int .u64 c.a, .int .u64 c.b, .int .i64 c.hi, .int .u64 c.lo, .int .i64 c.sc, .string (bs c.x), .string (bs c.y)]]) rfl (a_append 2 sl_uint8 okB rfl (layU c.b) (fun w hH => hH.vec 0 rfl okB) (by omega) rfl rfl rfl hL4) ?_; rintro u6
      refine h_q hflS rfl ?_
      refine h_nil ?_
      exact f_midx (u6) 1 ⟨rfl, rfl, rfl, rfl, rfl, trivial⟩ rfl
  intro y4
  refine f_to (d_seq (d_reg ?_))
  refine h_q hflS rfl ?_
  refine h_act (post := fun _ => [Vec 5 1 encB va1 (layU c.s), Vec 5 1 encB y4 L4, cell g1 28 #[.int .i64 c.k, .int .u64 c.s, .int .u64 c.q, .int .u64 c.a, .int .u64 c.b, .int .i64 c.hi, .int .u64 c.lo, .int .i64 c.sc, .string (bs c.x), .string (bs c.y)]]) rfl (a_call (ent_of Tryd.func25 (by kernel_rfl) rfl) (fun w hH => has_any w l [97, 109, 111, 117, 110, 116] b5 ha5 hll) rfl rfl rfl) ?_; rintro ⟨⟩
  refine h_done ?_
  refine d_midx (X := Value) (fun y5 => [(1, .pointer (some ⟨g1, 0, none⟩)), (2, .slice none 0 0), (3, .int .i64 0), (5, y5)]) (fun y5 => [Vec 5 1 encB va1 (layU c.s), Vec 5 1 encB y5 L5, cell g1 28 #[.int .i64 c.k, .int .u64 c.s, .int .u64 c.q, .int .u64 c.a, .int .u64 c.b, .int .i64 c.hi, .int .u64 c.lo, .int .i64 c.sc, .string (bs c.x), .string (bs c.y)]]) ?_ ?_
  · skip
    cases b5
    · skip
      obtain rfl : L4 = L5 := hL5
      refine d_else rfl (d_skip ?_)
      exact f_midx (y4) 0 ⟨rfl, rfl, rfl, rfl, trivial⟩ rfl
    · skip
      refine d_then rfl (d_reg1 ?_)
      refine h_q hflS rfl ?_
      refine h_val rfl (.agg #[.int .i64 c.hi, .int .u64 c.lo, .int .i64 c.sc]) (fun b w hb hH => exec_load rfl rfl (reads_agg (cs := [.int .i64 c.k, .int .u64 c.s, .int .u64 c.q, .int .u64 c.a, .int .u64 c.b, .int .i64 c.hi, .int .u64 c.lo, .int .i64 c.sc, .string (bs c.x), .string (bs c.y)]) ty_api_Dec rfl) (hH.row 2 rfl) hb) ?_
      refine h_act (post := fun va5 => [Vec 5 1 encB va5 (layD c.hi c.lo c.sc), Vec 5 1 encB va1 (layU c.s), Vec 5 1 encB y4 L4, cell g1 28 #[.int .i64 c.k, .int .u64 c.s, .int .u64 c.q, .int .u64 c.a, .int .u64 c.b, .int .i64 c.hi, .int .u64 c.lo, .int .i64 c.sc, .string (bs c.x), .string (bs c.y)]]) rfl (a_does (os' := fun va5 => [Vec 5 1 encB va5 (layD c.hi c.lo c.sc), Vec 5 1 encB va1 (layU c.s), Vec 5 1 encB y4 L4, cell g1 28 #[.int .i64 c.k, .int .u64 c.s, .int .u64 c.q, .int .u64 c.a, .int .u64 c.b, .int .i64 c.hi, .int .u64 c.lo, .int .i64 c.sc, .string (bs c.x), .string (bs c.y)]]) [] 0 (ent_of Tryd.func34 (by kernel_rfl) rfl) (rAmount_does c.hi c.lo c.sc ho.hi ho.lo (h5 rfl)) rfl rfl rfl (fun _ => rfl) rfl rfl rfl) ?_; rintro va5
      refine h_act (post := fun u7 => [Vec 5 1 encB va5 (layD c.hi c.lo c.sc), Vec 5 1 encB va1 (layU c.s), Vec 5 1 encB u7 L5, cell g1 28 #[.int .i64 c.k, .int .u64 c.s, .int .u64 c.q, .int .u64 c.a, .int .u64 c.b, .int .i64 c.hi, .int .u64 c.lo, .int .i64 c.sc, .string (bs c.x), .string (bs c.y)]]) rfl (a_append 2 sl_uint8 okB rfl (layD c.hi c.lo c.sc) (fun w hH => hH.vec 0 rfl okB) (by omega) rfl rfl rfl hL5) ?_; rintro u7
      refine h_q hflS rfl ?_
      refine h_nil ?_
      exact f_midx (u7) 1 ⟨rfl, rfl, rfl, rfl, trivial⟩ rfl
  intro y5
  refine f_to (d_seq ?_)
  refine d_parS 7 2 [⟨.quiet, [none, none], fun _ => y5, []⟩, ⟨.quiet, [none, none], fun _ => .pointer (some ⟨g1, 8, none⟩), []⟩, ⟨.quiet, [none, none], fun _ => .string (bs c.x), [1]⟩, ⟨.act 0, [some false, some false], fun _ => undef, [0, 2]⟩, ⟨.quiet, [none, none], fun _ => .pointer (some ⟨g1, 9, none⟩), []⟩, ⟨.quiet, [none, none], fun _ => .string (bs c.y), [4]⟩, ⟨.act 1, [some true, some false], fun _ => undef, [3, 5]⟩] [(1, .pointer (some ⟨g1, 0, none⟩)), (2, .slice none 0 0), (3, .int .i64 0), (5, y5)] (fun ρ => match ρ with | [r0, r1] => [Vec 5 1 encB va1 (layU c.s), selS r1 (fun u9 => Vec 5 1 encB u9 (encL c)) (selS r0 (fun u8 => Vec 5 1 encB u8 L6) (Vec 5 1 encB y5 L5)), cell g1 28 #[.int .i64 c.k, .int .u64 c.s, .int .u64 c.q, .int .u64 c.a, .int .u64 c.b, .int .i64 c.hi, .int .u64 c.lo, .int .i64 c.sc, .string (bs c.x), .string (bs c.y)]] | _ => []) (by kernel_rfl) (by kernel_rfl) ⟨rfl, rfl, rfl, rfl, trivial⟩ rfl ?_ ?_
  · skip
    refine s_cons (by intro r0_ r1_; exact ⟨rfl, fun b w hH hb => exec_q1 hflS rfl hb⟩) ?_
    refine s_cons (by intro r0_ r1_; exact ⟨rfl, fun b w hH hb => exec_q1 hflS rfl hb⟩) ?_
    refine s_cons (by intro r0_ r1_; exact ⟨rfl, fun b w hH hb => exec_load rfl rfl (reads_one ty_string rfl) (hH.row 2 rfl) hb⟩) ?_
    refine s_cons (by exact ⟨rfl, Acts.s (a_appendS 1 (m := c.x) rfl hp5 (by omega) rfl rfl rfl hL6) (fun _ => rfl)⟩) ?_
    refine s_cons (by intro r0_ r1_; exact ⟨rfl, fun b w hH hb => exec_q1 hflS rfl hb⟩) ?_
    refine s_cons (by intro r0_ r1_; exact ⟨rfl, fun b w hH hb => exec_load rfl rfl (reads_one ty_string rfl) (hH.row 2 rfl) hb⟩) ?_
    refine s_cons (by intro u8; exact ⟨rfl, Acts.s (a_appendS 1 (m := c.y) rfl hn6.2 (by omega) rfl rfl rfl hE) (fun _ => rfl)⟩) ?_
    exact s_nil
  intro u8 u9
  refine WL2.keep (env' := [(2, .slice none 0 0), (3, .int .i64 0), (54, u9)]) ⟨rfl, rfl, rfl, trivial⟩ ?_
  refine h_q hflS rfl ?_
  refine h_nil (f_to (d_ret ?_))
  exact f_fin2 (.tmp rfl) (.tmp rfl) (fun w h => tells (u9) rfl [1] rfl h same_parts) rfl

set_option maxRecDepth 100000 in
theorem rencode_bad (w : World) (c : CmdD) (ho : c.ok) (hr : rightB c = false) : Calls Tryd.prog 12 #[.agg #[.int .i64 c.k, .int .u64 c.s, .int .u64 c.q, .int .u64 c.a, .int .u64 c.b, .int .i64 c.hi, .int .u64 c.lo, .int .i64 c.sc, .string (bs c.x), .string (bs c.y)]] w fun e w' => e = .returned (.tuple #[.slice none 0 0, .int .i64 1]) ∧ Below w.heap.size w w' := by
  refine d_in (args := [.agg #[.int .i64 c.k, .int .u64 c.s, .int .u64 c.q, .int .u64 c.a, .int .u64 c.b, .int .i64 c.hi, .int .u64 c.lo, .int .i64 c.sc, .string (bs c.x), .string (bs c.y)]]) 55 Tryd.func12 rfl rfl rfl ?_
  refine d_reg ?_
  refine h_q hflS rfl ?_
  refine h_act (post := fun g1 => [cell g1 28 #[.int .i64 c.k, .int .u64 c.s, .int .u64 c.q, .int .u64 c.a, .int .u64 c.b, .int .i64 c.hi, .int .u64 c.lo, .int .i64 c.sc, .string (bs c.x), .string (bs c.y)]]) rfl (a_box (cs := #[.int .i64 c.k, .int .u64 c.s, .int .u64 c.q, .int .u64 c.a, .int .u64 c.b, .int .i64 c.hi, .int .u64 c.lo, .int .i64 c.sc, .string (bs c.x), .string (bs c.y)]) rfl rfl rfl) ?_; rintro g1
  refine h_q hflS rfl ?_
  refine h_done (d_seq (d_reg ?_))
  refine h_q hflS rfl ?_
  refine h_val rfl (.agg #[.int .i64 c.k, .int .u64 c.s, .int .u64 c.q, .int .u64 c.a, .int .u64 c.b, .int .i64 c.hi, .int .u64 c.lo, .int .i64 c.sc, .string (bs c.x), .string (bs c.y)]) (fun b w hb hH => exec_load rfl rfl (reads_agg (cs := [.int .i64 c.k, .int .u64 c.s, .int .u64 c.q, .int .u64 c.a, .int .u64 c.b, .int .i64 c.hi, .int .u64 c.lo, .int .i64 c.sc, .string (bs c.x), .string (bs c.y)]) ty_api_Cmd rfl) (hH.row 0 rfl) hb) ?_
  refine h_act (post := fun _ => [cell g1 28 #[.int .i64 c.k, .int .u64 c.s, .int .u64 c.q, .int .u64 c.a, .int .u64 c.b, .int .i64 c.hi, .int .u64 c.lo, .int .i64 c.sc, .string (bs c.x), .string (bs c.y)]]) rfl (a_call (ent_of Tryd.func10 (by kernel_rfl) rfl) (fun w hH => rright_any w c ho false hr) rfl rfl rfl) ?_; rintro ⟨⟩
  refine h_q hflS rfl ?_
  refine h_done (d_then rfl (d_reg ?_))
  refine h_q hflS rfl ?_
  refine h_done (d_ret (f_then_ret ?_))
  exact f_fin2 (.tmp rfl) (.tmp rfl) (fun w h => ⟨rfl, below0 h.up⟩) rfl

/-- bytes that can be read, whatever they lie in -/
structure Spt where
  v : Value
  l : List UInt8
  X : Ass
theorem fact_mk {X : Ass} {p : Prop} (hp : p) {z : List RowT} (h : Parts [X] z) : Parts [X, fact p] z := by
  obtain ⟨a, b, e, h1, h2⟩ := h
  unfold Parts at h2
  subst h2
  exact ⟨a, [], e, h1, [], [], rfl, ⟨rfl, hp⟩, rfl⟩
theorem rd8_cut {e : Value} {l r : List UInt8} {k : Nat} (hk : k ≤ l.length) (hr : l.take k = r) : Rd8 (Vec 5 1 encB e l) (subv 1 e 0 k) r := fun rs w h1 h2 => by
  subst hr
  obtain ⟨A, c, rfl, hb⟩ := vec_sl8 h1 h2
  have h3 := hb.take hk
  refine ⟨A, c, ?_, h3⟩
  show Value.slice (if c = 0 then A else A.map (·.add (0 * 1))) (k - 0) (c - 0) = _
  rw [List.length_take, Nat.min_eq_left hk]
  have e : A.map (·.add (0 * 1)) = A := by cases A <;> simp [Addr.add]
  rw [e]
  simp

set_option maxRecDepth 100000 in
theorem spoilt_does (v : Value) (l : List UInt8) (how at_ to : Int) (h0 : 0 < l.length) (hl : l.length ≤ 1000) (w1 : I64 how) (w2 : I64 at_) (w3 : I64 to) : Does Tryd.prog 14 #[v, .int .i64 how, .int .i64 at_, .int .i64 to] [Vec 5 1 encB v l] (fun (x : Spt) => x.v) (fun (x : Spt) => [x.X, fact (Rd8 x.X x.v x.l ∧ x.l.length ≤ 2000)]) := by
  obtain ⟨k, hk⟩ : ∃ k : Nat, at_ % (l.length : Int) = (k : Int) := ⟨(at_ % (l.length : Int)).toNat, by have := Int.emod_nonneg at_ (show (l.length : Int) ≠ 0 by omega); omega⟩
  have hkl : k < l.length := by have := Int.emod_lt_of_pos at_ (show 0 < (l.length : Int) by omega); omega
  obtain ⟨m, hm⟩ : ∃ m, how % 4 = m := ⟨_, rfl⟩
  have hm0 : 0 ≤ m ∧ m < 4 := by omega
  obtain ⟨x, hx⟩ : ∃ x : UInt8, IntKind.u8.wrap to = (x.toNat : Int) := by
    have h8 : 0 ≤ IntKind.u8.wrap to ∧ IntKind.u8.wrap to < 256 := by rw [IntKind.wrap_u8]; omega
    exact ⟨UInt8.ofNat (IntKind.u8.wrap to).toNat, by rw [byte_of _ (by omega)]; omega⟩
  refine d_ins (args := [v, .int .i64 how, .int .i64 at_, .int .i64 to]) 54 Tryd.func14 rfl rfl rfl ?_; intro w rs
  refine d_reg ?_
  refine h_q hflS rfl ?_
  refine h_done (d_reg ?_)
  refine h_q hflS rfl ?_
  refine h_val rfl (.int .i64 (l.length : Int)) (fun b w hb hH => e_vlen 0 Tryd.underlying33 rfl rfl rfl hH hb) ?_
  refine h_act (post := fun _ => [Vec 5 1 encB v l]) rfl (a_call (ent_of Tryd.func36 (by kernel_rfl) rfl) (fun w hH => pick w at_ (l.length : Int) w2 (by omega) hk) rfl rfl rfl) ?_; rintro ⟨⟩
  refine h_q hflS rfl ?_
  refine h_done (d_seq (d_reg ?_))
  refine h_q hflS rfl ?_
  refine h_act (post := fun _ => [Vec 5 1 encB v l]) rfl (a_call (ent_of Tryd.func36 (by kernel_rfl) rfl) (fun w hH => pick w how 4 w1 (by decide) hm) rfl rfl rfl) ?_; rintro ⟨⟩
  refine h_done (d_block ?_)
  have hc : m = 0 ∨ m = 1 ∨ m = 2 ∨ m = 3 := by omega
  rcases hc with rfl | rfl | rfl | rfl
  · skip
    refine d_reg ?_
    refine h_q hflS rfl ?_
    refine h_val rfl (.bool true) (fun b w hb hH => exec_cmp rfl rfl rfl (cmp_eql_t (by decide)) hb) ?_
    refine h_q hflS rfl ?_
    refine h_done (d_then rfl (d_reg1 ?_))
    refine h_q hflS rfl ?_
    refine h_val rfl (.int .u8 (x.toNat : Int)) (fun b w hb hH => exec_conv Tryd.underlying3 Tryd.underlying5 hx rfl rfl hb) ?_
    refine h_val rfl (elp v (k * 1)) (fun b w hb hH => e_vidx 0 sl_uint8 okB rfl k hkl rfl rfl rfl hH hb) ?_
    refine h_acts (post := fun _ => [Vec 5 1 encB v (l.set k x)]) rfl rfl (a_vstore1 0 ty_uint8 okB rfl k hkl x rfl rfl rfl rfl rfl) ?_; rintro ⟨⟩
    refine h_nil (f_block (f_to (d_reg ?_)))
    refine h_q hflS rfl ?_
    refine h_done (d_ret ?_)
    exact f_fin1 (.tmp rfl) (fun w h => tells (⟨v, l.set k x, Vec 5 1 encB v (l.set k x)⟩) rfl [0] rfl h (fun z hz => ⟨z, .refl _, fact_mk (X := Vec 5 1 encB v (l.set k x)) ⟨rd8_vec, (by simp; omega)⟩ hz⟩)) rfl
  · skip
    refine d_reg ?_
    refine h_q hflS rfl ?_
    refine h_val rfl (.bool false) (fun b w hb hH => exec_cmp rfl rfl rfl (cmp_eql_f (by decide)) hb) ?_
    refine h_q hflS rfl ?_
    refine h_done (d_else rfl (d_reg ?_))
    refine h_q hflS rfl ?_
    refine h_val rfl (.bool true) (fun b w hb hH => exec_cmp rfl rfl rfl (cmp_eql_t (by decide)) hb) ?_
    refine h_q hflS rfl ?_
    refine h_done (d_then rfl ?_)
    refine d_emps 2 rfl ?_
    refine d_parS 13 5 [⟨.act 0, [some false, some false, none, some false, some false], fun _ => undef, []⟩, ⟨.quiet, [none, none, none, none, none], fun _ => v, []⟩, ⟨.quiet, [none, none, none, none, none], fun _ => .int .i64 (k : Int), []⟩, ⟨.quiet, [none, none, none, none, none], fun _ => subv 1 v 0 k, [1, 2]⟩, ⟨.act 1, [some true, some false, none, some false, some false], fun _ => undef, [0, 3]⟩, ⟨.quiet, [none, none, none, none, none], fun _ => .int .i64 to, []⟩, ⟨.quiet, [none, none, none, none, none], fun _ => .int .u8 (x.toNat : Int), [5]⟩, ⟨.act 2, [none, none, some false, some false, some false], fun _ => undef, [6]⟩, ⟨.act 3, [some true, some true, some true, some false, some false], fun _ => undef, [4, 7]⟩, ⟨.quiet, [none, none, none, none, none], fun _ => v, []⟩, ⟨.quiet, [none, none, none, none, none], fun _ => .int .i64 (k : Int), []⟩, ⟨.quiet, [none, none, none, none, none], fun _ => subv 1 v k l.length, [9, 10]⟩, ⟨.act 4, [some true, some true, some true, some true, some false], fun _ => undef, [8, 11]⟩] [(0, v), (3, .int .i64 to), (8, .slice none 0 0), (9, .int .i64 (k : Int))] (fun ρ => match ρ with | [r0, r1, r2, r3, r4] => [selS r2 (fun u3 => Vec 5 1 encB u3 ([x])) (emp), selS r4 (fun u5 => Vec 5 1 encB u5 (l.take k ++ [x] ++ l.drop k)) (selS r3 (fun u4 => Vec 5 1 encB u4 (l.take k ++ [x])) (selS r1 (fun u2 => Vec 5 1 encB u2 (l.take k)) (selS r0 (fun u1 => Vec 5 1 encB u1 ([])) (emp)))), Vec 5 1 encB v l] | _ => []) (by kernel_rfl) (by kernel_rfl) ⟨rfl, rfl, rfl, rfl, trivial⟩ rfl ?_ ?_
    · skip
      refine s_cons (by intro r2_; exact ⟨rfl, Acts.s (Acts.place (val := fun u1 : Value => u1) (t := fun u1 => Vec 5 1 encB u1 ([])) (os' := fun u1 => [selS r2_ (fun u3 => Vec 5 1 encB u3 ([x])) (emp), Vec 5 1 encB u1 ([]), Vec 5 1 encB v l]) 1 rfl (by refine a_build0 (e := 5) (t := 33) (k := 1) (enc := encB) ?_ ?_; exact sl_uint8; exact rfl) (fun _ => rfl)) (fun _ => rfl)⟩) ?_
      refine s_cons (by intro r0_ r1_ r2_ r3_ r4_; exact ⟨rfl, fun b w hH hb => exec_q1 hflS rfl hb⟩) ?_
      refine s_cons (by intro r0_ r1_ r2_ r3_ r4_; exact ⟨rfl, fun b w hH hb => exec_q1 hflS rfl hb⟩) ?_
      refine s_cons (by intro r0_ r1_ r2_ r3_ r4_; exact ⟨rfl, fun b w hH hb => e_vsub_hi 2 (b := k) sl_uint8 rfl (by omega) rfl rfl rfl hH hb⟩) ?_
      refine s_cons (by intro u1 r2_; exact ⟨rfl, Acts.s (a_append 1 sl_uint8 okB rfl (l.take k) (fun w hH => hH.vecq 2 rfl okB (Nat.zero_le _) (by omega) (m := l.take k) (by simp)) (by simp; omega) rfl rfl rfl (List.nil_append _)) (fun _ => rfl)⟩) ?_
      refine s_cons (by intro r0_ r1_ r2_ r3_ r4_; exact ⟨rfl, fun b w hH hb => exec_q1 hflS rfl hb⟩) ?_
      refine s_cons (by intro r0_ r1_ r2_ r3_ r4_; exact ⟨rfl, fun b w hH hb => exec_conv Tryd.underlying3 Tryd.underlying5 hx rfl rfl hb⟩) ?_
      refine s_cons (by intro r0_ r1_; exact ⟨rfl, Acts.s (Acts.place (val := fun u3 : Value => u3) (t := fun u3 => Vec 5 1 encB u3 ([x])) (os' := fun u3 => [Vec 5 1 encB u3 ([x]), selS r1_ (fun u2 => Vec 5 1 encB u2 (l.take k)) (selS r0_ (fun u1 => Vec 5 1 encB u1 ([])) (emp)), Vec 5 1 encB v l]) 0 rfl (by refine a_build1 (e := 5) (t := 33) (enc := encB) (x := .tmp 34) (c := .int .u8 ((x).toNat : Int)) ?_ ?_ x ?_ ?_ ?_; exact sl_uint8; exact okB; exact rfl; exact rfl; exact rfl) (fun _ => rfl)) (fun _ => rfl)⟩) ?_
      refine s_cons (by intro u1 u2 u3; exact ⟨rfl, Acts.s (a_append 1 sl_uint8 okB rfl ([x]) (fun w hH => hH.vec 0 rfl okB) (by simp; omega) rfl rfl rfl rfl) (fun _ => rfl)⟩) ?_
      refine s_cons (by intro r0_ r1_ r2_ r3_ r4_; exact ⟨rfl, fun b w hH hb => exec_q1 hflS rfl hb⟩) ?_
      refine s_cons (by intro r0_ r1_ r2_ r3_ r4_; exact ⟨rfl, fun b w hH hb => exec_q1 hflS rfl hb⟩) ?_
      refine s_cons (by intro r0_ r1_ r2_ r3_ r4_; exact ⟨rfl, fun b w hH hb => e_vsub_lo 2 (a := k) sl_uint8 rfl (by omega) rfl rfl rfl hH hb⟩) ?_
      refine s_cons (by intro u1 u2 u3 u4; exact ⟨rfl, Acts.s (a_append 1 sl_uint8 okB rfl (l.drop k) (fun w hH => hH.vecq 2 rfl okB (by omega) (Nat.le_refl _) (m := l.drop k) (by simp)) (by simp; omega) rfl rfl rfl rfl) (fun _ => rfl)⟩) ?_
      exact s_nil
    intro u1 u2 u3 u4 u5
    refine WL2.keep (env' := [(0, v), (8, .slice none 0 0), (40, u5)]) ⟨rfl, rfl, rfl, trivial⟩ ?_
    refine h_q hflS rfl ?_
    refine h_nil (f_block (f_to (d_reg ?_)))
    refine h_q hflS rfl ?_
    refine h_done (d_ret ?_)
    exact f_fin1 (.tmp rfl) (fun w h => tells (⟨u5, l.take k ++ [x] ++ l.drop k, Vec 5 1 encB u5 (l.take k ++ [x] ++ l.drop k)⟩) rfl [1] rfl h (fun z hz => ⟨z, .refl _, fact_mk (X := Vec 5 1 encB u5 (l.take k ++ [x] ++ l.drop k)) ⟨rd8_vec, (by simp; omega)⟩ hz⟩)) rfl
  · skip
    refine d_reg ?_
    refine h_q hflS rfl ?_
    refine h_val rfl (.bool false) (fun b w hb hH => exec_cmp rfl rfl rfl (cmp_eql_f (by decide)) hb) ?_
    refine h_q hflS rfl ?_
    refine h_done (d_else rfl (d_reg ?_))
    refine h_q hflS rfl ?_
    refine h_val rfl (.bool false) (fun b w hb hH => exec_cmp rfl rfl rfl (cmp_eql_f (by decide)) hb) ?_
    refine h_q hflS rfl ?_
    refine h_done (d_else rfl (d_reg ?_))
    refine h_q hflS rfl ?_
    refine h_val rfl (.bool true) (fun b w hb hH => exec_cmp rfl rfl rfl (cmp_eql_t (by decide)) hb) ?_
    refine h_q hflS rfl ?_
    refine h_done (d_then rfl ?_)
    refine d_emps 1 rfl ?_
    refine d_parS 10 3 [⟨.act 0, [some false, some false, some false], fun _ => undef, []⟩, ⟨.quiet, [none, none, none], fun _ => v, []⟩, ⟨.quiet, [none, none, none], fun _ => .int .i64 (k : Int), []⟩, ⟨.quiet, [none, none, none], fun _ => subv 1 v 0 k, [1, 2]⟩, ⟨.act 1, [some true, some false, some false], fun _ => undef, [0, 3]⟩, ⟨.quiet, [none, none, none], fun _ => v, []⟩, ⟨.quiet, [none, none, none], fun _ => .int .i64 (k : Int), []⟩, ⟨.quiet, [none, none, none], fun _ => .int .i64 ((k + 1 : Nat) : Int), [6]⟩, ⟨.quiet, [none, none, none], fun _ => subv 1 v (k + 1) l.length, [5, 7]⟩, ⟨.act 2, [some true, some true, some false], fun _ => undef, [4, 8]⟩] [(0, v), (8, .slice none 0 0), (9, .int .i64 (k : Int))] (fun ρ => match ρ with | [r0, r1, r2] => [selS r2 (fun u8 => Vec 5 1 encB u8 (l.take k ++ l.drop (k + 1))) (selS r1 (fun u7 => Vec 5 1 encB u7 (l.take k)) (selS r0 (fun u6 => Vec 5 1 encB u6 ([])) (emp))), Vec 5 1 encB v l] | _ => []) (by kernel_rfl) (by kernel_rfl) ⟨rfl, rfl, rfl, trivial⟩ rfl ?_ ?_
    · skip
      refine s_cons (by exact ⟨rfl, Acts.s (Acts.place (val := fun u6 : Value => u6) (t := fun u6 => Vec 5 1 encB u6 ([])) (os' := fun u6 => [Vec 5 1 encB u6 ([]), Vec 5 1 encB v l]) 0 rfl (by refine a_build0 (e := 5) (t := 33) (k := 1) (enc := encB) ?_ ?_; exact sl_uint8; exact rfl) (fun _ => rfl)) (fun _ => rfl)⟩) ?_
      refine s_cons (by intro r0_ r1_ r2_; exact ⟨rfl, fun b w hH hb => exec_q1 hflS rfl hb⟩) ?_
      refine s_cons (by intro r0_ r1_ r2_; exact ⟨rfl, fun b w hH hb => exec_q1 hflS rfl hb⟩) ?_
      refine s_cons (by intro r0_ r1_ r2_; exact ⟨rfl, fun b w hH hb => e_vsub_hi 1 (b := k) sl_uint8 rfl (by omega) rfl rfl rfl hH hb⟩) ?_
      refine s_cons (by intro u6; exact ⟨rfl, Acts.s (a_append 0 sl_uint8 okB rfl (l.take k) (fun w hH => hH.vecq 1 rfl okB (Nat.zero_le _) (by omega) (m := l.take k) (by simp)) (by simp; omega) rfl rfl rfl (List.nil_append _)) (fun _ => rfl)⟩) ?_
      refine s_cons (by intro r0_ r1_ r2_; exact ⟨rfl, fun b w hH hb => exec_q1 hflS rfl hb⟩) ?_
      refine s_cons (by intro r0_ r1_ r2_; exact ⟨rfl, fun b w hH hb => exec_q1 hflS rfl hb⟩) ?_
      refine s_cons (by intro r0_ r1_ r2_; exact ⟨rfl, fun b w hH hb => exec_ar rfl rfl rfl rfl (by rw [IntWalk.i64_in _ (by omega)]; omega) hb⟩) ?_
      refine s_cons (by intro r0_ r1_ r2_; exact ⟨rfl, fun b w hH hb => e_vsub_lo 1 (a := (k + 1)) sl_uint8 rfl (by omega) rfl rfl rfl hH hb⟩) ?_
      refine s_cons (by intro u6 u7; exact ⟨rfl, Acts.s (a_append 0 sl_uint8 okB rfl (l.drop (k + 1)) (fun w hH => hH.vecq 1 rfl okB (by omega) (Nat.le_refl _) (m := l.drop (k + 1)) (by simp)) (by simp; omega) rfl rfl rfl rfl) (fun _ => rfl)⟩) ?_
      exact s_nil
    intro u6 u7 u8
    refine WL2.keep (env' := [(0, v), (8, .slice none 0 0), (52, u8)]) ⟨rfl, rfl, rfl, trivial⟩ ?_
    refine h_q hflS rfl ?_
    refine h_nil (f_block (f_to (d_reg ?_)))
    refine h_q hflS rfl ?_
    refine h_done (d_ret ?_)
    exact f_fin1 (.tmp rfl) (fun w h => tells (⟨u8, l.take k ++ l.drop (k + 1), Vec 5 1 encB u8 (l.take k ++ l.drop (k + 1))⟩) rfl [0] rfl h (fun z hz => ⟨z, .refl _, fact_mk (X := Vec 5 1 encB u8 (l.take k ++ l.drop (k + 1))) ⟨rd8_vec, (by simp; omega)⟩ hz⟩)) rfl
  · skip
    refine d_reg ?_
    refine h_q hflS rfl ?_
    refine h_val rfl (.bool false) (fun b w hb hH => exec_cmp rfl rfl rfl (cmp_eql_f (by decide)) hb) ?_
    refine h_q hflS rfl ?_
    refine h_done (d_else rfl (d_reg ?_))
    refine h_q hflS rfl ?_
    refine h_val rfl (.bool false) (fun b w hb hH => exec_cmp rfl rfl rfl (cmp_eql_f (by decide)) hb) ?_
    refine h_q hflS rfl ?_
    refine h_done (d_else rfl (d_reg ?_))
    refine h_q hflS rfl ?_
    refine h_val rfl (.bool false) (fun b w hb hH => exec_cmp rfl rfl rfl (cmp_eql_f (by decide)) hb) ?_
    refine h_q hflS rfl ?_
    refine h_done (d_else rfl (d_reg1 ?_))
    refine h_q hflS rfl ?_
    refine h_val rfl (subv 1 v 0 k) (fun b w hb hH => e_vsub_hi 0 (b := k) sl_uint8 rfl (by omega) rfl rfl rfl hH hb) ?_
    refine h_q hflS rfl ?_
    refine h_nil (f_block (f_to (d_reg ?_)))
    refine h_q hflS rfl ?_
    refine h_done (d_ret ?_)
    exact f_fin1 (.tmp rfl) (fun w h => tells (⟨subv 1 v 0 k, l.take k, Vec 5 1 encB v l⟩) rfl [0] rfl h (fun z hz => ⟨z, .refl _, fact_mk (X := Vec 5 1 encB v l) ⟨rd8_cut (by omega) rfl, (by simp; omega)⟩ hz⟩)) rfl
end Go.Proofs.YtlkknncndgamdaaDoor.Sep
