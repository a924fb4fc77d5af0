/-
  RpcF1 · RpcG
-/
import Derived.Test.YtnhcbjlaeaohjaaCB01
import Derived.Test.YtnhcbjlaeaohjaaCC01
set_option linter.unusedSimpArgs false
set_option linter.unusedVariables false

namespace Go.Proofs.Ytnhcbjlaeaohjaa.Sep
open Go.RowKit
open Go.Proofs.Ytnhcbjlaeaohjaa.Mem (Dist Blk Chg below0)

end Go.Proofs.Ytnhcbjlaeaohjaa.Sep

namespace Go.Proofs.Ytnhcbjlaeaohjaa.Sep
open Go.RowKit
open Go.Proofs.Ytnhcbjlaeaohjaa.Mem (Dist Blk Chg below0)

theorem eqBz (m : MsgD) (z : Bool) (h : zeroB m = z) : EqAt Try.prog 25 (.agg #[.int .u64 m.bi, .int .u64 m.bt, .int .i64 m.bc]) (.agg #[.int .u64 0, .int .u64 0, .int .i64 0]) z := by
  subst h
  exact eqBase m.bi m.bt m.bc 0 0 0
theorem nil_len {α : Type} [BEq α] (l : List α) : ((l.length : Int) == 0) = (l == []) := by
  cases l with
  | nil => rfl
  | cons a r =>
    have : ¬ ((r.length : Int) + 1 = 0) := by omega
    simp [this]
theorem nil_es {m : MsgD} {es : List EntV} (h : m.es = es.map (·.e)) : ((es.length : Int) == 0) = (m.es == []) := by
  rw [← nil_len, h, List.length_map]

set_option maxHeartbeats 2000000 in
set_option maxRecDepth 100000 in
theorem rightM_any (w : World) (x : MsgV) (hx : MsgOk w x) (r : Bool) (hr : rightM x.m = r) : Calls Try.prog 19 #[.agg #[.int .i64 x.m.k, .int .i64 x.m.a, .int .i64 x.m.b, .int .u64 x.m.t, .int .u64 x.m.i, .int .u64 x.m.lt, x.ev, .int .u64 x.m.co, .bool x.m.rf, .int .u64 x.m.bi, .int .u64 x.m.bt, .int .i64 x.m.bc, .int .i64 x.m.o, x.dv, .bool x.m.la]] w fun e w' => e = .returned (.bool r) ∧ Below w.heap.size w w' := by
  obtain ⟨c0, hc0⟩ : ∃ c0, (fm x.m.k != 0) = c0 := ⟨_, rfl⟩
  obtain ⟨v1, hv1⟩ : ∃ v1, nodeB x.m.a = v1 := ⟨_, rfl⟩
  obtain ⟨v2, hv2⟩ : ∃ v2, nodeB x.m.b = v2 := ⟨_, rfl⟩
  obtain ⟨v3, hv3⟩ : ∃ v3, (x.m.a != x.m.b) = v3 := ⟨_, rfl⟩
  obtain ⟨v4, hv4⟩ : ∃ v4, numB x.m.t = v4 := ⟨_, rfl⟩
  obtain ⟨b1, hb1⟩ : ∃ b1, wth (fm x.m.k) 1 = b1 := ⟨_, rfl⟩
  obtain ⟨b2, hb2⟩ : ∃ b2, wth (fm x.m.k) 2 = b2 := ⟨_, rfl⟩
  obtain ⟨b3, hb3⟩ : ∃ b3, wth (fm x.m.k) 4 = b3 := ⟨_, rfl⟩
  obtain ⟨b4, hb4⟩ : ∃ b4, wth (fm x.m.k) 8 = b4 := ⟨_, rfl⟩
  obtain ⟨b5, hb5⟩ : ∃ b5, wth (fm x.m.k) 16 = b5 := ⟨_, rfl⟩
  obtain ⟨b6, hb6⟩ : ∃ b6, wth (fm x.m.k) 32 = b6 := ⟨_, rfl⟩
  obtain ⟨b7, hb7⟩ : ∃ b7, wth (fm x.m.k) 64 = b7 := ⟨_, rfl⟩
  obtain ⟨b8, hb8⟩ : ∃ b8, wth (fm x.m.k) 128 = b8 := ⟨_, rfl⟩
  obtain ⟨b9, hb9⟩ : ∃ b9, wth (fm x.m.k) 256 = b9 := ⟨_, rfl⟩
  obtain ⟨v8, hv8⟩ : ∃ v8, entsB x.m = v8 := ⟨_, rfl⟩
  obtain ⟨v10, hv10⟩ : ∃ v10, baseB x.m = v10 := ⟨_, rfl⟩
  obtain ⟨z10, hz10⟩ : ∃ z10, zeroB x.m = z10 := ⟨_, rfl⟩
  obtain ⟨m5, hm5⟩ : ∃ m5, mayB b1 (lowB x.m.i) (x.m.i == 0) = m5 := ⟨_, rfl⟩
  obtain ⟨m6, hm6⟩ : ∃ m6, mayB b2 (lowB x.m.lt) (x.m.lt == 0) = m6 := ⟨_, rfl⟩
  obtain ⟨m7, hm7⟩ : ∃ m7, mayB b3 (lowB x.m.co) (x.m.co == 0) = m7 := ⟨_, rfl⟩
  obtain ⟨m8, hm8⟩ : ∃ m8, mayB b4 v8 (x.m.es == []) = m8 := ⟨_, rfl⟩
  obtain ⟨m9, hm9⟩ : ∃ m9, mayB b5 true (x.m.rf == false) = m9 := ⟨_, rfl⟩
  obtain ⟨m10, hm10⟩ : ∃ m10, mayB b6 v10 z10 = m10 := ⟨_, rfl⟩
  obtain ⟨m11, hm11⟩ : ∃ m11, mayB b7 (offB x.m.o) (x.m.o == 0) = m11 := ⟨_, rfl⟩
  obtain ⟨m12, hm12⟩ : ∃ m12, mayB b8 true (x.m.la == false) = m12 := ⟨_, rfl⟩
  obtain ⟨m13, hm13⟩ : ∃ m13, mayB b9 (decide (x.m.d.length ≤ 256)) (x.m.d == []) = m13 := ⟨_, rfl⟩
  have hT : (c0 && v1 && v2 && v3 && v4 && m5 && m6 && m7 && m8 && m9 && m10 && m11 && m12 && m13) = r := by
    rw [← hr]
    unfold rightM
    rw [hc0, hv1, hv2, hv3, hv4, hb1, hb2, hb3, hb4, hb5, hb6, hb7, hb8, hb9, hv8, hv10, hz10, hm5, hm6, hm7, hm8, hm9, hm10, hm11, hm12, hm13]
  obtain ⟨h, hh⟩ : ∃ h, fp x.m.k = h := ⟨_, rfl⟩
  have hlt : h < 1024 := hh ▸ fp_lt x.m.k
  obtain ⟨b0, hb0⟩ : ∃ b0, wth h 1 = b0 := ⟨_, rfl⟩
  have hp1 : wth h 2 = b1 := by rw [← hh, fp_index, hb1]
  have hp2 : wth h 4 = b2 := by rw [← hh, fp_logterm, hb2]
  have hp3 : wth h 8 = b3 := by rw [← hh, fp_commit, hb3]
  have hp4 : wth h 16 = b4 := by rw [← hh, fp_entries, hb4]
  have hp5 : wth h 32 = b5 := by rw [← hh, fp_refused, hb5]
  have hp6 : wth h 64 = b6 := by rw [← hh, fp_base, hb6]
  have hp7 : wth h 128 = b7 := by rw [← hh, fp_offset, hb7]
  have hp8 : wth h 256 = b8 := by rw [← hh, fp_last, hb8]
  have hp9 : wth h 512 = b9 := by rw [← hh, fp_data, hb9]
  have hk0 : (((h : Nat) : Int) != 0) = c0 := by
    rw [← hc0, ← hh, Bool.eq_iff_iff]
    simp only [bne_iff_ne, ne_eq]
    rw [← fp_zero]
    omega
  obtain ⟨z8, hz8⟩ : ∃ z8, ((x.es.length : Int) == 0) = z8 := ⟨_, rfl⟩
  obtain ⟨w13, hw13⟩ : ∃ w13, decide ((x.m.d.length : Int) ≤ 256) = w13 := ⟨_, rfl⟩
  obtain ⟨z13, hz13⟩ : ∃ z13, ((x.m.d.length : Int) == 0) = z13 := ⟨_, rfl⟩
  obtain ⟨q1, hq1⟩ : ∃ q1, decide (x.m.o ≥ 0) = q1 := ⟨_, rfl⟩
  obtain ⟨q2, hq2⟩ : ∃ q2, decide (x.m.o ≤ 32768) = q2 := ⟨_, rfl⟩
  obtain ⟨v11, hv11⟩ : ∃ v11, (q1 && q2) = v11 := ⟨_, rfl⟩
  obtain ⟨m4, hm4⟩ : ∃ m4, mayB b0 v4 (x.m.t == 0) = m4 := ⟨_, rfl⟩
  obtain ⟨d1, hd1⟩ : ∃ d1, (c0 && v1) = d1 := ⟨_, rfl⟩
  obtain ⟨d2, hd2⟩ : ∃ d2, (d1 && v2) = d2 := ⟨_, rfl⟩
  obtain ⟨d3, hd3⟩ : ∃ d3, (d2 && v3) = d3 := ⟨_, rfl⟩
  obtain ⟨d4, hd4⟩ : ∃ d4, (d3 && m4) = d4 := ⟨_, rfl⟩
  obtain ⟨d5, hd5⟩ : ∃ d5, (d4 && m5) = d5 := ⟨_, rfl⟩
  obtain ⟨d6, hd6⟩ : ∃ d6, (d5 && m6) = d6 := ⟨_, rfl⟩
  obtain ⟨d7, hd7⟩ : ∃ d7, (d6 && m7) = d7 := ⟨_, rfl⟩
  obtain ⟨d8, hd8⟩ : ∃ d8, (d7 && m8) = d8 := ⟨_, rfl⟩
  obtain ⟨d9, hd9⟩ : ∃ d9, (d8 && m9) = d9 := ⟨_, rfl⟩
  obtain ⟨d10, hd10⟩ : ∃ d10, (d9 && m10) = d10 := ⟨_, rfl⟩
  obtain ⟨d11, hd11⟩ : ∃ d11, (d10 && m11) = d11 := ⟨_, rfl⟩
  obtain ⟨d12, hd12⟩ : ∃ d12, (d11 && m12) = d12 := ⟨_, rfl⟩
  obtain ⟨d13, hd13⟩ : ∃ d13, (d12 && m13) = d13 := ⟨_, rfl⟩
  have e4 : c0 = true → m4 = v4 := fun h0 => by
    have : b0 = true := by rw [← hb0, ← hh]; exact fp_term (by rw [← hc0] at h0; simpa using h0)
    rw [← hm4, this]; rfl
  have hR : d13 = r := by
    rw [← hT, ← hd13, ← hd12, ← hd11, ← hd10, ← hd9, ← hd8, ← hd7, ← hd6, ← hd5, ← hd4, ← hd3, ← hd2, ← hd1]
    cases h0 : c0
    · rfl
    · rw [e4 h0]
  have k8 : mayB b4 v8 z8 = m8 := by rw [← hz8, nil_es hx.es]; exact hm8
  have k9 : mayB b5 true (!x.m.rf) = m9 := by rw [← hm9]; cases x.m.rf <;> rfl
  have k11 : mayB b7 v11 (x.m.o == 0) = m11 := by rw [← hv11, ← hq1, ← hq2]; exact hm11
  have k12 : mayB b8 true (!x.m.la) = m12 := by rw [← hm12]; cases x.m.la <;> rfl
  have k13 : mayB b9 w13 z13 = m13 := by rw [← hz13, nil_len, ← hw13, ← hm13]; congr 1; exact decide_eq_decide.2 (by omega)
  refine d_in (args := [.agg #[.int .i64 x.m.k, .int .i64 x.m.a, .int .i64 x.m.b, .int .u64 x.m.t, .int .u64 x.m.i, .int .u64 x.m.lt, x.ev, .int .u64 x.m.co, .bool x.m.rf, .int .u64 x.m.bi, .int .u64 x.m.bt, .int .i64 x.m.bc, .int .i64 x.m.o, x.dv, .bool x.m.la]]) 138 Try.func19 rfl rfl rfl ?_
  refine d_reg ?_
  refine h_q hflS rfl ?_
  refine h_act (post := fun g1 => [cell g1 28 #[.int .i64 x.m.k, .int .i64 x.m.a, .int .i64 x.m.b, .int .u64 x.m.t, .int .u64 x.m.i, .int .u64 x.m.lt, x.ev, .int .u64 x.m.co, .bool x.m.rf, .int .u64 x.m.bi, .int .u64 x.m.bt, .int .i64 x.m.bc, .int .i64 x.m.o, x.dv, .bool x.m.la]]) rfl (a_box (cs := #[.int .i64 x.m.k, .int .i64 x.m.a, .int .i64 x.m.b, .int .u64 x.m.t, .int .u64 x.m.i, .int .u64 x.m.lt, x.ev, .int .u64 x.m.co, .bool x.m.rf, .int .u64 x.m.bi, .int .u64 x.m.bt, .int .i64 x.m.bc, .int .i64 x.m.o, x.dv, .bool x.m.la]) rfl rfl rfl) ?_; rintro g1
  refine h_q hflS rfl ?_
  refine h_done (d_reg ?_)
  refine h_q hflS rfl ?_
  refine h_val rfl (.int .i64 x.m.k) (fun b w hb hH => exec_load rfl rfl (reads_one ty_int rfl) (hH.row 0 rfl) hb) ?_
  refine h_act (post := fun _ => [cell g1 28 #[.int .i64 x.m.k, .int .i64 x.m.a, .int .i64 x.m.b, .int .u64 x.m.t, .int .u64 x.m.i, .int .u64 x.m.lt, x.ev, .int .u64 x.m.co, .bool x.m.rf, .int .u64 x.m.bi, .int .u64 x.m.bt, .int .i64 x.m.bc, .int .i64 x.m.o, x.dv, .bool x.m.la]]) rfl (a_call (ent_of Try.func37 (by kernel_rfl) rfl) (fun w hH => fields_any w x.m.k h hh) rfl rfl rfl) ?_; rintro ⟨⟩
  refine h_q hflS rfl ?_
  refine h_done (d_seq ?_)
  refine d_par 131 25 [⟨.quiet, 0, fun _ => .int .i64 (h : Int), []⟩, ⟨.quiet, 0, fun _ => .bool c0, [0]⟩, ⟨.quiet, 0, fun _ => .bool c0, [1]⟩, ⟨.quiet, 0, fun _ => cond c0 (.pointer (some ⟨g1, 1, none⟩)) undef, [2]⟩, ⟨.quiet, 0, fun _ => cond c0 (.int .i64 x.m.a) undef, [3, 2]⟩, ⟨.call, 1, fun _ => cond c0 (.bool v1) undef, [4, 2]⟩, ⟨.quiet, 1, fun _ => .bool d1, [2, 5]⟩, ⟨.quiet, 1, fun _ => .bool d1, [6]⟩, ⟨.quiet, 1, fun _ => cond d1 (.pointer (some ⟨g1, 2, none⟩)) undef, [7]⟩, ⟨.quiet, 1, fun _ => cond d1 (.int .i64 x.m.b) undef, [8, 7]⟩, ⟨.call, 2, fun _ => cond d1 (.bool v2) undef, [9, 7]⟩, ⟨.quiet, 2, fun _ => .bool d2, [7, 10]⟩, ⟨.quiet, 2, fun _ => .bool d2, [11]⟩, ⟨.quiet, 2, fun _ => cond d2 (.pointer (some ⟨g1, 1, none⟩)) undef, [12]⟩, ⟨.quiet, 2, fun _ => cond d2 (.int .i64 x.m.a) undef, [13, 12]⟩, ⟨.quiet, 2, fun _ => cond d2 (.pointer (some ⟨g1, 2, none⟩)) undef, [12]⟩, ⟨.quiet, 2, fun _ => cond d2 (.int .i64 x.m.b) undef, [15, 12]⟩, ⟨.quiet, 2, fun _ => cond d2 (.bool v3) undef, [14, 16, 12]⟩, ⟨.quiet, 2, fun _ => .bool d3, [12, 17]⟩, ⟨.quiet, 2, fun _ => .bool d3, [18]⟩, ⟨.quiet, 2, fun _ => cond d3 (.int .i64 (h : Int)) undef, [19]⟩, ⟨.call, 3, fun _ => cond d3 (.bool b0) undef, [20, 19]⟩, ⟨.quiet, 2, fun _ => cond d3 (.pointer (some ⟨g1, 3, none⟩)) undef, [19]⟩, ⟨.quiet, 2, fun _ => cond d3 (.int .u64 x.m.t) undef, [22, 19]⟩, ⟨.call, 4, fun _ => cond d3 (.bool v4) undef, [23, 19]⟩, ⟨.quiet, 2, fun _ => cond d3 (.pointer (some ⟨g1, 3, none⟩)) undef, [19]⟩, ⟨.quiet, 2, fun _ => cond d3 (.int .u64 x.m.t) undef, [25, 19]⟩, ⟨.quiet, 2, fun _ => cond d3 (.bool (x.m.t == 0)) undef, [26, 19]⟩, ⟨.call, 5, fun _ => cond d3 (.bool m4) undef, [21, 24, 27, 19]⟩, ⟨.quiet, 5, fun _ => .bool d4, [19, 28]⟩, ⟨.quiet, 5, fun _ => .bool d4, [29]⟩, ⟨.quiet, 5, fun _ => cond d4 (.int .i64 (h : Int)) undef, [30]⟩, ⟨.call, 6, fun _ => cond d4 (.bool b1) undef, [31, 30]⟩, ⟨.quiet, 5, fun _ => cond d4 (.pointer (some ⟨g1, 4, none⟩)) undef, [30]⟩, ⟨.quiet, 5, fun _ => cond d4 (.int .u64 x.m.i) undef, [33, 30]⟩, ⟨.quiet, 5, fun _ => cond d4 (.bool (decide (x.m.i ≤ 72057594037927935))) undef, [34, 30]⟩, ⟨.quiet, 5, fun _ => cond d4 (.pointer (some ⟨g1, 4, none⟩)) undef, [30]⟩, ⟨.quiet, 5, fun _ => cond d4 (.int .u64 x.m.i) undef, [36, 30]⟩, ⟨.quiet, 5, fun _ => cond d4 (.bool (x.m.i == 0)) undef, [37, 30]⟩, ⟨.call, 7, fun _ => cond d4 (.bool m5) undef, [32, 35, 38, 30]⟩, ⟨.quiet, 7, fun _ => .bool d5, [30, 39]⟩, ⟨.quiet, 7, fun _ => .bool d5, [40]⟩, ⟨.quiet, 7, fun _ => cond d5 (.int .i64 (h : Int)) undef, [41]⟩, ⟨.call, 8, fun _ => cond d5 (.bool b2) undef, [42, 41]⟩, ⟨.quiet, 7, fun _ => cond d5 (.pointer (some ⟨g1, 5, none⟩)) undef, [41]⟩, ⟨.quiet, 7, fun _ => cond d5 (.int .u64 x.m.lt) undef, [44, 41]⟩, ⟨.quiet, 7, fun _ => cond d5 (.bool (decide (x.m.lt ≤ 72057594037927935))) undef, [45, 41]⟩, ⟨.quiet, 7, fun _ => cond d5 (.pointer (some ⟨g1, 5, none⟩)) undef, [41]⟩, ⟨.quiet, 7, fun _ => cond d5 (.int .u64 x.m.lt) undef, [47, 41]⟩, ⟨.quiet, 7, fun _ => cond d5 (.bool (x.m.lt == 0)) undef, [48, 41]⟩, ⟨.call, 9, fun _ => cond d5 (.bool m6) undef, [43, 46, 49, 41]⟩, ⟨.quiet, 9, fun _ => .bool d6, [41, 50]⟩, ⟨.quiet, 9, fun _ => .bool d6, [51]⟩, ⟨.quiet, 9, fun _ => cond d6 (.int .i64 (h : Int)) undef, [52]⟩, ⟨.call, 10, fun _ => cond d6 (.bool b3) undef, [53, 52]⟩, ⟨.quiet, 9, fun _ => cond d6 (.pointer (some ⟨g1, 7, none⟩)) undef, [52]⟩, ⟨.quiet, 9, fun _ => cond d6 (.int .u64 x.m.co) undef, [55, 52]⟩, ⟨.quiet, 9, fun _ => cond d6 (.bool (decide (x.m.co ≤ 72057594037927935))) undef, [56, 52]⟩, ⟨.quiet, 9, fun _ => cond d6 (.pointer (some ⟨g1, 7, none⟩)) undef, [52]⟩, ⟨.quiet, 9, fun _ => cond d6 (.int .u64 x.m.co) undef, [58, 52]⟩, ⟨.quiet, 9, fun _ => cond d6 (.bool (x.m.co == 0)) undef, [59, 52]⟩, ⟨.call, 11, fun _ => cond d6 (.bool m7) undef, [54, 57, 60, 52]⟩, ⟨.quiet, 11, fun _ => .bool d7, [52, 61]⟩, ⟨.quiet, 11, fun _ => .bool d7, [62]⟩, ⟨.quiet, 11, fun _ => cond d7 (.int .i64 (h : Int)) undef, [63]⟩, ⟨.call, 12, fun _ => cond d7 (.bool b4) undef, [64, 63]⟩, ⟨.quiet, 11, fun _ => cond d7 (.agg #[.int .i64 x.m.k, .int .i64 x.m.a, .int .i64 x.m.b, .int .u64 x.m.t, .int .u64 x.m.i, .int .u64 x.m.lt, x.ev, .int .u64 x.m.co, .bool x.m.rf, .int .u64 x.m.bi, .int .u64 x.m.bt, .int .i64 x.m.bc, .int .i64 x.m.o, x.dv, .bool x.m.la]) undef, [63]⟩, ⟨.call, 13, fun _ => cond d7 (.bool v8) undef, [66, 63]⟩, ⟨.quiet, 11, fun _ => cond d7 (.pointer (some ⟨g1, 6, none⟩)) undef, [63]⟩, ⟨.quiet, 11, fun _ => cond d7 x.ev undef, [68, 63]⟩, ⟨.quiet, 11, fun _ => cond d7 (.int .i64 (x.es.length : Int)) undef, [69, 63]⟩, ⟨.quiet, 11, fun _ => cond d7 (.bool z8) undef, [70, 63]⟩, ⟨.call, 14, fun _ => cond d7 (.bool m8) undef, [65, 67, 71, 63]⟩, ⟨.quiet, 14, fun _ => .bool d8, [63, 72]⟩, ⟨.quiet, 14, fun _ => .bool d8, [73]⟩, ⟨.quiet, 14, fun _ => cond d8 (.int .i64 (h : Int)) undef, [74]⟩, ⟨.call, 15, fun _ => cond d8 (.bool b5) undef, [75, 74]⟩, ⟨.quiet, 14, fun _ => cond d8 (.pointer (some ⟨g1, 8, none⟩)) undef, [74]⟩, ⟨.quiet, 14, fun _ => cond d8 (.bool x.m.rf) undef, [77, 74]⟩, ⟨.quiet, 14, fun _ => cond d8 (.bool (!x.m.rf)) undef, [78, 74]⟩, ⟨.call, 16, fun _ => cond d8 (.bool m9) undef, [76, 79, 74]⟩, ⟨.quiet, 16, fun _ => .bool d9, [74, 80]⟩, ⟨.quiet, 16, fun _ => .bool d9, [81]⟩, ⟨.quiet, 16, fun _ => cond d9 (.int .i64 (h : Int)) undef, [82]⟩, ⟨.call, 17, fun _ => cond d9 (.bool b6) undef, [83, 82]⟩, ⟨.quiet, 16, fun _ => cond d9 (.pointer (some ⟨g1, 9, none⟩)) undef, [82]⟩, ⟨.quiet, 16, fun _ => cond d9 (.agg #[.int .u64 x.m.bi, .int .u64 x.m.bt, .int .i64 x.m.bc]) undef, [85, 82]⟩, ⟨.call, 18, fun _ => cond d9 (.bool v10) undef, [86, 82]⟩, ⟨.quiet, 16, fun _ => cond d9 (.pointer (some ⟨g1, 9, none⟩)) undef, [82]⟩, ⟨.quiet, 16, fun _ => cond d9 (.agg #[.int .u64 x.m.bi, .int .u64 x.m.bt, .int .i64 x.m.bc]) undef, [88, 82]⟩, ⟨.quiet, 16, fun _ => cond d9 (.agg #[.int .u64 0, .int .u64 0, .int .i64 0]) undef, [82]⟩, ⟨.quiet, 16, fun _ => cond d9 (.bool z10) undef, [89, 90, 82]⟩, ⟨.call, 19, fun _ => cond d9 (.bool m10) undef, [84, 87, 91, 82]⟩, ⟨.quiet, 19, fun _ => .bool d10, [82, 92]⟩, ⟨.quiet, 19, fun _ => .bool d10, [93]⟩, ⟨.quiet, 19, fun _ => cond d10 (.int .i64 (h : Int)) undef, [94]⟩, ⟨.call, 20, fun _ => cond d10 (.bool b7) undef, [95, 94]⟩, ⟨.quiet, 19, fun _ => cond d10 (.pointer (some ⟨g1, 12, none⟩)) undef, [94]⟩, ⟨.quiet, 19, fun _ => cond d10 (.int .i64 x.m.o) undef, [97, 94]⟩, ⟨.quiet, 19, fun _ => cond d10 (.bool q1) undef, [98, 94]⟩, ⟨.quiet, 20, fun _ => cond d10 (.bool q1) undef, [99, 94]⟩, ⟨.quiet, 20, fun _ => cond d10 (cond q1 (.pointer (some ⟨g1, 12, none⟩)) undef) undef, [100]⟩, ⟨.quiet, 20, fun _ => cond d10 (cond q1 (.int .i64 x.m.o) undef) undef, [101, 100]⟩, ⟨.quiet, 20, fun _ => cond d10 (cond q1 (.bool q2) undef) undef, [102, 100]⟩, ⟨.quiet, 20, fun _ => cond d10 (.bool v11) undef, [100, 103, 94]⟩, ⟨.quiet, 19, fun _ => cond d10 (.pointer (some ⟨g1, 12, none⟩)) undef, [94]⟩, ⟨.quiet, 19, fun _ => cond d10 (.int .i64 x.m.o) undef, [105, 94]⟩, ⟨.quiet, 19, fun _ => cond d10 (.bool (x.m.o == 0)) undef, [106, 94]⟩, ⟨.call, 21, fun _ => cond d10 (.bool m11) undef, [96, 104, 107, 94]⟩, ⟨.quiet, 21, fun _ => .bool d11, [94, 108]⟩, ⟨.quiet, 21, fun _ => .bool d11, [109]⟩, ⟨.quiet, 21, fun _ => cond d11 (.int .i64 (h : Int)) undef, [110]⟩, ⟨.call, 22, fun _ => cond d11 (.bool b8) undef, [111, 110]⟩, ⟨.quiet, 21, fun _ => cond d11 (.pointer (some ⟨g1, 14, none⟩)) undef, [110]⟩, ⟨.quiet, 21, fun _ => cond d11 (.bool x.m.la) undef, [113, 110]⟩, ⟨.quiet, 21, fun _ => cond d11 (.bool (!x.m.la)) undef, [114, 110]⟩, ⟨.call, 23, fun _ => cond d11 (.bool m12) undef, [112, 115, 110]⟩, ⟨.quiet, 23, fun _ => .bool d12, [110, 116]⟩, ⟨.quiet, 23, fun _ => .bool d12, [117]⟩, ⟨.quiet, 23, fun _ => cond d12 (.int .i64 (h : Int)) undef, [118]⟩, ⟨.call, 24, fun _ => cond d12 (.bool b9) undef, [119, 118]⟩, ⟨.quiet, 23, fun _ => cond d12 (.pointer (some ⟨g1, 13, none⟩)) undef, [118]⟩, ⟨.quiet, 23, fun _ => cond d12 x.dv undef, [121, 118]⟩, ⟨.quiet, 23, fun _ => cond d12 (.int .i64 (x.m.d.length : Int)) undef, [122, 118]⟩, ⟨.quiet, 23, fun _ => cond d12 (.bool w13) undef, [123, 118]⟩, ⟨.quiet, 23, fun _ => cond d12 (.pointer (some ⟨g1, 13, none⟩)) undef, [118]⟩, ⟨.quiet, 23, fun _ => cond d12 x.dv undef, [125, 118]⟩, ⟨.quiet, 23, fun _ => cond d12 (.int .i64 (x.m.d.length : Int)) undef, [126, 118]⟩, ⟨.quiet, 23, fun _ => cond d12 (.bool z13) undef, [127, 118]⟩, ⟨.call, 25, fun _ => cond d12 (.bool m13) undef, [120, 124, 128, 118]⟩, ⟨.quiet, 25, fun _ => .bool d13, [118, 129]⟩] [(1, .pointer (some ⟨g1, 0, none⟩)), (2, .bool false), (3, .int .i64 (h : Int))] (by kernel_rfl) (by kernel_rfl) ⟨rfl, rfl, rfl, trivial⟩ ?_ ?_
  · skip
    refine o_cons (by exact o_val (fun _ _ => rfl) (fun w hH σ g b W hU hb => exec_q1 hflS rfl hb)) ?_
    refine o_cons (by subst hk0; exact o_val (fun _ _ => rfl) (fun w hH σ g b W hU hb => exec_cmp rfl rfl rfl rfl hb)) ?_
    refine o_cons (by exact o_val (fun _ _ => rfl) (fun w hH σ g b W hU hb => exec_q1 hflS rfl hb)) ?_
    refine o_cons (by (cases c0; exact o_off (fun _ _ => rfl); exact o_val (fun _ _ => rfl) (fun w hH σ g b W hU hb => exec_q1 hflS rfl hb))) ?_
    refine o_cons (by (cases c0; exact o_off (fun _ _ => rfl); exact o_val (fun _ _ => rfl) (fun w hH σ g b W hU hb => exec_load rfl rfl (reads_one ty_int rfl) ((hH.row 0 rfl).old hU.below) hb))) ?_
    refine o_cons (by (cases c0; exact o_coff (fun _ _ => rfl); exact o_call (ent_of Try.func47 (by kernel_rfl) rfl) (fun w hU => node_any w x.m.a v1 hv1) (fun _ _ => rfl) rfl (fun _ _ => rfl) (fun _ _ => rfl))) ?_
    refine o_cons (by subst hd1; (cases c0 <;> exact o_q hflS (fun _ _ => rfl) (fun _ _ => rfl))) ?_
    refine o_cons (by exact o_val (fun _ _ => rfl) (fun w hH σ g b W hU hb => exec_q1 hflS rfl hb)) ?_
    refine o_cons (by (cases d1; exact o_off (fun _ _ => rfl); exact o_val (fun _ _ => rfl) (fun w hH σ g b W hU hb => exec_q1 hflS rfl hb))) ?_
    refine o_cons (by (cases d1; exact o_off (fun _ _ => rfl); exact o_val (fun _ _ => rfl) (fun w hH σ g b W hU hb => exec_load rfl rfl (reads_one ty_int rfl) ((hH.row 0 rfl).old hU.below) hb))) ?_
    refine o_cons (by (cases d1; exact o_coff (fun _ _ => rfl); exact o_call (ent_of Try.func47 (by kernel_rfl) rfl) (fun w hU => node_any w x.m.b v2 hv2) (fun _ _ => rfl) rfl (fun _ _ => rfl) (fun _ _ => rfl))) ?_
    refine o_cons (by subst hd2; (cases d1 <;> exact o_q hflS (fun _ _ => rfl) (fun _ _ => rfl))) ?_
    refine o_cons (by exact o_val (fun _ _ => rfl) (fun w hH σ g b W hU hb => exec_q1 hflS rfl hb)) ?_
    refine o_cons (by (cases d2; exact o_off (fun _ _ => rfl); exact o_val (fun _ _ => rfl) (fun w hH σ g b W hU hb => exec_q1 hflS rfl hb))) ?_
    refine o_cons (by (cases d2; exact o_off (fun _ _ => rfl); exact o_val (fun _ _ => rfl) (fun w hH σ g b W hU hb => exec_load rfl rfl (reads_one ty_int rfl) ((hH.row 0 rfl).old hU.below) hb))) ?_
    refine o_cons (by (cases d2; exact o_off (fun _ _ => rfl); exact o_val (fun _ _ => rfl) (fun w hH σ g b W hU hb => exec_q1 hflS rfl hb))) ?_
    refine o_cons (by (cases d2; exact o_off (fun _ _ => rfl); exact o_val (fun _ _ => rfl) (fun w hH σ g b W hU hb => exec_load rfl rfl (reads_one ty_int rfl) ((hH.row 0 rfl).old hU.below) hb))) ?_
    refine o_cons (by subst hv3; (cases d2; exact o_off (fun _ _ => rfl); exact o_val (fun _ _ => rfl) (fun w hH σ g b W hU hb => exec_cmp rfl rfl rfl rfl hb))) ?_
    refine o_cons (by subst hd3; (cases d2 <;> exact o_q hflS (fun _ _ => rfl) (fun _ _ => rfl))) ?_
    refine o_cons (by exact o_val (fun _ _ => rfl) (fun w hH σ g b W hU hb => exec_q1 hflS rfl hb)) ?_
    refine o_cons (by (cases d3; exact o_off (fun _ _ => rfl); exact o_val (fun _ _ => rfl) (fun w hH σ g b W hU hb => exec_q1 hflS rfl hb))) ?_
    refine o_cons (by (cases d3; exact o_coff (fun _ _ => rfl); exact o_call (ent_of Try.func49 (by kernel_rfl) rfl) (fun w hU => with_r w h 1 hlt (by decide) b0 hb0) (fun _ _ => rfl) rfl (fun _ _ => rfl) (fun _ _ => rfl))) ?_
    refine o_cons (by (cases d3; exact o_off (fun _ _ => rfl); exact o_val (fun _ _ => rfl) (fun w hH σ g b W hU hb => exec_q1 hflS rfl hb))) ?_
    refine o_cons (by (cases d3; exact o_off (fun _ _ => rfl); exact o_val (fun _ _ => rfl) (fun w hH σ g b W hU hb => exec_load rfl rfl (reads_one ty_uint64 rfl) ((hH.row 0 rfl).old hU.below) hb))) ?_
    refine o_cons (by (cases d3; exact o_coff (fun _ _ => rfl); exact o_call (ent_of Try.func50 (by kernel_rfl) rfl) (fun w hU => number_r w x.m.t v4 hv4) (fun _ _ => rfl) rfl (fun _ _ => rfl) (fun _ _ => rfl))) ?_
    refine o_cons (by (cases d3; exact o_off (fun _ _ => rfl); exact o_val (fun _ _ => rfl) (fun w hH σ g b W hU hb => exec_q1 hflS rfl hb))) ?_
    refine o_cons (by (cases d3; exact o_off (fun _ _ => rfl); exact o_val (fun _ _ => rfl) (fun w hH σ g b W hU hb => exec_load rfl rfl (reads_one ty_uint64 rfl) ((hH.row 0 rfl).old hU.below) hb))) ?_
    refine o_cons (by (cases d3; exact o_off (fun _ _ => rfl); exact o_val (fun _ _ => rfl) (fun w hH σ g b W hU hb => exec_cmp rfl rfl rfl rfl hb))) ?_
    refine o_cons (by (cases d3; exact o_coff (fun _ _ => rfl); exact o_call (ent_of Try.func48 (by kernel_rfl) rfl) (fun w hU => may_r w b0 v4 (x.m.t == 0) m4 hm4) (fun _ _ => rfl) rfl (fun _ _ => rfl) (fun _ _ => rfl))) ?_
    refine o_cons (by subst hd4; (cases d3 <;> exact o_q hflS (fun _ _ => rfl) (fun _ _ => rfl))) ?_
    refine o_cons (by exact o_val (fun _ _ => rfl) (fun w hH σ g b W hU hb => exec_q1 hflS rfl hb)) ?_
    refine o_cons (by (cases d4; exact o_off (fun _ _ => rfl); exact o_val (fun _ _ => rfl) (fun w hH σ g b W hU hb => exec_q1 hflS rfl hb))) ?_
    refine o_cons (by (cases d4; exact o_coff (fun _ _ => rfl); exact o_call (ent_of Try.func49 (by kernel_rfl) rfl) (fun w hU => with_r w h 2 hlt (by decide) b1 hp1) (fun _ _ => rfl) rfl (fun _ _ => rfl) (fun _ _ => rfl))) ?_
    refine o_cons (by (cases d4; exact o_off (fun _ _ => rfl); exact o_val (fun _ _ => rfl) (fun w hH σ g b W hU hb => exec_q1 hflS rfl hb))) ?_
    refine o_cons (by (cases d4; exact o_off (fun _ _ => rfl); exact o_val (fun _ _ => rfl) (fun w hH σ g b W hU hb => exec_load rfl rfl (reads_one ty_uint64 rfl) ((hH.row 0 rfl).old hU.below) hb))) ?_
    refine o_cons (by (cases d4; exact o_off (fun _ _ => rfl); exact o_val (fun _ _ => rfl) (fun w hH σ g b W hU hb => exec_cmp rfl rfl rfl rfl hb))) ?_
    refine o_cons (by (cases d4; exact o_off (fun _ _ => rfl); exact o_val (fun _ _ => rfl) (fun w hH σ g b W hU hb => exec_q1 hflS rfl hb))) ?_
    refine o_cons (by (cases d4; exact o_off (fun _ _ => rfl); exact o_val (fun _ _ => rfl) (fun w hH σ g b W hU hb => exec_load rfl rfl (reads_one ty_uint64 rfl) ((hH.row 0 rfl).old hU.below) hb))) ?_
    refine o_cons (by (cases d4; exact o_off (fun _ _ => rfl); exact o_val (fun _ _ => rfl) (fun w hH σ g b W hU hb => exec_cmp rfl rfl rfl rfl hb))) ?_
    refine o_cons (by (cases d4; exact o_coff (fun _ _ => rfl); exact o_call (ent_of Try.func48 (by kernel_rfl) rfl) (fun w hU => may_r w b1 (decide (x.m.i ≤ 72057594037927935)) (x.m.i == 0) m5 hm5) (fun _ _ => rfl) rfl (fun _ _ => rfl) (fun _ _ => rfl))) ?_
    refine o_cons (by subst hd5; (cases d4 <;> exact o_q hflS (fun _ _ => rfl) (fun _ _ => rfl))) ?_
    refine o_cons (by exact o_val (fun _ _ => rfl) (fun w hH σ g b W hU hb => exec_q1 hflS rfl hb)) ?_
    refine o_cons (by (cases d5; exact o_off (fun _ _ => rfl); exact o_val (fun _ _ => rfl) (fun w hH σ g b W hU hb => exec_q1 hflS rfl hb))) ?_
    refine o_cons (by (cases d5; exact o_coff (fun _ _ => rfl); exact o_call (ent_of Try.func49 (by kernel_rfl) rfl) (fun w hU => with_r w h 4 hlt (by decide) b2 hp2) (fun _ _ => rfl) rfl (fun _ _ => rfl) (fun _ _ => rfl))) ?_
    refine o_cons (by (cases d5; exact o_off (fun _ _ => rfl); exact o_val (fun _ _ => rfl) (fun w hH σ g b W hU hb => exec_q1 hflS rfl hb))) ?_
    refine o_cons (by (cases d5; exact o_off (fun _ _ => rfl); exact o_val (fun _ _ => rfl) (fun w hH σ g b W hU hb => exec_load rfl rfl (reads_one ty_uint64 rfl) ((hH.row 0 rfl).old hU.below) hb))) ?_
    refine o_cons (by (cases d5; exact o_off (fun _ _ => rfl); exact o_val (fun _ _ => rfl) (fun w hH σ g b W hU hb => exec_cmp rfl rfl rfl rfl hb))) ?_
    refine o_cons (by (cases d5; exact o_off (fun _ _ => rfl); exact o_val (fun _ _ => rfl) (fun w hH σ g b W hU hb => exec_q1 hflS rfl hb))) ?_
    refine o_cons (by (cases d5; exact o_off (fun _ _ => rfl); exact o_val (fun _ _ => rfl) (fun w hH σ g b W hU hb => exec_load rfl rfl (reads_one ty_uint64 rfl) ((hH.row 0 rfl).old hU.below) hb))) ?_
    refine o_cons (by (cases d5; exact o_off (fun _ _ => rfl); exact o_val (fun _ _ => rfl) (fun w hH σ g b W hU hb => exec_cmp rfl rfl rfl rfl hb))) ?_
    refine o_cons (by (cases d5; exact o_coff (fun _ _ => rfl); exact o_call (ent_of Try.func48 (by kernel_rfl) rfl) (fun w hU => may_r w b2 (decide (x.m.lt ≤ 72057594037927935)) (x.m.lt == 0) m6 hm6) (fun _ _ => rfl) rfl (fun _ _ => rfl) (fun _ _ => rfl))) ?_
    refine o_cons (by subst hd6; (cases d5 <;> exact o_q hflS (fun _ _ => rfl) (fun _ _ => rfl))) ?_
    refine o_cons (by exact o_val (fun _ _ => rfl) (fun w hH σ g b W hU hb => exec_q1 hflS rfl hb)) ?_
    refine o_cons (by (cases d6; exact o_off (fun _ _ => rfl); exact o_val (fun _ _ => rfl) (fun w hH σ g b W hU hb => exec_q1 hflS rfl hb))) ?_
    refine o_cons (by (cases d6; exact o_coff (fun _ _ => rfl); exact o_call (ent_of Try.func49 (by kernel_rfl) rfl) (fun w hU => with_r w h 8 hlt (by decide) b3 hp3) (fun _ _ => rfl) rfl (fun _ _ => rfl) (fun _ _ => rfl))) ?_
    refine o_cons (by (cases d6; exact o_off (fun _ _ => rfl); exact o_val (fun _ _ => rfl) (fun w hH σ g b W hU hb => exec_q1 hflS rfl hb))) ?_
    refine o_cons (by (cases d6; exact o_off (fun _ _ => rfl); exact o_val (fun _ _ => rfl) (fun w hH σ g b W hU hb => exec_load rfl rfl (reads_one ty_uint64 rfl) ((hH.row 0 rfl).old hU.below) hb))) ?_
    refine o_cons (by (cases d6; exact o_off (fun _ _ => rfl); exact o_val (fun _ _ => rfl) (fun w hH σ g b W hU hb => exec_cmp rfl rfl rfl rfl hb))) ?_
    refine o_cons (by (cases d6; exact o_off (fun _ _ => rfl); exact o_val (fun _ _ => rfl) (fun w hH σ g b W hU hb => exec_q1 hflS rfl hb))) ?_
    refine o_cons (by (cases d6; exact o_off (fun _ _ => rfl); exact o_val (fun _ _ => rfl) (fun w hH σ g b W hU hb => exec_load rfl rfl (reads_one ty_uint64 rfl) ((hH.row 0 rfl).old hU.below) hb))) ?_
    refine o_cons (by (cases d6; exact o_off (fun _ _ => rfl); exact o_val (fun _ _ => rfl) (fun w hH σ g b W hU hb => exec_cmp rfl rfl rfl rfl hb))) ?_
    refine o_cons (by (cases d6; exact o_coff (fun _ _ => rfl); exact o_call (ent_of Try.func48 (by kernel_rfl) rfl) (fun w hU => may_r w b3 (decide (x.m.co ≤ 72057594037927935)) (x.m.co == 0) m7 hm7) (fun _ _ => rfl) rfl (fun _ _ => rfl) (fun _ _ => rfl))) ?_
    refine o_cons (by subst hd7; (cases d6 <;> exact o_q hflS (fun _ _ => rfl) (fun _ _ => rfl))) ?_
    refine o_cons (by exact o_val (fun _ _ => rfl) (fun w hH σ g b W hU hb => exec_q1 hflS rfl hb)) ?_
    refine o_cons (by (cases d7; exact o_off (fun _ _ => rfl); exact o_val (fun _ _ => rfl) (fun w hH σ g b W hU hb => exec_q1 hflS rfl hb))) ?_
    refine o_cons (by (cases d7; exact o_coff (fun _ _ => rfl); exact o_call (ent_of Try.func49 (by kernel_rfl) rfl) (fun w hU => with_r w h 16 hlt (by decide) b4 hp4) (fun _ _ => rfl) rfl (fun _ _ => rfl) (fun _ _ => rfl))) ?_
    refine o_cons (by (cases d7; exact o_off (fun _ _ => rfl); exact o_val (fun _ _ => rfl) (fun w hH σ g b W hU hb => exec_load rfl rfl (reads_agg (cs := [.int .i64 x.m.k, .int .i64 x.m.a, .int .i64 x.m.b, .int .u64 x.m.t, .int .u64 x.m.i, .int .u64 x.m.lt, x.ev, .int .u64 x.m.co, .bool x.m.rf, .int .u64 x.m.bi, .int .u64 x.m.bt, .int .i64 x.m.bc, .int .i64 x.m.o, x.dv, .bool x.m.la]) ty_api_Msg rfl) ((hH.row 0 rfl).old hU.below) hb))) ?_
    refine o_cons (by (cases d7; exact o_coff (fun _ _ => rfl); exact o_call (ent_of Try.func51 (by kernel_rfl) rfl) (fun w hU => follow_any w x (argMm hx hU) v8 hv8) (fun _ _ => rfl) rfl (fun _ _ => rfl) (fun _ _ => rfl))) ?_
    refine o_cons (by (cases d7; exact o_off (fun _ _ => rfl); exact o_val (fun _ _ => rfl) (fun w hH σ g b W hU hb => exec_q1 hflS rfl hb))) ?_
    refine o_cons (by (cases d7; exact o_off (fun _ _ => rfl); exact o_val (fun _ _ => rfl) (fun w hH σ g b W hU hb => exec_load rfl rfl (reads_one ty_s_api_Entry rfl) ((hH.row 0 rfl).old hU.below) hb))) ?_
    refine o_cons (by (cases d7; exact o_off (fun _ _ => rfl); exact o_val (fun _ _ => rfl) (fun w hH σ g b W hU hb => e_slen (((argM0 hx hH).below hU.below).rd.1) Try.underlying23 rfl rfl hb))) ?_
    refine o_cons (by subst hz8; (cases d7; exact o_off (fun _ _ => rfl); exact o_val (fun _ _ => rfl) (fun w hH σ g b W hU hb => exec_cmp rfl rfl rfl rfl hb))) ?_
    refine o_cons (by (cases d7; exact o_coff (fun _ _ => rfl); exact o_call (ent_of Try.func48 (by kernel_rfl) rfl) (fun w hU => may_r w b4 v8 z8 m8 k8) (fun _ _ => rfl) rfl (fun _ _ => rfl) (fun _ _ => rfl))) ?_
    refine o_cons (by subst hd8; (cases d7 <;> exact o_q hflS (fun _ _ => rfl) (fun _ _ => rfl))) ?_
    refine o_cons (by exact o_val (fun _ _ => rfl) (fun w hH σ g b W hU hb => exec_q1 hflS rfl hb)) ?_
    refine o_cons (by (cases d8; exact o_off (fun _ _ => rfl); exact o_val (fun _ _ => rfl) (fun w hH σ g b W hU hb => exec_q1 hflS rfl hb))) ?_
    refine o_cons (by (cases d8; exact o_coff (fun _ _ => rfl); exact o_call (ent_of Try.func49 (by kernel_rfl) rfl) (fun w hU => with_r w h 32 hlt (by decide) b5 hp5) (fun _ _ => rfl) rfl (fun _ _ => rfl) (fun _ _ => rfl))) ?_
    refine o_cons (by (cases d8; exact o_off (fun _ _ => rfl); exact o_val (fun _ _ => rfl) (fun w hH σ g b W hU hb => exec_q1 hflS rfl hb))) ?_
    refine o_cons (by (cases d8; exact o_off (fun _ _ => rfl); exact o_val (fun _ _ => rfl) (fun w hH σ g b W hU hb => exec_load rfl rfl (reads_one ty_bool rfl) ((hH.row 0 rfl).old hU.below) hb))) ?_
    refine o_cons (by (cases d8; exact o_off (fun _ _ => rfl); exact o_val (fun _ _ => rfl) (fun w hH σ g b W hU hb => by exact exec_not rfl rfl rfl hb))) ?_
    refine o_cons (by (cases d8; exact o_coff (fun _ _ => rfl); exact o_call (ent_of Try.func48 (by kernel_rfl) rfl) (fun w hU => may_r w b5 true (!x.m.rf) m9 k9) (fun _ _ => rfl) rfl (fun _ _ => rfl) (fun _ _ => rfl))) ?_
    refine o_cons (by subst hd9; (cases d8 <;> exact o_q hflS (fun _ _ => rfl) (fun _ _ => rfl))) ?_
    refine o_cons (by exact o_val (fun _ _ => rfl) (fun w hH σ g b W hU hb => exec_q1 hflS rfl hb)) ?_
    refine o_cons (by (cases d9; exact o_off (fun _ _ => rfl); exact o_val (fun _ _ => rfl) (fun w hH σ g b W hU hb => exec_q1 hflS rfl hb))) ?_
    refine o_cons (by (cases d9; exact o_coff (fun _ _ => rfl); exact o_call (ent_of Try.func49 (by kernel_rfl) rfl) (fun w hU => with_r w h 64 hlt (by decide) b6 hp6) (fun _ _ => rfl) rfl (fun _ _ => rfl) (fun _ _ => rfl))) ?_
    refine o_cons (by (cases d9; exact o_off (fun _ _ => rfl); exact o_val (fun _ _ => rfl) (fun w hH σ g b W hU hb => exec_q1 hflS rfl hb))) ?_
    refine o_cons (by (cases d9; exact o_off (fun _ _ => rfl); exact o_val (fun _ _ => rfl) (fun w hH σ g b W hU hb => exec_load rfl rfl (reads_agg (cs := [.int .i64 x.m.k, .int .i64 x.m.a, .int .i64 x.m.b, .int .u64 x.m.t, .int .u64 x.m.i, .int .u64 x.m.lt, x.ev, .int .u64 x.m.co, .bool x.m.rf, .int .u64 x.m.bi, .int .u64 x.m.bt, .int .i64 x.m.bc, .int .i64 x.m.o, x.dv, .bool x.m.la]) ty_api_Base rfl) ((hH.row 0 rfl).old hU.below) hb))) ?_
    refine o_cons (by (cases d9; exact o_coff (fun _ _ => rfl); exact o_call (ent_of Try.func52 (by kernel_rfl) rfl) (fun w hU => begins_any w x.m.bi x.m.bt x.m.bc v10 hv10) (fun _ _ => rfl) rfl (fun _ _ => rfl) (fun _ _ => rfl))) ?_
    refine o_cons (by (cases d9; exact o_off (fun _ _ => rfl); exact o_val (fun _ _ => rfl) (fun w hH σ g b W hU hb => exec_q1 hflS rfl hb))) ?_
    refine o_cons (by (cases d9; exact o_off (fun _ _ => rfl); exact o_val (fun _ _ => rfl) (fun w hH σ g b W hU hb => exec_load rfl rfl (reads_agg (cs := [.int .i64 x.m.k, .int .i64 x.m.a, .int .i64 x.m.b, .int .u64 x.m.t, .int .u64 x.m.i, .int .u64 x.m.lt, x.ev, .int .u64 x.m.co, .bool x.m.rf, .int .u64 x.m.bi, .int .u64 x.m.bt, .int .i64 x.m.bc, .int .i64 x.m.o, x.dv, .bool x.m.la]) ty_api_Base rfl) ((hH.row 0 rfl).old hU.below) hb))) ?_
    refine o_cons (by (cases d9; exact o_off (fun _ _ => rfl); exact o_val (fun _ _ => rfl) (fun w hH σ g b W hU hb => exec_build rfl rfl (by kernel_rfl) hb))) ?_
    refine o_cons (by (cases d9; exact o_off (fun _ _ => rfl); exact o_val (fun _ _ => rfl) (fun w hH σ g b W hU hb => exec_eqs (eqBz x.m z10 hz10) rfl rfl rfl hb))) ?_
    refine o_cons (by (cases d9; exact o_coff (fun _ _ => rfl); exact o_call (ent_of Try.func48 (by kernel_rfl) rfl) (fun w hU => may_r w b6 v10 z10 m10 hm10) (fun _ _ => rfl) rfl (fun _ _ => rfl) (fun _ _ => rfl))) ?_
    refine o_cons (by subst hd10; (cases d9 <;> exact o_q hflS (fun _ _ => rfl) (fun _ _ => rfl))) ?_
    refine o_cons (by exact o_val (fun _ _ => rfl) (fun w hH σ g b W hU hb => exec_q1 hflS rfl hb)) ?_
    refine o_cons (by (cases d10; exact o_off (fun _ _ => rfl); exact o_val (fun _ _ => rfl) (fun w hH σ g b W hU hb => exec_q1 hflS rfl hb))) ?_
    refine o_cons (by (cases d10; exact o_coff (fun _ _ => rfl); exact o_call (ent_of Try.func49 (by kernel_rfl) rfl) (fun w hU => with_r w h 128 hlt (by decide) b7 hp7) (fun _ _ => rfl) rfl (fun _ _ => rfl) (fun _ _ => rfl))) ?_
    refine o_cons (by (cases d10; exact o_off (fun _ _ => rfl); exact o_val (fun _ _ => rfl) (fun w hH σ g b W hU hb => exec_q1 hflS rfl hb))) ?_
    refine o_cons (by (cases d10; exact o_off (fun _ _ => rfl); exact o_val (fun _ _ => rfl) (fun w hH σ g b W hU hb => exec_load rfl rfl (reads_one ty_int rfl) ((hH.row 0 rfl).old hU.below) hb))) ?_
    refine o_cons (by subst hq1; (cases d10; exact o_off (fun _ _ => rfl); exact o_val (fun _ _ => rfl) (fun w hH σ g b W hU hb => exec_cmp rfl rfl rfl rfl hb))) ?_
    refine o_cons (by (cases d10; exact o_off (fun _ _ => rfl); exact o_val (fun _ _ => rfl) (fun w hH σ g b W hU hb => exec_q1 hflS rfl hb))) ?_
    refine o_cons (by (cases d10; exact o_off (fun _ _ => rfl); (cases q1; exact o_off (fun _ _ => rfl); exact o_val (fun _ _ => rfl) (fun w hH σ g b W hU hb => exec_q1 hflS rfl hb)))) ?_
    refine o_cons (by (cases d10; exact o_off (fun _ _ => rfl); (cases q1; exact o_off (fun _ _ => rfl); exact o_val (fun _ _ => rfl) (fun w hH σ g b W hU hb => exec_load rfl rfl (reads_one ty_int rfl) ((hH.row 0 rfl).old hU.below) hb)))) ?_
    refine o_cons (by subst hq2; (cases d10; exact o_off (fun _ _ => rfl); (cases q1; exact o_off (fun _ _ => rfl); exact o_val (fun _ _ => rfl) (fun w hH σ g b W hU hb => exec_cmp rfl rfl rfl rfl hb)))) ?_
    refine o_cons (by subst hv11; (cases d10; exact o_off (fun _ _ => rfl); (cases q1 <;> exact o_q hflS (fun _ _ => rfl) (fun _ _ => rfl)))) ?_
    refine o_cons (by (cases d10; exact o_off (fun _ _ => rfl); exact o_val (fun _ _ => rfl) (fun w hH σ g b W hU hb => exec_q1 hflS rfl hb))) ?_
    refine o_cons (by (cases d10; exact o_off (fun _ _ => rfl); exact o_val (fun _ _ => rfl) (fun w hH σ g b W hU hb => exec_load rfl rfl (reads_one ty_int rfl) ((hH.row 0 rfl).old hU.below) hb))) ?_
    refine o_cons (by (cases d10; exact o_off (fun _ _ => rfl); exact o_val (fun _ _ => rfl) (fun w hH σ g b W hU hb => exec_cmp rfl rfl rfl rfl hb))) ?_
    refine o_cons (by (cases d10; exact o_coff (fun _ _ => rfl); exact o_call (ent_of Try.func48 (by kernel_rfl) rfl) (fun w hU => may_r w b7 v11 (x.m.o == 0) m11 k11) (fun _ _ => rfl) rfl (fun _ _ => rfl) (fun _ _ => rfl))) ?_
    refine o_cons (by subst hd11; (cases d10 <;> exact o_q hflS (fun _ _ => rfl) (fun _ _ => rfl))) ?_
    refine o_cons (by exact o_val (fun _ _ => rfl) (fun w hH σ g b W hU hb => exec_q1 hflS rfl hb)) ?_
    refine o_cons (by (cases d11; exact o_off (fun _ _ => rfl); exact o_val (fun _ _ => rfl) (fun w hH σ g b W hU hb => exec_q1 hflS rfl hb))) ?_
    refine o_cons (by (cases d11; exact o_coff (fun _ _ => rfl); exact o_call (ent_of Try.func49 (by kernel_rfl) rfl) (fun w hU => with_r w h 256 hlt (by decide) b8 hp8) (fun _ _ => rfl) rfl (fun _ _ => rfl) (fun _ _ => rfl))) ?_
    refine o_cons (by (cases d11; exact o_off (fun _ _ => rfl); exact o_val (fun _ _ => rfl) (fun w hH σ g b W hU hb => exec_q1 hflS rfl hb))) ?_
    refine o_cons (by (cases d11; exact o_off (fun _ _ => rfl); exact o_val (fun _ _ => rfl) (fun w hH σ g b W hU hb => exec_load rfl rfl (reads_one ty_bool rfl) ((hH.row 0 rfl).old hU.below) hb))) ?_
    refine o_cons (by (cases d11; exact o_off (fun _ _ => rfl); exact o_val (fun _ _ => rfl) (fun w hH σ g b W hU hb => by exact exec_not rfl rfl rfl hb))) ?_
    refine o_cons (by (cases d11; exact o_coff (fun _ _ => rfl); exact o_call (ent_of Try.func48 (by kernel_rfl) rfl) (fun w hU => may_r w b8 true (!x.m.la) m12 k12) (fun _ _ => rfl) rfl (fun _ _ => rfl) (fun _ _ => rfl))) ?_
    refine o_cons (by subst hd12; (cases d11 <;> exact o_q hflS (fun _ _ => rfl) (fun _ _ => rfl))) ?_
    refine o_cons (by exact o_val (fun _ _ => rfl) (fun w hH σ g b W hU hb => exec_q1 hflS rfl hb)) ?_
    refine o_cons (by (cases d12; exact o_off (fun _ _ => rfl); exact o_val (fun _ _ => rfl) (fun w hH σ g b W hU hb => exec_q1 hflS rfl hb))) ?_
    refine o_cons (by (cases d12; exact o_coff (fun _ _ => rfl); exact o_call (ent_of Try.func49 (by kernel_rfl) rfl) (fun w hU => with_r w h 512 hlt (by decide) b9 hp9) (fun _ _ => rfl) rfl (fun _ _ => rfl) (fun _ _ => rfl))) ?_
    refine o_cons (by (cases d12; exact o_off (fun _ _ => rfl); exact o_val (fun _ _ => rfl) (fun w hH σ g b W hU hb => exec_q1 hflS rfl hb))) ?_
    refine o_cons (by (cases d12; exact o_off (fun _ _ => rfl); exact o_val (fun _ _ => rfl) (fun w hH σ g b W hU hb => exec_load rfl rfl (reads_one ty_s_uint8 rfl) ((hH.row 0 rfl).old hU.below) hb))) ?_
    refine o_cons (by (cases d12; exact o_off (fun _ _ => rfl); exact o_val (fun _ _ => rfl) (fun w hH σ g b W hU hb => e_slen (((argM0 hx hH).below hU.below).d.rd) Try.underlying26 rfl rfl hb))) ?_
    refine o_cons (by subst hw13; (cases d12; exact o_off (fun _ _ => rfl); exact o_val (fun _ _ => rfl) (fun w hH σ g b W hU hb => exec_cmp rfl rfl rfl rfl hb))) ?_
    refine o_cons (by (cases d12; exact o_off (fun _ _ => rfl); exact o_val (fun _ _ => rfl) (fun w hH σ g b W hU hb => exec_q1 hflS rfl hb))) ?_
    refine o_cons (by (cases d12; exact o_off (fun _ _ => rfl); exact o_val (fun _ _ => rfl) (fun w hH σ g b W hU hb => exec_load rfl rfl (reads_one ty_s_uint8 rfl) ((hH.row 0 rfl).old hU.below) hb))) ?_
    refine o_cons (by (cases d12; exact o_off (fun _ _ => rfl); exact o_val (fun _ _ => rfl) (fun w hH σ g b W hU hb => e_slen (((argM0 hx hH).below hU.below).d.rd) Try.underlying26 rfl rfl hb))) ?_
    refine o_cons (by subst hz13; (cases d12; exact o_off (fun _ _ => rfl); exact o_val (fun _ _ => rfl) (fun w hH σ g b W hU hb => exec_cmp rfl rfl rfl rfl hb))) ?_
    refine o_cons (by (cases d12; exact o_coff (fun _ _ => rfl); exact o_call (ent_of Try.func48 (by kernel_rfl) rfl) (fun w hU => may_r w b9 w13 z13 m13 k13) (fun _ _ => rfl) rfl (fun _ _ => rfl) (fun _ _ => rfl))) ?_
    refine o_cons (by subst hd13; (cases d12 <;> exact o_q hflS (fun _ _ => rfl) (fun _ _ => rfl))) ?_
    exact o_nil
  intro σ1 gs1
  refine WL2.keep (env' := [(2, .bool false), (137, .bool d13)]) ⟨rfl, rfl, trivial⟩ ?_
  refine h_q hflS rfl ?_
  refine h_nil (f_to (d_ret ?_))
  exact f_fin1 (.tmp rfl) (fun w h => ⟨by rw [hR], below0 h.up⟩) rfl
end Go.Proofs.Ytnhcbjlaeaohjaa.Sep
