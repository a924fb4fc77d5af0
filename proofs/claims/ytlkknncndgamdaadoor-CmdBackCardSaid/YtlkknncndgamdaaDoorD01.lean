/-
  CmdQ
-/
import Derived.Test.YtlkknncndgamdaaDoorC02
set_option linter.unusedSimpArgs false
set_option linter.unusedVariables false

namespace Go.Proofs.YtlkknncndgamdaaDoor.Sep
open Go.RowKit
open Go.Proofs.YtlkknncndgamdaaDoor.Mem (Dist Blk Chg below0)

set_option maxHeartbeats 4000000 in
set_option maxRecDepth 100000 in
theorem rright_any (w : World) (c : CmdD) (ho : c.ok) (r : Bool) (hr : rightB c = r) : Calls Tryd.prog 10 #[.agg #[.int .i64 c.k, .int .u64 c.s, .int .u64 c.q, .int .u64 c.a, .int .u64 c.b, .int .i64 c.hi, .int .u64 c.lo, .int .i64 c.sc, .string (bs c.x), .string (bs c.y)]] w fun e w' => e = .returned (.bool r) ∧ Below w.heap.size w w' := by
  obtain ⟨h, hh⟩ : ∃ h, fo c.k = h := ⟨_, rfl⟩
  obtain ⟨b1, hb1⟩ : ∃ b1, wth h 1 = b1 := ⟨_, rfl⟩
  obtain ⟨b2, hb2⟩ : ∃ b2, wth h 2 = b2 := ⟨_, rfl⟩
  obtain ⟨b3, hb3⟩ : ∃ b3, wth h 4 = b3 := ⟨_, rfl⟩
  obtain ⟨b4, hb4⟩ : ∃ b4, wth h 8 = b4 := ⟨_, rfl⟩
  obtain ⟨b5, hb5⟩ : ∃ b5, wth h 16 = b5 := ⟨_, rfl⟩
  obtain ⟨b6, hb6⟩ : ∃ b6, wth h 32 = b6 := ⟨_, rfl⟩
  obtain ⟨b7, hb7⟩ : ∃ b7, wth h 64 = b7 := ⟨_, rfl⟩
  obtain ⟨v1, hv1⟩ : ∃ v1, numB c.s = v1 := ⟨_, rfl⟩
  obtain ⟨v2, hv2⟩ : ∃ v2, numB c.q = v2 := ⟨_, rfl⟩
  obtain ⟨v5, hv5⟩ : ∃ v5, scB c.sc = v5 := ⟨_, rfl⟩
  obtain ⟨z5, hz5⟩ : ∃ z5, zeroD c = z5 := ⟨_, rfl⟩
  obtain ⟨v6, hv6⟩ : ∃ v6, nameB c.x = v6 := ⟨_, rfl⟩
  obtain ⟨z6, hz6⟩ : ∃ z6, (c.x == []) = z6 := ⟨_, rfl⟩
  obtain ⟨v7, hv7⟩ : ∃ v7, nameB c.y = v7 := ⟨_, rfl⟩
  obtain ⟨z7, hz7⟩ : ∃ z7, (c.y == []) = z7 := ⟨_, rfl⟩
  obtain ⟨m1, hm1⟩ : ∃ m1, mayB b1 v1 (c.s == 0) = m1 := ⟨_, rfl⟩
  obtain ⟨m2, hm2⟩ : ∃ m2, mayB b2 v2 (c.q == 0) = m2 := ⟨_, rfl⟩
  obtain ⟨m3, hm3⟩ : ∃ m3, mayB b3 true (c.a == 0) = m3 := ⟨_, rfl⟩
  obtain ⟨m4, hm4⟩ : ∃ m4, mayB b4 true (c.b == 0) = m4 := ⟨_, rfl⟩
  obtain ⟨m5, hm5⟩ : ∃ m5, mayB b5 v5 z5 = m5 := ⟨_, rfl⟩
  obtain ⟨m6, hm6⟩ : ∃ m6, mayB b6 v6 z6 = m6 := ⟨_, rfl⟩
  obtain ⟨m7, hm7⟩ : ∃ m7, mayB b7 v7 z7 = m7 := ⟨_, rfl⟩
  have hR : (h != 0 && m1 && m2 && m3 && m4 && m5 && m6 && m7) = r := by
    rw [← hr]
    unfold rightB
    rw [hh, hb1, hb2, hb3, hb4, hb5, hb6, hb7, hv1, hv2, hv5, hz5, hv6, hz6, hv7, hz7, hm1, hm2, hm3, hm4, hm5, hm6, hm7]
  have hlt : h < 128 := hh ▸ fo_lt c.k
  obtain ⟨l, hl⟩ : ∃ l, ofL c.k = l := ⟨_, rfl⟩
  have hll : l.length ≤ 9223372036854775806 := by have := ofL_len c.k; rw [hl] at this; omega
  have hl0 : (l == []) = (h == 0) := by rw [← hl, ← hh]; exact ofL_ne
  have ha2 : hasB l [115, 101, 113] = b2 := by rw [← hl, has_seq, hh, hb2]
  have ha3 : hasB l [97] = b3 := by rw [← hl, has_a, hh, hb3]
  have ha4 : hasB l [98] = b4 := by rw [← hl, has_b, hh, hb4]
  have ha5 : hasB l [97, 109, 111, 117, 110, 116] = b5 := by rw [← hl, has_amount, hh, hb5]
  have ha6 : hasB l [120] = b6 := by rw [← hl, has_x, hh, hb6]
  have ha7 : hasB l [121] = b7 := by rw [← hl, has_y, hh, hb7]
  have hs1 : h ≠ 0 → b1 = true := fun h0 => by rw [← hb1, ← hh]; exact fo_session (by rw [hh]; exact h0)
  refine d_in (args := [.agg #[.int .i64 c.k, .int .u64 c.s, .int .u64 c.q, .int .u64 c.a, .int .u64 c.b, .int .i64 c.hi, .int .u64 c.lo, .int .i64 c.sc, .string (bs c.x), .string (bs c.y)]]) 74 Tryd.func10 rfl rfl rfl ?_
  refine d_reg ?_
  refine h_q hflS rfl ?_
  refine h_act (post := fun g1 => [cell g1 28 #[.int .i64 c.k, .int .u64 c.s, .int .u64 c.q, .int .u64 c.a, .int .u64 c.b, .int .i64 c.hi, .int .u64 c.lo, .int .i64 c.sc, .string (bs c.x), .string (bs c.y)]]) rfl (a_box (cs := #[.int .i64 c.k, .int .u64 c.s, .int .u64 c.q, .int .u64 c.a, .int .u64 c.b, .int .i64 c.hi, .int .u64 c.lo, .int .i64 c.sc, .string (bs c.x), .string (bs c.y)]) rfl rfl rfl) ?_; rintro g1
  refine h_q hflS rfl ?_
  refine h_done (d_reg ?_)
  refine h_q hflS rfl ?_
  refine h_val rfl (.int .i64 c.k) (fun b w hb hH => exec_load rfl rfl (reads_one ty_int rfl) (hH.row 0 rfl) hb) ?_
  refine h_act (post := fun _ => [cell g1 28 #[.int .i64 c.k, .int .u64 c.s, .int .u64 c.q, .int .u64 c.a, .int .u64 c.b, .int .i64 c.hi, .int .u64 c.lo, .int .i64 c.sc, .string (bs c.x), .string (bs c.y)]]) rfl (a_call (ent_of Tryd.func23 (by kernel_rfl) rfl) (fun w hH => of_any w c.k l hl) rfl rfl rfl) ?_; rintro ⟨⟩
  refine h_q hflS rfl ?_
  refine h_done (d_seq ?_)
  rcases ways6 h v1 m2 m6 m7 with h0 | ⟨h0, rfl⟩ | ⟨h0, rfl, rfl⟩ | ⟨h0, rfl, rfl, rfl⟩ | ⟨h0, rfl, rfl, rfl, rfl⟩ | ⟨h0, rfl, rfl, rfl, rfl⟩
  · skip
    obtain rfl : r = false := by rw [← hR]; simp [mayB, h0]
    refine d_seq ?_
    refine d_par 32 0 [⟨.quiet, 0, fun _ => .string (bs l), []⟩, ⟨.quiet, 0, fun _ => .bool true, [0]⟩, ⟨.quiet, 0, fun _ => .bool true, [1]⟩, ⟨.skip, 0, fun _ => undef, [2]⟩, ⟨.skip, 0, fun _ => undef, [3, 2]⟩, ⟨.skip, 0, fun _ => undef, [4, 2]⟩, ⟨.skip, 0, fun _ => undef, [5, 2]⟩, ⟨.quiet, 0, fun _ => .bool true, [2, 6]⟩, ⟨.quiet, 0, fun _ => .bool true, [7]⟩, ⟨.skip, 0, fun _ => undef, [8]⟩, ⟨.skip, 0, fun _ => undef, [9, 8]⟩, ⟨.skip, 0, fun _ => undef, [8]⟩, ⟨.skip, 0, fun _ => undef, [11, 8]⟩, ⟨.skip, 0, fun _ => undef, [10, 12, 8]⟩, ⟨.skip, 0, fun _ => undef, [13, 8]⟩, ⟨.quiet, 0, fun _ => .bool true, [8, 14]⟩, ⟨.quiet, 0, fun _ => .bool true, [15]⟩, ⟨.skip, 0, fun _ => undef, [16]⟩, ⟨.skip, 0, fun _ => undef, [17, 16]⟩, ⟨.skip, 0, fun _ => undef, [16]⟩, ⟨.skip, 0, fun _ => undef, [19, 16]⟩, ⟨.skip, 0, fun _ => undef, [18, 20, 16]⟩, ⟨.skip, 0, fun _ => undef, [21, 16]⟩, ⟨.quiet, 0, fun _ => .bool true, [16, 22]⟩, ⟨.quiet, 0, fun _ => .bool true, [23]⟩, ⟨.skip, 0, fun _ => undef, [24]⟩, ⟨.skip, 0, fun _ => undef, [25, 24]⟩, ⟨.skip, 0, fun _ => undef, [24]⟩, ⟨.skip, 0, fun _ => undef, [27, 24]⟩, ⟨.skip, 0, fun _ => undef, [26, 28, 24]⟩, ⟨.skip, 0, fun _ => undef, [29, 24]⟩, ⟨.quiet, 0, fun _ => .bool true, [24, 30]⟩] [(1, .pointer (some ⟨g1, 0, none⟩)), (2, .bool false), (3, .string (bs l))] (by kernel_rfl) (by kernel_rfl) ⟨rfl, rfl, rfl, trivial⟩ ?_ ?_
    · skip
      refine o_cons (o_q hflS (fun _ _ => rfl) (fun _ _ => rfl)) ?_
      refine o_cons (o_same (by rw [hl0]; simp [h0]) (fun _ _ => rfl) rfl (fun _ _ => rfl) (fun _ _ => rfl)) ?_
      refine o_cons (o_q hflS (fun _ _ => rfl) (fun _ _ => rfl)) ?_
      refine o_cons (o_skip (fun _ _ => rfl)) ?_
      refine o_cons (o_skip (fun _ _ => rfl)) ?_
      refine o_cons (o_skip (fun _ _ => rfl)) ?_
      refine o_cons (o_skip (fun _ _ => rfl)) ?_
      refine o_cons (o_q hflS (fun _ _ => rfl) (fun _ _ => rfl)) ?_
      refine o_cons (o_q hflS (fun _ _ => rfl) (fun _ _ => rfl)) ?_
      refine o_cons (o_skip (fun _ _ => rfl)) ?_
      refine o_cons (o_skip (fun _ _ => rfl)) ?_
      refine o_cons (o_skip (fun _ _ => rfl)) ?_
      refine o_cons (o_skip (fun _ _ => rfl)) ?_
      refine o_cons (o_skip (fun _ _ => rfl)) ?_
      refine o_cons (o_skip (fun _ _ => rfl)) ?_
      refine o_cons (o_q hflS (fun _ _ => rfl) (fun _ _ => rfl)) ?_
      refine o_cons (o_q hflS (fun _ _ => rfl) (fun _ _ => rfl)) ?_
      refine o_cons (o_skip (fun _ _ => rfl)) ?_
      refine o_cons (o_skip (fun _ _ => rfl)) ?_
      refine o_cons (o_skip (fun _ _ => rfl)) ?_
      refine o_cons (o_skip (fun _ _ => rfl)) ?_
      refine o_cons (o_skip (fun _ _ => rfl)) ?_
      refine o_cons (o_skip (fun _ _ => rfl)) ?_
      refine o_cons (o_q hflS (fun _ _ => rfl) (fun _ _ => rfl)) ?_
      refine o_cons (o_q hflS (fun _ _ => rfl) (fun _ _ => rfl)) ?_
      refine o_cons (o_skip (fun _ _ => rfl)) ?_
      refine o_cons (o_skip (fun _ _ => rfl)) ?_
      refine o_cons (o_skip (fun _ _ => rfl)) ?_
      refine o_cons (o_skip (fun _ _ => rfl)) ?_
      refine o_cons (o_skip (fun _ _ => rfl)) ?_
      refine o_cons (o_skip (fun _ _ => rfl)) ?_
      refine o_cons (o_q hflS (fun _ _ => rfl) (fun _ _ => rfl)) ?_
      exact o_nil
    intro σ1 gs1
    refine WL2.keep (env' := [(1, .pointer (some ⟨g1, 0, none⟩)), (2, .bool false), (3, .string (bs l)), (38, .bool true)]) ⟨rfl, rfl, rfl, rfl, trivial⟩ ?_
    refine h_nil (f_to (d_then rfl (d_reg ?_)))
    refine h_q hflS rfl ?_
    refine h_done (d_ret (f_then_ret ?_))
    exact f_fin1 (.tmp rfl) (fun w h => ⟨rfl, below0 h.up⟩) rfl
  · skip
    obtain rfl := hs1 h0
    obtain rfl : r = false := by rw [← hR, ← hm1]; simp [mayB, h0]
    refine d_seq ?_
    refine d_par 32 1 [⟨.quiet, 0, fun _ => .string (bs l), []⟩, ⟨.quiet, 0, fun _ => .bool false, [0]⟩, ⟨.quiet, 0, fun _ => .bool false, [1]⟩, ⟨.quiet, 0, fun _ => .pointer (some ⟨g1, 1, none⟩), [2]⟩, ⟨.quiet, 0, fun _ => .int .u64 c.s, [3, 2]⟩, ⟨.call, 1, fun _ => .bool false, [4, 2]⟩, ⟨.quiet, 1, fun _ => .bool true, [5, 2]⟩, ⟨.quiet, 1, fun _ => .bool true, [2, 6]⟩, ⟨.quiet, 1, fun _ => .bool true, [7]⟩, ⟨.skip, 1, fun _ => undef, [8]⟩, ⟨.skip, 1, fun _ => undef, [9, 8]⟩, ⟨.skip, 1, fun _ => undef, [8]⟩, ⟨.skip, 1, fun _ => undef, [11, 8]⟩, ⟨.skip, 1, fun _ => undef, [10, 12, 8]⟩, ⟨.skip, 1, fun _ => undef, [13, 8]⟩, ⟨.quiet, 1, fun _ => .bool true, [8, 14]⟩, ⟨.quiet, 1, fun _ => .bool true, [15]⟩, ⟨.skip, 1, fun _ => undef, [16]⟩, ⟨.skip, 1, fun _ => undef, [17, 16]⟩, ⟨.skip, 1, fun _ => undef, [16]⟩, ⟨.skip, 1, fun _ => undef, [19, 16]⟩, ⟨.skip, 1, fun _ => undef, [18, 20, 16]⟩, ⟨.skip, 1, fun _ => undef, [21, 16]⟩, ⟨.quiet, 1, fun _ => .bool true, [16, 22]⟩, ⟨.quiet, 1, fun _ => .bool true, [23]⟩, ⟨.skip, 1, fun _ => undef, [24]⟩, ⟨.skip, 1, fun _ => undef, [25, 24]⟩, ⟨.skip, 1, fun _ => undef, [24]⟩, ⟨.skip, 1, fun _ => undef, [27, 24]⟩, ⟨.skip, 1, fun _ => undef, [26, 28, 24]⟩, ⟨.skip, 1, fun _ => undef, [29, 24]⟩, ⟨.quiet, 1, fun _ => .bool true, [24, 30]⟩] [(1, .pointer (some ⟨g1, 0, none⟩)), (2, .bool false), (3, .string (bs l))] (by kernel_rfl) (by kernel_rfl) ⟨rfl, rfl, rfl, trivial⟩ ?_ ?_
    · skip
      refine o_cons (o_q hflS (fun _ _ => rfl) (fun _ _ => rfl)) ?_
      refine o_cons (o_same (by rw [hl0]; simp [h0]) (fun _ _ => rfl) rfl (fun _ _ => rfl) (fun _ _ => rfl)) ?_
      refine o_cons (o_q hflS (fun _ _ => rfl) (fun _ _ => rfl)) ?_
      refine o_cons (o_q hflS (fun _ _ => rfl) (fun _ _ => rfl)) ?_
      refine o_cons (o_load 0 (reads_one ty_uint64 rfl) (fun _ _ => rfl) rfl (fun _ _ => rfl) rfl) ?_
      refine o_cons (o_call (ent_of Tryd.func24 (by kernel_rfl) rfl) (fun w hU => rnumber_any w true c.s _ (by simpa [mayB] using hv1)) (fun _ _ => rfl) rfl (fun _ _ => rfl) (fun _ _ => rfl)) ?_
      refine o_cons (o_q hflS (fun _ _ => rfl) (fun _ _ => rfl)) ?_
      refine o_cons (o_q hflS (fun _ _ => rfl) (fun _ _ => rfl)) ?_
      refine o_cons (o_q hflS (fun _ _ => rfl) (fun _ _ => rfl)) ?_
      refine o_cons (o_skip (fun _ _ => rfl)) ?_
      refine o_cons (o_skip (fun _ _ => rfl)) ?_
      refine o_cons (o_skip (fun _ _ => rfl)) ?_
      refine o_cons (o_skip (fun _ _ => rfl)) ?_
      refine o_cons (o_skip (fun _ _ => rfl)) ?_
      refine o_cons (o_skip (fun _ _ => rfl)) ?_
      refine o_cons (o_q hflS (fun _ _ => rfl) (fun _ _ => rfl)) ?_
      refine o_cons (o_q hflS (fun _ _ => rfl) (fun _ _ => rfl)) ?_
      refine o_cons (o_skip (fun _ _ => rfl)) ?_
      refine o_cons (o_skip (fun _ _ => rfl)) ?_
      refine o_cons (o_skip (fun _ _ => rfl)) ?_
      refine o_cons (o_skip (fun _ _ => rfl)) ?_
      refine o_cons (o_skip (fun _ _ => rfl)) ?_
      refine o_cons (o_skip (fun _ _ => rfl)) ?_
      refine o_cons (o_q hflS (fun _ _ => rfl) (fun _ _ => rfl)) ?_
      refine o_cons (o_q hflS (fun _ _ => rfl) (fun _ _ => rfl)) ?_
      refine o_cons (o_skip (fun _ _ => rfl)) ?_
      refine o_cons (o_skip (fun _ _ => rfl)) ?_
      refine o_cons (o_skip (fun _ _ => rfl)) ?_
      refine o_cons (o_skip (fun _ _ => rfl)) ?_
      refine o_cons (o_skip (fun _ _ => rfl)) ?_
      refine o_cons (o_skip (fun _ _ => rfl)) ?_
      refine o_cons (o_q hflS (fun _ _ => rfl) (fun _ _ => rfl)) ?_
      exact o_nil
    intro σ2 gs2
    refine WL2.keep (env' := [(1, .pointer (some ⟨g1, 0, none⟩)), (2, .bool false), (3, .string (bs l)), (38, .bool true)]) ⟨rfl, rfl, rfl, rfl, trivial⟩ ?_
    refine h_nil (f_to (d_then rfl (d_reg ?_)))
    refine h_q hflS rfl ?_
    refine h_done (d_ret (f_then_ret ?_))
    exact f_fin1 (.tmp rfl) (fun w h => ⟨rfl, below0 h.up⟩) rfl
  · skip
    obtain rfl : r = false := by rw [← hR]; simp [mayB, h0]
    refine d_seq ?_
    refine d_par 32 3 [⟨.quiet, 0, fun _ => .string (bs l), []⟩, ⟨.quiet, 0, fun _ => .bool false, [0]⟩, ⟨.quiet, 0, fun _ => .bool false, [1]⟩, ⟨.quiet, 0, fun _ => .pointer (some ⟨g1, 1, none⟩), [2]⟩, ⟨.quiet, 0, fun _ => .int .u64 c.s, [3, 2]⟩, ⟨.call, 1, fun _ => .bool true, [4, 2]⟩, ⟨.quiet, 1, fun _ => .bool false, [5, 2]⟩, ⟨.quiet, 1, fun _ => .bool false, [2, 6]⟩, ⟨.quiet, 1, fun _ => .bool false, [7]⟩, ⟨.quiet, 1, fun _ => .string (bs l), [8]⟩, ⟨.call, 2, fun _ => .bool b2, [9, 8]⟩, ⟨.quiet, 1, fun _ => .pointer (some ⟨g1, 2, none⟩), [8]⟩, ⟨.quiet, 1, fun _ => .int .u64 c.q, [11, 8]⟩, ⟨.call, 3, fun _ => .bool false, [10, 12, 8]⟩, ⟨.quiet, 3, fun _ => .bool true, [13, 8]⟩, ⟨.quiet, 3, fun _ => .bool true, [8, 14]⟩, ⟨.quiet, 3, fun _ => .bool true, [15]⟩, ⟨.skip, 3, fun _ => undef, [16]⟩, ⟨.skip, 3, fun _ => undef, [17, 16]⟩, ⟨.skip, 3, fun _ => undef, [16]⟩, ⟨.skip, 3, fun _ => undef, [19, 16]⟩, ⟨.skip, 3, fun _ => undef, [18, 20, 16]⟩, ⟨.skip, 3, fun _ => undef, [21, 16]⟩, ⟨.quiet, 3, fun _ => .bool true, [16, 22]⟩, ⟨.quiet, 3, fun _ => .bool true, [23]⟩, ⟨.skip, 3, fun _ => undef, [24]⟩, ⟨.skip, 3, fun _ => undef, [25, 24]⟩, ⟨.skip, 3, fun _ => undef, [24]⟩, ⟨.skip, 3, fun _ => undef, [27, 24]⟩, ⟨.skip, 3, fun _ => undef, [26, 28, 24]⟩, ⟨.skip, 3, fun _ => undef, [29, 24]⟩, ⟨.quiet, 3, fun _ => .bool true, [24, 30]⟩] [(1, .pointer (some ⟨g1, 0, none⟩)), (2, .bool false), (3, .string (bs l))] (by kernel_rfl) (by kernel_rfl) ⟨rfl, rfl, rfl, trivial⟩ ?_ ?_
    · skip
      refine o_cons (o_q hflS (fun _ _ => rfl) (fun _ _ => rfl)) ?_
      refine o_cons (o_same (by rw [hl0]; simp [h0]) (fun _ _ => rfl) rfl (fun _ _ => rfl) (fun _ _ => rfl)) ?_
      refine o_cons (o_q hflS (fun _ _ => rfl) (fun _ _ => rfl)) ?_
      refine o_cons (o_q hflS (fun _ _ => rfl) (fun _ _ => rfl)) ?_
      refine o_cons (o_load 0 (reads_one ty_uint64 rfl) (fun _ _ => rfl) rfl (fun _ _ => rfl) rfl) ?_
      refine o_cons (o_call (ent_of Tryd.func24 (by kernel_rfl) rfl) (fun w hU => rnumber_any w true c.s _ (by simpa [mayB] using hv1)) (fun _ _ => rfl) rfl (fun _ _ => rfl) (fun _ _ => rfl)) ?_
      refine o_cons (o_q hflS (fun _ _ => rfl) (fun _ _ => rfl)) ?_
      refine o_cons (o_q hflS (fun _ _ => rfl) (fun _ _ => rfl)) ?_
      refine o_cons (o_q hflS (fun _ _ => rfl) (fun _ _ => rfl)) ?_
      refine o_cons (o_q hflS (fun _ _ => rfl) (fun _ _ => rfl)) ?_
      refine o_cons (o_call (ent_of Tryd.func25 (by kernel_rfl) rfl) (fun w hU => has_any w l [115, 101, 113] b2 ha2 hll) (fun _ _ => rfl) rfl (fun _ _ => rfl) (fun _ _ => rfl)) ?_
      refine o_cons (o_q hflS (fun _ _ => rfl) (fun _ _ => rfl)) ?_
      refine o_cons (o_load 0 (reads_one ty_uint64 rfl) (fun _ _ => rfl) rfl (fun _ _ => rfl) rfl) ?_
      refine o_cons (o_call (ent_of Tryd.func24 (by kernel_rfl) rfl) (fun w hU => rnumber_any w b2 c.q _ (by rw [hv2]; exact hm2)) (fun _ _ => rfl) rfl (fun _ _ => rfl) (fun _ _ => rfl)) ?_
      refine o_cons (o_q hflS (fun _ _ => rfl) (fun _ _ => rfl)) ?_
      refine o_cons (o_q hflS (fun _ _ => rfl) (fun _ _ => rfl)) ?_
      refine o_cons (o_q hflS (fun _ _ => rfl) (fun _ _ => rfl)) ?_
      refine o_cons (o_skip (fun _ _ => rfl)) ?_
      refine o_cons (o_skip (fun _ _ => rfl)) ?_
      refine o_cons (o_skip (fun _ _ => rfl)) ?_
      refine o_cons (o_skip (fun _ _ => rfl)) ?_
      refine o_cons (o_skip (fun _ _ => rfl)) ?_
      refine o_cons (o_skip (fun _ _ => rfl)) ?_
      refine o_cons (o_q hflS (fun _ _ => rfl) (fun _ _ => rfl)) ?_
      refine o_cons (o_q hflS (fun _ _ => rfl) (fun _ _ => rfl)) ?_
      refine o_cons (o_skip (fun _ _ => rfl)) ?_
      refine o_cons (o_skip (fun _ _ => rfl)) ?_
      refine o_cons (o_skip (fun _ _ => rfl)) ?_
      refine o_cons (o_skip (fun _ _ => rfl)) ?_
      refine o_cons (o_skip (fun _ _ => rfl)) ?_
      refine o_cons (o_skip (fun _ _ => rfl)) ?_
      refine o_cons (o_q hflS (fun _ _ => rfl) (fun _ _ => rfl)) ?_
      exact o_nil
    intro σ3 gs3
    refine WL2.keep (env' := [(1, .pointer (some ⟨g1, 0, none⟩)), (2, .bool false), (3, .string (bs l)), (38, .bool true)]) ⟨rfl, rfl, rfl, rfl, trivial⟩ ?_
    refine h_nil (f_to (d_then rfl (d_reg ?_)))
    refine h_q hflS rfl ?_
    refine h_done (d_ret (f_then_ret ?_))
    exact f_fin1 (.tmp rfl) (fun w h => ⟨rfl, below0 h.up⟩) rfl
  · skip
    obtain rfl : r = false := by rw [← hR]; simp [mayB, h0]
    refine d_seq ?_
    refine d_par 32 5 [⟨.quiet, 0, fun _ => .string (bs l), []⟩, ⟨.quiet, 0, fun _ => .bool false, [0]⟩, ⟨.quiet, 0, fun _ => .bool false, [1]⟩, ⟨.quiet, 0, fun _ => .pointer (some ⟨g1, 1, none⟩), [2]⟩, ⟨.quiet, 0, fun _ => .int .u64 c.s, [3, 2]⟩, ⟨.call, 1, fun _ => .bool true, [4, 2]⟩, ⟨.quiet, 1, fun _ => .bool false, [5, 2]⟩, ⟨.quiet, 1, fun _ => .bool false, [2, 6]⟩, ⟨.quiet, 1, fun _ => .bool false, [7]⟩, ⟨.quiet, 1, fun _ => .string (bs l), [8]⟩, ⟨.call, 2, fun _ => .bool b2, [9, 8]⟩, ⟨.quiet, 1, fun _ => .pointer (some ⟨g1, 2, none⟩), [8]⟩, ⟨.quiet, 1, fun _ => .int .u64 c.q, [11, 8]⟩, ⟨.call, 3, fun _ => .bool true, [10, 12, 8]⟩, ⟨.quiet, 3, fun _ => .bool false, [13, 8]⟩, ⟨.quiet, 3, fun _ => .bool false, [8, 14]⟩, ⟨.quiet, 3, fun _ => .bool false, [15]⟩, ⟨.quiet, 3, fun _ => .string (bs l), [16]⟩, ⟨.call, 4, fun _ => .bool b6, [17, 16]⟩, ⟨.quiet, 3, fun _ => .pointer (some ⟨g1, 8, none⟩), [16]⟩, ⟨.quiet, 3, fun _ => .string (bs c.x), [19, 16]⟩, ⟨.call, 5, fun _ => .bool false, [18, 20, 16]⟩, ⟨.quiet, 5, fun _ => .bool true, [21, 16]⟩, ⟨.quiet, 5, fun _ => .bool true, [16, 22]⟩, ⟨.quiet, 5, fun _ => .bool true, [23]⟩, ⟨.skip, 5, fun _ => undef, [24]⟩, ⟨.skip, 5, fun _ => undef, [25, 24]⟩, ⟨.skip, 5, fun _ => undef, [24]⟩, ⟨.skip, 5, fun _ => undef, [27, 24]⟩, ⟨.skip, 5, fun _ => undef, [26, 28, 24]⟩, ⟨.skip, 5, fun _ => undef, [29, 24]⟩, ⟨.quiet, 5, fun _ => .bool true, [24, 30]⟩] [(1, .pointer (some ⟨g1, 0, none⟩)), (2, .bool false), (3, .string (bs l))] (by kernel_rfl) (by kernel_rfl) ⟨rfl, rfl, rfl, trivial⟩ ?_ ?_
    · skip
      refine o_cons (o_q hflS (fun _ _ => rfl) (fun _ _ => rfl)) ?_
      refine o_cons (o_same (by rw [hl0]; simp [h0]) (fun _ _ => rfl) rfl (fun _ _ => rfl) (fun _ _ => rfl)) ?_
      refine o_cons (o_q hflS (fun _ _ => rfl) (fun _ _ => rfl)) ?_
      refine o_cons (o_q hflS (fun _ _ => rfl) (fun _ _ => rfl)) ?_
      refine o_cons (o_load 0 (reads_one ty_uint64 rfl) (fun _ _ => rfl) rfl (fun _ _ => rfl) rfl) ?_
      refine o_cons (o_call (ent_of Tryd.func24 (by kernel_rfl) rfl) (fun w hU => rnumber_any w true c.s _ (by simpa [mayB] using hv1)) (fun _ _ => rfl) rfl (fun _ _ => rfl) (fun _ _ => rfl)) ?_
      refine o_cons (o_q hflS (fun _ _ => rfl) (fun _ _ => rfl)) ?_
      refine o_cons (o_q hflS (fun _ _ => rfl) (fun _ _ => rfl)) ?_
      refine o_cons (o_q hflS (fun _ _ => rfl) (fun _ _ => rfl)) ?_
      refine o_cons (o_q hflS (fun _ _ => rfl) (fun _ _ => rfl)) ?_
      refine o_cons (o_call (ent_of Tryd.func25 (by kernel_rfl) rfl) (fun w hU => has_any w l [115, 101, 113] b2 ha2 hll) (fun _ _ => rfl) rfl (fun _ _ => rfl) (fun _ _ => rfl)) ?_
      refine o_cons (o_q hflS (fun _ _ => rfl) (fun _ _ => rfl)) ?_
      refine o_cons (o_load 0 (reads_one ty_uint64 rfl) (fun _ _ => rfl) rfl (fun _ _ => rfl) rfl) ?_
      refine o_cons (o_call (ent_of Tryd.func24 (by kernel_rfl) rfl) (fun w hU => rnumber_any w b2 c.q _ (by rw [hv2]; exact hm2)) (fun _ _ => rfl) rfl (fun _ _ => rfl) (fun _ _ => rfl)) ?_
      refine o_cons (o_q hflS (fun _ _ => rfl) (fun _ _ => rfl)) ?_
      refine o_cons (o_q hflS (fun _ _ => rfl) (fun _ _ => rfl)) ?_
      refine o_cons (o_q hflS (fun _ _ => rfl) (fun _ _ => rfl)) ?_
      refine o_cons (o_q hflS (fun _ _ => rfl) (fun _ _ => rfl)) ?_
      refine o_cons (o_call (ent_of Tryd.func25 (by kernel_rfl) rfl) (fun w hU => has_any w l [120] b6 ha6 hll) (fun _ _ => rfl) rfl (fun _ _ => rfl) (fun _ _ => rfl)) ?_
      refine o_cons (o_q hflS (fun _ _ => rfl) (fun _ _ => rfl)) ?_
      refine o_cons (o_load 0 (reads_one ty_string rfl) (fun _ _ => rfl) rfl (fun _ _ => rfl) rfl) ?_
      refine o_cons (o_call (ent_of Tryd.func26 (by kernel_rfl) rfl) (fun w hU => rnm_any w b6 c.x _ (by rw [hv6, hz6]; exact hm6) ho.x) (fun _ _ => rfl) rfl (fun _ _ => rfl) (fun _ _ => rfl)) ?_
      refine o_cons (o_q hflS (fun _ _ => rfl) (fun _ _ => rfl)) ?_
      refine o_cons (o_q hflS (fun _ _ => rfl) (fun _ _ => rfl)) ?_
      refine o_cons (o_q hflS (fun _ _ => rfl) (fun _ _ => rfl)) ?_
      refine o_cons (o_skip (fun _ _ => rfl)) ?_
      refine o_cons (o_skip (fun _ _ => rfl)) ?_
      refine o_cons (o_skip (fun _ _ => rfl)) ?_
      refine o_cons (o_skip (fun _ _ => rfl)) ?_
      refine o_cons (o_skip (fun _ _ => rfl)) ?_
      refine o_cons (o_skip (fun _ _ => rfl)) ?_
      refine o_cons (o_q hflS (fun _ _ => rfl) (fun _ _ => rfl)) ?_
      exact o_nil
    intro σ4 gs4
    refine WL2.keep (env' := [(1, .pointer (some ⟨g1, 0, none⟩)), (2, .bool false), (3, .string (bs l)), (38, .bool true)]) ⟨rfl, rfl, rfl, rfl, trivial⟩ ?_
    refine h_nil (f_to (d_then rfl (d_reg ?_)))
    refine h_q hflS rfl ?_
    refine h_done (d_ret (f_then_ret ?_))
    exact f_fin1 (.tmp rfl) (fun w h => ⟨rfl, below0 h.up⟩) rfl
  · skip
    obtain rfl : r = false := by rw [← hR]; simp [mayB, h0]
    refine d_seq ?_
    refine d_par 32 7 [⟨.quiet, 0, fun _ => .string (bs l), []⟩, ⟨.quiet, 0, fun _ => .bool false, [0]⟩, ⟨.quiet, 0, fun _ => .bool false, [1]⟩, ⟨.quiet, 0, fun _ => .pointer (some ⟨g1, 1, none⟩), [2]⟩, ⟨.quiet, 0, fun _ => .int .u64 c.s, [3, 2]⟩, ⟨.call, 1, fun _ => .bool true, [4, 2]⟩, ⟨.quiet, 1, fun _ => .bool false, [5, 2]⟩, ⟨.quiet, 1, fun _ => .bool false, [2, 6]⟩, ⟨.quiet, 1, fun _ => .bool false, [7]⟩, ⟨.quiet, 1, fun _ => .string (bs l), [8]⟩, ⟨.call, 2, fun _ => .bool b2, [9, 8]⟩, ⟨.quiet, 1, fun _ => .pointer (some ⟨g1, 2, none⟩), [8]⟩, ⟨.quiet, 1, fun _ => .int .u64 c.q, [11, 8]⟩, ⟨.call, 3, fun _ => .bool true, [10, 12, 8]⟩, ⟨.quiet, 3, fun _ => .bool false, [13, 8]⟩, ⟨.quiet, 3, fun _ => .bool false, [8, 14]⟩, ⟨.quiet, 3, fun _ => .bool false, [15]⟩, ⟨.quiet, 3, fun _ => .string (bs l), [16]⟩, ⟨.call, 4, fun _ => .bool b6, [17, 16]⟩, ⟨.quiet, 3, fun _ => .pointer (some ⟨g1, 8, none⟩), [16]⟩, ⟨.quiet, 3, fun _ => .string (bs c.x), [19, 16]⟩, ⟨.call, 5, fun _ => .bool true, [18, 20, 16]⟩, ⟨.quiet, 5, fun _ => .bool false, [21, 16]⟩, ⟨.quiet, 5, fun _ => .bool false, [16, 22]⟩, ⟨.quiet, 5, fun _ => .bool false, [23]⟩, ⟨.quiet, 5, fun _ => .string (bs l), [24]⟩, ⟨.call, 6, fun _ => .bool b7, [25, 24]⟩, ⟨.quiet, 5, fun _ => .pointer (some ⟨g1, 9, none⟩), [24]⟩, ⟨.quiet, 5, fun _ => .string (bs c.y), [27, 24]⟩, ⟨.call, 7, fun _ => .bool false, [26, 28, 24]⟩, ⟨.quiet, 7, fun _ => .bool true, [29, 24]⟩, ⟨.quiet, 7, fun _ => .bool true, [24, 30]⟩] [(1, .pointer (some ⟨g1, 0, none⟩)), (2, .bool false), (3, .string (bs l))] (by kernel_rfl) (by kernel_rfl) ⟨rfl, rfl, rfl, trivial⟩ ?_ ?_
    · skip
      refine o_cons (o_q hflS (fun _ _ => rfl) (fun _ _ => rfl)) ?_
      refine o_cons (o_same (by rw [hl0]; simp [h0]) (fun _ _ => rfl) rfl (fun _ _ => rfl) (fun _ _ => rfl)) ?_
      refine o_cons (o_q hflS (fun _ _ => rfl) (fun _ _ => rfl)) ?_
      refine o_cons (o_q hflS (fun _ _ => rfl) (fun _ _ => rfl)) ?_
      refine o_cons (o_load 0 (reads_one ty_uint64 rfl) (fun _ _ => rfl) rfl (fun _ _ => rfl) rfl) ?_
      refine o_cons (o_call (ent_of Tryd.func24 (by kernel_rfl) rfl) (fun w hU => rnumber_any w true c.s _ (by simpa [mayB] using hv1)) (fun _ _ => rfl) rfl (fun _ _ => rfl) (fun _ _ => rfl)) ?_
      refine o_cons (o_q hflS (fun _ _ => rfl) (fun _ _ => rfl)) ?_
      refine o_cons (o_q hflS (fun _ _ => rfl) (fun _ _ => rfl)) ?_
      refine o_cons (o_q hflS (fun _ _ => rfl) (fun _ _ => rfl)) ?_
      refine o_cons (o_q hflS (fun _ _ => rfl) (fun _ _ => rfl)) ?_
      refine o_cons (o_call (ent_of Tryd.func25 (by kernel_rfl) rfl) (fun w hU => has_any w l [115, 101, 113] b2 ha2 hll) (fun _ _ => rfl) rfl (fun _ _ => rfl) (fun _ _ => rfl)) ?_
      refine o_cons (o_q hflS (fun _ _ => rfl) (fun _ _ => rfl)) ?_
      refine o_cons (o_load 0 (reads_one ty_uint64 rfl) (fun _ _ => rfl) rfl (fun _ _ => rfl) rfl) ?_
      refine o_cons (o_call (ent_of Tryd.func24 (by kernel_rfl) rfl) (fun w hU => rnumber_any w b2 c.q _ (by rw [hv2]; exact hm2)) (fun _ _ => rfl) rfl (fun _ _ => rfl) (fun _ _ => rfl)) ?_
      refine o_cons (o_q hflS (fun _ _ => rfl) (fun _ _ => rfl)) ?_
      refine o_cons (o_q hflS (fun _ _ => rfl) (fun _ _ => rfl)) ?_
      refine o_cons (o_q hflS (fun _ _ => rfl) (fun _ _ => rfl)) ?_
      refine o_cons (o_q hflS (fun _ _ => rfl) (fun _ _ => rfl)) ?_
      refine o_cons (o_call (ent_of Tryd.func25 (by kernel_rfl) rfl) (fun w hU => has_any w l [120] b6 ha6 hll) (fun _ _ => rfl) rfl (fun _ _ => rfl) (fun _ _ => rfl)) ?_
      refine o_cons (o_q hflS (fun _ _ => rfl) (fun _ _ => rfl)) ?_
      refine o_cons (o_load 0 (reads_one ty_string rfl) (fun _ _ => rfl) rfl (fun _ _ => rfl) rfl) ?_
      refine o_cons (o_call (ent_of Tryd.func26 (by kernel_rfl) rfl) (fun w hU => rnm_any w b6 c.x _ (by rw [hv6, hz6]; exact hm6) ho.x) (fun _ _ => rfl) rfl (fun _ _ => rfl) (fun _ _ => rfl)) ?_
      refine o_cons (o_q hflS (fun _ _ => rfl) (fun _ _ => rfl)) ?_
      refine o_cons (o_q hflS (fun _ _ => rfl) (fun _ _ => rfl)) ?_
      refine o_cons (o_q hflS (fun _ _ => rfl) (fun _ _ => rfl)) ?_
      refine o_cons (o_q hflS (fun _ _ => rfl) (fun _ _ => rfl)) ?_
      refine o_cons (o_call (ent_of Tryd.func25 (by kernel_rfl) rfl) (fun w hU => has_any w l [121] b7 ha7 hll) (fun _ _ => rfl) rfl (fun _ _ => rfl) (fun _ _ => rfl)) ?_
      refine o_cons (o_q hflS (fun _ _ => rfl) (fun _ _ => rfl)) ?_
      refine o_cons (o_load 0 (reads_one ty_string rfl) (fun _ _ => rfl) rfl (fun _ _ => rfl) rfl) ?_
      refine o_cons (o_call (ent_of Tryd.func26 (by kernel_rfl) rfl) (fun w hU => rnm_any w b7 c.y _ (by rw [hv7, hz7]; exact hm7) ho.y) (fun _ _ => rfl) rfl (fun _ _ => rfl) (fun _ _ => rfl)) ?_
      refine o_cons (o_q hflS (fun _ _ => rfl) (fun _ _ => rfl)) ?_
      refine o_cons (o_q hflS (fun _ _ => rfl) (fun _ _ => rfl)) ?_
      exact o_nil
    intro σ5 gs5
    refine WL2.keep (env' := [(1, .pointer (some ⟨g1, 0, none⟩)), (2, .bool false), (3, .string (bs l)), (38, .bool true)]) ⟨rfl, rfl, rfl, rfl, trivial⟩ ?_
    refine h_nil (f_to (d_then rfl (d_reg ?_)))
    refine h_q hflS rfl ?_
    refine h_done (d_ret (f_then_ret ?_))
    exact f_fin1 (.tmp rfl) (fun w h => ⟨rfl, below0 h.up⟩) rfl
  · skip
    obtain rfl := hs1 h0
    refine d_seq ?_
    refine d_par 32 7 [⟨.quiet, 0, fun _ => .string (bs l), []⟩, ⟨.quiet, 0, fun _ => .bool false, [0]⟩, ⟨.quiet, 0, fun _ => .bool false, [1]⟩, ⟨.quiet, 0, fun _ => .pointer (some ⟨g1, 1, none⟩), [2]⟩, ⟨.quiet, 0, fun _ => .int .u64 c.s, [3, 2]⟩, ⟨.call, 1, fun _ => .bool true, [4, 2]⟩, ⟨.quiet, 1, fun _ => .bool false, [5, 2]⟩, ⟨.quiet, 1, fun _ => .bool false, [2, 6]⟩, ⟨.quiet, 1, fun _ => .bool false, [7]⟩, ⟨.quiet, 1, fun _ => .string (bs l), [8]⟩, ⟨.call, 2, fun _ => .bool b2, [9, 8]⟩, ⟨.quiet, 1, fun _ => .pointer (some ⟨g1, 2, none⟩), [8]⟩, ⟨.quiet, 1, fun _ => .int .u64 c.q, [11, 8]⟩, ⟨.call, 3, fun _ => .bool true, [10, 12, 8]⟩, ⟨.quiet, 3, fun _ => .bool false, [13, 8]⟩, ⟨.quiet, 3, fun _ => .bool false, [8, 14]⟩, ⟨.quiet, 3, fun _ => .bool false, [15]⟩, ⟨.quiet, 3, fun _ => .string (bs l), [16]⟩, ⟨.call, 4, fun _ => .bool b6, [17, 16]⟩, ⟨.quiet, 3, fun _ => .pointer (some ⟨g1, 8, none⟩), [16]⟩, ⟨.quiet, 3, fun _ => .string (bs c.x), [19, 16]⟩, ⟨.call, 5, fun _ => .bool true, [18, 20, 16]⟩, ⟨.quiet, 5, fun _ => .bool false, [21, 16]⟩, ⟨.quiet, 5, fun _ => .bool false, [16, 22]⟩, ⟨.quiet, 5, fun _ => .bool false, [23]⟩, ⟨.quiet, 5, fun _ => .string (bs l), [24]⟩, ⟨.call, 6, fun _ => .bool b7, [25, 24]⟩, ⟨.quiet, 5, fun _ => .pointer (some ⟨g1, 9, none⟩), [24]⟩, ⟨.quiet, 5, fun _ => .string (bs c.y), [27, 24]⟩, ⟨.call, 7, fun _ => .bool true, [26, 28, 24]⟩, ⟨.quiet, 7, fun _ => .bool false, [29, 24]⟩, ⟨.quiet, 7, fun _ => .bool false, [24, 30]⟩] [(1, .pointer (some ⟨g1, 0, none⟩)), (2, .bool false), (3, .string (bs l))] (by kernel_rfl) (by kernel_rfl) ⟨rfl, rfl, rfl, trivial⟩ ?_ ?_
    · skip
      refine o_cons (o_q hflS (fun _ _ => rfl) (fun _ _ => rfl)) ?_
      refine o_cons (o_same (by rw [hl0]; simp [h0]) (fun _ _ => rfl) rfl (fun _ _ => rfl) (fun _ _ => rfl)) ?_
      refine o_cons (o_q hflS (fun _ _ => rfl) (fun _ _ => rfl)) ?_
      refine o_cons (o_q hflS (fun _ _ => rfl) (fun _ _ => rfl)) ?_
      refine o_cons (o_load 0 (reads_one ty_uint64 rfl) (fun _ _ => rfl) rfl (fun _ _ => rfl) rfl) ?_
      refine o_cons (o_call (ent_of Tryd.func24 (by kernel_rfl) rfl) (fun w hU => rnumber_any w true c.s _ (by simpa [mayB] using hv1)) (fun _ _ => rfl) rfl (fun _ _ => rfl) (fun _ _ => rfl)) ?_
      refine o_cons (o_q hflS (fun _ _ => rfl) (fun _ _ => rfl)) ?_
      refine o_cons (o_q hflS (fun _ _ => rfl) (fun _ _ => rfl)) ?_
      refine o_cons (o_q hflS (fun _ _ => rfl) (fun _ _ => rfl)) ?_
      refine o_cons (o_q hflS (fun _ _ => rfl) (fun _ _ => rfl)) ?_
      refine o_cons (o_call (ent_of Tryd.func25 (by kernel_rfl) rfl) (fun w hU => has_any w l [115, 101, 113] b2 ha2 hll) (fun _ _ => rfl) rfl (fun _ _ => rfl) (fun _ _ => rfl)) ?_
      refine o_cons (o_q hflS (fun _ _ => rfl) (fun _ _ => rfl)) ?_
      refine o_cons (o_load 0 (reads_one ty_uint64 rfl) (fun _ _ => rfl) rfl (fun _ _ => rfl) rfl) ?_
      refine o_cons (o_call (ent_of Tryd.func24 (by kernel_rfl) rfl) (fun w hU => rnumber_any w b2 c.q _ (by rw [hv2]; exact hm2)) (fun _ _ => rfl) rfl (fun _ _ => rfl) (fun _ _ => rfl)) ?_
      refine o_cons (o_q hflS (fun _ _ => rfl) (fun _ _ => rfl)) ?_
      refine o_cons (o_q hflS (fun _ _ => rfl) (fun _ _ => rfl)) ?_
      refine o_cons (o_q hflS (fun _ _ => rfl) (fun _ _ => rfl)) ?_
      refine o_cons (o_q hflS (fun _ _ => rfl) (fun _ _ => rfl)) ?_
      refine o_cons (o_call (ent_of Tryd.func25 (by kernel_rfl) rfl) (fun w hU => has_any w l [120] b6 ha6 hll) (fun _ _ => rfl) rfl (fun _ _ => rfl) (fun _ _ => rfl)) ?_
      refine o_cons (o_q hflS (fun _ _ => rfl) (fun _ _ => rfl)) ?_
      refine o_cons (o_load 0 (reads_one ty_string rfl) (fun _ _ => rfl) rfl (fun _ _ => rfl) rfl) ?_
      refine o_cons (o_call (ent_of Tryd.func26 (by kernel_rfl) rfl) (fun w hU => rnm_any w b6 c.x _ (by rw [hv6, hz6]; exact hm6) ho.x) (fun _ _ => rfl) rfl (fun _ _ => rfl) (fun _ _ => rfl)) ?_
      refine o_cons (o_q hflS (fun _ _ => rfl) (fun _ _ => rfl)) ?_
      refine o_cons (o_q hflS (fun _ _ => rfl) (fun _ _ => rfl)) ?_
      refine o_cons (o_q hflS (fun _ _ => rfl) (fun _ _ => rfl)) ?_
      refine o_cons (o_q hflS (fun _ _ => rfl) (fun _ _ => rfl)) ?_
      refine o_cons (o_call (ent_of Tryd.func25 (by kernel_rfl) rfl) (fun w hU => has_any w l [121] b7 ha7 hll) (fun _ _ => rfl) rfl (fun _ _ => rfl) (fun _ _ => rfl)) ?_
      refine o_cons (o_q hflS (fun _ _ => rfl) (fun _ _ => rfl)) ?_
      refine o_cons (o_load 0 (reads_one ty_string rfl) (fun _ _ => rfl) rfl (fun _ _ => rfl) rfl) ?_
      refine o_cons (o_call (ent_of Tryd.func26 (by kernel_rfl) rfl) (fun w hU => rnm_any w b7 c.y _ (by rw [hv7, hz7]; exact hm7) ho.y) (fun _ _ => rfl) rfl (fun _ _ => rfl) (fun _ _ => rfl)) ?_
      refine o_cons (o_q hflS (fun _ _ => rfl) (fun _ _ => rfl)) ?_
      refine o_cons (o_q hflS (fun _ _ => rfl) (fun _ _ => rfl)) ?_
      exact o_nil
    intro σ6 gs6
    refine WL2.keep (env' := [(1, .pointer (some ⟨g1, 0, none⟩)), (2, .bool false), (3, .string (bs l)), (38, .bool false)]) ⟨rfl, rfl, rfl, rfl, trivial⟩ ?_
    refine h_nil (f_to (d_else rfl (d_skip (f_to (d_seq ?_)))))
    rcases ways7 b3 b4 c.a c.b with ⟨rfl, p0⟩ | ⟨rfl, rfl, q0⟩ | ⟨rfl, rfl, q0⟩ | ⟨rfl, rfl⟩ | ⟨rfl, p0, rfl, q0⟩ | ⟨rfl, p0, rfl, q0⟩ | ⟨rfl, p0, rfl⟩
    · skip
      obtain rfl : r = false := by rw [← hR, ← hm3, ← hm4]; simp [mayB, p0]
      refine d_reg ?_
      refine h_q hflS rfl ?_
      refine h_act (post := fun _ => [cell g1 28 #[.int .i64 c.k, .int .u64 c.s, .int .u64 c.q, .int .u64 c.a, .int .u64 c.b, .int .i64 c.hi, .int .u64 c.lo, .int .i64 c.sc, .string (bs c.x), .string (bs c.y)]]) rfl (a_call (ent_of Tryd.func25 (by kernel_rfl) rfl) (fun w hH => has_any w l [97] false ha3 hll) rfl rfl rfl) ?_; rintro ⟨⟩
      refine h_q hflS rfl ?_
      refine h_val rfl (.int .u64 c.a) (fun b w hb hH => exec_load rfl rfl (reads_one ty_uint64 rfl) (hH.row 0 rfl) hb) ?_
      refine h_val rfl (.bool true) (fun b w hb hH => exec_cmp rfl rfl rfl (cmp_neq_t p0) hb) ?_
      refine h_q hflS rfl ?_
      refine h_done (d_then rfl (d_reg ?_))
      refine h_q hflS rfl ?_
      refine h_done (d_ret (f_then_ret ?_))
      exact f_fin1 (.tmp rfl) (fun w h => ⟨rfl, below0 h.up⟩) rfl
    · skip
      obtain rfl : r = false := by rw [← hR, ← hm3, ← hm4]; simp [mayB, q0]
      refine d_reg ?_
      refine h_q hflS rfl ?_
      refine h_act (post := fun _ => [cell g1 28 #[.int .i64 c.k, .int .u64 c.s, .int .u64 c.q, .int .u64 c.a, .int .u64 c.b, .int .i64 c.hi, .int .u64 c.lo, .int .i64 c.sc, .string (bs c.x), .string (bs c.y)]]) rfl (a_call (ent_of Tryd.func25 (by kernel_rfl) rfl) (fun w hH => has_any w l [97] true ha3 hll) rfl rfl rfl) ?_; rintro ⟨⟩
      refine h_q hflS rfl ?_
      refine h_act (post := fun _ => [cell g1 28 #[.int .i64 c.k, .int .u64 c.s, .int .u64 c.q, .int .u64 c.a, .int .u64 c.b, .int .i64 c.hi, .int .u64 c.lo, .int .i64 c.sc, .string (bs c.x), .string (bs c.y)]]) rfl (a_call (ent_of Tryd.func25 (by kernel_rfl) rfl) (fun w hH => has_any w l [98] false ha4 hll) rfl rfl rfl) ?_; rintro ⟨⟩
      refine h_q hflS rfl ?_
      refine h_val rfl (.int .u64 c.b) (fun b w hb hH => exec_load rfl rfl (reads_one ty_uint64 rfl) (hH.row 0 rfl) hb) ?_
      refine h_val rfl (.bool true) (fun b w hb hH => exec_cmp rfl rfl rfl (cmp_neq_t q0) hb) ?_
      refine h_q hflS rfl ?_
      refine h_done (d_then rfl (d_reg ?_))
      refine h_q hflS rfl ?_
      refine h_done (d_ret (f_then_ret ?_))
      exact f_fin1 (.tmp rfl) (fun w h => ⟨rfl, below0 h.up⟩) rfl
    · skip
      refine d_reg ?_
      refine h_q hflS rfl ?_
      refine h_act (post := fun _ => [cell g1 28 #[.int .i64 c.k, .int .u64 c.s, .int .u64 c.q, .int .u64 c.a, .int .u64 c.b, .int .i64 c.hi, .int .u64 c.lo, .int .i64 c.sc, .string (bs c.x), .string (bs c.y)]]) rfl (a_call (ent_of Tryd.func25 (by kernel_rfl) rfl) (fun w hH => has_any w l [97] true ha3 hll) rfl rfl rfl) ?_; rintro ⟨⟩
      refine h_q hflS rfl ?_
      refine h_act (post := fun _ => [cell g1 28 #[.int .i64 c.k, .int .u64 c.s, .int .u64 c.q, .int .u64 c.a, .int .u64 c.b, .int .i64 c.hi, .int .u64 c.lo, .int .i64 c.sc, .string (bs c.x), .string (bs c.y)]]) rfl (a_call (ent_of Tryd.func25 (by kernel_rfl) rfl) (fun w hH => has_any w l [98] false ha4 hll) rfl rfl rfl) ?_; rintro ⟨⟩
      refine h_q hflS rfl ?_
      refine h_val rfl (.int .u64 c.b) (fun b w hb hH => exec_load rfl rfl (reads_one ty_uint64 rfl) (hH.row 0 rfl) hb) ?_
      refine h_val rfl (.bool false) (fun b w hb hH => exec_cmp rfl rfl rfl (cmp_neq_f q0) hb) ?_
      refine h_q hflS rfl ?_
      refine h_done (d_else rfl (d_skip (f_to (d_seq ?_))))
      cases b5
      · skip
        have hrz : r = z5 := by rw [← hR, ← hm1, ← hm3, ← hm4, ← hm5]; simp [mayB, h0, q0]
        refine d_reg ?_
        refine h_q hflS rfl ?_
        refine h_act (post := fun _ => [cell g1 28 #[.int .i64 c.k, .int .u64 c.s, .int .u64 c.q, .int .u64 c.a, .int .u64 c.b, .int .i64 c.hi, .int .u64 c.lo, .int .i64 c.sc, .string (bs c.x), .string (bs c.y)]]) rfl (a_call (ent_of Tryd.func25 (by kernel_rfl) rfl) (fun w hH => has_any w l [97, 109, 111, 117, 110, 116] false ha5 hll) rfl rfl rfl) ?_; rintro ⟨⟩
        refine h_q hflS rfl ?_
        refine h_done (d_then rfl (d_reg ?_))
        refine h_q hflS rfl ?_
        refine h_val rfl (.agg #[.int .i64 c.hi, .int .u64 c.lo, .int .i64 c.sc]) (fun b w hb hH => exec_load rfl rfl (reads_agg (cs := [.int .i64 c.k, .int .u64 c.s, .int .u64 c.q, .int .u64 c.a, .int .u64 c.b, .int .i64 c.hi, .int .u64 c.lo, .int .i64 c.sc, .string (bs c.x), .string (bs c.y)]) ty_api_Dec rfl) (hH.row 0 rfl) hb) ?_
        refine h_val rfl (.agg #[.int .i64 0, .int .u64 0, .int .i64 0]) (fun b w hb hH => exec_build rfl rfl (by kernel_rfl) hb) ?_
        refine h_val rfl (.bool z5) (fun b w hb hH => exec_eqs (eqDz c z5 hz5) rfl rfl rfl hb) ?_
        refine h_q hflS rfl ?_
        refine h_done (d_ret (f_then_ret ?_))
        exact f_fin1 (.tmp rfl) (fun w h => ⟨by rw [hrz], below0 h.up⟩) rfl
      · skip
        obtain rfl : r = v5 := by rw [← hR, ← hm1, ← hm3, ← hm4, ← hm5]; simp [mayB, h0, q0]
        refine d_reg ?_
        refine h_q hflS rfl ?_
        refine h_act (post := fun _ => [cell g1 28 #[.int .i64 c.k, .int .u64 c.s, .int .u64 c.q, .int .u64 c.a, .int .u64 c.b, .int .i64 c.hi, .int .u64 c.lo, .int .i64 c.sc, .string (bs c.x), .string (bs c.y)]]) rfl (a_call (ent_of Tryd.func25 (by kernel_rfl) rfl) (fun w hH => has_any w l [97, 109, 111, 117, 110, 116] true ha5 hll) rfl rfl rfl) ?_; rintro ⟨⟩
        refine h_q hflS rfl ?_
        refine h_done (d_else rfl (d_skip (f_to ?_)))
        have hc : c.sc < 0 ∨ (0 ≤ c.sc ∧ c.sc ≤ 18) ∨ 18 < c.sc := by omega
        rcases hc with q1 | ⟨q1, q2⟩ | q1
        · skip
          obtain rfl : r = false := by rw [← hv5]; simp [scB]; omega
          refine d_reg ?_
          refine h_q hflS rfl ?_
          refine h_val rfl (.int .i64 c.sc) (fun b w hb hH => exec_load rfl rfl (reads_one ty_int rfl) (hH.row 0 rfl) hb) ?_
          refine h_val rfl (.bool false) (fun b w hb hH => exec_cmp rfl rfl rfl (cmp_geq_f (by omega)) hb) ?_
          refine h_q hflS rfl ?_
          refine h_done (d_ret ?_)
          exact f_fin1 (.tmp rfl) (fun w h => ⟨rfl, below0 h.up⟩) rfl
        · skip
          obtain rfl : r = true := by rw [← hv5]; simp [scB]; omega
          refine d_reg ?_
          refine h_q hflS rfl ?_
          refine h_val rfl (.int .i64 c.sc) (fun b w hb hH => exec_load rfl rfl (reads_one ty_int rfl) (hH.row 0 rfl) hb) ?_
          refine h_val rfl (.bool true) (fun b w hb hH => exec_cmp rfl rfl rfl (cmp_geq_t (by omega)) hb) ?_
          refine h_q hflS rfl ?_
          refine h_val rfl (.int .i64 c.sc) (fun b w hb hH => exec_load rfl rfl (reads_one ty_int rfl) (hH.row 0 rfl) hb) ?_
          refine h_val rfl (.bool true) (fun b w hb hH => exec_cmp rfl rfl rfl (cmp_leq_t (by omega)) hb) ?_
          refine h_q hflS rfl ?_
          refine h_done (d_ret ?_)
          exact f_fin1 (.tmp rfl) (fun w h => ⟨rfl, below0 h.up⟩) rfl
        · skip
          obtain rfl : r = false := by rw [← hv5]; simp [scB]; omega
          refine d_reg ?_
          refine h_q hflS rfl ?_
          refine h_val rfl (.int .i64 c.sc) (fun b w hb hH => exec_load rfl rfl (reads_one ty_int rfl) (hH.row 0 rfl) hb) ?_
          refine h_val rfl (.bool true) (fun b w hb hH => exec_cmp rfl rfl rfl (cmp_geq_t (by omega)) hb) ?_
          refine h_q hflS rfl ?_
          refine h_val rfl (.int .i64 c.sc) (fun b w hb hH => exec_load rfl rfl (reads_one ty_int rfl) (hH.row 0 rfl) hb) ?_
          refine h_val rfl (.bool false) (fun b w hb hH => exec_cmp rfl rfl rfl (cmp_leq_f (by omega)) hb) ?_
          refine h_q hflS rfl ?_
          refine h_done (d_ret ?_)
          exact f_fin1 (.tmp rfl) (fun w h => ⟨rfl, below0 h.up⟩) rfl
    · skip
      refine d_reg ?_
      refine h_q hflS rfl ?_
      refine h_act (post := fun _ => [cell g1 28 #[.int .i64 c.k, .int .u64 c.s, .int .u64 c.q, .int .u64 c.a, .int .u64 c.b, .int .i64 c.hi, .int .u64 c.lo, .int .i64 c.sc, .string (bs c.x), .string (bs c.y)]]) rfl (a_call (ent_of Tryd.func25 (by kernel_rfl) rfl) (fun w hH => has_any w l [97] true ha3 hll) rfl rfl rfl) ?_; rintro ⟨⟩
      refine h_q hflS rfl ?_
      refine h_act (post := fun _ => [cell g1 28 #[.int .i64 c.k, .int .u64 c.s, .int .u64 c.q, .int .u64 c.a, .int .u64 c.b, .int .i64 c.hi, .int .u64 c.lo, .int .i64 c.sc, .string (bs c.x), .string (bs c.y)]]) rfl (a_call (ent_of Tryd.func25 (by kernel_rfl) rfl) (fun w hH => has_any w l [98] true ha4 hll) rfl rfl rfl) ?_; rintro ⟨⟩
      refine h_q hflS rfl ?_
      refine h_done (d_else rfl (d_skip (f_to (d_seq ?_))))
      cases b5
      · skip
        have hrz : r = z5 := by rw [← hR, ← hm1, ← hm3, ← hm4, ← hm5]; simp [mayB, h0, hs1]
        refine d_reg ?_
        refine h_q hflS rfl ?_
        refine h_act (post := fun _ => [cell g1 28 #[.int .i64 c.k, .int .u64 c.s, .int .u64 c.q, .int .u64 c.a, .int .u64 c.b, .int .i64 c.hi, .int .u64 c.lo, .int .i64 c.sc, .string (bs c.x), .string (bs c.y)]]) rfl (a_call (ent_of Tryd.func25 (by kernel_rfl) rfl) (fun w hH => has_any w l [97, 109, 111, 117, 110, 116] false ha5 hll) rfl rfl rfl) ?_; rintro ⟨⟩
        refine h_q hflS rfl ?_
        refine h_done (d_then rfl (d_reg ?_))
        refine h_q hflS rfl ?_
        refine h_val rfl (.agg #[.int .i64 c.hi, .int .u64 c.lo, .int .i64 c.sc]) (fun b w hb hH => exec_load rfl rfl (reads_agg (cs := [.int .i64 c.k, .int .u64 c.s, .int .u64 c.q, .int .u64 c.a, .int .u64 c.b, .int .i64 c.hi, .int .u64 c.lo, .int .i64 c.sc, .string (bs c.x), .string (bs c.y)]) ty_api_Dec rfl) (hH.row 0 rfl) hb) ?_
        refine h_val rfl (.agg #[.int .i64 0, .int .u64 0, .int .i64 0]) (fun b w hb hH => exec_build rfl rfl (by kernel_rfl) hb) ?_
        refine h_val rfl (.bool z5) (fun b w hb hH => exec_eqs (eqDz c z5 hz5) rfl rfl rfl hb) ?_
        refine h_q hflS rfl ?_
        refine h_done (d_ret (f_then_ret ?_))
        exact f_fin1 (.tmp rfl) (fun w h => ⟨by rw [hrz], below0 h.up⟩) rfl
      · skip
        obtain rfl : r = v5 := by rw [← hR, ← hm1, ← hm3, ← hm4, ← hm5]; simp [mayB, h0, hs1]
        refine d_reg ?_
        refine h_q hflS rfl ?_
        refine h_act (post := fun _ => [cell g1 28 #[.int .i64 c.k, .int .u64 c.s, .int .u64 c.q, .int .u64 c.a, .int .u64 c.b, .int .i64 c.hi, .int .u64 c.lo, .int .i64 c.sc, .string (bs c.x), .string (bs c.y)]]) rfl (a_call (ent_of Tryd.func25 (by kernel_rfl) rfl) (fun w hH => has_any w l [97, 109, 111, 117, 110, 116] true ha5 hll) rfl rfl rfl) ?_; rintro ⟨⟩
        refine h_q hflS rfl ?_
        refine h_done (d_else rfl (d_skip (f_to ?_)))
        have hc : c.sc < 0 ∨ (0 ≤ c.sc ∧ c.sc ≤ 18) ∨ 18 < c.sc := by omega
        rcases hc with q1 | ⟨q1, q2⟩ | q1
        · skip
          obtain rfl : r = false := by rw [← hv5]; simp [scB]; omega
          refine d_reg ?_
          refine h_q hflS rfl ?_
          refine h_val rfl (.int .i64 c.sc) (fun b w hb hH => exec_load rfl rfl (reads_one ty_int rfl) (hH.row 0 rfl) hb) ?_
          refine h_val rfl (.bool false) (fun b w hb hH => exec_cmp rfl rfl rfl (cmp_geq_f (by omega)) hb) ?_
          refine h_q hflS rfl ?_
          refine h_done (d_ret ?_)
          exact f_fin1 (.tmp rfl) (fun w h => ⟨rfl, below0 h.up⟩) rfl
        · skip
          obtain rfl : r = true := by rw [← hv5]; simp [scB]; omega
          refine d_reg ?_
          refine h_q hflS rfl ?_
          refine h_val rfl (.int .i64 c.sc) (fun b w hb hH => exec_load rfl rfl (reads_one ty_int rfl) (hH.row 0 rfl) hb) ?_
          refine h_val rfl (.bool true) (fun b w hb hH => exec_cmp rfl rfl rfl (cmp_geq_t (by omega)) hb) ?_
          refine h_q hflS rfl ?_
          refine h_val rfl (.int .i64 c.sc) (fun b w hb hH => exec_load rfl rfl (reads_one ty_int rfl) (hH.row 0 rfl) hb) ?_
          refine h_val rfl (.bool true) (fun b w hb hH => exec_cmp rfl rfl rfl (cmp_leq_t (by omega)) hb) ?_
          refine h_q hflS rfl ?_
          refine h_done (d_ret ?_)
          exact f_fin1 (.tmp rfl) (fun w h => ⟨rfl, below0 h.up⟩) rfl
        · skip
          obtain rfl : r = false := by rw [← hv5]; simp [scB]; omega
          refine d_reg ?_
          refine h_q hflS rfl ?_
          refine h_val rfl (.int .i64 c.sc) (fun b w hb hH => exec_load rfl rfl (reads_one ty_int rfl) (hH.row 0 rfl) hb) ?_
          refine h_val rfl (.bool true) (fun b w hb hH => exec_cmp rfl rfl rfl (cmp_geq_t (by omega)) hb) ?_
          refine h_q hflS rfl ?_
          refine h_val rfl (.int .i64 c.sc) (fun b w hb hH => exec_load rfl rfl (reads_one ty_int rfl) (hH.row 0 rfl) hb) ?_
          refine h_val rfl (.bool false) (fun b w hb hH => exec_cmp rfl rfl rfl (cmp_leq_f (by omega)) hb) ?_
          refine h_q hflS rfl ?_
          refine h_done (d_ret ?_)
          exact f_fin1 (.tmp rfl) (fun w h => ⟨rfl, below0 h.up⟩) rfl
    · skip
      obtain rfl : r = false := by rw [← hR, ← hm3, ← hm4]; simp [mayB, p0, q0]
      refine d_reg ?_
      refine h_q hflS rfl ?_
      refine h_act (post := fun _ => [cell g1 28 #[.int .i64 c.k, .int .u64 c.s, .int .u64 c.q, .int .u64 c.a, .int .u64 c.b, .int .i64 c.hi, .int .u64 c.lo, .int .i64 c.sc, .string (bs c.x), .string (bs c.y)]]) rfl (a_call (ent_of Tryd.func25 (by kernel_rfl) rfl) (fun w hH => has_any w l [97] false ha3 hll) rfl rfl rfl) ?_; rintro ⟨⟩
      refine h_q hflS rfl ?_
      refine h_val rfl (.int .u64 c.a) (fun b w hb hH => exec_load rfl rfl (reads_one ty_uint64 rfl) (hH.row 0 rfl) hb) ?_
      refine h_val rfl (.bool false) (fun b w hb hH => exec_cmp rfl rfl rfl (cmp_neq_f p0) hb) ?_
      refine h_q hflS rfl ?_
      refine h_act (post := fun _ => [cell g1 28 #[.int .i64 c.k, .int .u64 c.s, .int .u64 c.q, .int .u64 c.a, .int .u64 c.b, .int .i64 c.hi, .int .u64 c.lo, .int .i64 c.sc, .string (bs c.x), .string (bs c.y)]]) rfl (a_call (ent_of Tryd.func25 (by kernel_rfl) rfl) (fun w hH => has_any w l [98] false ha4 hll) rfl rfl rfl) ?_; rintro ⟨⟩
      refine h_q hflS rfl ?_
      refine h_val rfl (.int .u64 c.b) (fun b w hb hH => exec_load rfl rfl (reads_one ty_uint64 rfl) (hH.row 0 rfl) hb) ?_
      refine h_val rfl (.bool true) (fun b w hb hH => exec_cmp rfl rfl rfl (cmp_neq_t q0) hb) ?_
      refine h_q hflS rfl ?_
      refine h_done (d_then rfl (d_reg ?_))
      refine h_q hflS rfl ?_
      refine h_done (d_ret (f_then_ret ?_))
      exact f_fin1 (.tmp rfl) (fun w h => ⟨rfl, below0 h.up⟩) rfl
    · skip
      refine d_reg ?_
      refine h_q hflS rfl ?_
      refine h_act (post := fun _ => [cell g1 28 #[.int .i64 c.k, .int .u64 c.s, .int .u64 c.q, .int .u64 c.a, .int .u64 c.b, .int .i64 c.hi, .int .u64 c.lo, .int .i64 c.sc, .string (bs c.x), .string (bs c.y)]]) rfl (a_call (ent_of Tryd.func25 (by kernel_rfl) rfl) (fun w hH => has_any w l [97] false ha3 hll) rfl rfl rfl) ?_; rintro ⟨⟩
      refine h_q hflS rfl ?_
      refine h_val rfl (.int .u64 c.a) (fun b w hb hH => exec_load rfl rfl (reads_one ty_uint64 rfl) (hH.row 0 rfl) hb) ?_
      refine h_val rfl (.bool false) (fun b w hb hH => exec_cmp rfl rfl rfl (cmp_neq_f p0) hb) ?_
      refine h_q hflS rfl ?_
      refine h_act (post := fun _ => [cell g1 28 #[.int .i64 c.k, .int .u64 c.s, .int .u64 c.q, .int .u64 c.a, .int .u64 c.b, .int .i64 c.hi, .int .u64 c.lo, .int .i64 c.sc, .string (bs c.x), .string (bs c.y)]]) rfl (a_call (ent_of Tryd.func25 (by kernel_rfl) rfl) (fun w hH => has_any w l [98] false ha4 hll) rfl rfl rfl) ?_; rintro ⟨⟩
      refine h_q hflS rfl ?_
      refine h_val rfl (.int .u64 c.b) (fun b w hb hH => exec_load rfl rfl (reads_one ty_uint64 rfl) (hH.row 0 rfl) hb) ?_
      refine h_val rfl (.bool false) (fun b w hb hH => exec_cmp rfl rfl rfl (cmp_neq_f q0) hb) ?_
      refine h_q hflS rfl ?_
      refine h_done (d_else rfl (d_skip (f_to (d_seq ?_))))
      cases b5
      · skip
        have hrz : r = z5 := by rw [← hR, ← hm1, ← hm3, ← hm4, ← hm5]; simp [mayB, h0, p0, q0]
        refine d_reg ?_
        refine h_q hflS rfl ?_
        refine h_act (post := fun _ => [cell g1 28 #[.int .i64 c.k, .int .u64 c.s, .int .u64 c.q, .int .u64 c.a, .int .u64 c.b, .int .i64 c.hi, .int .u64 c.lo, .int .i64 c.sc, .string (bs c.x), .string (bs c.y)]]) rfl (a_call (ent_of Tryd.func25 (by kernel_rfl) rfl) (fun w hH => has_any w l [97, 109, 111, 117, 110, 116] false ha5 hll) rfl rfl rfl) ?_; rintro ⟨⟩
        refine h_q hflS rfl ?_
        refine h_done (d_then rfl (d_reg ?_))
        refine h_q hflS rfl ?_
        refine h_val rfl (.agg #[.int .i64 c.hi, .int .u64 c.lo, .int .i64 c.sc]) (fun b w hb hH => exec_load rfl rfl (reads_agg (cs := [.int .i64 c.k, .int .u64 c.s, .int .u64 c.q, .int .u64 c.a, .int .u64 c.b, .int .i64 c.hi, .int .u64 c.lo, .int .i64 c.sc, .string (bs c.x), .string (bs c.y)]) ty_api_Dec rfl) (hH.row 0 rfl) hb) ?_
        refine h_val rfl (.agg #[.int .i64 0, .int .u64 0, .int .i64 0]) (fun b w hb hH => exec_build rfl rfl (by kernel_rfl) hb) ?_
        refine h_val rfl (.bool z5) (fun b w hb hH => exec_eqs (eqDz c z5 hz5) rfl rfl rfl hb) ?_
        refine h_q hflS rfl ?_
        refine h_done (d_ret (f_then_ret ?_))
        exact f_fin1 (.tmp rfl) (fun w h => ⟨by rw [hrz], below0 h.up⟩) rfl
      · skip
        obtain rfl : r = v5 := by rw [← hR, ← hm1, ← hm3, ← hm4, ← hm5]; simp [mayB, h0, p0, q0]
        refine d_reg ?_
        refine h_q hflS rfl ?_
        refine h_act (post := fun _ => [cell g1 28 #[.int .i64 c.k, .int .u64 c.s, .int .u64 c.q, .int .u64 c.a, .int .u64 c.b, .int .i64 c.hi, .int .u64 c.lo, .int .i64 c.sc, .string (bs c.x), .string (bs c.y)]]) rfl (a_call (ent_of Tryd.func25 (by kernel_rfl) rfl) (fun w hH => has_any w l [97, 109, 111, 117, 110, 116] true ha5 hll) rfl rfl rfl) ?_; rintro ⟨⟩
        refine h_q hflS rfl ?_
        refine h_done (d_else rfl (d_skip (f_to ?_)))
        have hc : c.sc < 0 ∨ (0 ≤ c.sc ∧ c.sc ≤ 18) ∨ 18 < c.sc := by omega
        rcases hc with q1 | ⟨q1, q2⟩ | q1
        · skip
          obtain rfl : r = false := by rw [← hv5]; simp [scB]; omega
          refine d_reg ?_
          refine h_q hflS rfl ?_
          refine h_val rfl (.int .i64 c.sc) (fun b w hb hH => exec_load rfl rfl (reads_one ty_int rfl) (hH.row 0 rfl) hb) ?_
          refine h_val rfl (.bool false) (fun b w hb hH => exec_cmp rfl rfl rfl (cmp_geq_f (by omega)) hb) ?_
          refine h_q hflS rfl ?_
          refine h_done (d_ret ?_)
          exact f_fin1 (.tmp rfl) (fun w h => ⟨rfl, below0 h.up⟩) rfl
        · skip
          obtain rfl : r = true := by rw [← hv5]; simp [scB]; omega
          refine d_reg ?_
          refine h_q hflS rfl ?_
          refine h_val rfl (.int .i64 c.sc) (fun b w hb hH => exec_load rfl rfl (reads_one ty_int rfl) (hH.row 0 rfl) hb) ?_
          refine h_val rfl (.bool true) (fun b w hb hH => exec_cmp rfl rfl rfl (cmp_geq_t (by omega)) hb) ?_
          refine h_q hflS rfl ?_
          refine h_val rfl (.int .i64 c.sc) (fun b w hb hH => exec_load rfl rfl (reads_one ty_int rfl) (hH.row 0 rfl) hb) ?_
          refine h_val rfl (.bool true) (fun b w hb hH => exec_cmp rfl rfl rfl (cmp_leq_t (by omega)) hb) ?_
          refine h_q hflS rfl ?_
          refine h_done (d_ret ?_)
          exact f_fin1 (.tmp rfl) (fun w h => ⟨rfl, below0 h.up⟩) rfl
        · skip
          obtain rfl : r = false := by rw [← hv5]; simp [scB]; omega
          refine d_reg ?_
          refine h_q hflS rfl ?_
          refine h_val rfl (.int .i64 c.sc) (fun b w hb hH => exec_load rfl rfl (reads_one ty_int rfl) (hH.row 0 rfl) hb) ?_
          refine h_val rfl (.bool true) (fun b w hb hH => exec_cmp rfl rfl rfl (cmp_geq_t (by omega)) hb) ?_
          refine h_q hflS rfl ?_
          refine h_val rfl (.int .i64 c.sc) (fun b w hb hH => exec_load rfl rfl (reads_one ty_int rfl) (hH.row 0 rfl) hb) ?_
          refine h_val rfl (.bool false) (fun b w hb hH => exec_cmp rfl rfl rfl (cmp_leq_f (by omega)) hb) ?_
          refine h_q hflS rfl ?_
          refine h_done (d_ret ?_)
          exact f_fin1 (.tmp rfl) (fun w h => ⟨rfl, below0 h.up⟩) rfl
    · skip
      refine d_reg ?_
      refine h_q hflS rfl ?_
      refine h_act (post := fun _ => [cell g1 28 #[.int .i64 c.k, .int .u64 c.s, .int .u64 c.q, .int .u64 c.a, .int .u64 c.b, .int .i64 c.hi, .int .u64 c.lo, .int .i64 c.sc, .string (bs c.x), .string (bs c.y)]]) rfl (a_call (ent_of Tryd.func25 (by kernel_rfl) rfl) (fun w hH => has_any w l [97] false ha3 hll) rfl rfl rfl) ?_; rintro ⟨⟩
      refine h_q hflS rfl ?_
      refine h_val rfl (.int .u64 c.a) (fun b w hb hH => exec_load rfl rfl (reads_one ty_uint64 rfl) (hH.row 0 rfl) hb) ?_
      refine h_val rfl (.bool false) (fun b w hb hH => exec_cmp rfl rfl rfl (cmp_neq_f p0) hb) ?_
      refine h_q hflS rfl ?_
      refine h_act (post := fun _ => [cell g1 28 #[.int .i64 c.k, .int .u64 c.s, .int .u64 c.q, .int .u64 c.a, .int .u64 c.b, .int .i64 c.hi, .int .u64 c.lo, .int .i64 c.sc, .string (bs c.x), .string (bs c.y)]]) rfl (a_call (ent_of Tryd.func25 (by kernel_rfl) rfl) (fun w hH => has_any w l [98] true ha4 hll) rfl rfl rfl) ?_; rintro ⟨⟩
      refine h_q hflS rfl ?_
      refine h_done (d_else rfl (d_skip (f_to (d_seq ?_))))
      cases b5
      · skip
        have hrz : r = z5 := by rw [← hR, ← hm1, ← hm3, ← hm4, ← hm5]; simp [mayB, h0, p0]
        refine d_reg ?_
        refine h_q hflS rfl ?_
        refine h_act (post := fun _ => [cell g1 28 #[.int .i64 c.k, .int .u64 c.s, .int .u64 c.q, .int .u64 c.a, .int .u64 c.b, .int .i64 c.hi, .int .u64 c.lo, .int .i64 c.sc, .string (bs c.x), .string (bs c.y)]]) rfl (a_call (ent_of Tryd.func25 (by kernel_rfl) rfl) (fun w hH => has_any w l [97, 109, 111, 117, 110, 116] false ha5 hll) rfl rfl rfl) ?_; rintro ⟨⟩
        refine h_q hflS rfl ?_
        refine h_done (d_then rfl (d_reg ?_))
        refine h_q hflS rfl ?_
        refine h_val rfl (.agg #[.int .i64 c.hi, .int .u64 c.lo, .int .i64 c.sc]) (fun b w hb hH => exec_load rfl rfl (reads_agg (cs := [.int .i64 c.k, .int .u64 c.s, .int .u64 c.q, .int .u64 c.a, .int .u64 c.b, .int .i64 c.hi, .int .u64 c.lo, .int .i64 c.sc, .string (bs c.x), .string (bs c.y)]) ty_api_Dec rfl) (hH.row 0 rfl) hb) ?_
        refine h_val rfl (.agg #[.int .i64 0, .int .u64 0, .int .i64 0]) (fun b w hb hH => exec_build rfl rfl (by kernel_rfl) hb) ?_
        refine h_val rfl (.bool z5) (fun b w hb hH => exec_eqs (eqDz c z5 hz5) rfl rfl rfl hb) ?_
        refine h_q hflS rfl ?_
        refine h_done (d_ret (f_then_ret ?_))
        exact f_fin1 (.tmp rfl) (fun w h => ⟨by rw [hrz], below0 h.up⟩) rfl
      · skip
        obtain rfl : r = v5 := by rw [← hR, ← hm1, ← hm3, ← hm4, ← hm5]; simp [mayB, h0, p0]
        refine d_reg ?_
        refine h_q hflS rfl ?_
        refine h_act (post := fun _ => [cell g1 28 #[.int .i64 c.k, .int .u64 c.s, .int .u64 c.q, .int .u64 c.a, .int .u64 c.b, .int .i64 c.hi, .int .u64 c.lo, .int .i64 c.sc, .string (bs c.x), .string (bs c.y)]]) rfl (a_call (ent_of Tryd.func25 (by kernel_rfl) rfl) (fun w hH => has_any w l [97, 109, 111, 117, 110, 116] true ha5 hll) rfl rfl rfl) ?_; rintro ⟨⟩
        refine h_q hflS rfl ?_
        refine h_done (d_else rfl (d_skip (f_to ?_)))
        have hc : c.sc < 0 ∨ (0 ≤ c.sc ∧ c.sc ≤ 18) ∨ 18 < c.sc := by omega
        rcases hc with q1 | ⟨q1, q2⟩ | q1
        · skip
          obtain rfl : r = false := by rw [← hv5]; simp [scB]; omega
          refine d_reg ?_
          refine h_q hflS rfl ?_
          refine h_val rfl (.int .i64 c.sc) (fun b w hb hH => exec_load rfl rfl (reads_one ty_int rfl) (hH.row 0 rfl) hb) ?_
          refine h_val rfl (.bool false) (fun b w hb hH => exec_cmp rfl rfl rfl (cmp_geq_f (by omega)) hb) ?_
          refine h_q hflS rfl ?_
          refine h_done (d_ret ?_)
          exact f_fin1 (.tmp rfl) (fun w h => ⟨rfl, below0 h.up⟩) rfl
        · skip
          obtain rfl : r = true := by rw [← hv5]; simp [scB]; omega
          refine d_reg ?_
          refine h_q hflS rfl ?_
          refine h_val rfl (.int .i64 c.sc) (fun b w hb hH => exec_load rfl rfl (reads_one ty_int rfl) (hH.row 0 rfl) hb) ?_
          refine h_val rfl (.bool true) (fun b w hb hH => exec_cmp rfl rfl rfl (cmp_geq_t (by omega)) hb) ?_
          refine h_q hflS rfl ?_
          refine h_val rfl (.int .i64 c.sc) (fun b w hb hH => exec_load rfl rfl (reads_one ty_int rfl) (hH.row 0 rfl) hb) ?_
          refine h_val rfl (.bool true) (fun b w hb hH => exec_cmp rfl rfl rfl (cmp_leq_t (by omega)) hb) ?_
          refine h_q hflS rfl ?_
          refine h_done (d_ret ?_)
          exact f_fin1 (.tmp rfl) (fun w h => ⟨rfl, below0 h.up⟩) rfl
        · skip
          obtain rfl : r = false := by rw [← hv5]; simp [scB]; omega
          refine d_reg ?_
          refine h_q hflS rfl ?_
          refine h_val rfl (.int .i64 c.sc) (fun b w hb hH => exec_load rfl rfl (reads_one ty_int rfl) (hH.row 0 rfl) hb) ?_
          refine h_val rfl (.bool true) (fun b w hb hH => exec_cmp rfl rfl rfl (cmp_geq_t (by omega)) hb) ?_
          refine h_q hflS rfl ?_
          refine h_val rfl (.int .i64 c.sc) (fun b w hb hH => exec_load rfl rfl (reads_one ty_int rfl) (hH.row 0 rfl) hb) ?_
          refine h_val rfl (.bool false) (fun b w hb hH => exec_cmp rfl rfl rfl (cmp_leq_f (by omega)) hb) ?_
          refine h_q hflS rfl ?_
          refine h_done (d_ret ?_)
          exact f_fin1 (.tmp rfl) (fun w h => ⟨rfl, below0 h.up⟩) rfl
end Go.Proofs.YtlkknncndgamdaaDoor.Sep
