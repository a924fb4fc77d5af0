/-
  CmdP
-/
import Derived.Test.YtlkknncndgamdaaDoorC01
set_option linter.unusedSimpArgs false
set_option linter.unusedVariables false

namespace Go.Proofs.YtlkknncndgamdaaDoor.Sep
open Go.RowKit
open Go.Proofs.YtlkknncndgamdaaDoor.Mem (Dist Blk Chg below0)

theorem eqDz (c : CmdD) (z : Bool) (h : zeroD c = z) : EqAt Tryd.prog 26 (.agg #[.int .i64 c.hi, .int .u64 c.lo, .int .i64 c.sc]) (.agg #[.int .i64 0, .int .u64 0, .int .i64 0]) z := by
  subst h
  exact eqD c.hi c.lo c.sc 0 0 0
theorem ways9 (h : Nat) (m1 m2 m3 m4 m5 m6 m7 : Bool) : h = 0 ∨ (h ≠ 0 ∧ m1 = false) ∨ (h ≠ 0 ∧ m1 = true ∧ m2 = false) ∨ (h ≠ 0 ∧ m1 = true ∧ m2 = true ∧ m3 = false) ∨ (h ≠ 0 ∧ m1 = true ∧ m2 = true ∧ m3 = true ∧ m4 = false) ∨ (h ≠ 0 ∧ m1 = true ∧ m2 = true ∧ m3 = true ∧ m4 = true ∧ m5 = false) ∨ (h ≠ 0 ∧ m1 = true ∧ m2 = true ∧ m3 = true ∧ m4 = true ∧ m5 = true ∧ m6 = false) ∨ (h ≠ 0 ∧ m1 = true ∧ m2 = true ∧ m3 = true ∧ m4 = true ∧ m5 = true ∧ m6 = true ∧ m7 = false) ∨ (h ≠ 0 ∧ m1 = true ∧ m2 = true ∧ m3 = true ∧ m4 = true ∧ m5 = true ∧ m6 = true ∧ m7 = true) := by
  by_cases h0 : h = 0
  · exact .inl h0
  · cases m1 <;> cases m2 <;> cases m3 <;> cases m4 <;> cases m5 <;> cases m6 <;> cases m7 <;> simp [h0]
theorem ways6 (h : Nat) (m1 m2 m6 m7 : Bool) : h = 0 ∨ (h ≠ 0 ∧ m1 = false) ∨ (h ≠ 0 ∧ m1 = true ∧ m2 = false) ∨ (h ≠ 0 ∧ m1 = true ∧ m2 = true ∧ m6 = false) ∨ (h ≠ 0 ∧ m1 = true ∧ m2 = true ∧ m6 = true ∧ m7 = false) ∨ (h ≠ 0 ∧ m1 = true ∧ m2 = true ∧ m6 = true ∧ m7 = true) := by
  by_cases h0 : h = 0
  · exact .inl h0
  · cases m1 <;> cases m2 <;> cases m6 <;> cases m7 <;> simp [h0]
theorem ways7 (b3 b4 : Bool) (p q : Int) : (b3 = false ∧ p ≠ 0) ∨ (b3 = true ∧ b4 = false ∧ q ≠ 0) ∨ (b3 = true ∧ b4 = false ∧ q = 0) ∨ (b3 = true ∧ b4 = true) ∨ (b3 = false ∧ p = 0 ∧ b4 = false ∧ q ≠ 0) ∨ (b3 = false ∧ p = 0 ∧ b4 = false ∧ q = 0) ∨ (b3 = false ∧ p = 0 ∧ b4 = true) := by
  by_cases hp : p = 0 <;> by_cases hq : q = 0 <;> cases b3 <;> cases b4 <;> simp [hp, hq]

set_option maxHeartbeats 4000000 in
set_option maxRecDepth 100000 in
theorem right_any (w : World) (c : CmdD) (ho : c.ok) (r : Bool) (hr : rightB c = r) : Calls Tryd.prog 9 #[.agg #[.int .i64 c.k, .int .u64 c.s, .int .u64 c.q, .int .u64 c.a, .int .u64 c.b, .int .i64 c.hi, .int .u64 c.lo, .int .i64 c.sc, .string (bs c.x), .string (bs c.y)]] w fun e w' => e = .returned (.bool r) ∧ Below w.heap.size w w' := by
  obtain ⟨h, hh⟩ : ∃ h, fo c.k = h := ⟨_, rfl⟩
  obtain ⟨b1, hb1⟩ : ∃ b1, wth h 1 = b1 := ⟨_, rfl⟩
  obtain ⟨b2, hb2⟩ : ∃ b2, wth h 2 = b2 := ⟨_, rfl⟩
  obtain ⟨b3, hb3⟩ : ∃ b3, wth h 4 = b3 := ⟨_, rfl⟩
  obtain ⟨b4, hb4⟩ : ∃ b4, wth h 8 = b4 := ⟨_, rfl⟩
  obtain ⟨b5, hb5⟩ : ∃ b5, wth h 16 = b5 := ⟨_, rfl⟩
  obtain ⟨b6, hb6⟩ : ∃ b6, wth h 32 = b6 := ⟨_, rfl⟩
  obtain ⟨b7, hb7⟩ : ∃ b7, wth h 64 = b7 := ⟨_, rfl⟩
  obtain ⟨v1, hv1⟩ : ∃ v1, numB c.s = v1 := ⟨_, rfl⟩
  obtain ⟨v2, hv2⟩ : ∃ v2, numB c.q = v2 := ⟨_, rfl⟩
  obtain ⟨v5, hv5⟩ : ∃ v5, scB c.sc = v5 := ⟨_, rfl⟩
  obtain ⟨z5, hz5⟩ : ∃ z5, zeroD c = z5 := ⟨_, rfl⟩
  obtain ⟨v6, hv6⟩ : ∃ v6, nameB c.x = v6 := ⟨_, rfl⟩
  obtain ⟨z6, hz6⟩ : ∃ z6, (c.x == []) = z6 := ⟨_, rfl⟩
  obtain ⟨v7, hv7⟩ : ∃ v7, nameB c.y = v7 := ⟨_, rfl⟩
  obtain ⟨z7, hz7⟩ : ∃ z7, (c.y == []) = z7 := ⟨_, rfl⟩
  obtain ⟨m1, hm1⟩ : ∃ m1, mayB b1 v1 (c.s == 0) = m1 := ⟨_, rfl⟩
  obtain ⟨m2, hm2⟩ : ∃ m2, mayB b2 v2 (c.q == 0) = m2 := ⟨_, rfl⟩
  obtain ⟨m3, hm3⟩ : ∃ m3, mayB b3 true (c.a == 0) = m3 := ⟨_, rfl⟩
  obtain ⟨m4, hm4⟩ : ∃ m4, mayB b4 true (c.b == 0) = m4 := ⟨_, rfl⟩
  obtain ⟨m5, hm5⟩ : ∃ m5, mayB b5 v5 z5 = m5 := ⟨_, rfl⟩
  obtain ⟨m6, hm6⟩ : ∃ m6, mayB b6 v6 z6 = m6 := ⟨_, rfl⟩
  obtain ⟨m7, hm7⟩ : ∃ m7, mayB b7 v7 z7 = m7 := ⟨_, rfl⟩
  have hR : (h != 0 && m1 && m2 && m3 && m4 && m5 && m6 && m7) = r := by
    rw [← hr]
    unfold rightB
    rw [hh, hb1, hb2, hb3, hb4, hb5, hb6, hb7, hv1, hv2, hv5, hz5, hv6, hz6, hv7, hz7, hm1, hm2, hm3, hm4, hm5, hm6, hm7]
  have hlt : h < 128 := hh ▸ fo_lt c.k
  refine d_in (args := [.agg #[.int .i64 c.k, .int .u64 c.s, .int .u64 c.q, .int .u64 c.a, .int .u64 c.b, .int .i64 c.hi, .int .u64 c.lo, .int .i64 c.sc, .string (bs c.x), .string (bs c.y)]]) 81 Tryd.func9 rfl rfl rfl ?_
  refine d_reg ?_
  refine h_q hflS rfl ?_
  refine h_act (post := fun g1 => [cell g1 28 #[.int .i64 c.k, .int .u64 c.s, .int .u64 c.q, .int .u64 c.a, .int .u64 c.b, .int .i64 c.hi, .int .u64 c.lo, .int .i64 c.sc, .string (bs c.x), .string (bs c.y)]]) rfl (a_box (cs := #[.int .i64 c.k, .int .u64 c.s, .int .u64 c.q, .int .u64 c.a, .int .u64 c.b, .int .i64 c.hi, .int .u64 c.lo, .int .i64 c.sc, .string (bs c.x), .string (bs c.y)]) rfl rfl rfl) ?_; rintro g1
  refine h_q hflS rfl ?_
  refine h_done (d_reg ?_)
  refine h_q hflS rfl ?_
  refine h_val rfl (.int .i64 c.k) (fun b w hb hH => exec_load rfl rfl (reads_one ty_int rfl) (hH.row 0 rfl) hb) ?_
  refine h_act (post := fun _ => [cell g1 28 #[.int .i64 c.k, .int .u64 c.s, .int .u64 c.q, .int .u64 c.a, .int .u64 c.b, .int .i64 c.hi, .int .u64 c.lo, .int .i64 c.sc, .string (bs c.x), .string (bs c.y)]]) rfl (a_call (ent_of Tryd.func18 (by kernel_rfl) rfl) (fun w hH => fieldsOf_any w c.k h hh) rfl rfl rfl) ?_; rintro ⟨⟩
  refine h_q hflS rfl ?_
  refine h_done ?_
  rcases ways9 h m1 m2 m3 m4 m5 m6 m7 with h0 | ⟨h0, rfl⟩ | ⟨h0, rfl, rfl⟩ | ⟨h0, rfl, rfl, rfl⟩ | ⟨h0, rfl, rfl, rfl, rfl⟩ | ⟨h0, rfl, rfl, rfl, rfl, rfl⟩ | ⟨h0, rfl, rfl, rfl, rfl, rfl, rfl⟩ | ⟨h0, rfl, rfl, rfl, rfl, rfl, rfl, rfl⟩ | ⟨h0, rfl, rfl, rfl, rfl, rfl, rfl, rfl⟩
  · skip
    obtain rfl : r = false := by rw [← hR]; simp [h0]
    refine d_seq ?_
    refine d_par 74 0 [⟨.quiet, 0, fun _ => .int .i64 (h : Int), []⟩, ⟨.quiet, 0, fun _ => .bool false, [0]⟩, ⟨.quiet, 0, fun _ => .bool false, [1]⟩, ⟨.skip, 0, fun _ => undef, [2]⟩, ⟨.skip, 0, fun _ => undef, [3, 2]⟩, ⟨.skip, 0, fun _ => undef, [2]⟩, ⟨.skip, 0, fun _ => undef, [5, 2]⟩, ⟨.skip, 0, fun _ => undef, [6, 2]⟩, ⟨.skip, 0, fun _ => undef, [2]⟩, ⟨.skip, 0, fun _ => undef, [8, 2]⟩, ⟨.skip, 0, fun _ => undef, [9, 2]⟩, ⟨.skip, 0, fun _ => undef, [4, 7, 10, 2]⟩, ⟨.quiet, 0, fun _ => .bool false, [2, 11]⟩, ⟨.quiet, 0, fun _ => .bool false, [12]⟩, ⟨.skip, 0, fun _ => undef, [13]⟩, ⟨.skip, 0, fun _ => undef, [14, 13]⟩, ⟨.skip, 0, fun _ => undef, [13]⟩, ⟨.skip, 0, fun _ => undef, [16, 13]⟩, ⟨.skip, 0, fun _ => undef, [17, 13]⟩, ⟨.skip, 0, fun _ => undef, [13]⟩, ⟨.skip, 0, fun _ => undef, [19, 13]⟩, ⟨.skip, 0, fun _ => undef, [20, 13]⟩, ⟨.skip, 0, fun _ => undef, [15, 18, 21, 13]⟩, ⟨.quiet, 0, fun _ => .bool false, [13, 22]⟩, ⟨.quiet, 0, fun _ => .bool false, [23]⟩, ⟨.skip, 0, fun _ => undef, [24]⟩, ⟨.skip, 0, fun _ => undef, [25, 24]⟩, ⟨.skip, 0, fun _ => undef, [24]⟩, ⟨.skip, 0, fun _ => undef, [27, 24]⟩, ⟨.skip, 0, fun _ => undef, [28, 24]⟩, ⟨.skip, 0, fun _ => undef, [26, 29, 24]⟩, ⟨.quiet, 0, fun _ => .bool false, [24, 30]⟩, ⟨.quiet, 0, fun _ => .bool false, [31]⟩, ⟨.skip, 0, fun _ => undef, [32]⟩, ⟨.skip, 0, fun _ => undef, [33, 32]⟩, ⟨.skip, 0, fun _ => undef, [32]⟩, ⟨.skip, 0, fun _ => undef, [35, 32]⟩, ⟨.skip, 0, fun _ => undef, [36, 32]⟩, ⟨.skip, 0, fun _ => undef, [34, 37, 32]⟩, ⟨.quiet, 0, fun _ => .bool false, [32, 38]⟩, ⟨.quiet, 0, fun _ => .bool false, [39]⟩, ⟨.skip, 0, fun _ => undef, [40]⟩, ⟨.skip, 0, fun _ => undef, [41, 40]⟩, ⟨.skip, 0, fun _ => undef, [40]⟩, ⟨.skip, 0, fun _ => undef, [43, 40]⟩, ⟨.skip, 0, fun _ => undef, [44, 40]⟩, ⟨.skip, 0, fun _ => undef, [40]⟩, ⟨.skip, 0, fun _ => undef, [46, 40]⟩, ⟨.skip, 0, fun _ => undef, [40]⟩, ⟨.skip, 0, fun _ => undef, [47, 48, 40]⟩, ⟨.skip, 0, fun _ => undef, [42, 45, 49, 40]⟩, ⟨.quiet, 0, fun _ => .bool false, [40, 50]⟩, ⟨.quiet, 0, fun _ => .bool false, [51]⟩, ⟨.skip, 0, fun _ => undef, [52]⟩, ⟨.skip, 0, fun _ => undef, [53, 52]⟩, ⟨.skip, 0, fun _ => undef, [52]⟩, ⟨.skip, 0, fun _ => undef, [55, 52]⟩, ⟨.skip, 0, fun _ => undef, [56, 52]⟩, ⟨.skip, 0, fun _ => undef, [52]⟩, ⟨.skip, 0, fun _ => undef, [58, 52]⟩, ⟨.skip, 0, fun _ => undef, [59, 52]⟩, ⟨.skip, 0, fun _ => undef, [54, 57, 60, 52]⟩, ⟨.quiet, 0, fun _ => .bool false, [52, 61]⟩, ⟨.quiet, 0, fun _ => .bool false, [62]⟩, ⟨.skip, 0, fun _ => undef, [63]⟩, ⟨.skip, 0, fun _ => undef, [64, 63]⟩, ⟨.skip, 0, fun _ => undef, [63]⟩, ⟨.skip, 0, fun _ => undef, [66, 63]⟩, ⟨.skip, 0, fun _ => undef, [67, 63]⟩, ⟨.skip, 0, fun _ => undef, [63]⟩, ⟨.skip, 0, fun _ => undef, [69, 63]⟩, ⟨.skip, 0, fun _ => undef, [70, 63]⟩, ⟨.skip, 0, fun _ => undef, [65, 68, 71, 63]⟩, ⟨.quiet, 0, fun _ => .bool false, [63, 72]⟩] [(1, .pointer (some ⟨g1, 0, none⟩)), (2, .bool false), (3, .int .i64 (h : Int))] (by kernel_rfl) (by kernel_rfl) ⟨rfl, rfl, rfl, trivial⟩ ?_ ?_
    · skip
      refine o_cons (o_q hflS (fun _ _ => rfl) (fun _ _ => rfl)) ?_
      refine o_cons (o_cmp (cmp_neq_f (by omega)) (fun _ _ => rfl) rfl (fun _ _ => rfl) (fun _ _ => rfl)) ?_
      refine o_cons (o_q hflS (fun _ _ => rfl) (fun _ _ => rfl)) ?_
      refine o_cons (o_skip (fun _ _ => rfl)) ?_
      refine o_cons (o_skip (fun _ _ => rfl)) ?_
      refine o_cons (o_skip (fun _ _ => rfl)) ?_
      refine o_cons (o_skip (fun _ _ => rfl)) ?_
      refine o_cons (o_skip (fun _ _ => rfl)) ?_
      refine o_cons (o_skip (fun _ _ => rfl)) ?_
      refine o_cons (o_skip (fun _ _ => rfl)) ?_
      refine o_cons (o_skip (fun _ _ => rfl)) ?_
      refine o_cons (o_skip (fun _ _ => rfl)) ?_
      refine o_cons (o_q hflS (fun _ _ => rfl) (fun _ _ => rfl)) ?_
      refine o_cons (o_q hflS (fun _ _ => rfl) (fun _ _ => rfl)) ?_
      refine o_cons (o_skip (fun _ _ => rfl)) ?_
      refine o_cons (o_skip (fun _ _ => rfl)) ?_
      refine o_cons (o_skip (fun _ _ => rfl)) ?_
      refine o_cons (o_skip (fun _ _ => rfl)) ?_
      refine o_cons (o_skip (fun _ _ => rfl)) ?_
      refine o_cons (o_skip (fun _ _ => rfl)) ?_
      refine o_cons (o_skip (fun _ _ => rfl)) ?_
      refine o_cons (o_skip (fun _ _ => rfl)) ?_
      refine o_cons (o_skip (fun _ _ => rfl)) ?_
      refine o_cons (o_q hflS (fun _ _ => rfl) (fun _ _ => rfl)) ?_
      refine o_cons (o_q hflS (fun _ _ => rfl) (fun _ _ => rfl)) ?_
      refine o_cons (o_skip (fun _ _ => rfl)) ?_
      refine o_cons (o_skip (fun _ _ => rfl)) ?_
      refine o_cons (o_skip (fun _ _ => rfl)) ?_
      refine o_cons (o_skip (fun _ _ => rfl)) ?_
      refine o_cons (o_skip (fun _ _ => rfl)) ?_
      refine o_cons (o_skip (fun _ _ => rfl)) ?_
      refine o_cons (o_q hflS (fun _ _ => rfl) (fun _ _ => rfl)) ?_
      refine o_cons (o_q hflS (fun _ _ => rfl) (fun _ _ => rfl)) ?_
      refine o_cons (o_skip (fun _ _ => rfl)) ?_
      refine o_cons (o_skip (fun _ _ => rfl)) ?_
      refine o_cons (o_skip (fun _ _ => rfl)) ?_
      refine o_cons (o_skip (fun _ _ => rfl)) ?_
      refine o_cons (o_skip (fun _ _ => rfl)) ?_
      refine o_cons (o_skip (fun _ _ => rfl)) ?_
      refine o_cons (o_q hflS (fun _ _ => rfl) (fun _ _ => rfl)) ?_
      refine o_cons (o_q hflS (fun _ _ => rfl) (fun _ _ => rfl)) ?_
      refine o_cons (o_skip (fun _ _ => rfl)) ?_
      refine o_cons (o_skip (fun _ _ => rfl)) ?_
      refine o_cons (o_skip (fun _ _ => rfl)) ?_
      refine o_cons (o_skip (fun _ _ => rfl)) ?_
      refine o_cons (o_skip (fun _ _ => rfl)) ?_
      refine o_cons (o_skip (fun _ _ => rfl)) ?_
      refine o_cons (o_skip (fun _ _ => rfl)) ?_
      refine o_cons (o_skip (fun _ _ => rfl)) ?_
      refine o_cons (o_skip (fun _ _ => rfl)) ?_
      refine o_cons (o_skip (fun _ _ => rfl)) ?_
      refine o_cons (o_q hflS (fun _ _ => rfl) (fun _ _ => rfl)) ?_
      refine o_cons (o_q hflS (fun _ _ => rfl) (fun _ _ => rfl)) ?_
      refine o_cons (o_skip (fun _ _ => rfl)) ?_
      refine o_cons (o_skip (fun _ _ => rfl)) ?_
      refine o_cons (o_skip (fun _ _ => rfl)) ?_
      refine o_cons (o_skip (fun _ _ => rfl)) ?_
      refine o_cons (o_skip (fun _ _ => rfl)) ?_
      refine o_cons (o_skip (fun _ _ => rfl)) ?_
      refine o_cons (o_skip (fun _ _ => rfl)) ?_
      refine o_cons (o_skip (fun _ _ => rfl)) ?_
      refine o_cons (o_skip (fun _ _ => rfl)) ?_
      refine o_cons (o_q hflS (fun _ _ => rfl) (fun _ _ => rfl)) ?_
      refine o_cons (o_q hflS (fun _ _ => rfl) (fun _ _ => rfl)) ?_
      refine o_cons (o_skip (fun _ _ => rfl)) ?_
      refine o_cons (o_skip (fun _ _ => rfl)) ?_
      refine o_cons (o_skip (fun _ _ => rfl)) ?_
      refine o_cons (o_skip (fun _ _ => rfl)) ?_
      refine o_cons (o_skip (fun _ _ => rfl)) ?_
      refine o_cons (o_skip (fun _ _ => rfl)) ?_
      refine o_cons (o_skip (fun _ _ => rfl)) ?_
      refine o_cons (o_skip (fun _ _ => rfl)) ?_
      refine o_cons (o_skip (fun _ _ => rfl)) ?_
      refine o_cons (o_q hflS (fun _ _ => rfl) (fun _ _ => rfl)) ?_
      exact o_nil
    intro σ1 gs1
    refine WL2.keep (env' := [(2, .bool false), (80, .bool false)]) ⟨rfl, rfl, trivial⟩ ?_
    refine h_q hflS rfl ?_
    refine h_nil (f_to (d_ret ?_))
    exact f_fin1 (.tmp rfl) (fun w h => ⟨rfl, below0 h.up⟩) rfl
  · skip
    obtain rfl : r = false := by rw [← hR]; simp
    refine d_seq ?_
    refine d_par 74 3 [⟨.quiet, 0, fun _ => .int .i64 (h : Int), []⟩, ⟨.quiet, 0, fun _ => .bool true, [0]⟩, ⟨.quiet, 0, fun _ => .bool true, [1]⟩, ⟨.quiet, 0, fun _ => .int .i64 (h : Int), [2]⟩, ⟨.call, 1, fun _ => .bool b1, [3, 2]⟩, ⟨.quiet, 0, fun _ => .pointer (some ⟨g1, 1, none⟩), [2]⟩, ⟨.quiet, 0, fun _ => .int .u64 c.s, [5, 2]⟩, ⟨.call, 2, fun _ => .bool v1, [6, 2]⟩, ⟨.quiet, 0, fun _ => .pointer (some ⟨g1, 1, none⟩), [2]⟩, ⟨.quiet, 0, fun _ => .int .u64 c.s, [8, 2]⟩, ⟨.quiet, 0, fun _ => .bool (c.s == 0), [9, 2]⟩, ⟨.call, 3, fun _ => .bool false, [4, 7, 10, 2]⟩, ⟨.quiet, 3, fun _ => .bool false, [2, 11]⟩, ⟨.quiet, 3, fun _ => .bool false, [12]⟩, ⟨.skip, 3, fun _ => undef, [13]⟩, ⟨.skip, 3, fun _ => undef, [14, 13]⟩, ⟨.skip, 3, fun _ => undef, [13]⟩, ⟨.skip, 3, fun _ => undef, [16, 13]⟩, ⟨.skip, 3, fun _ => undef, [17, 13]⟩, ⟨.skip, 3, fun _ => undef, [13]⟩, ⟨.skip, 3, fun _ => undef, [19, 13]⟩, ⟨.skip, 3, fun _ => undef, [20, 13]⟩, ⟨.skip, 3, fun _ => undef, [15, 18, 21, 13]⟩, ⟨.quiet, 3, fun _ => .bool false, [13, 22]⟩, ⟨.quiet, 3, fun _ => .bool false, [23]⟩, ⟨.skip, 3, fun _ => undef, [24]⟩, ⟨.skip, 3, fun _ => undef, [25, 24]⟩, ⟨.skip, 3, fun _ => undef, [24]⟩, ⟨.skip, 3, fun _ => undef, [27, 24]⟩, ⟨.skip, 3, fun _ => undef, [28, 24]⟩, ⟨.skip, 3, fun _ => undef, [26, 29, 24]⟩, ⟨.quiet, 3, fun _ => .bool false, [24, 30]⟩, ⟨.quiet, 3, fun _ => .bool false, [31]⟩, ⟨.skip, 3, fun _ => undef, [32]⟩, ⟨.skip, 3, fun _ => undef, [33, 32]⟩, ⟨.skip, 3, fun _ => undef, [32]⟩, ⟨.skip, 3, fun _ => undef, [35, 32]⟩, ⟨.skip, 3, fun _ => undef, [36, 32]⟩, ⟨.skip, 3, fun _ => undef, [34, 37, 32]⟩, ⟨.quiet, 3, fun _ => .bool false, [32, 38]⟩, ⟨.quiet, 3, fun _ => .bool false, [39]⟩, ⟨.skip, 3, fun _ => undef, [40]⟩, ⟨.skip, 3, fun _ => undef, [41, 40]⟩, ⟨.skip, 3, fun _ => undef, [40]⟩, ⟨.skip, 3, fun _ => undef, [43, 40]⟩, ⟨.skip, 3, fun _ => undef, [44, 40]⟩, ⟨.skip, 3, fun _ => undef, [40]⟩, ⟨.skip, 3, fun _ => undef, [46, 40]⟩, ⟨.skip, 3, fun _ => undef, [40]⟩, ⟨.skip, 3, fun _ => undef, [47, 48, 40]⟩, ⟨.skip, 3, fun _ => undef, [42, 45, 49, 40]⟩, ⟨.quiet, 3, fun _ => .bool false, [40, 50]⟩, ⟨.quiet, 3, fun _ => .bool false, [51]⟩, ⟨.skip, 3, fun _ => undef, [52]⟩, ⟨.skip, 3, fun _ => undef, [53, 52]⟩, ⟨.skip, 3, fun _ => undef, [52]⟩, ⟨.skip, 3, fun _ => undef, [55, 52]⟩, ⟨.skip, 3, fun _ => undef, [56, 52]⟩, ⟨.skip, 3, fun _ => undef, [52]⟩, ⟨.skip, 3, fun _ => undef, [58, 52]⟩, ⟨.skip, 3, fun _ => undef, [59, 52]⟩, ⟨.skip, 3, fun _ => undef, [54, 57, 60, 52]⟩, ⟨.quiet, 3, fun _ => .bool false, [52, 61]⟩, ⟨.quiet, 3, fun _ => .bool false, [62]⟩, ⟨.skip, 3, fun _ => undef, [63]⟩, ⟨.skip, 3, fun _ => undef, [64, 63]⟩, ⟨.skip, 3, fun _ => undef, [63]⟩, ⟨.skip, 3, fun _ => undef, [66, 63]⟩, ⟨.skip, 3, fun _ => undef, [67, 63]⟩, ⟨.skip, 3, fun _ => undef, [63]⟩, ⟨.skip, 3, fun _ => undef, [69, 63]⟩, ⟨.skip, 3, fun _ => undef, [70, 63]⟩, ⟨.skip, 3, fun _ => undef, [65, 68, 71, 63]⟩, ⟨.quiet, 3, fun _ => .bool false, [63, 72]⟩] [(1, .pointer (some ⟨g1, 0, none⟩)), (2, .bool false), (3, .int .i64 (h : Int))] (by kernel_rfl) (by kernel_rfl) ⟨rfl, rfl, rfl, trivial⟩ ?_ ?_
    · skip
      refine o_cons (o_q hflS (fun _ _ => rfl) (fun _ _ => rfl)) ?_
      refine o_cons (o_cmp (cmp_neq_t (by omega)) (fun _ _ => rfl) rfl (fun _ _ => rfl) (fun _ _ => rfl)) ?_
      refine o_cons (o_q hflS (fun _ _ => rfl) (fun _ _ => rfl)) ?_
      refine o_cons (o_q hflS (fun _ _ => rfl) (fun _ _ => rfl)) ?_
      refine o_cons (o_call (ent_of Tryd.func20 (by kernel_rfl) rfl) (fun w hU => with_any w h 1 hlt (by decide) b1 hb1) (fun _ _ => rfl) rfl (fun _ _ => rfl) (fun _ _ => rfl)) ?_
      refine o_cons (o_q hflS (fun _ _ => rfl) (fun _ _ => rfl)) ?_
      refine o_cons (o_load 0 (reads_one ty_uint64 rfl) (fun _ _ => rfl) rfl (fun _ _ => rfl) rfl) ?_
      refine o_cons (o_call (ent_of Tryd.func21 (by kernel_rfl) rfl) (fun w hU => number_any w c.s v1 hv1) (fun _ _ => rfl) rfl (fun _ _ => rfl) (fun _ _ => rfl)) ?_
      refine o_cons (o_q hflS (fun _ _ => rfl) (fun _ _ => rfl)) ?_
      refine o_cons (o_load 0 (reads_one ty_uint64 rfl) (fun _ _ => rfl) rfl (fun _ _ => rfl) rfl) ?_
      refine o_cons (o_cmp rfl (fun _ _ => rfl) rfl (fun _ _ => rfl) (fun _ _ => rfl)) ?_
      refine o_cons (o_call (ent_of Tryd.func19 (by kernel_rfl) rfl) (fun w hU => may_any w b1 v1 (c.s == 0) _ hm1) (fun _ _ => rfl) rfl (fun _ _ => rfl) (fun _ _ => rfl)) ?_
      refine o_cons (o_q hflS (fun _ _ => rfl) (fun _ _ => rfl)) ?_
      refine o_cons (o_q hflS (fun _ _ => rfl) (fun _ _ => rfl)) ?_
      refine o_cons (o_skip (fun _ _ => rfl)) ?_
      refine o_cons (o_skip (fun _ _ => rfl)) ?_
      refine o_cons (o_skip (fun _ _ => rfl)) ?_
      refine o_cons (o_skip (fun _ _ => rfl)) ?_
      refine o_cons (o_skip (fun _ _ => rfl)) ?_
      refine o_cons (o_skip (fun _ _ => rfl)) ?_
      refine o_cons (o_skip (fun _ _ => rfl)) ?_
      refine o_cons (o_skip (fun _ _ => rfl)) ?_
      refine o_cons (o_skip (fun _ _ => rfl)) ?_
      refine o_cons (o_q hflS (fun _ _ => rfl) (fun _ _ => rfl)) ?_
      refine o_cons (o_q hflS (fun _ _ => rfl) (fun _ _ => rfl)) ?_
      refine o_cons (o_skip (fun _ _ => rfl)) ?_
      refine o_cons (o_skip (fun _ _ => rfl)) ?_
      refine o_cons (o_skip (fun _ _ => rfl)) ?_
      refine o_cons (o_skip (fun _ _ => rfl)) ?_
      refine o_cons (o_skip (fun _ _ => rfl)) ?_
      refine o_cons (o_skip (fun _ _ => rfl)) ?_
      refine o_cons (o_q hflS (fun _ _ => rfl) (fun _ _ => rfl)) ?_
      refine o_cons (o_q hflS (fun _ _ => rfl) (fun _ _ => rfl)) ?_
      refine o_cons (o_skip (fun _ _ => rfl)) ?_
      refine o_cons (o_skip (fun _ _ => rfl)) ?_
      refine o_cons (o_skip (fun _ _ => rfl)) ?_
      refine o_cons (o_skip (fun _ _ => rfl)) ?_
      refine o_cons (o_skip (fun _ _ => rfl)) ?_
      refine o_cons (o_skip (fun _ _ => rfl)) ?_
      refine o_cons (o_q hflS (fun _ _ => rfl) (fun _ _ => rfl)) ?_
      refine o_cons (o_q hflS (fun _ _ => rfl) (fun _ _ => rfl)) ?_
      refine o_cons (o_skip (fun _ _ => rfl)) ?_
      refine o_cons (o_skip (fun _ _ => rfl)) ?_
      refine o_cons (o_skip (fun _ _ => rfl)) ?_
      refine o_cons (o_skip (fun _ _ => rfl)) ?_
      refine o_cons (o_skip (fun _ _ => rfl)) ?_
      refine o_cons (o_skip (fun _ _ => rfl)) ?_
      refine o_cons (o_skip (fun _ _ => rfl)) ?_
      refine o_cons (o_skip (fun _ _ => rfl)) ?_
      refine o_cons (o_skip (fun _ _ => rfl)) ?_
      refine o_cons (o_skip (fun _ _ => rfl)) ?_
      refine o_cons (o_q hflS (fun _ _ => rfl) (fun _ _ => rfl)) ?_
      refine o_cons (o_q hflS (fun _ _ => rfl) (fun _ _ => rfl)) ?_
      refine o_cons (o_skip (fun _ _ => rfl)) ?_
      refine o_cons (o_skip (fun _ _ => rfl)) ?_
      refine o_cons (o_skip (fun _ _ => rfl)) ?_
      refine o_cons (o_skip (fun _ _ => rfl)) ?_
      refine o_cons (o_skip (fun _ _ => rfl)) ?_
      refine o_cons (o_skip (fun _ _ => rfl)) ?_
      refine o_cons (o_skip (fun _ _ => rfl)) ?_
      refine o_cons (o_skip (fun _ _ => rfl)) ?_
      refine o_cons (o_skip (fun _ _ => rfl)) ?_
      refine o_cons (o_q hflS (fun _ _ => rfl) (fun _ _ => rfl)) ?_
      refine o_cons (o_q hflS (fun _ _ => rfl) (fun _ _ => rfl)) ?_
      refine o_cons (o_skip (fun _ _ => rfl)) ?_
      refine o_cons (o_skip (fun _ _ => rfl)) ?_
      refine o_cons (o_skip (fun _ _ => rfl)) ?_
      refine o_cons (o_skip (fun _ _ => rfl)) ?_
      refine o_cons (o_skip (fun _ _ => rfl)) ?_
      refine o_cons (o_skip (fun _ _ => rfl)) ?_
      refine o_cons (o_skip (fun _ _ => rfl)) ?_
      refine o_cons (o_skip (fun _ _ => rfl)) ?_
      refine o_cons (o_skip (fun _ _ => rfl)) ?_
      refine o_cons (o_q hflS (fun _ _ => rfl) (fun _ _ => rfl)) ?_
      exact o_nil
    intro σ2 gs2
    refine WL2.keep (env' := [(2, .bool false), (80, .bool false)]) ⟨rfl, rfl, trivial⟩ ?_
    refine h_q hflS rfl ?_
    refine h_nil (f_to (d_ret ?_))
    exact f_fin1 (.tmp rfl) (fun w h => ⟨rfl, below0 h.up⟩) rfl
  · skip
    obtain rfl : r = false := by rw [← hR]; simp
    refine d_seq ?_
    refine d_par 74 6 [⟨.quiet, 0, fun _ => .int .i64 (h : Int), []⟩, ⟨.quiet, 0, fun _ => .bool true, [0]⟩, ⟨.quiet, 0, fun _ => .bool true, [1]⟩, ⟨.quiet, 0, fun _ => .int .i64 (h : Int), [2]⟩, ⟨.call, 1, fun _ => .bool b1, [3, 2]⟩, ⟨.quiet, 0, fun _ => .pointer (some ⟨g1, 1, none⟩), [2]⟩, ⟨.quiet, 0, fun _ => .int .u64 c.s, [5, 2]⟩, ⟨.call, 2, fun _ => .bool v1, [6, 2]⟩, ⟨.quiet, 0, fun _ => .pointer (some ⟨g1, 1, none⟩), [2]⟩, ⟨.quiet, 0, fun _ => .int .u64 c.s, [8, 2]⟩, ⟨.quiet, 0, fun _ => .bool (c.s == 0), [9, 2]⟩, ⟨.call, 3, fun _ => .bool true, [4, 7, 10, 2]⟩, ⟨.quiet, 3, fun _ => .bool true, [2, 11]⟩, ⟨.quiet, 3, fun _ => .bool true, [12]⟩, ⟨.quiet, 3, fun _ => .int .i64 (h : Int), [13]⟩, ⟨.call, 4, fun _ => .bool b2, [14, 13]⟩, ⟨.quiet, 3, fun _ => .pointer (some ⟨g1, 2, none⟩), [13]⟩, ⟨.quiet, 3, fun _ => .int .u64 c.q, [16, 13]⟩, ⟨.call, 5, fun _ => .bool v2, [17, 13]⟩, ⟨.quiet, 3, fun _ => .pointer (some ⟨g1, 2, none⟩), [13]⟩, ⟨.quiet, 3, fun _ => .int .u64 c.q, [19, 13]⟩, ⟨.quiet, 3, fun _ => .bool (c.q == 0), [20, 13]⟩, ⟨.call, 6, fun _ => .bool false, [15, 18, 21, 13]⟩, ⟨.quiet, 6, fun _ => .bool false, [13, 22]⟩, ⟨.quiet, 6, fun _ => .bool false, [23]⟩, ⟨.skip, 6, fun _ => undef, [24]⟩, ⟨.skip, 6, fun _ => undef, [25, 24]⟩, ⟨.skip, 6, fun _ => undef, [24]⟩, ⟨.skip, 6, fun _ => undef, [27, 24]⟩, ⟨.skip, 6, fun _ => undef, [28, 24]⟩, ⟨.skip, 6, fun _ => undef, [26, 29, 24]⟩, ⟨.quiet, 6, fun _ => .bool false, [24, 30]⟩, ⟨.quiet, 6, fun _ => .bool false, [31]⟩, ⟨.skip, 6, fun _ => undef, [32]⟩, ⟨.skip, 6, fun _ => undef, [33, 32]⟩, ⟨.skip, 6, fun _ => undef, [32]⟩, ⟨.skip, 6, fun _ => undef, [35, 32]⟩, ⟨.skip, 6, fun _ => undef, [36, 32]⟩, ⟨.skip, 6, fun _ => undef, [34, 37, 32]⟩, ⟨.quiet, 6, fun _ => .bool false, [32, 38]⟩, ⟨.quiet, 6, fun _ => .bool false, [39]⟩, ⟨.skip, 6, fun _ => undef, [40]⟩, ⟨.skip, 6, fun _ => undef, [41, 40]⟩, ⟨.skip, 6, fun _ => undef, [40]⟩, ⟨.skip, 6, fun _ => undef, [43, 40]⟩, ⟨.skip, 6, fun _ => undef, [44, 40]⟩, ⟨.skip, 6, fun _ => undef, [40]⟩, ⟨.skip, 6, fun _ => undef, [46, 40]⟩, ⟨.skip, 6, fun _ => undef, [40]⟩, ⟨.skip, 6, fun _ => undef, [47, 48, 40]⟩, ⟨.skip, 6, fun _ => undef, [42, 45, 49, 40]⟩, ⟨.quiet, 6, fun _ => .bool false, [40, 50]⟩, ⟨.quiet, 6, fun _ => .bool false, [51]⟩, ⟨.skip, 6, fun _ => undef, [52]⟩, ⟨.skip, 6, fun _ => undef, [53, 52]⟩, ⟨.skip, 6, fun _ => undef, [52]⟩, ⟨.skip, 6, fun _ => undef, [55, 52]⟩, ⟨.skip, 6, fun _ => undef, [56, 52]⟩, ⟨.skip, 6, fun _ => undef, [52]⟩, ⟨.skip, 6, fun _ => undef, [58, 52]⟩, ⟨.skip, 6, fun _ => undef, [59, 52]⟩, ⟨.skip, 6, fun _ => undef, [54, 57, 60, 52]⟩, ⟨.quiet, 6, fun _ => .bool false, [52, 61]⟩, ⟨.quiet, 6, fun _ => .bool false, [62]⟩, ⟨.skip, 6, fun _ => undef, [63]⟩, ⟨.skip, 6, fun _ => undef, [64, 63]⟩, ⟨.skip, 6, fun _ => undef, [63]⟩, ⟨.skip, 6, fun _ => undef, [66, 63]⟩, ⟨.skip, 6, fun _ => undef, [67, 63]⟩, ⟨.skip, 6, fun _ => undef, [63]⟩, ⟨.skip, 6, fun _ => undef, [69, 63]⟩, ⟨.skip, 6, fun _ => undef, [70, 63]⟩, ⟨.skip, 6, fun _ => undef, [65, 68, 71, 63]⟩, ⟨.quiet, 6, fun _ => .bool false, [63, 72]⟩] [(1, .pointer (some ⟨g1, 0, none⟩)), (2, .bool false), (3, .int .i64 (h : Int))] (by kernel_rfl) (by kernel_rfl) ⟨rfl, rfl, rfl, trivial⟩ ?_ ?_
    · skip
      refine o_cons (o_q hflS (fun _ _ => rfl) (fun _ _ => rfl)) ?_
      refine o_cons (o_cmp (cmp_neq_t (by omega)) (fun _ _ => rfl) rfl (fun _ _ => rfl) (fun _ _ => rfl)) ?_
      refine o_cons (o_q hflS (fun _ _ => rfl) (fun _ _ => rfl)) ?_
      refine o_cons (o_q hflS (fun _ _ => rfl) (fun _ _ => rfl)) ?_
      refine o_cons (o_call (ent_of Tryd.func20 (by kernel_rfl) rfl) (fun w hU => with_any w h 1 hlt (by decide) b1 hb1) (fun _ _ => rfl) rfl (fun _ _ => rfl) (fun _ _ => rfl)) ?_
      refine o_cons (o_q hflS (fun _ _ => rfl) (fun _ _ => rfl)) ?_
      refine o_cons (o_load 0 (reads_one ty_uint64 rfl) (fun _ _ => rfl) rfl (fun _ _ => rfl) rfl) ?_
      refine o_cons (o_call (ent_of Tryd.func21 (by kernel_rfl) rfl) (fun w hU => number_any w c.s v1 hv1) (fun _ _ => rfl) rfl (fun _ _ => rfl) (fun _ _ => rfl)) ?_
      refine o_cons (o_q hflS (fun _ _ => rfl) (fun _ _ => rfl)) ?_
      refine o_cons (o_load 0 (reads_one ty_uint64 rfl) (fun _ _ => rfl) rfl (fun _ _ => rfl) rfl) ?_
      refine o_cons (o_cmp rfl (fun _ _ => rfl) rfl (fun _ _ => rfl) (fun _ _ => rfl)) ?_
      refine o_cons (o_call (ent_of Tryd.func19 (by kernel_rfl) rfl) (fun w hU => may_any w b1 v1 (c.s == 0) _ hm1) (fun _ _ => rfl) rfl (fun _ _ => rfl) (fun _ _ => rfl)) ?_
      refine o_cons (o_q hflS (fun _ _ => rfl) (fun _ _ => rfl)) ?_
      refine o_cons (o_q hflS (fun _ _ => rfl) (fun _ _ => rfl)) ?_
      refine o_cons (o_q hflS (fun _ _ => rfl) (fun _ _ => rfl)) ?_
      refine o_cons (o_call (ent_of Tryd.func20 (by kernel_rfl) rfl) (fun w hU => with_any w h 2 hlt (by decide) b2 hb2) (fun _ _ => rfl) rfl (fun _ _ => rfl) (fun _ _ => rfl)) ?_
      refine o_cons (o_q hflS (fun _ _ => rfl) (fun _ _ => rfl)) ?_
      refine o_cons (o_load 0 (reads_one ty_uint64 rfl) (fun _ _ => rfl) rfl (fun _ _ => rfl) rfl) ?_
      refine o_cons (o_call (ent_of Tryd.func21 (by kernel_rfl) rfl) (fun w hU => number_any w c.q v2 hv2) (fun _ _ => rfl) rfl (fun _ _ => rfl) (fun _ _ => rfl)) ?_
      refine o_cons (o_q hflS (fun _ _ => rfl) (fun _ _ => rfl)) ?_
      refine o_cons (o_load 0 (reads_one ty_uint64 rfl) (fun _ _ => rfl) rfl (fun _ _ => rfl) rfl) ?_
      refine o_cons (o_cmp rfl (fun _ _ => rfl) rfl (fun _ _ => rfl) (fun _ _ => rfl)) ?_
      refine o_cons (o_call (ent_of Tryd.func19 (by kernel_rfl) rfl) (fun w hU => may_any w b2 v2 (c.q == 0) _ hm2) (fun _ _ => rfl) rfl (fun _ _ => rfl) (fun _ _ => rfl)) ?_
      refine o_cons (o_q hflS (fun _ _ => rfl) (fun _ _ => rfl)) ?_
      refine o_cons (o_q hflS (fun _ _ => rfl) (fun _ _ => rfl)) ?_
      refine o_cons (o_skip (fun _ _ => rfl)) ?_
      refine o_cons (o_skip (fun _ _ => rfl)) ?_
      refine o_cons (o_skip (fun _ _ => rfl)) ?_
      refine o_cons (o_skip (fun _ _ => rfl)) ?_
      refine o_cons (o_skip (fun _ _ => rfl)) ?_
      refine o_cons (o_skip (fun _ _ => rfl)) ?_
      refine o_cons (o_q hflS (fun _ _ => rfl) (fun _ _ => rfl)) ?_
      refine o_cons (o_q hflS (fun _ _ => rfl) (fun _ _ => rfl)) ?_
      refine o_cons (o_skip (fun _ _ => rfl)) ?_
      refine o_cons (o_skip (fun _ _ => rfl)) ?_
      refine o_cons (o_skip (fun _ _ => rfl)) ?_
      refine o_cons (o_skip (fun _ _ => rfl)) ?_
      refine o_cons (o_skip (fun _ _ => rfl)) ?_
      refine o_cons (o_skip (fun _ _ => rfl)) ?_
      refine o_cons (o_q hflS (fun _ _ => rfl) (fun _ _ => rfl)) ?_
      refine o_cons (o_q hflS (fun _ _ => rfl) (fun _ _ => rfl)) ?_
      refine o_cons (o_skip (fun _ _ => rfl)) ?_
      refine o_cons (o_skip (fun _ _ => rfl)) ?_
      refine o_cons (o_skip (fun _ _ => rfl)) ?_
      refine o_cons (o_skip (fun _ _ => rfl)) ?_
      refine o_cons (o_skip (fun _ _ => rfl)) ?_
      refine o_cons (o_skip (fun _ _ => rfl)) ?_
      refine o_cons (o_skip (fun _ _ => rfl)) ?_
      refine o_cons (o_skip (fun _ _ => rfl)) ?_
      refine o_cons (o_skip (fun _ _ => rfl)) ?_
      refine o_cons (o_skip (fun _ _ => rfl)) ?_
      refine o_cons (o_q hflS (fun _ _ => rfl) (fun _ _ => rfl)) ?_
      refine o_cons (o_q hflS (fun _ _ => rfl) (fun _ _ => rfl)) ?_
      refine o_cons (o_skip (fun _ _ => rfl)) ?_
      refine o_cons (o_skip (fun _ _ => rfl)) ?_
      refine o_cons (o_skip (fun _ _ => rfl)) ?_
      refine o_cons (o_skip (fun _ _ => rfl)) ?_
      refine o_cons (o_skip (fun _ _ => rfl)) ?_
      refine o_cons (o_skip (fun _ _ => rfl)) ?_
      refine o_cons (o_skip (fun _ _ => rfl)) ?_
      refine o_cons (o_skip (fun _ _ => rfl)) ?_
      refine o_cons (o_skip (fun _ _ => rfl)) ?_
      refine o_cons (o_q hflS (fun _ _ => rfl) (fun _ _ => rfl)) ?_
      refine o_cons (o_q hflS (fun _ _ => rfl) (fun _ _ => rfl)) ?_
      refine o_cons (o_skip (fun _ _ => rfl)) ?_
      refine o_cons (o_skip (fun _ _ => rfl)) ?_
      refine o_cons (o_skip (fun _ _ => rfl)) ?_
      refine o_cons (o_skip (fun _ _ => rfl)) ?_
      refine o_cons (o_skip (fun _ _ => rfl)) ?_
      refine o_cons (o_skip (fun _ _ => rfl)) ?_
      refine o_cons (o_skip (fun _ _ => rfl)) ?_
      refine o_cons (o_skip (fun _ _ => rfl)) ?_
      refine o_cons (o_skip (fun _ _ => rfl)) ?_
      refine o_cons (o_q hflS (fun _ _ => rfl) (fun _ _ => rfl)) ?_
      exact o_nil
    intro σ3 gs3
    refine WL2.keep (env' := [(2, .bool false), (80, .bool false)]) ⟨rfl, rfl, trivial⟩ ?_
    refine h_q hflS rfl ?_
    refine h_nil (f_to (d_ret ?_))
    exact f_fin1 (.tmp rfl) (fun w h => ⟨rfl, below0 h.up⟩) rfl
  · skip
    obtain rfl : r = false := by rw [← hR]; simp
    refine d_seq ?_
    refine d_par 74 8 [⟨.quiet, 0, fun _ => .int .i64 (h : Int), []⟩, ⟨.quiet, 0, fun _ => .bool true, [0]⟩, ⟨.quiet, 0, fun _ => .bool true, [1]⟩, ⟨.quiet, 0, fun _ => .int .i64 (h : Int), [2]⟩, ⟨.call, 1, fun _ => .bool b1, [3, 2]⟩, ⟨.quiet, 0, fun _ => .pointer (some ⟨g1, 1, none⟩), [2]⟩, ⟨.quiet, 0, fun _ => .int .u64 c.s, [5, 2]⟩, ⟨.call, 2, fun _ => .bool v1, [6, 2]⟩, ⟨.quiet, 0, fun _ => .pointer (some ⟨g1, 1, none⟩), [2]⟩, ⟨.quiet, 0, fun _ => .int .u64 c.s, [8, 2]⟩, ⟨.quiet, 0, fun _ => .bool (c.s == 0), [9, 2]⟩, ⟨.call, 3, fun _ => .bool true, [4, 7, 10, 2]⟩, ⟨.quiet, 3, fun _ => .bool true, [2, 11]⟩, ⟨.quiet, 3, fun _ => .bool true, [12]⟩, ⟨.quiet, 3, fun _ => .int .i64 (h : Int), [13]⟩, ⟨.call, 4, fun _ => .bool b2, [14, 13]⟩, ⟨.quiet, 3, fun _ => .pointer (some ⟨g1, 2, none⟩), [13]⟩, ⟨.quiet, 3, fun _ => .int .u64 c.q, [16, 13]⟩, ⟨.call, 5, fun _ => .bool v2, [17, 13]⟩, ⟨.quiet, 3, fun _ => .pointer (some ⟨g1, 2, none⟩), [13]⟩, ⟨.quiet, 3, fun _ => .int .u64 c.q, [19, 13]⟩, ⟨.quiet, 3, fun _ => .bool (c.q == 0), [20, 13]⟩, ⟨.call, 6, fun _ => .bool true, [15, 18, 21, 13]⟩, ⟨.quiet, 6, fun _ => .bool true, [13, 22]⟩, ⟨.quiet, 6, fun _ => .bool true, [23]⟩, ⟨.quiet, 6, fun _ => .int .i64 (h : Int), [24]⟩, ⟨.call, 7, fun _ => .bool b3, [25, 24]⟩, ⟨.quiet, 6, fun _ => .pointer (some ⟨g1, 3, none⟩), [24]⟩, ⟨.quiet, 6, fun _ => .int .u64 c.a, [27, 24]⟩, ⟨.quiet, 6, fun _ => .bool (c.a == 0), [28, 24]⟩, ⟨.call, 8, fun _ => .bool false, [26, 29, 24]⟩, ⟨.quiet, 8, fun _ => .bool false, [24, 30]⟩, ⟨.quiet, 8, fun _ => .bool false, [31]⟩, ⟨.skip, 8, fun _ => undef, [32]⟩, ⟨.skip, 8, fun _ => undef, [33, 32]⟩, ⟨.skip, 8, fun _ => undef, [32]⟩, ⟨.skip, 8, fun _ => undef, [35, 32]⟩, ⟨.skip, 8, fun _ => undef, [36, 32]⟩, ⟨.skip, 8, fun _ => undef, [34, 37, 32]⟩, ⟨.quiet, 8, fun _ => .bool false, [32, 38]⟩, ⟨.quiet, 8, fun _ => .bool false, [39]⟩, ⟨.skip, 8, fun _ => undef, [40]⟩, ⟨.skip, 8, fun _ => undef, [41, 40]⟩, ⟨.skip, 8, fun _ => undef, [40]⟩, ⟨.skip, 8, fun _ => undef, [43, 40]⟩, ⟨.skip, 8, fun _ => undef, [44, 40]⟩, ⟨.skip, 8, fun _ => undef, [40]⟩, ⟨.skip, 8, fun _ => undef, [46, 40]⟩, ⟨.skip, 8, fun _ => undef, [40]⟩, ⟨.skip, 8, fun _ => undef, [47, 48, 40]⟩, ⟨.skip, 8, fun _ => undef, [42, 45, 49, 40]⟩, ⟨.quiet, 8, fun _ => .bool false, [40, 50]⟩, ⟨.quiet, 8, fun _ => .bool false, [51]⟩, ⟨.skip, 8, fun _ => undef, [52]⟩, ⟨.skip, 8, fun _ => undef, [53, 52]⟩, ⟨.skip, 8, fun _ => undef, [52]⟩, ⟨.skip, 8, fun _ => undef, [55, 52]⟩, ⟨.skip, 8, fun _ => undef, [56, 52]⟩, ⟨.skip, 8, fun _ => undef, [52]⟩, ⟨.skip, 8, fun _ => undef, [58, 52]⟩, ⟨.skip, 8, fun _ => undef, [59, 52]⟩, ⟨.skip, 8, fun _ => undef, [54, 57, 60, 52]⟩, ⟨.quiet, 8, fun _ => .bool false, [52, 61]⟩, ⟨.quiet, 8, fun _ => .bool false, [62]⟩, ⟨.skip, 8, fun _ => undef, [63]⟩, ⟨.skip, 8, fun _ => undef, [64, 63]⟩, ⟨.skip, 8, fun _ => undef, [63]⟩, ⟨.skip, 8, fun _ => undef, [66, 63]⟩, ⟨.skip, 8, fun _ => undef, [67, 63]⟩, ⟨.skip, 8, fun _ => undef, [63]⟩, ⟨.skip, 8, fun _ => undef, [69, 63]⟩, ⟨.skip, 8, fun _ => undef, [70, 63]⟩, ⟨.skip, 8, fun _ => undef, [65, 68, 71, 63]⟩, ⟨.quiet, 8, fun _ => .bool false, [63, 72]⟩] [(1, .pointer (some ⟨g1, 0, none⟩)), (2, .bool false), (3, .int .i64 (h : Int))] (by kernel_rfl) (by kernel_rfl) ⟨rfl, rfl, rfl, trivial⟩ ?_ ?_
    · skip
      refine o_cons (o_q hflS (fun _ _ => rfl) (fun _ _ => rfl)) ?_
      refine o_cons (o_cmp (cmp_neq_t (by omega)) (fun _ _ => rfl) rfl (fun _ _ => rfl) (fun _ _ => rfl)) ?_
      refine o_cons (o_q hflS (fun _ _ => rfl) (fun _ _ => rfl)) ?_
      refine o_cons (o_q hflS (fun _ _ => rfl) (fun _ _ => rfl)) ?_
      refine o_cons (o_call (ent_of Tryd.func20 (by kernel_rfl) rfl) (fun w hU => with_any w h 1 hlt (by decide) b1 hb1) (fun _ _ => rfl) rfl (fun _ _ => rfl) (fun _ _ => rfl)) ?_
      refine o_cons (o_q hflS (fun _ _ => rfl) (fun _ _ => rfl)) ?_
      refine o_cons (o_load 0 (reads_one ty_uint64 rfl) (fun _ _ => rfl) rfl (fun _ _ => rfl) rfl) ?_
      refine o_cons (o_call (ent_of Tryd.func21 (by kernel_rfl) rfl) (fun w hU => number_any w c.s v1 hv1) (fun _ _ => rfl) rfl (fun _ _ => rfl) (fun _ _ => rfl)) ?_
      refine o_cons (o_q hflS (fun _ _ => rfl) (fun _ _ => rfl)) ?_
      refine o_cons (o_load 0 (reads_one ty_uint64 rfl) (fun _ _ => rfl) rfl (fun _ _ => rfl) rfl) ?_
      refine o_cons (o_cmp rfl (fun _ _ => rfl) rfl (fun _ _ => rfl) (fun _ _ => rfl)) ?_
      refine o_cons (o_call (ent_of Tryd.func19 (by kernel_rfl) rfl) (fun w hU => may_any w b1 v1 (c.s == 0) _ hm1) (fun _ _ => rfl) rfl (fun _ _ => rfl) (fun _ _ => rfl)) ?_
      refine o_cons (o_q hflS (fun _ _ => rfl) (fun _ _ => rfl)) ?_
      refine o_cons (o_q hflS (fun _ _ => rfl) (fun _ _ => rfl)) ?_
      refine o_cons (o_q hflS (fun _ _ => rfl) (fun _ _ => rfl)) ?_
      refine o_cons (o_call (ent_of Tryd.func20 (by kernel_rfl) rfl) (fun w hU => with_any w h 2 hlt (by decide) b2 hb2) (fun _ _ => rfl) rfl (fun _ _ => rfl) (fun _ _ => rfl)) ?_
      refine o_cons (o_q hflS (fun _ _ => rfl) (fun _ _ => rfl)) ?_
      refine o_cons (o_load 0 (reads_one ty_uint64 rfl) (fun _ _ => rfl) rfl (fun _ _ => rfl) rfl) ?_
      refine o_cons (o_call (ent_of Tryd.func21 (by kernel_rfl) rfl) (fun w hU => number_any w c.q v2 hv2) (fun _ _ => rfl) rfl (fun _ _ => rfl) (fun _ _ => rfl)) ?_
      refine o_cons (o_q hflS (fun _ _ => rfl) (fun _ _ => rfl)) ?_
      refine o_cons (o_load 0 (reads_one ty_uint64 rfl) (fun _ _ => rfl) rfl (fun _ _ => rfl) rfl) ?_
      refine o_cons (o_cmp rfl (fun _ _ => rfl) rfl (fun _ _ => rfl) (fun _ _ => rfl)) ?_
      refine o_cons (o_call (ent_of Tryd.func19 (by kernel_rfl) rfl) (fun w hU => may_any w b2 v2 (c.q == 0) _ hm2) (fun _ _ => rfl) rfl (fun _ _ => rfl) (fun _ _ => rfl)) ?_
      refine o_cons (o_q hflS (fun _ _ => rfl) (fun _ _ => rfl)) ?_
      refine o_cons (o_q hflS (fun _ _ => rfl) (fun _ _ => rfl)) ?_
      refine o_cons (o_q hflS (fun _ _ => rfl) (fun _ _ => rfl)) ?_
      refine o_cons (o_call (ent_of Tryd.func20 (by kernel_rfl) rfl) (fun w hU => with_any w h 4 hlt (by decide) b3 hb3) (fun _ _ => rfl) rfl (fun _ _ => rfl) (fun _ _ => rfl)) ?_
      refine o_cons (o_q hflS (fun _ _ => rfl) (fun _ _ => rfl)) ?_
      refine o_cons (o_load 0 (reads_one ty_uint64 rfl) (fun _ _ => rfl) rfl (fun _ _ => rfl) rfl) ?_
      refine o_cons (o_cmp rfl (fun _ _ => rfl) rfl (fun _ _ => rfl) (fun _ _ => rfl)) ?_
      refine o_cons (o_call (ent_of Tryd.func19 (by kernel_rfl) rfl) (fun w hU => may_any w b3 true (c.a == 0) _ hm3) (fun _ _ => rfl) rfl (fun _ _ => rfl) (fun _ _ => rfl)) ?_
      refine o_cons (o_q hflS (fun _ _ => rfl) (fun _ _ => rfl)) ?_
      refine o_cons (o_q hflS (fun _ _ => rfl) (fun _ _ => rfl)) ?_
      refine o_cons (o_skip (fun _ _ => rfl)) ?_
      refine o_cons (o_skip (fun _ _ => rfl)) ?_
      refine o_cons (o_skip (fun _ _ => rfl)) ?_
      refine o_cons (o_skip (fun _ _ => rfl)) ?_
      refine o_cons (o_skip (fun _ _ => rfl)) ?_
      refine o_cons (o_skip (fun _ _ => rfl)) ?_
      refine o_cons (o_q hflS (fun _ _ => rfl) (fun _ _ => rfl)) ?_
      refine o_cons (o_q hflS (fun _ _ => rfl) (fun _ _ => rfl)) ?_
      refine o_cons (o_skip (fun _ _ => rfl)) ?_
      refine o_cons (o_skip (fun _ _ => rfl)) ?_
      refine o_cons (o_skip (fun _ _ => rfl)) ?_
      refine o_cons (o_skip (fun _ _ => rfl)) ?_
      refine o_cons (o_skip (fun _ _ => rfl)) ?_
      refine o_cons (o_skip (fun _ _ => rfl)) ?_
      refine o_cons (o_skip (fun _ _ => rfl)) ?_
      refine o_cons (o_skip (fun _ _ => rfl)) ?_
      refine o_cons (o_skip (fun _ _ => rfl)) ?_
      refine o_cons (o_skip (fun _ _ => rfl)) ?_
      refine o_cons (o_q hflS (fun _ _ => rfl) (fun _ _ => rfl)) ?_
      refine o_cons (o_q hflS (fun _ _ => rfl) (fun _ _ => rfl)) ?_
      refine o_cons (o_skip (fun _ _ => rfl)) ?_
      refine o_cons (o_skip (fun _ _ => rfl)) ?_
      refine o_cons (o_skip (fun _ _ => rfl)) ?_
      refine o_cons (o_skip (fun _ _ => rfl)) ?_
      refine o_cons (o_skip (fun _ _ => rfl)) ?_
      refine o_cons (o_skip (fun _ _ => rfl)) ?_
      refine o_cons (o_skip (fun _ _ => rfl)) ?_
      refine o_cons (o_skip (fun _ _ => rfl)) ?_
      refine o_cons (o_skip (fun _ _ => rfl)) ?_
      refine o_cons (o_q hflS (fun _ _ => rfl) (fun _ _ => rfl)) ?_
      refine o_cons (o_q hflS (fun _ _ => rfl) (fun _ _ => rfl)) ?_
      refine o_cons (o_skip (fun _ _ => rfl)) ?_
      refine o_cons (o_skip (fun _ _ => rfl)) ?_
      refine o_cons (o_skip (fun _ _ => rfl)) ?_
      refine o_cons (o_skip (fun _ _ => rfl)) ?_
      refine o_cons (o_skip (fun _ _ => rfl)) ?_
      refine o_cons (o_skip (fun _ _ => rfl)) ?_
      refine o_cons (o_skip (fun _ _ => rfl)) ?_
      refine o_cons (o_skip (fun _ _ => rfl)) ?_
      refine o_cons (o_skip (fun _ _ => rfl)) ?_
      refine o_cons (o_q hflS (fun _ _ => rfl) (fun _ _ => rfl)) ?_
      exact o_nil
    intro σ4 gs4
    refine WL2.keep (env' := [(2, .bool false), (80, .bool false)]) ⟨rfl, rfl, trivial⟩ ?_
    refine h_q hflS rfl ?_
    refine h_nil (f_to (d_ret ?_))
    exact f_fin1 (.tmp rfl) (fun w h => ⟨rfl, below0 h.up⟩) rfl
  · skip
    obtain rfl : r = false := by rw [← hR]; simp
    refine d_seq ?_
    refine d_par 74 10 [⟨.quiet, 0, fun _ => .int .i64 (h : Int), []⟩, ⟨.quiet, 0, fun _ => .bool true, [0]⟩, ⟨.quiet, 0, fun _ => .bool true, [1]⟩, ⟨.quiet, 0, fun _ => .int .i64 (h : Int), [2]⟩, ⟨.call, 1, fun _ => .bool b1, [3, 2]⟩, ⟨.quiet, 0, fun _ => .pointer (some ⟨g1, 1, none⟩), [2]⟩, ⟨.quiet, 0, fun _ => .int .u64 c.s, [5, 2]⟩, ⟨.call, 2, fun _ => .bool v1, [6, 2]⟩, ⟨.quiet, 0, fun _ => .pointer (some ⟨g1, 1, none⟩), [2]⟩, ⟨.quiet, 0, fun _ => .int .u64 c.s, [8, 2]⟩, ⟨.quiet, 0, fun _ => .bool (c.s == 0), [9, 2]⟩, ⟨.call, 3, fun _ => .bool true, [4, 7, 10, 2]⟩, ⟨.quiet, 3, fun _ => .bool true, [2, 11]⟩, ⟨.quiet, 3, fun _ => .bool true, [12]⟩, ⟨.quiet, 3, fun _ => .int .i64 (h : Int), [13]⟩, ⟨.call, 4, fun _ => .bool b2, [14, 13]⟩, ⟨.quiet, 3, fun _ => .pointer (some ⟨g1, 2, none⟩), [13]⟩, ⟨.quiet, 3, fun _ => .int .u64 c.q, [16, 13]⟩, ⟨.call, 5, fun _ => .bool v2, [17, 13]⟩, ⟨.quiet, 3, fun _ => .pointer (some ⟨g1, 2, none⟩), [13]⟩, ⟨.quiet, 3, fun _ => .int .u64 c.q, [19, 13]⟩, ⟨.quiet, 3, fun _ => .bool (c.q == 0), [20, 13]⟩, ⟨.call, 6, fun _ => .bool true, [15, 18, 21, 13]⟩, ⟨.quiet, 6, fun _ => .bool true, [13, 22]⟩, ⟨.quiet, 6, fun _ => .bool true, [23]⟩, ⟨.quiet, 6, fun _ => .int .i64 (h : Int), [24]⟩, ⟨.call, 7, fun _ => .bool b3, [25, 24]⟩, ⟨.quiet, 6, fun _ => .pointer (some ⟨g1, 3, none⟩), [24]⟩, ⟨.quiet, 6, fun _ => .int .u64 c.a, [27, 24]⟩, ⟨.quiet, 6, fun _ => .bool (c.a == 0), [28, 24]⟩, ⟨.call, 8, fun _ => .bool true, [26, 29, 24]⟩, ⟨.quiet, 8, fun _ => .bool true, [24, 30]⟩, ⟨.quiet, 8, fun _ => .bool true, [31]⟩, ⟨.quiet, 8, fun _ => .int .i64 (h : Int), [32]⟩, ⟨.call, 9, fun _ => .bool b4, [33, 32]⟩, ⟨.quiet, 8, fun _ => .pointer (some ⟨g1, 4, none⟩), [32]⟩, ⟨.quiet, 8, fun _ => .int .u64 c.b, [35, 32]⟩, ⟨.quiet, 8, fun _ => .bool (c.b == 0), [36, 32]⟩, ⟨.call, 10, fun _ => .bool false, [34, 37, 32]⟩, ⟨.quiet, 10, fun _ => .bool false, [32, 38]⟩, ⟨.quiet, 10, fun _ => .bool false, [39]⟩, ⟨.skip, 10, fun _ => undef, [40]⟩, ⟨.skip, 10, fun _ => undef, [41, 40]⟩, ⟨.skip, 10, fun _ => undef, [40]⟩, ⟨.skip, 10, fun _ => undef, [43, 40]⟩, ⟨.skip, 10, fun _ => undef, [44, 40]⟩, ⟨.skip, 10, fun _ => undef, [40]⟩, ⟨.skip, 10, fun _ => undef, [46, 40]⟩, ⟨.skip, 10, fun _ => undef, [40]⟩, ⟨.skip, 10, fun _ => undef, [47, 48, 40]⟩, ⟨.skip, 10, fun _ => undef, [42, 45, 49, 40]⟩, ⟨.quiet, 10, fun _ => .bool false, [40, 50]⟩, ⟨.quiet, 10, fun _ => .bool false, [51]⟩, ⟨.skip, 10, fun _ => undef, [52]⟩, ⟨.skip, 10, fun _ => undef, [53, 52]⟩, ⟨.skip, 10, fun _ => undef, [52]⟩, ⟨.skip, 10, fun _ => undef, [55, 52]⟩, ⟨.skip, 10, fun _ => undef, [56, 52]⟩, ⟨.skip, 10, fun _ => undef, [52]⟩, ⟨.skip, 10, fun _ => undef, [58, 52]⟩, ⟨.skip, 10, fun _ => undef, [59, 52]⟩, ⟨.skip, 10, fun _ => undef, [54, 57, 60, 52]⟩, ⟨.quiet, 10, fun _ => .bool false, [52, 61]⟩, ⟨.quiet, 10, fun _ => .bool false, [62]⟩, ⟨.skip, 10, fun _ => undef, [63]⟩, ⟨.skip, 10, fun _ => undef, [64, 63]⟩, ⟨.skip, 10, fun _ => undef, [63]⟩, ⟨.skip, 10, fun _ => undef, [66, 63]⟩, ⟨.skip, 10, fun _ => undef, [67, 63]⟩, ⟨.skip, 10, fun _ => undef, [63]⟩, ⟨.skip, 10, fun _ => undef, [69, 63]⟩, ⟨.skip, 10, fun _ => undef, [70, 63]⟩, ⟨.skip, 10, fun _ => undef, [65, 68, 71, 63]⟩, ⟨.quiet, 10, fun _ => .bool false, [63, 72]⟩] [(1, .pointer (some ⟨g1, 0, none⟩)), (2, .bool false), (3, .int .i64 (h : Int))] (by kernel_rfl) (by kernel_rfl) ⟨rfl, rfl, rfl, trivial⟩ ?_ ?_
    · skip
      refine o_cons (o_q hflS (fun _ _ => rfl) (fun _ _ => rfl)) ?_
      refine o_cons (o_cmp (cmp_neq_t (by omega)) (fun _ _ => rfl) rfl (fun _ _ => rfl) (fun _ _ => rfl)) ?_
      refine o_cons (o_q hflS (fun _ _ => rfl) (fun _ _ => rfl)) ?_
      refine o_cons (o_q hflS (fun _ _ => rfl) (fun _ _ => rfl)) ?_
      refine o_cons (o_call (ent_of Tryd.func20 (by kernel_rfl) rfl) (fun w hU => with_any w h 1 hlt (by decide) b1 hb1) (fun _ _ => rfl) rfl (fun _ _ => rfl) (fun _ _ => rfl)) ?_
      refine o_cons (o_q hflS (fun _ _ => rfl) (fun _ _ => rfl)) ?_
      refine o_cons (o_load 0 (reads_one ty_uint64 rfl) (fun _ _ => rfl) rfl (fun _ _ => rfl) rfl) ?_
      refine o_cons (o_call (ent_of Tryd.func21 (by kernel_rfl) rfl) (fun w hU => number_any w c.s v1 hv1) (fun _ _ => rfl) rfl (fun _ _ => rfl) (fun _ _ => rfl)) ?_
      refine o_cons (o_q hflS (fun _ _ => rfl) (fun _ _ => rfl)) ?_
      refine o_cons (o_load 0 (reads_one ty_uint64 rfl) (fun _ _ => rfl) rfl (fun _ _ => rfl) rfl) ?_
      refine o_cons (o_cmp rfl (fun _ _ => rfl) rfl (fun _ _ => rfl) (fun _ _ => rfl)) ?_
      refine o_cons (o_call (ent_of Tryd.func19 (by kernel_rfl) rfl) (fun w hU => may_any w b1 v1 (c.s == 0) _ hm1) (fun _ _ => rfl) rfl (fun _ _ => rfl) (fun _ _ => rfl)) ?_
      refine o_cons (o_q hflS (fun _ _ => rfl) (fun _ _ => rfl)) ?_
      refine o_cons (o_q hflS (fun _ _ => rfl) (fun _ _ => rfl)) ?_
      refine o_cons (o_q hflS (fun _ _ => rfl) (fun _ _ => rfl)) ?_
      refine o_cons (o_call (ent_of Tryd.func20 (by kernel_rfl) rfl) (fun w hU => with_any w h 2 hlt (by decide) b2 hb2) (fun _ _ => rfl) rfl (fun _ _ => rfl) (fun _ _ => rfl)) ?_
      refine o_cons (o_q hflS (fun _ _ => rfl) (fun _ _ => rfl)) ?_
      refine o_cons (o_load 0 (reads_one ty_uint64 rfl) (fun _ _ => rfl) rfl (fun _ _ => rfl) rfl) ?_
      refine o_cons (o_call (ent_of Tryd.func21 (by kernel_rfl) rfl) (fun w hU => number_any w c.q v2 hv2) (fun _ _ => rfl) rfl (fun _ _ => rfl) (fun _ _ => rfl)) ?_
      refine o_cons (o_q hflS (fun _ _ => rfl) (fun _ _ => rfl)) ?_
      refine o_cons (o_load 0 (reads_one ty_uint64 rfl) (fun _ _ => rfl) rfl (fun _ _ => rfl) rfl) ?_
      refine o_cons (o_cmp rfl (fun _ _ => rfl) rfl (fun _ _ => rfl) (fun _ _ => rfl)) ?_
      refine o_cons (o_call (ent_of Tryd.func19 (by kernel_rfl) rfl) (fun w hU => may_any w b2 v2 (c.q == 0) _ hm2) (fun _ _ => rfl) rfl (fun _ _ => rfl) (fun _ _ => rfl)) ?_
      refine o_cons (o_q hflS (fun _ _ => rfl) (fun _ _ => rfl)) ?_
      refine o_cons (o_q hflS (fun _ _ => rfl) (fun _ _ => rfl)) ?_
      refine o_cons (o_q hflS (fun _ _ => rfl) (fun _ _ => rfl)) ?_
      refine o_cons (o_call (ent_of Tryd.func20 (by kernel_rfl) rfl) (fun w hU => with_any w h 4 hlt (by decide) b3 hb3) (fun _ _ => rfl) rfl (fun _ _ => rfl) (fun _ _ => rfl)) ?_
      refine o_cons (o_q hflS (fun _ _ => rfl) (fun _ _ => rfl)) ?_
      refine o_cons (o_load 0 (reads_one ty_uint64 rfl) (fun _ _ => rfl) rfl (fun _ _ => rfl) rfl) ?_
      refine o_cons (o_cmp rfl (fun _ _ => rfl) rfl (fun _ _ => rfl) (fun _ _ => rfl)) ?_
      refine o_cons (o_call (ent_of Tryd.func19 (by kernel_rfl) rfl) (fun w hU => may_any w b3 true (c.a == 0) _ hm3) (fun _ _ => rfl) rfl (fun _ _ => rfl) (fun _ _ => rfl)) ?_
      refine o_cons (o_q hflS (fun _ _ => rfl) (fun _ _ => rfl)) ?_
      refine o_cons (o_q hflS (fun _ _ => rfl) (fun _ _ => rfl)) ?_
      refine o_cons (o_q hflS (fun _ _ => rfl) (fun _ _ => rfl)) ?_
      refine o_cons (o_call (ent_of Tryd.func20 (by kernel_rfl) rfl) (fun w hU => with_any w h 8 hlt (by decide) b4 hb4) (fun _ _ => rfl) rfl (fun _ _ => rfl) (fun _ _ => rfl)) ?_
      refine o_cons (o_q hflS (fun _ _ => rfl) (fun _ _ => rfl)) ?_
      refine o_cons (o_load 0 (reads_one ty_uint64 rfl) (fun _ _ => rfl) rfl (fun _ _ => rfl) rfl) ?_
      refine o_cons (o_cmp rfl (fun _ _ => rfl) rfl (fun _ _ => rfl) (fun _ _ => rfl)) ?_
      refine o_cons (o_call (ent_of Tryd.func19 (by kernel_rfl) rfl) (fun w hU => may_any w b4 true (c.b == 0) _ hm4) (fun _ _ => rfl) rfl (fun _ _ => rfl) (fun _ _ => rfl)) ?_
      refine o_cons (o_q hflS (fun _ _ => rfl) (fun _ _ => rfl)) ?_
      refine o_cons (o_q hflS (fun _ _ => rfl) (fun _ _ => rfl)) ?_
      refine o_cons (o_skip (fun _ _ => rfl)) ?_
      refine o_cons (o_skip (fun _ _ => rfl)) ?_
      refine o_cons (o_skip (fun _ _ => rfl)) ?_
      refine o_cons (o_skip (fun _ _ => rfl)) ?_
      refine o_cons (o_skip (fun _ _ => rfl)) ?_
      refine o_cons (o_skip (fun _ _ => rfl)) ?_
      refine o_cons (o_skip (fun _ _ => rfl)) ?_
      refine o_cons (o_skip (fun _ _ => rfl)) ?_
      refine o_cons (o_skip (fun _ _ => rfl)) ?_
      refine o_cons (o_skip (fun _ _ => rfl)) ?_
      refine o_cons (o_q hflS (fun _ _ => rfl) (fun _ _ => rfl)) ?_
      refine o_cons (o_q hflS (fun _ _ => rfl) (fun _ _ => rfl)) ?_
      refine o_cons (o_skip (fun _ _ => rfl)) ?_
      refine o_cons (o_skip (fun _ _ => rfl)) ?_
      refine o_cons (o_skip (fun _ _ => rfl)) ?_
      refine o_cons (o_skip (fun _ _ => rfl)) ?_
      refine o_cons (o_skip (fun _ _ => rfl)) ?_
      refine o_cons (o_skip (fun _ _ => rfl)) ?_
      refine o_cons (o_skip (fun _ _ => rfl)) ?_
      refine o_cons (o_skip (fun _ _ => rfl)) ?_
      refine o_cons (o_skip (fun _ _ => rfl)) ?_
      refine o_cons (o_q hflS (fun _ _ => rfl) (fun _ _ => rfl)) ?_
      refine o_cons (o_q hflS (fun _ _ => rfl) (fun _ _ => rfl)) ?_
      refine o_cons (o_skip (fun _ _ => rfl)) ?_
      refine o_cons (o_skip (fun _ _ => rfl)) ?_
      refine o_cons (o_skip (fun _ _ => rfl)) ?_
      refine o_cons (o_skip (fun _ _ => rfl)) ?_
      refine o_cons (o_skip (fun _ _ => rfl)) ?_
      refine o_cons (o_skip (fun _ _ => rfl)) ?_
      refine o_cons (o_skip (fun _ _ => rfl)) ?_
      refine o_cons (o_skip (fun _ _ => rfl)) ?_
      refine o_cons (o_skip (fun _ _ => rfl)) ?_
      refine o_cons (o_q hflS (fun _ _ => rfl) (fun _ _ => rfl)) ?_
      exact o_nil
    intro σ5 gs5
    refine WL2.keep (env' := [(2, .bool false), (80, .bool false)]) ⟨rfl, rfl, trivial⟩ ?_
    refine h_q hflS rfl ?_
    refine h_nil (f_to (d_ret ?_))
    exact f_fin1 (.tmp rfl) (fun w h => ⟨rfl, below0 h.up⟩) rfl
  · skip
    obtain rfl : r = false := by rw [← hR]; simp
    refine d_seq ?_
    refine d_par 74 13 [⟨.quiet, 0, fun _ => .int .i64 (h : Int), []⟩, ⟨.quiet, 0, fun _ => .bool true, [0]⟩, ⟨.quiet, 0, fun _ => .bool true, [1]⟩, ⟨.quiet, 0, fun _ => .int .i64 (h : Int), [2]⟩, ⟨.call, 1, fun _ => .bool b1, [3, 2]⟩, ⟨.quiet, 0, fun _ => .pointer (some ⟨g1, 1, none⟩), [2]⟩, ⟨.quiet, 0, fun _ => .int .u64 c.s, [5, 2]⟩, ⟨.call, 2, fun _ => .bool v1, [6, 2]⟩, ⟨.quiet, 0, fun _ => .pointer (some ⟨g1, 1, none⟩), [2]⟩, ⟨.quiet, 0, fun _ => .int .u64 c.s, [8, 2]⟩, ⟨.quiet, 0, fun _ => .bool (c.s == 0), [9, 2]⟩, ⟨.call, 3, fun _ => .bool true, [4, 7, 10, 2]⟩, ⟨.quiet, 3, fun _ => .bool true, [2, 11]⟩, ⟨.quiet, 3, fun _ => .bool true, [12]⟩, ⟨.quiet, 3, fun _ => .int .i64 (h : Int), [13]⟩, ⟨.call, 4, fun _ => .bool b2, [14, 13]⟩, ⟨.quiet, 3, fun _ => .pointer (some ⟨g1, 2, none⟩), [13]⟩, ⟨.quiet, 3, fun _ => .int .u64 c.q, [16, 13]⟩, ⟨.call, 5, fun _ => .bool v2, [17, 13]⟩, ⟨.quiet, 3, fun _ => .pointer (some ⟨g1, 2, none⟩), [13]⟩, ⟨.quiet, 3, fun _ => .int .u64 c.q, [19, 13]⟩, ⟨.quiet, 3, fun _ => .bool (c.q == 0), [20, 13]⟩, ⟨.call, 6, fun _ => .bool true, [15, 18, 21, 13]⟩, ⟨.quiet, 6, fun _ => .bool true, [13, 22]⟩, ⟨.quiet, 6, fun _ => .bool true, [23]⟩, ⟨.quiet, 6, fun _ => .int .i64 (h : Int), [24]⟩, ⟨.call, 7, fun _ => .bool b3, [25, 24]⟩, ⟨.quiet, 6, fun _ => .pointer (some ⟨g1, 3, none⟩), [24]⟩, ⟨.quiet, 6, fun _ => .int .u64 c.a, [27, 24]⟩, ⟨.quiet, 6, fun _ => .bool (c.a == 0), [28, 24]⟩, ⟨.call, 8, fun _ => .bool true, [26, 29, 24]⟩, ⟨.quiet, 8, fun _ => .bool true, [24, 30]⟩, ⟨.quiet, 8, fun _ => .bool true, [31]⟩, ⟨.quiet, 8, fun _ => .int .i64 (h : Int), [32]⟩, ⟨.call, 9, fun _ => .bool b4, [33, 32]⟩, ⟨.quiet, 8, fun _ => .pointer (some ⟨g1, 4, none⟩), [32]⟩, ⟨.quiet, 8, fun _ => .int .u64 c.b, [35, 32]⟩, ⟨.quiet, 8, fun _ => .bool (c.b == 0), [36, 32]⟩, ⟨.call, 10, fun _ => .bool true, [34, 37, 32]⟩, ⟨.quiet, 10, fun _ => .bool true, [32, 38]⟩, ⟨.quiet, 10, fun _ => .bool true, [39]⟩, ⟨.quiet, 10, fun _ => .int .i64 (h : Int), [40]⟩, ⟨.call, 11, fun _ => .bool b5, [41, 40]⟩, ⟨.quiet, 10, fun _ => .pointer (some ⟨g1, 5, none⟩), [40]⟩, ⟨.quiet, 10, fun _ => .agg #[.int .i64 c.hi, .int .u64 c.lo, .int .i64 c.sc], [43, 40]⟩, ⟨.call, 12, fun _ => .bool v5, [44, 40]⟩, ⟨.quiet, 10, fun _ => .pointer (some ⟨g1, 5, none⟩), [40]⟩, ⟨.quiet, 10, fun _ => .agg #[.int .i64 c.hi, .int .u64 c.lo, .int .i64 c.sc], [46, 40]⟩, ⟨.quiet, 10, fun _ => .agg #[.int .i64 0, .int .u64 0, .int .i64 0], [40]⟩, ⟨.quiet, 10, fun _ => .bool z5, [47, 48, 40]⟩, ⟨.call, 13, fun _ => .bool false, [42, 45, 49, 40]⟩, ⟨.quiet, 13, fun _ => .bool false, [40, 50]⟩, ⟨.quiet, 13, fun _ => .bool false, [51]⟩, ⟨.skip, 13, fun _ => undef, [52]⟩, ⟨.skip, 13, fun _ => undef, [53, 52]⟩, ⟨.skip, 13, fun _ => undef, [52]⟩, ⟨.skip, 13, fun _ => undef, [55, 52]⟩, ⟨.skip, 13, fun _ => undef, [56, 52]⟩, ⟨.skip, 13, fun _ => undef, [52]⟩, ⟨.skip, 13, fun _ => undef, [58, 52]⟩, ⟨.skip, 13, fun _ => undef, [59, 52]⟩, ⟨.skip, 13, fun _ => undef, [54, 57, 60, 52]⟩, ⟨.quiet, 13, fun _ => .bool false, [52, 61]⟩, ⟨.quiet, 13, fun _ => .bool false, [62]⟩, ⟨.skip, 13, fun _ => undef, [63]⟩, ⟨.skip, 13, fun _ => undef, [64, 63]⟩, ⟨.skip, 13, fun _ => undef, [63]⟩, ⟨.skip, 13, fun _ => undef, [66, 63]⟩, ⟨.skip, 13, fun _ => undef, [67, 63]⟩, ⟨.skip, 13, fun _ => undef, [63]⟩, ⟨.skip, 13, fun _ => undef, [69, 63]⟩, ⟨.skip, 13, fun _ => undef, [70, 63]⟩, ⟨.skip, 13, fun _ => undef, [65, 68, 71, 63]⟩, ⟨.quiet, 13, fun _ => .bool false, [63, 72]⟩] [(1, .pointer (some ⟨g1, 0, none⟩)), (2, .bool false), (3, .int .i64 (h : Int))] (by kernel_rfl) (by kernel_rfl) ⟨rfl, rfl, rfl, trivial⟩ ?_ ?_
    · skip
      refine o_cons (o_q hflS (fun _ _ => rfl) (fun _ _ => rfl)) ?_
      refine o_cons (o_cmp (cmp_neq_t (by omega)) (fun _ _ => rfl) rfl (fun _ _ => rfl) (fun _ _ => rfl)) ?_
      refine o_cons (o_q hflS (fun _ _ => rfl) (fun _ _ => rfl)) ?_
      refine o_cons (o_q hflS (fun _ _ => rfl) (fun _ _ => rfl)) ?_
      refine o_cons (o_call (ent_of Tryd.func20 (by kernel_rfl) rfl) (fun w hU => with_any w h 1 hlt (by decide) b1 hb1) (fun _ _ => rfl) rfl (fun _ _ => rfl) (fun _ _ => rfl)) ?_
      refine o_cons (o_q hflS (fun _ _ => rfl) (fun _ _ => rfl)) ?_
      refine o_cons (o_load 0 (reads_one ty_uint64 rfl) (fun _ _ => rfl) rfl (fun _ _ => rfl) rfl) ?_
      refine o_cons (o_call (ent_of Tryd.func21 (by kernel_rfl) rfl) (fun w hU => number_any w c.s v1 hv1) (fun _ _ => rfl) rfl (fun _ _ => rfl) (fun _ _ => rfl)) ?_
      refine o_cons (o_q hflS (fun _ _ => rfl) (fun _ _ => rfl)) ?_
      refine o_cons (o_load 0 (reads_one ty_uint64 rfl) (fun _ _ => rfl) rfl (fun _ _ => rfl) rfl) ?_
      refine o_cons (o_cmp rfl (fun _ _ => rfl) rfl (fun _ _ => rfl) (fun _ _ => rfl)) ?_
      refine o_cons (o_call (ent_of Tryd.func19 (by kernel_rfl) rfl) (fun w hU => may_any w b1 v1 (c.s == 0) _ hm1) (fun _ _ => rfl) rfl (fun _ _ => rfl) (fun _ _ => rfl)) ?_
      refine o_cons (o_q hflS (fun _ _ => rfl) (fun _ _ => rfl)) ?_
      refine o_cons (o_q hflS (fun _ _ => rfl) (fun _ _ => rfl)) ?_
      refine o_cons (o_q hflS (fun _ _ => rfl) (fun _ _ => rfl)) ?_
      refine o_cons (o_call (ent_of Tryd.func20 (by kernel_rfl) rfl) (fun w hU => with_any w h 2 hlt (by decide) b2 hb2) (fun _ _ => rfl) rfl (fun _ _ => rfl) (fun _ _ => rfl)) ?_
      refine o_cons (o_q hflS (fun _ _ => rfl) (fun _ _ => rfl)) ?_
      refine o_cons (o_load 0 (reads_one ty_uint64 rfl) (fun _ _ => rfl) rfl (fun _ _ => rfl) rfl) ?_
      refine o_cons (o_call (ent_of Tryd.func21 (by kernel_rfl) rfl) (fun w hU => number_any w c.q v2 hv2) (fun _ _ => rfl) rfl (fun _ _ => rfl) (fun _ _ => rfl)) ?_
      refine o_cons (o_q hflS (fun _ _ => rfl) (fun _ _ => rfl)) ?_
      refine o_cons (o_load 0 (reads_one ty_uint64 rfl) (fun _ _ => rfl) rfl (fun _ _ => rfl) rfl) ?_
      refine o_cons (o_cmp rfl (fun _ _ => rfl) rfl (fun _ _ => rfl) (fun _ _ => rfl)) ?_
      refine o_cons (o_call (ent_of Tryd.func19 (by kernel_rfl) rfl) (fun w hU => may_any w b2 v2 (c.q == 0) _ hm2) (fun _ _ => rfl) rfl (fun _ _ => rfl) (fun _ _ => rfl)) ?_
      refine o_cons (o_q hflS (fun _ _ => rfl) (fun _ _ => rfl)) ?_
      refine o_cons (o_q hflS (fun _ _ => rfl) (fun _ _ => rfl)) ?_
      refine o_cons (o_q hflS (fun _ _ => rfl) (fun _ _ => rfl)) ?_
      refine o_cons (o_call (ent_of Tryd.func20 (by kernel_rfl) rfl) (fun w hU => with_any w h 4 hlt (by decide) b3 hb3) (fun _ _ => rfl) rfl (fun _ _ => rfl) (fun _ _ => rfl)) ?_
      refine o_cons (o_q hflS (fun _ _ => rfl) (fun _ _ => rfl)) ?_
      refine o_cons (o_load 0 (reads_one ty_uint64 rfl) (fun _ _ => rfl) rfl (fun _ _ => rfl) rfl) ?_
      refine o_cons (o_cmp rfl (fun _ _ => rfl) rfl (fun _ _ => rfl) (fun _ _ => rfl)) ?_
      refine o_cons (o_call (ent_of Tryd.func19 (by kernel_rfl) rfl) (fun w hU => may_any w b3 true (c.a == 0) _ hm3) (fun _ _ => rfl) rfl (fun _ _ => rfl) (fun _ _ => rfl)) ?_
      refine o_cons (o_q hflS (fun _ _ => rfl) (fun _ _ => rfl)) ?_
      refine o_cons (o_q hflS (fun _ _ => rfl) (fun _ _ => rfl)) ?_
      refine o_cons (o_q hflS (fun _ _ => rfl) (fun _ _ => rfl)) ?_
      refine o_cons (o_call (ent_of Tryd.func20 (by kernel_rfl) rfl) (fun w hU => with_any w h 8 hlt (by decide) b4 hb4) (fun _ _ => rfl) rfl (fun _ _ => rfl) (fun _ _ => rfl)) ?_
      refine o_cons (o_q hflS (fun _ _ => rfl) (fun _ _ => rfl)) ?_
      refine o_cons (o_load 0 (reads_one ty_uint64 rfl) (fun _ _ => rfl) rfl (fun _ _ => rfl) rfl) ?_
      refine o_cons (o_cmp rfl (fun _ _ => rfl) rfl (fun _ _ => rfl) (fun _ _ => rfl)) ?_
      refine o_cons (o_call (ent_of Tryd.func19 (by kernel_rfl) rfl) (fun w hU => may_any w b4 true (c.b == 0) _ hm4) (fun _ _ => rfl) rfl (fun _ _ => rfl) (fun _ _ => rfl)) ?_
      refine o_cons (o_q hflS (fun _ _ => rfl) (fun _ _ => rfl)) ?_
      refine o_cons (o_q hflS (fun _ _ => rfl) (fun _ _ => rfl)) ?_
      refine o_cons (o_q hflS (fun _ _ => rfl) (fun _ _ => rfl)) ?_
      refine o_cons (o_call (ent_of Tryd.func20 (by kernel_rfl) rfl) (fun w hU => with_any w h 16 hlt (by decide) b5 hb5) (fun _ _ => rfl) rfl (fun _ _ => rfl) (fun _ _ => rfl)) ?_
      refine o_cons (o_q hflS (fun _ _ => rfl) (fun _ _ => rfl)) ?_
      refine o_cons (o_load 0 (reads_agg (cs := [.int .i64 c.k, .int .u64 c.s, .int .u64 c.q, .int .u64 c.a, .int .u64 c.b, .int .i64 c.hi, .int .u64 c.lo, .int .i64 c.sc, .string (bs c.x), .string (bs c.y)]) ty_api_Dec rfl) (fun _ _ => rfl) rfl (fun _ _ => rfl) rfl) ?_
      refine o_cons (o_call (ent_of Tryd.func22 (by kernel_rfl) rfl) (fun w hU => decRight_any w c.hi c.lo c.sc v5 hv5) (fun _ _ => rfl) rfl (fun _ _ => rfl) (fun _ _ => rfl)) ?_
      refine o_cons (o_q hflS (fun _ _ => rfl) (fun _ _ => rfl)) ?_
      refine o_cons (o_load 0 (reads_agg (cs := [.int .i64 c.k, .int .u64 c.s, .int .u64 c.q, .int .u64 c.a, .int .u64 c.b, .int .i64 c.hi, .int .u64 c.lo, .int .i64 c.sc, .string (bs c.x), .string (bs c.y)]) ty_api_Dec rfl) (fun _ _ => rfl) rfl (fun _ _ => rfl) rfl) ?_
      refine o_cons (o_build (cs := #[.int .i64 0, .int .u64 0, .int .i64 0]) (by kernel_rfl) (fun _ _ => rfl) rfl (fun _ _ => rfl)) ?_
      refine o_cons (o_eqs (eqDz c z5 hz5) (fun _ _ => rfl) rfl (fun _ _ => rfl) (fun _ _ => rfl)) ?_
      refine o_cons (o_call (ent_of Tryd.func19 (by kernel_rfl) rfl) (fun w hU => may_any w b5 v5 z5 _ hm5) (fun _ _ => rfl) rfl (fun _ _ => rfl) (fun _ _ => rfl)) ?_
      refine o_cons (o_q hflS (fun _ _ => rfl) (fun _ _ => rfl)) ?_
      refine o_cons (o_q hflS (fun _ _ => rfl) (fun _ _ => rfl)) ?_
      refine o_cons (o_skip (fun _ _ => rfl)) ?_
      refine o_cons (o_skip (fun _ _ => rfl)) ?_
      refine o_cons (o_skip (fun _ _ => rfl)) ?_
      refine o_cons (o_skip (fun _ _ => rfl)) ?_
      refine o_cons (o_skip (fun _ _ => rfl)) ?_
      refine o_cons (o_skip (fun _ _ => rfl)) ?_
      refine o_cons (o_skip (fun _ _ => rfl)) ?_
      refine o_cons (o_skip (fun _ _ => rfl)) ?_
      refine o_cons (o_skip (fun _ _ => rfl)) ?_
      refine o_cons (o_q hflS (fun _ _ => rfl) (fun _ _ => rfl)) ?_
      refine o_cons (o_q hflS (fun _ _ => rfl) (fun _ _ => rfl)) ?_
      refine o_cons (o_skip (fun _ _ => rfl)) ?_
      refine o_cons (o_skip (fun _ _ => rfl)) ?_
      refine o_cons (o_skip (fun _ _ => rfl)) ?_
      refine o_cons (o_skip (fun _ _ => rfl)) ?_
      refine o_cons (o_skip (fun _ _ => rfl)) ?_
      refine o_cons (o_skip (fun _ _ => rfl)) ?_
      refine o_cons (o_skip (fun _ _ => rfl)) ?_
      refine o_cons (o_skip (fun _ _ => rfl)) ?_
      refine o_cons (o_skip (fun _ _ => rfl)) ?_
      refine o_cons (o_q hflS (fun _ _ => rfl) (fun _ _ => rfl)) ?_
      exact o_nil
    intro σ6 gs6
    refine WL2.keep (env' := [(2, .bool false), (80, .bool false)]) ⟨rfl, rfl, trivial⟩ ?_
    refine h_q hflS rfl ?_
    refine h_nil (f_to (d_ret ?_))
    exact f_fin1 (.tmp rfl) (fun w h => ⟨rfl, below0 h.up⟩) rfl
  · skip
    obtain rfl : r = false := by rw [← hR]; simp
    refine d_seq ?_
    refine d_par 74 16 [⟨.quiet, 0, fun _ => .int .i64 (h : Int), []⟩, ⟨.quiet, 0, fun _ => .bool true, [0]⟩, ⟨.quiet, 0, fun _ => .bool true, [1]⟩, ⟨.quiet, 0, fun _ => .int .i64 (h : Int), [2]⟩, ⟨.call, 1, fun _ => .bool b1, [3, 2]⟩, ⟨.quiet, 0, fun _ => .pointer (some ⟨g1, 1, none⟩), [2]⟩, ⟨.quiet, 0, fun _ => .int .u64 c.s, [5, 2]⟩, ⟨.call, 2, fun _ => .bool v1, [6, 2]⟩, ⟨.quiet, 0, fun _ => .pointer (some ⟨g1, 1, none⟩), [2]⟩, ⟨.quiet, 0, fun _ => .int .u64 c.s, [8, 2]⟩, ⟨.quiet, 0, fun _ => .bool (c.s == 0), [9, 2]⟩, ⟨.call, 3, fun _ => .bool true, [4, 7, 10, 2]⟩, ⟨.quiet, 3, fun _ => .bool true, [2, 11]⟩, ⟨.quiet, 3, fun _ => .bool true, [12]⟩, ⟨.quiet, 3, fun _ => .int .i64 (h : Int), [13]⟩, ⟨.call, 4, fun _ => .bool b2, [14, 13]⟩, ⟨.quiet, 3, fun _ => .pointer (some ⟨g1, 2, none⟩), [13]⟩, ⟨.quiet, 3, fun _ => .int .u64 c.q, [16, 13]⟩, ⟨.call, 5, fun _ => .bool v2, [17, 13]⟩, ⟨.quiet, 3, fun _ => .pointer (some ⟨g1, 2, none⟩), [13]⟩, ⟨.quiet, 3, fun _ => .int .u64 c.q, [19, 13]⟩, ⟨.quiet, 3, fun _ => .bool (c.q == 0), [20, 13]⟩, ⟨.call, 6, fun _ => .bool true, [15, 18, 21, 13]⟩, ⟨.quiet, 6, fun _ => .bool true, [13, 22]⟩, ⟨.quiet, 6, fun _ => .bool true, [23]⟩, ⟨.quiet, 6, fun _ => .int .i64 (h : Int), [24]⟩, ⟨.call, 7, fun _ => .bool b3, [25, 24]⟩, ⟨.quiet, 6, fun _ => .pointer (some ⟨g1, 3, none⟩), [24]⟩, ⟨.quiet, 6, fun _ => .int .u64 c.a, [27, 24]⟩, ⟨.quiet, 6, fun _ => .bool (c.a == 0), [28, 24]⟩, ⟨.call, 8, fun _ => .bool true, [26, 29, 24]⟩, ⟨.quiet, 8, fun _ => .bool true, [24, 30]⟩, ⟨.quiet, 8, fun _ => .bool true, [31]⟩, ⟨.quiet, 8, fun _ => .int .i64 (h : Int), [32]⟩, ⟨.call, 9, fun _ => .bool b4, [33, 32]⟩, ⟨.quiet, 8, fun _ => .pointer (some ⟨g1, 4, none⟩), [32]⟩, ⟨.quiet, 8, fun _ => .int .u64 c.b, [35, 32]⟩, ⟨.quiet, 8, fun _ => .bool (c.b == 0), [36, 32]⟩, ⟨.call, 10, fun _ => .bool true, [34, 37, 32]⟩, ⟨.quiet, 10, fun _ => .bool true, [32, 38]⟩, ⟨.quiet, 10, fun _ => .bool true, [39]⟩, ⟨.quiet, 10, fun _ => .int .i64 (h : Int), [40]⟩, ⟨.call, 11, fun _ => .bool b5, [41, 40]⟩, ⟨.quiet, 10, fun _ => .pointer (some ⟨g1, 5, none⟩), [40]⟩, ⟨.quiet, 10, fun _ => .agg #[.int .i64 c.hi, .int .u64 c.lo, .int .i64 c.sc], [43, 40]⟩, ⟨.call, 12, fun _ => .bool v5, [44, 40]⟩, ⟨.quiet, 10, fun _ => .pointer (some ⟨g1, 5, none⟩), [40]⟩, ⟨.quiet, 10, fun _ => .agg #[.int .i64 c.hi, .int .u64 c.lo, .int .i64 c.sc], [46, 40]⟩, ⟨.quiet, 10, fun _ => .agg #[.int .i64 0, .int .u64 0, .int .i64 0], [40]⟩, ⟨.quiet, 10, fun _ => .bool z5, [47, 48, 40]⟩, ⟨.call, 13, fun _ => .bool true, [42, 45, 49, 40]⟩, ⟨.quiet, 13, fun _ => .bool true, [40, 50]⟩, ⟨.quiet, 13, fun _ => .bool true, [51]⟩, ⟨.quiet, 13, fun _ => .int .i64 (h : Int), [52]⟩, ⟨.call, 14, fun _ => .bool b6, [53, 52]⟩, ⟨.quiet, 13, fun _ => .pointer (some ⟨g1, 8, none⟩), [52]⟩, ⟨.quiet, 13, fun _ => .string (bs c.x), [55, 52]⟩, ⟨.call, 15, fun _ => .bool v6, [56, 52]⟩, ⟨.quiet, 13, fun _ => .pointer (some ⟨g1, 8, none⟩), [52]⟩, ⟨.quiet, 13, fun _ => .string (bs c.x), [58, 52]⟩, ⟨.quiet, 13, fun _ => .bool z6, [59, 52]⟩, ⟨.call, 16, fun _ => .bool false, [54, 57, 60, 52]⟩, ⟨.quiet, 16, fun _ => .bool false, [52, 61]⟩, ⟨.quiet, 16, fun _ => .bool false, [62]⟩, ⟨.skip, 16, fun _ => undef, [63]⟩, ⟨.skip, 16, fun _ => undef, [64, 63]⟩, ⟨.skip, 16, fun _ => undef, [63]⟩, ⟨.skip, 16, fun _ => undef, [66, 63]⟩, ⟨.skip, 16, fun _ => undef, [67, 63]⟩, ⟨.skip, 16, fun _ => undef, [63]⟩, ⟨.skip, 16, fun _ => undef, [69, 63]⟩, ⟨.skip, 16, fun _ => undef, [70, 63]⟩, ⟨.skip, 16, fun _ => undef, [65, 68, 71, 63]⟩, ⟨.quiet, 16, fun _ => .bool false, [63, 72]⟩] [(1, .pointer (some ⟨g1, 0, none⟩)), (2, .bool false), (3, .int .i64 (h : Int))] (by kernel_rfl) (by kernel_rfl) ⟨rfl, rfl, rfl, trivial⟩ ?_ ?_
    · skip
      refine o_cons (o_q hflS (fun _ _ => rfl) (fun _ _ => rfl)) ?_
      refine o_cons (o_cmp (cmp_neq_t (by omega)) (fun _ _ => rfl) rfl (fun _ _ => rfl) (fun _ _ => rfl)) ?_
      refine o_cons (o_q hflS (fun _ _ => rfl) (fun _ _ => rfl)) ?_
      refine o_cons (o_q hflS (fun _ _ => rfl) (fun _ _ => rfl)) ?_
      refine o_cons (o_call (ent_of Tryd.func20 (by kernel_rfl) rfl) (fun w hU => with_any w h 1 hlt (by decide) b1 hb1) (fun _ _ => rfl) rfl (fun _ _ => rfl) (fun _ _ => rfl)) ?_
      refine o_cons (o_q hflS (fun _ _ => rfl) (fun _ _ => rfl)) ?_
      refine o_cons (o_load 0 (reads_one ty_uint64 rfl) (fun _ _ => rfl) rfl (fun _ _ => rfl) rfl) ?_
      refine o_cons (o_call (ent_of Tryd.func21 (by kernel_rfl) rfl) (fun w hU => number_any w c.s v1 hv1) (fun _ _ => rfl) rfl (fun _ _ => rfl) (fun _ _ => rfl)) ?_
      refine o_cons (o_q hflS (fun _ _ => rfl) (fun _ _ => rfl)) ?_
      refine o_cons (o_load 0 (reads_one ty_uint64 rfl) (fun _ _ => rfl) rfl (fun _ _ => rfl) rfl) ?_
      refine o_cons (o_cmp rfl (fun _ _ => rfl) rfl (fun _ _ => rfl) (fun _ _ => rfl)) ?_
      refine o_cons (o_call (ent_of Tryd.func19 (by kernel_rfl) rfl) (fun w hU => may_any w b1 v1 (c.s == 0) _ hm1) (fun _ _ => rfl) rfl (fun _ _ => rfl) (fun _ _ => rfl)) ?_
      refine o_cons (o_q hflS (fun _ _ => rfl) (fun _ _ => rfl)) ?_
      refine o_cons (o_q hflS (fun _ _ => rfl) (fun _ _ => rfl)) ?_
      refine o_cons (o_q hflS (fun _ _ => rfl) (fun _ _ => rfl)) ?_
      refine o_cons (o_call (ent_of Tryd.func20 (by kernel_rfl) rfl) (fun w hU => with_any w h 2 hlt (by decide) b2 hb2) (fun _ _ => rfl) rfl (fun _ _ => rfl) (fun _ _ => rfl)) ?_
      refine o_cons (o_q hflS (fun _ _ => rfl) (fun _ _ => rfl)) ?_
      refine o_cons (o_load 0 (reads_one ty_uint64 rfl) (fun _ _ => rfl) rfl (fun _ _ => rfl) rfl) ?_
      refine o_cons (o_call (ent_of Tryd.func21 (by kernel_rfl) rfl) (fun w hU => number_any w c.q v2 hv2) (fun _ _ => rfl) rfl (fun _ _ => rfl) (fun _ _ => rfl)) ?_
      refine o_cons (o_q hflS (fun _ _ => rfl) (fun _ _ => rfl)) ?_
      refine o_cons (o_load 0 (reads_one ty_uint64 rfl) (fun _ _ => rfl) rfl (fun _ _ => rfl) rfl) ?_
      refine o_cons (o_cmp rfl (fun _ _ => rfl) rfl (fun _ _ => rfl) (fun _ _ => rfl)) ?_
      refine o_cons (o_call (ent_of Tryd.func19 (by kernel_rfl) rfl) (fun w hU => may_any w b2 v2 (c.q == 0) _ hm2) (fun _ _ => rfl) rfl (fun _ _ => rfl) (fun _ _ => rfl)) ?_
      refine o_cons (o_q hflS (fun _ _ => rfl) (fun _ _ => rfl)) ?_
      refine o_cons (o_q hflS (fun _ _ => rfl) (fun _ _ => rfl)) ?_
      refine o_cons (o_q hflS (fun _ _ => rfl) (fun _ _ => rfl)) ?_
      refine o_cons (o_call (ent_of Tryd.func20 (by kernel_rfl) rfl) (fun w hU => with_any w h 4 hlt (by decide) b3 hb3) (fun _ _ => rfl) rfl (fun _ _ => rfl) (fun _ _ => rfl)) ?_
      refine o_cons (o_q hflS (fun _ _ => rfl) (fun _ _ => rfl)) ?_
      refine o_cons (o_load 0 (reads_one ty_uint64 rfl) (fun _ _ => rfl) rfl (fun _ _ => rfl) rfl) ?_
      refine o_cons (o_cmp rfl (fun _ _ => rfl) rfl (fun _ _ => rfl) (fun _ _ => rfl)) ?_
      refine o_cons (o_call (ent_of Tryd.func19 (by kernel_rfl) rfl) (fun w hU => may_any w b3 true (c.a == 0) _ hm3) (fun _ _ => rfl) rfl (fun _ _ => rfl) (fun _ _ => rfl)) ?_
      refine o_cons (o_q hflS (fun _ _ => rfl) (fun _ _ => rfl)) ?_
      refine o_cons (o_q hflS (fun _ _ => rfl) (fun _ _ => rfl)) ?_
      refine o_cons (o_q hflS (fun _ _ => rfl) (fun _ _ => rfl)) ?_
      refine o_cons (o_call (ent_of Tryd.func20 (by kernel_rfl) rfl) (fun w hU => with_any w h 8 hlt (by decide) b4 hb4) (fun _ _ => rfl) rfl (fun _ _ => rfl) (fun _ _ => rfl)) ?_
      refine o_cons (o_q hflS (fun _ _ => rfl) (fun _ _ => rfl)) ?_
      refine o_cons (o_load 0 (reads_one ty_uint64 rfl) (fun _ _ => rfl) rfl (fun _ _ => rfl) rfl) ?_
      refine o_cons (o_cmp rfl (fun _ _ => rfl) rfl (fun _ _ => rfl) (fun _ _ => rfl)) ?_
      refine o_cons (o_call (ent_of Tryd.func19 (by kernel_rfl) rfl) (fun w hU => may_any w b4 true (c.b == 0) _ hm4) (fun _ _ => rfl) rfl (fun _ _ => rfl) (fun _ _ => rfl)) ?_
      refine o_cons (o_q hflS (fun _ _ => rfl) (fun _ _ => rfl)) ?_
      refine o_cons (o_q hflS (fun _ _ => rfl) (fun _ _ => rfl)) ?_
      refine o_cons (o_q hflS (fun _ _ => rfl) (fun _ _ => rfl)) ?_
      refine o_cons (o_call (ent_of Tryd.func20 (by kernel_rfl) rfl) (fun w hU => with_any w h 16 hlt (by decide) b5 hb5) (fun _ _ => rfl) rfl (fun _ _ => rfl) (fun _ _ => rfl)) ?_
      refine o_cons (o_q hflS (fun _ _ => rfl) (fun _ _ => rfl)) ?_
      refine o_cons (o_load 0 (reads_agg (cs := [.int .i64 c.k, .int .u64 c.s, .int .u64 c.q, .int .u64 c.a, .int .u64 c.b, .int .i64 c.hi, .int .u64 c.lo, .int .i64 c.sc, .string (bs c.x), .string (bs c.y)]) ty_api_Dec rfl) (fun _ _ => rfl) rfl (fun _ _ => rfl) rfl) ?_
      refine o_cons (o_call (ent_of Tryd.func22 (by kernel_rfl) rfl) (fun w hU => decRight_any w c.hi c.lo c.sc v5 hv5) (fun _ _ => rfl) rfl (fun _ _ => rfl) (fun _ _ => rfl)) ?_
      refine o_cons (o_q hflS (fun _ _ => rfl) (fun _ _ => rfl)) ?_
      refine o_cons (o_load 0 (reads_agg (cs := [.int .i64 c.k, .int .u64 c.s, .int .u64 c.q, .int .u64 c.a, .int .u64 c.b, .int .i64 c.hi, .int .u64 c.lo, .int .i64 c.sc, .string (bs c.x), .string (bs c.y)]) ty_api_Dec rfl) (fun _ _ => rfl) rfl (fun _ _ => rfl) rfl) ?_
      refine o_cons (o_build (cs := #[.int .i64 0, .int .u64 0, .int .i64 0]) (by kernel_rfl) (fun _ _ => rfl) rfl (fun _ _ => rfl)) ?_
      refine o_cons (o_eqs (eqDz c z5 hz5) (fun _ _ => rfl) rfl (fun _ _ => rfl) (fun _ _ => rfl)) ?_
      refine o_cons (o_call (ent_of Tryd.func19 (by kernel_rfl) rfl) (fun w hU => may_any w b5 v5 z5 _ hm5) (fun _ _ => rfl) rfl (fun _ _ => rfl) (fun _ _ => rfl)) ?_
      refine o_cons (o_q hflS (fun _ _ => rfl) (fun _ _ => rfl)) ?_
      refine o_cons (o_q hflS (fun _ _ => rfl) (fun _ _ => rfl)) ?_
      refine o_cons (o_q hflS (fun _ _ => rfl) (fun _ _ => rfl)) ?_
      refine o_cons (o_call (ent_of Tryd.func20 (by kernel_rfl) rfl) (fun w hU => with_any w h 32 hlt (by decide) b6 hb6) (fun _ _ => rfl) rfl (fun _ _ => rfl) (fun _ _ => rfl)) ?_
      refine o_cons (o_q hflS (fun _ _ => rfl) (fun _ _ => rfl)) ?_
      refine o_cons (o_load 0 (reads_one ty_string rfl) (fun _ _ => rfl) rfl (fun _ _ => rfl) rfl) ?_
      refine o_cons (o_call (ent_of Tryd.func17 (by kernel_rfl) rfl) (fun w hU => name_any w c.x v6 hv6 ho.x) (fun _ _ => rfl) rfl (fun _ _ => rfl) (fun _ _ => rfl)) ?_
      refine o_cons (o_q hflS (fun _ _ => rfl) (fun _ _ => rfl)) ?_
      refine o_cons (o_load 0 (reads_one ty_string rfl) (fun _ _ => rfl) rfl (fun _ _ => rfl) rfl) ?_
      refine o_cons (o_same hz6 (fun _ _ => rfl) rfl (fun _ _ => rfl) (fun _ _ => rfl)) ?_
      refine o_cons (o_call (ent_of Tryd.func19 (by kernel_rfl) rfl) (fun w hU => may_any w b6 v6 z6 _ hm6) (fun _ _ => rfl) rfl (fun _ _ => rfl) (fun _ _ => rfl)) ?_
      refine o_cons (o_q hflS (fun _ _ => rfl) (fun _ _ => rfl)) ?_
      refine o_cons (o_q hflS (fun _ _ => rfl) (fun _ _ => rfl)) ?_
      refine o_cons (o_skip (fun _ _ => rfl)) ?_
      refine o_cons (o_skip (fun _ _ => rfl)) ?_
      refine o_cons (o_skip (fun _ _ => rfl)) ?_
      refine o_cons (o_skip (fun _ _ => rfl)) ?_
      refine o_cons (o_skip (fun _ _ => rfl)) ?_
      refine o_cons (o_skip (fun _ _ => rfl)) ?_
      refine o_cons (o_skip (fun _ _ => rfl)) ?_
      refine o_cons (o_skip (fun _ _ => rfl)) ?_
      refine o_cons (o_skip (fun _ _ => rfl)) ?_
      refine o_cons (o_q hflS (fun _ _ => rfl) (fun _ _ => rfl)) ?_
      exact o_nil
    intro σ7 gs7
    refine WL2.keep (env' := [(2, .bool false), (80, .bool false)]) ⟨rfl, rfl, trivial⟩ ?_
    refine h_q hflS rfl ?_
    refine h_nil (f_to (d_ret ?_))
    exact f_fin1 (.tmp rfl) (fun w h => ⟨rfl, below0 h.up⟩) rfl
  · skip
    obtain rfl : r = false := by rw [← hR]; simp
    refine d_seq ?_
    refine d_par 74 19 [⟨.quiet, 0, fun _ => .int .i64 (h : Int), []⟩, ⟨.quiet, 0, fun _ => .bool true, [0]⟩, ⟨.quiet, 0, fun _ => .bool true, [1]⟩, ⟨.quiet, 0, fun _ => .int .i64 (h : Int), [2]⟩, ⟨.call, 1, fun _ => .bool b1, [3, 2]⟩, ⟨.quiet, 0, fun _ => .pointer (some ⟨g1, 1, none⟩), [2]⟩, ⟨.quiet, 0, fun _ => .int .u64 c.s, [5, 2]⟩, ⟨.call, 2, fun _ => .bool v1, [6, 2]⟩, ⟨.quiet, 0, fun _ => .pointer (some ⟨g1, 1, none⟩), [2]⟩, ⟨.quiet, 0, fun _ => .int .u64 c.s, [8, 2]⟩, ⟨.quiet, 0, fun _ => .bool (c.s == 0), [9, 2]⟩, ⟨.call, 3, fun _ => .bool true, [4, 7, 10, 2]⟩, ⟨.quiet, 3, fun _ => .bool true, [2, 11]⟩, ⟨.quiet, 3, fun _ => .bool true, [12]⟩, ⟨.quiet, 3, fun _ => .int .i64 (h : Int), [13]⟩, ⟨.call, 4, fun _ => .bool b2, [14, 13]⟩, ⟨.quiet, 3, fun _ => .pointer (some ⟨g1, 2, none⟩), [13]⟩, ⟨.quiet, 3, fun _ => .int .u64 c.q, [16, 13]⟩, ⟨.call, 5, fun _ => .bool v2, [17, 13]⟩, ⟨.quiet, 3, fun _ => .pointer (some ⟨g1, 2, none⟩), [13]⟩, ⟨.quiet, 3, fun _ => .int .u64 c.q, [19, 13]⟩, ⟨.quiet, 3, fun _ => .bool (c.q == 0), [20, 13]⟩, ⟨.call, 6, fun _ => .bool true, [15, 18, 21, 13]⟩, ⟨.quiet, 6, fun _ => .bool true, [13, 22]⟩, ⟨.quiet, 6, fun _ => .bool true, [23]⟩, ⟨.quiet, 6, fun _ => .int .i64 (h : Int), [24]⟩, ⟨.call, 7, fun _ => .bool b3, [25, 24]⟩, ⟨.quiet, 6, fun _ => .pointer (some ⟨g1, 3, none⟩), [24]⟩, ⟨.quiet, 6, fun _ => .int .u64 c.a, [27, 24]⟩, ⟨.quiet, 6, fun _ => .bool (c.a == 0), [28, 24]⟩, ⟨.call, 8, fun _ => .bool true, [26, 29, 24]⟩, ⟨.quiet, 8, fun _ => .bool true, [24, 30]⟩, ⟨.quiet, 8, fun _ => .bool true, [31]⟩, ⟨.quiet, 8, fun _ => .int .i64 (h : Int), [32]⟩, ⟨.call, 9, fun _ => .bool b4, [33, 32]⟩, ⟨.quiet, 8, fun _ => .pointer (some ⟨g1, 4, none⟩), [32]⟩, ⟨.quiet, 8, fun _ => .int .u64 c.b, [35, 32]⟩, ⟨.quiet, 8, fun _ => .bool (c.b == 0), [36, 32]⟩, ⟨.call, 10, fun _ => .bool true, [34, 37, 32]⟩, ⟨.quiet, 10, fun _ => .bool true, [32, 38]⟩, ⟨.quiet, 10, fun _ => .bool true, [39]⟩, ⟨.quiet, 10, fun _ => .int .i64 (h : Int), [40]⟩, ⟨.call, 11, fun _ => .bool b5, [41, 40]⟩, ⟨.quiet, 10, fun _ => .pointer (some ⟨g1, 5, none⟩), [40]⟩, ⟨.quiet, 10, fun _ => .agg #[.int .i64 c.hi, .int .u64 c.lo, .int .i64 c.sc], [43, 40]⟩, ⟨.call, 12, fun _ => .bool v5, [44, 40]⟩, ⟨.quiet, 10, fun _ => .pointer (some ⟨g1, 5, none⟩), [40]⟩, ⟨.quiet, 10, fun _ => .agg #[.int .i64 c.hi, .int .u64 c.lo, .int .i64 c.sc], [46, 40]⟩, ⟨.quiet, 10, fun _ => .agg #[.int .i64 0, .int .u64 0, .int .i64 0], [40]⟩, ⟨.quiet, 10, fun _ => .bool z5, [47, 48, 40]⟩, ⟨.call, 13, fun _ => .bool true, [42, 45, 49, 40]⟩, ⟨.quiet, 13, fun _ => .bool true, [40, 50]⟩, ⟨.quiet, 13, fun _ => .bool true, [51]⟩, ⟨.quiet, 13, fun _ => .int .i64 (h : Int), [52]⟩, ⟨.call, 14, fun _ => .bool b6, [53, 52]⟩, ⟨.quiet, 13, fun _ => .pointer (some ⟨g1, 8, none⟩), [52]⟩, ⟨.quiet, 13, fun _ => .string (bs c.x), [55, 52]⟩, ⟨.call, 15, fun _ => .bool v6, [56, 52]⟩, ⟨.quiet, 13, fun _ => .pointer (some ⟨g1, 8, none⟩), [52]⟩, ⟨.quiet, 13, fun _ => .string (bs c.x), [58, 52]⟩, ⟨.quiet, 13, fun _ => .bool z6, [59, 52]⟩, ⟨.call, 16, fun _ => .bool true, [54, 57, 60, 52]⟩, ⟨.quiet, 16, fun _ => .bool true, [52, 61]⟩, ⟨.quiet, 16, fun _ => .bool true, [62]⟩, ⟨.quiet, 16, fun _ => .int .i64 (h : Int), [63]⟩, ⟨.call, 17, fun _ => .bool b7, [64, 63]⟩, ⟨.quiet, 16, fun _ => .pointer (some ⟨g1, 9, none⟩), [63]⟩, ⟨.quiet, 16, fun _ => .string (bs c.y), [66, 63]⟩, ⟨.call, 18, fun _ => .bool v7, [67, 63]⟩, ⟨.quiet, 16, fun _ => .pointer (some ⟨g1, 9, none⟩), [63]⟩, ⟨.quiet, 16, fun _ => .string (bs c.y), [69, 63]⟩, ⟨.quiet, 16, fun _ => .bool z7, [70, 63]⟩, ⟨.call, 19, fun _ => .bool false, [65, 68, 71, 63]⟩, ⟨.quiet, 19, fun _ => .bool false, [63, 72]⟩] [(1, .pointer (some ⟨g1, 0, none⟩)), (2, .bool false), (3, .int .i64 (h : Int))] (by kernel_rfl) (by kernel_rfl) ⟨rfl, rfl, rfl, trivial⟩ ?_ ?_
    · skip
      refine o_cons (o_q hflS (fun _ _ => rfl) (fun _ _ => rfl)) ?_
      refine o_cons (o_cmp (cmp_neq_t (by omega)) (fun _ _ => rfl) rfl (fun _ _ => rfl) (fun _ _ => rfl)) ?_
      refine o_cons (o_q hflS (fun _ _ => rfl) (fun _ _ => rfl)) ?_
      refine o_cons (o_q hflS (fun _ _ => rfl) (fun _ _ => rfl)) ?_
      refine o_cons (o_call (ent_of Tryd.func20 (by kernel_rfl) rfl) (fun w hU => with_any w h 1 hlt (by decide) b1 hb1) (fun _ _ => rfl) rfl (fun _ _ => rfl) (fun _ _ => rfl)) ?_
      refine o_cons (o_q hflS (fun _ _ => rfl) (fun _ _ => rfl)) ?_
      refine o_cons (o_load 0 (reads_one ty_uint64 rfl) (fun _ _ => rfl) rfl (fun _ _ => rfl) rfl) ?_
      refine o_cons (o_call (ent_of Tryd.func21 (by kernel_rfl) rfl) (fun w hU => number_any w c.s v1 hv1) (fun _ _ => rfl) rfl (fun _ _ => rfl) (fun _ _ => rfl)) ?_
      refine o_cons (o_q hflS (fun _ _ => rfl) (fun _ _ => rfl)) ?_
      refine o_cons (o_load 0 (reads_one ty_uint64 rfl) (fun _ _ => rfl) rfl (fun _ _ => rfl) rfl) ?_
      refine o_cons (o_cmp rfl (fun _ _ => rfl) rfl (fun _ _ => rfl) (fun _ _ => rfl)) ?_
      refine o_cons (o_call (ent_of Tryd.func19 (by kernel_rfl) rfl) (fun w hU => may_any w b1 v1 (c.s == 0) _ hm1) (fun _ _ => rfl) rfl (fun _ _ => rfl) (fun _ _ => rfl)) ?_
      refine o_cons (o_q hflS (fun _ _ => rfl) (fun _ _ => rfl)) ?_
      refine o_cons (o_q hflS (fun _ _ => rfl) (fun _ _ => rfl)) ?_
      refine o_cons (o_q hflS (fun _ _ => rfl) (fun _ _ => rfl)) ?_
      refine o_cons (o_call (ent_of Tryd.func20 (by kernel_rfl) rfl) (fun w hU => with_any w h 2 hlt (by decide) b2 hb2) (fun _ _ => rfl) rfl (fun _ _ => rfl) (fun _ _ => rfl)) ?_
      refine o_cons (o_q hflS (fun _ _ => rfl) (fun _ _ => rfl)) ?_
      refine o_cons (o_load 0 (reads_one ty_uint64 rfl) (fun _ _ => rfl) rfl (fun _ _ => rfl) rfl) ?_
      refine o_cons (o_call (ent_of Tryd.func21 (by kernel_rfl) rfl) (fun w hU => number_any w c.q v2 hv2) (fun _ _ => rfl) rfl (fun _ _ => rfl) (fun _ _ => rfl)) ?_
      refine o_cons (o_q hflS (fun _ _ => rfl) (fun _ _ => rfl)) ?_
      refine o_cons (o_load 0 (reads_one ty_uint64 rfl) (fun _ _ => rfl) rfl (fun _ _ => rfl) rfl) ?_
      refine o_cons (o_cmp rfl (fun _ _ => rfl) rfl (fun _ _ => rfl) (fun _ _ => rfl)) ?_
      refine o_cons (o_call (ent_of Tryd.func19 (by kernel_rfl) rfl) (fun w hU => may_any w b2 v2 (c.q == 0) _ hm2) (fun _ _ => rfl) rfl (fun _ _ => rfl) (fun _ _ => rfl)) ?_
      refine o_cons (o_q hflS (fun _ _ => rfl) (fun _ _ => rfl)) ?_
      refine o_cons (o_q hflS (fun _ _ => rfl) (fun _ _ => rfl)) ?_
      refine o_cons (o_q hflS (fun _ _ => rfl) (fun _ _ => rfl)) ?_
      refine o_cons (o_call (ent_of Tryd.func20 (by kernel_rfl) rfl) (fun w hU => with_any w h 4 hlt (by decide) b3 hb3) (fun _ _ => rfl) rfl (fun _ _ => rfl) (fun _ _ => rfl)) ?_
      refine o_cons (o_q hflS (fun _ _ => rfl) (fun _ _ => rfl)) ?_
      refine o_cons (o_load 0 (reads_one ty_uint64 rfl) (fun _ _ => rfl) rfl (fun _ _ => rfl) rfl) ?_
      refine o_cons (o_cmp rfl (fun _ _ => rfl) rfl (fun _ _ => rfl) (fun _ _ => rfl)) ?_
      refine o_cons (o_call (ent_of Tryd.func19 (by kernel_rfl) rfl) (fun w hU => may_any w b3 true (c.a == 0) _ hm3) (fun _ _ => rfl) rfl (fun _ _ => rfl) (fun _ _ => rfl)) ?_
      refine o_cons (o_q hflS (fun _ _ => rfl) (fun _ _ => rfl)) ?_
      refine o_cons (o_q hflS (fun _ _ => rfl) (fun _ _ => rfl)) ?_
      refine o_cons (o_q hflS (fun _ _ => rfl) (fun _ _ => rfl)) ?_
      refine o_cons (o_call (ent_of Tryd.func20 (by kernel_rfl) rfl) (fun w hU => with_any w h 8 hlt (by decide) b4 hb4) (fun _ _ => rfl) rfl (fun _ _ => rfl) (fun _ _ => rfl)) ?_
      refine o_cons (o_q hflS (fun _ _ => rfl) (fun _ _ => rfl)) ?_
      refine o_cons (o_load 0 (reads_one ty_uint64 rfl) (fun _ _ => rfl) rfl (fun _ _ => rfl) rfl) ?_
      refine o_cons (o_cmp rfl (fun _ _ => rfl) rfl (fun _ _ => rfl) (fun _ _ => rfl)) ?_
      refine o_cons (o_call (ent_of Tryd.func19 (by kernel_rfl) rfl) (fun w hU => may_any w b4 true (c.b == 0) _ hm4) (fun _ _ => rfl) rfl (fun _ _ => rfl) (fun _ _ => rfl)) ?_
      refine o_cons (o_q hflS (fun _ _ => rfl) (fun _ _ => rfl)) ?_
      refine o_cons (o_q hflS (fun _ _ => rfl) (fun _ _ => rfl)) ?_
      refine o_cons (o_q hflS (fun _ _ => rfl) (fun _ _ => rfl)) ?_
      refine o_cons (o_call (ent_of Tryd.func20 (by kernel_rfl) rfl) (fun w hU => with_any w h 16 hlt (by decide) b5 hb5) (fun _ _ => rfl) rfl (fun _ _ => rfl) (fun _ _ => rfl)) ?_
      refine o_cons (o_q hflS (fun _ _ => rfl) (fun _ _ => rfl)) ?_
      refine o_cons (o_load 0 (reads_agg (cs := [.int .i64 c.k, .int .u64 c.s, .int .u64 c.q, .int .u64 c.a, .int .u64 c.b, .int .i64 c.hi, .int .u64 c.lo, .int .i64 c.sc, .string (bs c.x), .string (bs c.y)]) ty_api_Dec rfl) (fun _ _ => rfl) rfl (fun _ _ => rfl) rfl) ?_
      refine o_cons (o_call (ent_of Tryd.func22 (by kernel_rfl) rfl) (fun w hU => decRight_any w c.hi c.lo c.sc v5 hv5) (fun _ _ => rfl) rfl (fun _ _ => rfl) (fun _ _ => rfl)) ?_
      refine o_cons (o_q hflS (fun _ _ => rfl) (fun _ _ => rfl)) ?_
      refine o_cons (o_load 0 (reads_agg (cs := [.int .i64 c.k, .int .u64 c.s, .int .u64 c.q, .int .u64 c.a, .int .u64 c.b, .int .i64 c.hi, .int .u64 c.lo, .int .i64 c.sc, .string (bs c.x), .string (bs c.y)]) ty_api_Dec rfl) (fun _ _ => rfl) rfl (fun _ _ => rfl) rfl) ?_
      refine o_cons (o_build (cs := #[.int .i64 0, .int .u64 0, .int .i64 0]) (by kernel_rfl) (fun _ _ => rfl) rfl (fun _ _ => rfl)) ?_
      refine o_cons (o_eqs (eqDz c z5 hz5) (fun _ _ => rfl) rfl (fun _ _ => rfl) (fun _ _ => rfl)) ?_
      refine o_cons (o_call (ent_of Tryd.func19 (by kernel_rfl) rfl) (fun w hU => may_any w b5 v5 z5 _ hm5) (fun _ _ => rfl) rfl (fun _ _ => rfl) (fun _ _ => rfl)) ?_
      refine o_cons (o_q hflS (fun _ _ => rfl) (fun _ _ => rfl)) ?_
      refine o_cons (o_q hflS (fun _ _ => rfl) (fun _ _ => rfl)) ?_
      refine o_cons (o_q hflS (fun _ _ => rfl) (fun _ _ => rfl)) ?_
      refine o_cons (o_call (ent_of Tryd.func20 (by kernel_rfl) rfl) (fun w hU => with_any w h 32 hlt (by decide) b6 hb6) (fun _ _ => rfl) rfl (fun _ _ => rfl) (fun _ _ => rfl)) ?_
      refine o_cons (o_q hflS (fun _ _ => rfl) (fun _ _ => rfl)) ?_
      refine o_cons (o_load 0 (reads_one ty_string rfl) (fun _ _ => rfl) rfl (fun _ _ => rfl) rfl) ?_
      refine o_cons (o_call (ent_of Tryd.func17 (by kernel_rfl) rfl) (fun w hU => name_any w c.x v6 hv6 ho.x) (fun _ _ => rfl) rfl (fun _ _ => rfl) (fun _ _ => rfl)) ?_
      refine o_cons (o_q hflS (fun _ _ => rfl) (fun _ _ => rfl)) ?_
      refine o_cons (o_load 0 (reads_one ty_string rfl) (fun _ _ => rfl) rfl (fun _ _ => rfl) rfl) ?_
      refine o_cons (o_same hz6 (fun _ _ => rfl) rfl (fun _ _ => rfl) (fun _ _ => rfl)) ?_
      refine o_cons (o_call (ent_of Tryd.func19 (by kernel_rfl) rfl) (fun w hU => may_any w b6 v6 z6 _ hm6) (fun _ _ => rfl) rfl (fun _ _ => rfl) (fun _ _ => rfl)) ?_
      refine o_cons (o_q hflS (fun _ _ => rfl) (fun _ _ => rfl)) ?_
      refine o_cons (o_q hflS (fun _ _ => rfl) (fun _ _ => rfl)) ?_
      refine o_cons (o_q hflS (fun _ _ => rfl) (fun _ _ => rfl)) ?_
      refine o_cons (o_call (ent_of Tryd.func20 (by kernel_rfl) rfl) (fun w hU => with_any w h 64 hlt (by decide) b7 hb7) (fun _ _ => rfl) rfl (fun _ _ => rfl) (fun _ _ => rfl)) ?_
      refine o_cons (o_q hflS (fun _ _ => rfl) (fun _ _ => rfl)) ?_
      refine o_cons (o_load 0 (reads_one ty_string rfl) (fun _ _ => rfl) rfl (fun _ _ => rfl) rfl) ?_
      refine o_cons (o_call (ent_of Tryd.func17 (by kernel_rfl) rfl) (fun w hU => name_any w c.y v7 hv7 ho.y) (fun _ _ => rfl) rfl (fun _ _ => rfl) (fun _ _ => rfl)) ?_
      refine o_cons (o_q hflS (fun _ _ => rfl) (fun _ _ => rfl)) ?_
      refine o_cons (o_load 0 (reads_one ty_string rfl) (fun _ _ => rfl) rfl (fun _ _ => rfl) rfl) ?_
      refine o_cons (o_same hz7 (fun _ _ => rfl) rfl (fun _ _ => rfl) (fun _ _ => rfl)) ?_
      refine o_cons (o_call (ent_of Tryd.func19 (by kernel_rfl) rfl) (fun w hU => may_any w b7 v7 z7 _ hm7) (fun _ _ => rfl) rfl (fun _ _ => rfl) (fun _ _ => rfl)) ?_
      refine o_cons (o_q hflS (fun _ _ => rfl) (fun _ _ => rfl)) ?_
      exact o_nil
    intro σ8 gs8
    refine WL2.keep (env' := [(2, .bool false), (80, .bool false)]) ⟨rfl, rfl, trivial⟩ ?_
    refine h_q hflS rfl ?_
    refine h_nil (f_to (d_ret ?_))
    exact f_fin1 (.tmp rfl) (fun w h => ⟨rfl, below0 h.up⟩) rfl
  · skip
    obtain rfl : r = true := by rw [← hR]; simp [h0]
    refine d_seq ?_
    refine d_par 74 19 [⟨.quiet, 0, fun _ => .int .i64 (h : Int), []⟩, ⟨.quiet, 0, fun _ => .bool true, [0]⟩, ⟨.quiet, 0, fun _ => .bool true, [1]⟩, ⟨.quiet, 0, fun _ => .int .i64 (h : Int), [2]⟩, ⟨.call, 1, fun _ => .bool b1, [3, 2]⟩, ⟨.quiet, 0, fun _ => .pointer (some ⟨g1, 1, none⟩), [2]⟩, ⟨.quiet, 0, fun _ => .int .u64 c.s, [5, 2]⟩, ⟨.call, 2, fun _ => .bool v1, [6, 2]⟩, ⟨.quiet, 0, fun _ => .pointer (some ⟨g1, 1, none⟩), [2]⟩, ⟨.quiet, 0, fun _ => .int .u64 c.s, [8, 2]⟩, ⟨.quiet, 0, fun _ => .bool (c.s == 0), [9, 2]⟩, ⟨.call, 3, fun _ => .bool true, [4, 7, 10, 2]⟩, ⟨.quiet, 3, fun _ => .bool true, [2, 11]⟩, ⟨.quiet, 3, fun _ => .bool true, [12]⟩, ⟨.quiet, 3, fun _ => .int .i64 (h : Int), [13]⟩, ⟨.call, 4, fun _ => .bool b2, [14, 13]⟩, ⟨.quiet, 3, fun _ => .pointer (some ⟨g1, 2, none⟩), [13]⟩, ⟨.quiet, 3, fun _ => .int .u64 c.q, [16, 13]⟩, ⟨.call, 5, fun _ => .bool v2, [17, 13]⟩, ⟨.quiet, 3, fun _ => .pointer (some ⟨g1, 2, none⟩), [13]⟩, ⟨.quiet, 3, fun _ => .int .u64 c.q, [19, 13]⟩, ⟨.quiet, 3, fun _ => .bool (c.q == 0), [20, 13]⟩, ⟨.call, 6, fun _ => .bool true, [15, 18, 21, 13]⟩, ⟨.quiet, 6, fun _ => .bool true, [13, 22]⟩, ⟨.quiet, 6, fun _ => .bool true, [23]⟩, ⟨.quiet, 6, fun _ => .int .i64 (h : Int), [24]⟩, ⟨.call, 7, fun _ => .bool b3, [25, 24]⟩, ⟨.quiet, 6, fun _ => .pointer (some ⟨g1, 3, none⟩), [24]⟩, ⟨.quiet, 6, fun _ => .int .u64 c.a, [27, 24]⟩, ⟨.quiet, 6, fun _ => .bool (c.a == 0), [28, 24]⟩, ⟨.call, 8, fun _ => .bool true, [26, 29, 24]⟩, ⟨.quiet, 8, fun _ => .bool true, [24, 30]⟩, ⟨.quiet, 8, fun _ => .bool true, [31]⟩, ⟨.quiet, 8, fun _ => .int .i64 (h : Int), [32]⟩, ⟨.call, 9, fun _ => .bool b4, [33, 32]⟩, ⟨.quiet, 8, fun _ => .pointer (some ⟨g1, 4, none⟩), [32]⟩, ⟨.quiet, 8, fun _ => .int .u64 c.b, [35, 32]⟩, ⟨.quiet, 8, fun _ => .bool (c.b == 0), [36, 32]⟩, ⟨.call, 10, fun _ => .bool true, [34, 37, 32]⟩, ⟨.quiet, 10, fun _ => .bool true, [32, 38]⟩, ⟨.quiet, 10, fun _ => .bool true, [39]⟩, ⟨.quiet, 10, fun _ => .int .i64 (h : Int), [40]⟩, ⟨.call, 11, fun _ => .bool b5, [41, 40]⟩, ⟨.quiet, 10, fun _ => .pointer (some ⟨g1, 5, none⟩), [40]⟩, ⟨.quiet, 10, fun _ => .agg #[.int .i64 c.hi, .int .u64 c.lo, .int .i64 c.sc], [43, 40]⟩, ⟨.call, 12, fun _ => .bool v5, [44, 40]⟩, ⟨.quiet, 10, fun _ => .pointer (some ⟨g1, 5, none⟩), [40]⟩, ⟨.quiet, 10, fun _ => .agg #[.int .i64 c.hi, .int .u64 c.lo, .int .i64 c.sc], [46, 40]⟩, ⟨.quiet, 10, fun _ => .agg #[.int .i64 0, .int .u64 0, .int .i64 0], [40]⟩, ⟨.quiet, 10, fun _ => .bool z5, [47, 48, 40]⟩, ⟨.call, 13, fun _ => .bool true, [42, 45, 49, 40]⟩, ⟨.quiet, 13, fun _ => .bool true, [40, 50]⟩, ⟨.quiet, 13, fun _ => .bool true, [51]⟩, ⟨.quiet, 13, fun _ => .int .i64 (h : Int), [52]⟩, ⟨.call, 14, fun _ => .bool b6, [53, 52]⟩, ⟨.quiet, 13, fun _ => .pointer (some ⟨g1, 8, none⟩), [52]⟩, ⟨.quiet, 13, fun _ => .string (bs c.x), [55, 52]⟩, ⟨.call, 15, fun _ => .bool v6, [56, 52]⟩, ⟨.quiet, 13, fun _ => .pointer (some ⟨g1, 8, none⟩), [52]⟩, ⟨.quiet, 13, fun _ => .string (bs c.x), [58, 52]⟩, ⟨.quiet, 13, fun _ => .bool z6, [59, 52]⟩, ⟨.call, 16, fun _ => .bool true, [54, 57, 60, 52]⟩, ⟨.quiet, 16, fun _ => .bool true, [52, 61]⟩, ⟨.quiet, 16, fun _ => .bool true, [62]⟩, ⟨.quiet, 16, fun _ => .int .i64 (h : Int), [63]⟩, ⟨.call, 17, fun _ => .bool b7, [64, 63]⟩, ⟨.quiet, 16, fun _ => .pointer (some ⟨g1, 9, none⟩), [63]⟩, ⟨.quiet, 16, fun _ => .string (bs c.y), [66, 63]⟩, ⟨.call, 18, fun _ => .bool v7, [67, 63]⟩, ⟨.quiet, 16, fun _ => .pointer (some ⟨g1, 9, none⟩), [63]⟩, ⟨.quiet, 16, fun _ => .string (bs c.y), [69, 63]⟩, ⟨.quiet, 16, fun _ => .bool z7, [70, 63]⟩, ⟨.call, 19, fun _ => .bool true, [65, 68, 71, 63]⟩, ⟨.quiet, 19, fun _ => .bool true, [63, 72]⟩] [(1, .pointer (some ⟨g1, 0, none⟩)), (2, .bool false), (3, .int .i64 (h : Int))] (by kernel_rfl) (by kernel_rfl) ⟨rfl, rfl, rfl, trivial⟩ ?_ ?_
    · skip
      refine o_cons (o_q hflS (fun _ _ => rfl) (fun _ _ => rfl)) ?_
      refine o_cons (o_cmp (cmp_neq_t (by omega)) (fun _ _ => rfl) rfl (fun _ _ => rfl) (fun _ _ => rfl)) ?_
      refine o_cons (o_q hflS (fun _ _ => rfl) (fun _ _ => rfl)) ?_
      refine o_cons (o_q hflS (fun _ _ => rfl) (fun _ _ => rfl)) ?_
      refine o_cons (o_call (ent_of Tryd.func20 (by kernel_rfl) rfl) (fun w hU => with_any w h 1 hlt (by decide) b1 hb1) (fun _ _ => rfl) rfl (fun _ _ => rfl) (fun _ _ => rfl)) ?_
      refine o_cons (o_q hflS (fun _ _ => rfl) (fun _ _ => rfl)) ?_
      refine o_cons (o_load 0 (reads_one ty_uint64 rfl) (fun _ _ => rfl) rfl (fun _ _ => rfl) rfl) ?_
      refine o_cons (o_call (ent_of Tryd.func21 (by kernel_rfl) rfl) (fun w hU => number_any w c.s v1 hv1) (fun _ _ => rfl) rfl (fun _ _ => rfl) (fun _ _ => rfl)) ?_
      refine o_cons (o_q hflS (fun _ _ => rfl) (fun _ _ => rfl)) ?_
      refine o_cons (o_load 0 (reads_one ty_uint64 rfl) (fun _ _ => rfl) rfl (fun _ _ => rfl) rfl) ?_
      refine o_cons (o_cmp rfl (fun _ _ => rfl) rfl (fun _ _ => rfl) (fun _ _ => rfl)) ?_
      refine o_cons (o_call (ent_of Tryd.func19 (by kernel_rfl) rfl) (fun w hU => may_any w b1 v1 (c.s == 0) _ hm1) (fun _ _ => rfl) rfl (fun _ _ => rfl) (fun _ _ => rfl)) ?_
      refine o_cons (o_q hflS (fun _ _ => rfl) (fun _ _ => rfl)) ?_
      refine o_cons (o_q hflS (fun _ _ => rfl) (fun _ _ => rfl)) ?_
      refine o_cons (o_q hflS (fun _ _ => rfl) (fun _ _ => rfl)) ?_
      refine o_cons (o_call (ent_of Tryd.func20 (by kernel_rfl) rfl) (fun w hU => with_any w h 2 hlt (by decide) b2 hb2) (fun _ _ => rfl) rfl (fun _ _ => rfl) (fun _ _ => rfl)) ?_
      refine o_cons (o_q hflS (fun _ _ => rfl) (fun _ _ => rfl)) ?_
      refine o_cons (o_load 0 (reads_one ty_uint64 rfl) (fun _ _ => rfl) rfl (fun _ _ => rfl) rfl) ?_
      refine o_cons (o_call (ent_of Tryd.func21 (by kernel_rfl) rfl) (fun w hU => number_any w c.q v2 hv2) (fun _ _ => rfl) rfl (fun _ _ => rfl) (fun _ _ => rfl)) ?_
      refine o_cons (o_q hflS (fun _ _ => rfl) (fun _ _ => rfl)) ?_
      refine o_cons (o_load 0 (reads_one ty_uint64 rfl) (fun _ _ => rfl) rfl (fun _ _ => rfl) rfl) ?_
      refine o_cons (o_cmp rfl (fun _ _ => rfl) rfl (fun _ _ => rfl) (fun _ _ => rfl)) ?_
      refine o_cons (o_call (ent_of Tryd.func19 (by kernel_rfl) rfl) (fun w hU => may_any w b2 v2 (c.q == 0) _ hm2) (fun _ _ => rfl) rfl (fun _ _ => rfl) (fun _ _ => rfl)) ?_
      refine o_cons (o_q hflS (fun _ _ => rfl) (fun _ _ => rfl)) ?_
      refine o_cons (o_q hflS (fun _ _ => rfl) (fun _ _ => rfl)) ?_
      refine o_cons (o_q hflS (fun _ _ => rfl) (fun _ _ => rfl)) ?_
      refine o_cons (o_call (ent_of Tryd.func20 (by kernel_rfl) rfl) (fun w hU => with_any w h 4 hlt (by decide) b3 hb3) (fun _ _ => rfl) rfl (fun _ _ => rfl) (fun _ _ => rfl)) ?_
      refine o_cons (o_q hflS (fun _ _ => rfl) (fun _ _ => rfl)) ?_
      refine o_cons (o_load 0 (reads_one ty_uint64 rfl) (fun _ _ => rfl) rfl (fun _ _ => rfl) rfl) ?_
      refine o_cons (o_cmp rfl (fun _ _ => rfl) rfl (fun _ _ => rfl) (fun _ _ => rfl)) ?_
      refine o_cons (o_call (ent_of Tryd.func19 (by kernel_rfl) rfl) (fun w hU => may_any w b3 true (c.a == 0) _ hm3) (fun _ _ => rfl) rfl (fun _ _ => rfl) (fun _ _ => rfl)) ?_
      refine o_cons (o_q hflS (fun _ _ => rfl) (fun _ _ => rfl)) ?_
      refine o_cons (o_q hflS (fun _ _ => rfl) (fun _ _ => rfl)) ?_
      refine o_cons (o_q hflS (fun _ _ => rfl) (fun _ _ => rfl)) ?_
      refine o_cons (o_call (ent_of Tryd.func20 (by kernel_rfl) rfl) (fun w hU => with_any w h 8 hlt (by decide) b4 hb4) (fun _ _ => rfl) rfl (fun _ _ => rfl) (fun _ _ => rfl)) ?_
      refine o_cons (o_q hflS (fun _ _ => rfl) (fun _ _ => rfl)) ?_
      refine o_cons (o_load 0 (reads_one ty_uint64 rfl) (fun _ _ => rfl) rfl (fun _ _ => rfl) rfl) ?_
      refine o_cons (o_cmp rfl (fun _ _ => rfl) rfl (fun _ _ => rfl) (fun _ _ => rfl)) ?_
      refine o_cons (o_call (ent_of Tryd.func19 (by kernel_rfl) rfl) (fun w hU => may_any w b4 true (c.b == 0) _ hm4) (fun _ _ => rfl) rfl (fun _ _ => rfl) (fun _ _ => rfl)) ?_
      refine o_cons (o_q hflS (fun _ _ => rfl) (fun _ _ => rfl)) ?_
      refine o_cons (o_q hflS (fun _ _ => rfl) (fun _ _ => rfl)) ?_
      refine o_cons (o_q hflS (fun _ _ => rfl) (fun _ _ => rfl)) ?_
      refine o_cons (o_call (ent_of Tryd.func20 (by kernel_rfl) rfl) (fun w hU => with_any w h 16 hlt (by decide) b5 hb5) (fun _ _ => rfl) rfl (fun _ _ => rfl) (fun _ _ => rfl)) ?_
      refine o_cons (o_q hflS (fun _ _ => rfl) (fun _ _ => rfl)) ?_
      refine o_cons (o_load 0 (reads_agg (cs := [.int .i64 c.k, .int .u64 c.s, .int .u64 c.q, .int .u64 c.a, .int .u64 c.b, .int .i64 c.hi, .int .u64 c.lo, .int .i64 c.sc, .string (bs c.x), .string (bs c.y)]) ty_api_Dec rfl) (fun _ _ => rfl) rfl (fun _ _ => rfl) rfl) ?_
      refine o_cons (o_call (ent_of Tryd.func22 (by kernel_rfl) rfl) (fun w hU => decRight_any w c.hi c.lo c.sc v5 hv5) (fun _ _ => rfl) rfl (fun _ _ => rfl) (fun _ _ => rfl)) ?_
      refine o_cons (o_q hflS (fun _ _ => rfl) (fun _ _ => rfl)) ?_
      refine o_cons (o_load 0 (reads_agg (cs := [.int .i64 c.k, .int .u64 c.s, .int .u64 c.q, .int .u64 c.a, .int .u64 c.b, .int .i64 c.hi, .int .u64 c.lo, .int .i64 c.sc, .string (bs c.x), .string (bs c.y)]) ty_api_Dec rfl) (fun _ _ => rfl) rfl (fun _ _ => rfl) rfl) ?_
      refine o_cons (o_build (cs := #[.int .i64 0, .int .u64 0, .int .i64 0]) (by kernel_rfl) (fun _ _ => rfl) rfl (fun _ _ => rfl)) ?_
      refine o_cons (o_eqs (eqDz c z5 hz5) (fun _ _ => rfl) rfl (fun _ _ => rfl) (fun _ _ => rfl)) ?_
      refine o_cons (o_call (ent_of Tryd.func19 (by kernel_rfl) rfl) (fun w hU => may_any w b5 v5 z5 _ hm5) (fun _ _ => rfl) rfl (fun _ _ => rfl) (fun _ _ => rfl)) ?_
      refine o_cons (o_q hflS (fun _ _ => rfl) (fun _ _ => rfl)) ?_
      refine o_cons (o_q hflS (fun _ _ => rfl) (fun _ _ => rfl)) ?_
      refine o_cons (o_q hflS (fun _ _ => rfl) (fun _ _ => rfl)) ?_
      refine o_cons (o_call (ent_of Tryd.func20 (by kernel_rfl) rfl) (fun w hU => with_any w h 32 hlt (by decide) b6 hb6) (fun _ _ => rfl) rfl (fun _ _ => rfl) (fun _ _ => rfl)) ?_
      refine o_cons (o_q hflS (fun _ _ => rfl) (fun _ _ => rfl)) ?_
      refine o_cons (o_load 0 (reads_one ty_string rfl) (fun _ _ => rfl) rfl (fun _ _ => rfl) rfl) ?_
      refine o_cons (o_call (ent_of Tryd.func17 (by kernel_rfl) rfl) (fun w hU => name_any w c.x v6 hv6 ho.x) (fun _ _ => rfl) rfl (fun _ _ => rfl) (fun _ _ => rfl)) ?_
      refine o_cons (o_q hflS (fun _ _ => rfl) (fun _ _ => rfl)) ?_
      refine o_cons (o_load 0 (reads_one ty_string rfl) (fun _ _ => rfl) rfl (fun _ _ => rfl) rfl) ?_
      refine o_cons (o_same hz6 (fun _ _ => rfl) rfl (fun _ _ => rfl) (fun _ _ => rfl)) ?_
      refine o_cons (o_call (ent_of Tryd.func19 (by kernel_rfl) rfl) (fun w hU => may_any w b6 v6 z6 _ hm6) (fun _ _ => rfl) rfl (fun _ _ => rfl) (fun _ _ => rfl)) ?_
      refine o_cons (o_q hflS (fun _ _ => rfl) (fun _ _ => rfl)) ?_
      refine o_cons (o_q hflS (fun _ _ => rfl) (fun _ _ => rfl)) ?_
      refine o_cons (o_q hflS (fun _ _ => rfl) (fun _ _ => rfl)) ?_
      refine o_cons (o_call (ent_of Tryd.func20 (by kernel_rfl) rfl) (fun w hU => with_any w h 64 hlt (by decide) b7 hb7) (fun _ _ => rfl) rfl (fun _ _ => rfl) (fun _ _ => rfl)) ?_
      refine o_cons (o_q hflS (fun _ _ => rfl) (fun _ _ => rfl)) ?_
      refine o_cons (o_load 0 (reads_one ty_string rfl) (fun _ _ => rfl) rfl (fun _ _ => rfl) rfl) ?_
      refine o_cons (o_call (ent_of Tryd.func17 (by kernel_rfl) rfl) (fun w hU => name_any w c.y v7 hv7 ho.y) (fun _ _ => rfl) rfl (fun _ _ => rfl) (fun _ _ => rfl)) ?_
      refine o_cons (o_q hflS (fun _ _ => rfl) (fun _ _ => rfl)) ?_
      refine o_cons (o_load 0 (reads_one ty_string rfl) (fun _ _ => rfl) rfl (fun _ _ => rfl) rfl) ?_
      refine o_cons (o_same hz7 (fun _ _ => rfl) rfl (fun _ _ => rfl) (fun _ _ => rfl)) ?_
      refine o_cons (o_call (ent_of Tryd.func19 (by kernel_rfl) rfl) (fun w hU => may_any w b7 v7 z7 _ hm7) (fun _ _ => rfl) rfl (fun _ _ => rfl) (fun _ _ => rfl)) ?_
      refine o_cons (o_q hflS (fun _ _ => rfl) (fun _ _ => rfl)) ?_
      exact o_nil
    intro σ9 gs9
    refine WL2.keep (env' := [(2, .bool false), (80, .bool true)]) ⟨rfl, rfl, trivial⟩ ?_
    refine h_q hflS rfl ?_
    refine h_nil (f_to (d_ret ?_))
    exact f_fin1 (.tmp rfl) (fun w h => ⟨rfl, below0 h.up⟩) rfl
end Go.Proofs.YtlkknncndgamdaaDoor.Sep
