/-
  RpcH
-/
import Derived.Test.YtnhcbjlaeaohjaaBD02
set_option linter.unusedSimpArgs false
set_option linter.unusedVariables false

namespace Go.Proofs.Ytnhcbjlaeaohjaa.Sep
open Go.RowKit
open Go.Proofs.Ytnhcbjlaeaohjaa.Mem (Dist Blk Chg below0)

theorem rm_alg (n0 p1 p2 p3 p4 p5 v4 p7 p8 p9 f1 g2 g3 g4 g5 g6 g7 s1 s2 u3 u5 y1 v8 : Bool) :
    (!n0 && (!p1 && !p2) && (!p3 && !p4) && !p5 && v4 && (!p7 && !f1) && (!p8 && !g2) && (!p9 && !g3) && (v8 && !g4) && !g5 && (!s1 && !s2) && (!u3 && !u5) && !g6 && (y1 && !g7)) = (!(((((((((n0 || p1) || p2) || p3) || p4) || p5) || !v4) || p7) || p8) || p9) && !((((((f1 || g2) || g3) || g4) || g5) || g6) || g7) && !(s1 || s2) && !(u3 || u5) && (y1 && v8)) := by
  simp only [Bool.not_or, Bool.not_not, Bool.and_assoc, Bool.and_comm, Bool.and_left_comm]
theorem low_alg (b : Bool) (n : Int) : mayB b (lowB n) (n == 0) = (!decide (n > 72057594037927935) && !(!b && (n != 0))) := by
  have h1 : lowB n = !decide (n > 72057594037927935) := by unfold lowB; rw [← decide_not]; exact decide_eq_decide.2 (by omega)
  rw [h1]
  cases b
  · by_cases h0 : n = 0
    · subst h0; rfl
    · have : (n == 0) = false := by simpa using h0
      have h2 : (n != 0) = true := by simpa using h0
      rw [h2]; simp [mayB, h0]
  · simp [mayB]
theorem node_alg (n : Int) : nodeB n = (!decide (n < 1) && !decide (n > 7)) := by
  unfold nodeB
  rw [← decide_not, ← decide_not]
  congr 1
  · exact decide_eq_decide.2 (by omega)
  · exact decide_eq_decide.2 (by omega)
theorem ents_alg (m : MsgD) (b : Bool) (es : List EntV) (he : m.es = es.map (·.e)) : mayB b (entsB m) (m.es == []) = (entsB m && !(!b && decide ((es.length : Int) > 0))) := by
  cases b
  · cases es with
    | nil =>
      have h0 : m.es = [] := he
      have : entsB m = true := by unfold entsB; rw [h0]; rfl
      rw [this, h0]; rfl
    | cons e r =>
      have h0 : (m.es == []) = false := by rw [he]; rfl
      rw [h0]
      have : decide (((e :: r).length : Int) > 0) = true := decide_eq_true (by simp only [List.length_cons]; omega)
      rw [this]; simp [mayB]
  · simp [mayB]
theorem data_alg (b : Bool) (l : List UInt8) : mayB b (decide (l.length ≤ 256)) (l == []) = (decide ((l.length : Int) ≤ 256) && !(!b && decide ((l.length : Int) > 0))) := by
  have h1 : decide (l.length ≤ 256) = decide ((l.length : Int) ≤ 256) := decide_eq_decide.2 (by omega)
  cases b
  · cases l with
    | nil => rfl
    | cons e r =>
      have : decide (((e :: r).length : Int) > 0) = true := decide_eq_true (by simp only [List.length_cons]; omega)
      rw [this]; simp [mayB]
  · rw [h1]; simp [mayB]
theorem flag_alg (b v : Bool) : mayB b true (v == false) = !(!b && v) := by cases b <;> cases v <;> rfl
theorem base_alg (m : MsgD) (b : Bool) : mayB b (baseB m) (zeroB m) = (!(b && !baseB m) && !(!b && !zeroB m)) := by cases b <;> simp [mayB]
theorem off_alg (b : Bool) (n : Int) : mayB b (offB n) (n == 0) = (!(decide (n < 0) || decide (n > 32768)) && !(!b && (n != 0))) := by
  have h1 : offB n = !(decide (n < 0) || decide (n > 32768)) := by
    unfold offB
    rw [Bool.not_or, ← decide_not, ← decide_not]
    congr 1
    · exact decide_eq_decide.2 (by omega)
    · exact decide_eq_decide.2 (by omega)
  rw [h1]
  cases b
  · by_cases h0 : n = 0
    · subst h0; rfl
    · have h2 : (n != 0) = true := by simpa using h0
      rw [h2]; simp [mayB, h0]
  · simp [mayB]

set_option maxHeartbeats 2000000 in
set_option maxRecDepth 100000 in
theorem rrightM_any (w : World) (x : MsgV) (hx : MsgOk w x) (r : Bool) (hr : rightM x.m = r) : Calls Try.prog 30 #[.agg #[.int .i64 x.m.k, .int .i64 x.m.a, .int .i64 x.m.b, .int .u64 x.m.t, .int .u64 x.m.i, .int .u64 x.m.lt, x.ev, .int .u64 x.m.co, .bool x.m.rf, .int .u64 x.m.bi, .int .u64 x.m.bt, .int .i64 x.m.bc, .int .i64 x.m.o, x.dv, .bool x.m.la]] w fun e w' => e = .returned (.bool r) ∧ Below w.heap.size w w' := by
  obtain ⟨b1, hb1⟩ : ∃ b1, wth (fm x.m.k) 1 = b1 := ⟨_, rfl⟩
  obtain ⟨b2, hb2⟩ : ∃ b2, wth (fm x.m.k) 2 = b2 := ⟨_, rfl⟩
  obtain ⟨b3, hb3⟩ : ∃ b3, wth (fm x.m.k) 4 = b3 := ⟨_, rfl⟩
  obtain ⟨b4, hb4⟩ : ∃ b4, wth (fm x.m.k) 8 = b4 := ⟨_, rfl⟩
  obtain ⟨b5, hb5⟩ : ∃ b5, wth (fm x.m.k) 16 = b5 := ⟨_, rfl⟩
  obtain ⟨b6, hb6⟩ : ∃ b6, wth (fm x.m.k) 32 = b6 := ⟨_, rfl⟩
  obtain ⟨b7, hb7⟩ : ∃ b7, wth (fm x.m.k) 64 = b7 := ⟨_, rfl⟩
  obtain ⟨b8, hb8⟩ : ∃ b8, wth (fm x.m.k) 128 = b8 := ⟨_, rfl⟩
  obtain ⟨b9, hb9⟩ : ∃ b9, wth (fm x.m.k) 256 = b9 := ⟨_, rfl⟩
  obtain ⟨l, hl⟩ : ∃ l, ofM x.m.k = l := ⟨_, rfl⟩
  have hll : l.length ≤ 9223372036854775806 := by have := ofM_len x.m.k; rw [hl] at this; omega
  have ha1 : hasB l [105, 110, 100, 101, 120] = b1 := by rw [← hl, hasM_index, hb1]
  have ha2 : hasB l [108, 111, 103, 116, 101, 114, 109] = b2 := by rw [← hl, hasM_logterm, hb2]
  have ha3 : hasB l [99, 111, 109, 109, 105, 116] = b3 := by rw [← hl, hasM_commit, hb3]
  have ha4 : hasB l [101, 110, 116, 114, 105, 101, 115] = b4 := by rw [← hl, hasM_entries, hb4]
  have ha5 : hasB l [114, 101, 102, 117, 115, 101, 100] = b5 := by rw [← hl, hasM_refused, hb5]
  have ha6 : hasB l [98, 97, 115, 101] = b6 := by rw [← hl, hasM_base, hb6]
  have ha7 : hasB l [111, 102, 102, 115, 101, 116] = b7 := by rw [← hl, hasM_offset, hb7]
  have ha8 : hasB l [108, 97, 115, 116] = b8 := by rw [← hl, hasM_last, hb8]
  have ha9 : hasB l [100, 97, 116, 97] = b9 := by rw [← hl, hasM_data, hb9]
  obtain ⟨n0, hn0⟩ : ∃ n0, (l == []) = n0 := ⟨_, rfl⟩
  obtain ⟨p1, hp1⟩ : ∃ p1, decide (x.m.a < 1) = p1 := ⟨_, rfl⟩
  obtain ⟨p2, hp2⟩ : ∃ p2, decide (x.m.a > 7) = p2 := ⟨_, rfl⟩
  obtain ⟨p3, hp3⟩ : ∃ p3, decide (x.m.b < 1) = p3 := ⟨_, rfl⟩
  obtain ⟨p4, hp4⟩ : ∃ p4, decide (x.m.b > 7) = p4 := ⟨_, rfl⟩
  obtain ⟨p5, hp5⟩ : ∃ p5, (x.m.a == x.m.b) = p5 := ⟨_, rfl⟩
  obtain ⟨v4, hv4⟩ : ∃ v4, numB x.m.t = v4 := ⟨_, rfl⟩
  obtain ⟨p7, hp7⟩ : ∃ p7, decide (x.m.i > 72057594037927935) = p7 := ⟨_, rfl⟩
  obtain ⟨p8, hp8⟩ : ∃ p8, decide (x.m.lt > 72057594037927935) = p8 := ⟨_, rfl⟩
  obtain ⟨p9, hp9⟩ : ∃ p9, decide (x.m.co > 72057594037927935) = p9 := ⟨_, rfl⟩
  obtain ⟨q1, hq1⟩ : ∃ q1, (x.m.i != 0) = q1 := ⟨_, rfl⟩
  obtain ⟨q2, hq2⟩ : ∃ q2, (x.m.lt != 0) = q2 := ⟨_, rfl⟩
  obtain ⟨q3, hq3⟩ : ∃ q3, (x.m.co != 0) = q3 := ⟨_, rfl⟩
  obtain ⟨q4, hq4⟩ : ∃ q4, decide ((x.es.length : Int) > 0) = q4 := ⟨_, rfl⟩
  obtain ⟨q7, hq7⟩ : ∃ q7, decide ((x.m.d.length : Int) > 0) = q7 := ⟨_, rfl⟩
  obtain ⟨v10, hv10⟩ : ∃ v10, baseB x.m = v10 := ⟨_, rfl⟩
  obtain ⟨nz, hnz⟩ : ∃ nz, (!zeroB x.m) = nz := ⟨_, rfl⟩
  obtain ⟨u1, hu1⟩ : ∃ u1, decide (x.m.o < 0) = u1 := ⟨_, rfl⟩
  obtain ⟨u2, hu2⟩ : ∃ u2, decide (x.m.o > 32768) = u2 := ⟨_, rfl⟩
  obtain ⟨u4, hu4⟩ : ∃ u4, (x.m.o != 0) = u4 := ⟨_, rfl⟩
  obtain ⟨y1, hy1⟩ : ∃ y1, decide ((x.m.d.length : Int) ≤ 256) = y1 := ⟨_, rfl⟩
  obtain ⟨v8, hv8⟩ : ∃ v8, entsB x.m = v8 := ⟨_, rfl⟩
  obtain ⟨e1, he1⟩ : ∃ e1, (n0 || p1) = e1 := ⟨_, rfl⟩
  obtain ⟨e2, he2⟩ : ∃ e2, (e1 || p2) = e2 := ⟨_, rfl⟩
  obtain ⟨e3, he3⟩ : ∃ e3, (e2 || p3) = e3 := ⟨_, rfl⟩
  obtain ⟨e4, he4⟩ : ∃ e4, (e3 || p4) = e4 := ⟨_, rfl⟩
  obtain ⟨e5, he5⟩ : ∃ e5, (e4 || p5) = e5 := ⟨_, rfl⟩
  obtain ⟨e6, he6⟩ : ∃ e6, (e5 || !v4) = e6 := ⟨_, rfl⟩
  obtain ⟨e7, he7⟩ : ∃ e7, (e6 || p7) = e7 := ⟨_, rfl⟩
  obtain ⟨e8, he8⟩ : ∃ e8, (e7 || p8) = e8 := ⟨_, rfl⟩
  obtain ⟨e9, he9⟩ : ∃ e9, (e8 || p9) = e9 := ⟨_, rfl⟩
  obtain ⟨f1, hf1⟩ : ∃ f1, (!b1 && q1) = f1 := ⟨_, rfl⟩
  obtain ⟨g2, hg2⟩ : ∃ g2, (!b2 && q2) = g2 := ⟨_, rfl⟩
  obtain ⟨f2, hf2⟩ : ∃ f2, (f1 || g2) = f2 := ⟨_, rfl⟩
  obtain ⟨g3, hg3⟩ : ∃ g3, (!b3 && q3) = g3 := ⟨_, rfl⟩
  obtain ⟨f3, hf3⟩ : ∃ f3, (f2 || g3) = f3 := ⟨_, rfl⟩
  obtain ⟨g4, hg4⟩ : ∃ g4, (!b4 && q4) = g4 := ⟨_, rfl⟩
  obtain ⟨f4, hf4⟩ : ∃ f4, (f3 || g4) = f4 := ⟨_, rfl⟩
  obtain ⟨g5, hg5⟩ : ∃ g5, (!b5 && x.m.rf) = g5 := ⟨_, rfl⟩
  obtain ⟨f5, hf5⟩ : ∃ f5, (f4 || g5) = f5 := ⟨_, rfl⟩
  obtain ⟨g6, hg6⟩ : ∃ g6, (!b8 && x.m.la) = g6 := ⟨_, rfl⟩
  obtain ⟨f6, hf6⟩ : ∃ f6, (f5 || g6) = f6 := ⟨_, rfl⟩
  obtain ⟨g7, hg7⟩ : ∃ g7, (!b9 && q7) = g7 := ⟨_, rfl⟩
  obtain ⟨f7, hf7⟩ : ∃ f7, (f6 || g7) = f7 := ⟨_, rfl⟩
  obtain ⟨s1, hs1⟩ : ∃ s1, (b6 && !v10) = s1 := ⟨_, rfl⟩
  obtain ⟨s2, hs2⟩ : ∃ s2, (!b6 && nz) = s2 := ⟨_, rfl⟩
  obtain ⟨s3, hs3⟩ : ∃ s3, (s1 || s2) = s3 := ⟨_, rfl⟩
  obtain ⟨u3, hu3⟩ : ∃ u3, (u1 || u2) = u3 := ⟨_, rfl⟩
  obtain ⟨u5, hu5⟩ : ∃ u5, (!b7 && u4) = u5 := ⟨_, rfl⟩
  obtain ⟨u6, hu6⟩ : ∃ u6, (u3 || u5) = u6 := ⟨_, rfl⟩
  obtain ⟨y2, hy2⟩ : ∃ y2, (y1 && v8) = y2 := ⟨_, rfl⟩
  have hR : (!e9 && !f7 && !s3 && !u6 && y2) = r := by
    rw [← hr]
    unfold rightM
    rw [hb1, hb2, hb3, hb4, hb5, hb6, hb7, hb8, hb9, node_alg, node_alg, low_alg, low_alg, low_alg, ents_alg x.m b4 x.es hx.es, flag_alg, flag_alg, base_alg, off_alg, data_alg]
    have hn : (fm x.m.k != 0) = !n0 := by rw [← hn0, ← hl, ofM_ne, Bool.not_not]
    have hne : (x.m.a != x.m.b) = !p5 := by rw [← hp5]; rfl
    rw [hn, hne, hp1, hp2, hp3, hp4, hv4, hp7, hp8, hp9, hq1, hq2, hq3, hq4, hq7, hv10, hnz, hu1, hu2, hu4, hy1, hv8, hf1, hg2, hg3, hg4, hg5, hg6, hg7, hs1, hs2, hu3, hu5, rm_alg]
    rw [← he9, ← he8, ← he7, ← he6, ← he5, ← he4, ← he3, ← he2, ← he1, ← hf7, ← hf6, ← hf5, ← hf4, ← hf3, ← hf2, ← hs3, ← hu6, ← hy2]
  refine d_in (args := [.agg #[.int .i64 x.m.k, .int .i64 x.m.a, .int .i64 x.m.b, .int .u64 x.m.t, .int .u64 x.m.i, .int .u64 x.m.lt, x.ev, .int .u64 x.m.co, .bool x.m.rf, .int .u64 x.m.bi, .int .u64 x.m.bt, .int .i64 x.m.bc, .int .i64 x.m.o, x.dv, .bool x.m.la]]) 170 Try.func30 rfl rfl rfl ?_
  refine d_reg ?_
  refine h_q hflS rfl ?_
  refine h_act (post := fun g1 => [cell g1 28 #[.int .i64 x.m.k, .int .i64 x.m.a, .int .i64 x.m.b, .int .u64 x.m.t, .int .u64 x.m.i, .int .u64 x.m.lt, x.ev, .int .u64 x.m.co, .bool x.m.rf, .int .u64 x.m.bi, .int .u64 x.m.bt, .int .i64 x.m.bc, .int .i64 x.m.o, x.dv, .bool x.m.la]]) rfl (a_box (cs := #[.int .i64 x.m.k, .int .i64 x.m.a, .int .i64 x.m.b, .int .u64 x.m.t, .int .u64 x.m.i, .int .u64 x.m.lt, x.ev, .int .u64 x.m.co, .bool x.m.rf, .int .u64 x.m.bi, .int .u64 x.m.bt, .int .i64 x.m.bc, .int .i64 x.m.o, x.dv, .bool x.m.la]) rfl rfl rfl) ?_; rintro g1
  refine h_q hflS rfl ?_
  refine h_done (d_reg ?_)
  refine h_q hflS rfl ?_
  refine h_val rfl (.int .i64 x.m.k) (fun b w hb hH => exec_load rfl rfl (reads_one ty_int rfl) (hH.row 0 rfl) hb) ?_
  refine h_act (post := fun _ => [cell g1 28 #[.int .i64 x.m.k, .int .i64 x.m.a, .int .i64 x.m.b, .int .u64 x.m.t, .int .u64 x.m.i, .int .u64 x.m.lt, x.ev, .int .u64 x.m.co, .bool x.m.rf, .int .u64 x.m.bi, .int .u64 x.m.bt, .int .i64 x.m.bc, .int .i64 x.m.o, x.dv, .bool x.m.la]]) rfl (a_call (ent_of Try.func66 (by kernel_rfl) rfl) (fun w hH => ofM_any w x.m.k l hl) rfl rfl rfl) ?_; rintro ⟨⟩
  refine h_q hflS rfl ?_
  refine h_done (d_seq (d_reg ?_))
  refine h_may (.string (bs l)) rfl rfl (by exact may_val rfl (fun b w hb hH => exec_q1 hflS rfl hb)) ?_
  refine h_may (.bool n0) rfl rfl (by exact may_val rfl (fun b w hb hH => exec_same rfl rfl rfl hn0 hb)) ?_
  refine h_may (.bool n0) rfl rfl (by exact may_val rfl (fun b w hb hH => exec_q1 hflS rfl hb)) ?_
  refine h_may (cond n0 undef (.pointer (some ⟨g1, 1, none⟩))) rfl rfl (by (cases n0; exact may_val rfl (fun b w hb hH => exec_q1 hflS rfl hb); exact may_off rfl)) ?_
  refine h_may (cond n0 undef (.int .i64 x.m.a)) rfl rfl (by (cases n0; exact may_val rfl (fun b w hb hH => exec_load rfl rfl (reads_one ty_int rfl) (hH.row 0 rfl) hb); exact may_off rfl)) ?_
  refine h_may (cond n0 undef (.bool p1)) rfl rfl (by subst hp1; (cases n0; exact may_val rfl (fun b w hb hH => exec_cmp rfl rfl rfl rfl hb); exact may_off rfl)) ?_
  refine h_may (.bool e1) rfl rfl (by subst he1; (cases n0 <;> exact may_val rfl (fun b w hb hH => exec_q1 hflS rfl hb))) ?_
  refine h_may (.bool e1) rfl rfl (by exact may_val rfl (fun b w hb hH => exec_q1 hflS rfl hb)) ?_
  refine h_may (cond e1 undef (.pointer (some ⟨g1, 1, none⟩))) rfl rfl (by (cases e1; exact may_val rfl (fun b w hb hH => exec_q1 hflS rfl hb); exact may_off rfl)) ?_
  refine h_may (cond e1 undef (.int .i64 x.m.a)) rfl rfl (by (cases e1; exact may_val rfl (fun b w hb hH => exec_load rfl rfl (reads_one ty_int rfl) (hH.row 0 rfl) hb); exact may_off rfl)) ?_
  refine h_may (cond e1 undef (.bool p2)) rfl rfl (by subst hp2; (cases e1; exact may_val rfl (fun b w hb hH => exec_cmp rfl rfl rfl rfl hb); exact may_off rfl)) ?_
  refine h_may (.bool e2) rfl rfl (by subst he2; (cases e1 <;> exact may_val rfl (fun b w hb hH => exec_q1 hflS rfl hb))) ?_
  refine h_may (.bool e2) rfl rfl (by exact may_val rfl (fun b w hb hH => exec_q1 hflS rfl hb)) ?_
  refine h_may (cond e2 undef (.pointer (some ⟨g1, 2, none⟩))) rfl rfl (by (cases e2; exact may_val rfl (fun b w hb hH => exec_q1 hflS rfl hb); exact may_off rfl)) ?_
  refine h_may (cond e2 undef (.int .i64 x.m.b)) rfl rfl (by (cases e2; exact may_val rfl (fun b w hb hH => exec_load rfl rfl (reads_one ty_int rfl) (hH.row 0 rfl) hb); exact may_off rfl)) ?_
  refine h_may (cond e2 undef (.bool p3)) rfl rfl (by subst hp3; (cases e2; exact may_val rfl (fun b w hb hH => exec_cmp rfl rfl rfl rfl hb); exact may_off rfl)) ?_
  refine h_may (.bool e3) rfl rfl (by subst he3; (cases e2 <;> exact may_val rfl (fun b w hb hH => exec_q1 hflS rfl hb))) ?_
  refine h_may (.bool e3) rfl rfl (by exact may_val rfl (fun b w hb hH => exec_q1 hflS rfl hb)) ?_
  refine h_may (cond e3 undef (.pointer (some ⟨g1, 2, none⟩))) rfl rfl (by (cases e3; exact may_val rfl (fun b w hb hH => exec_q1 hflS rfl hb); exact may_off rfl)) ?_
  refine h_may (cond e3 undef (.int .i64 x.m.b)) rfl rfl (by (cases e3; exact may_val rfl (fun b w hb hH => exec_load rfl rfl (reads_one ty_int rfl) (hH.row 0 rfl) hb); exact may_off rfl)) ?_
  refine h_may (cond e3 undef (.bool p4)) rfl rfl (by subst hp4; (cases e3; exact may_val rfl (fun b w hb hH => exec_cmp rfl rfl rfl rfl hb); exact may_off rfl)) ?_
  refine h_may (.bool e4) rfl rfl (by subst he4; (cases e3 <;> exact may_val rfl (fun b w hb hH => exec_q1 hflS rfl hb))) ?_
  refine h_may (.bool e4) rfl rfl (by exact may_val rfl (fun b w hb hH => exec_q1 hflS rfl hb)) ?_
  refine h_may (cond e4 undef (.pointer (some ⟨g1, 1, none⟩))) rfl rfl (by (cases e4; exact may_val rfl (fun b w hb hH => exec_q1 hflS rfl hb); exact may_off rfl)) ?_
  refine h_may (cond e4 undef (.int .i64 x.m.a)) rfl rfl (by (cases e4; exact may_val rfl (fun b w hb hH => exec_load rfl rfl (reads_one ty_int rfl) (hH.row 0 rfl) hb); exact may_off rfl)) ?_
  refine h_may (cond e4 undef (.pointer (some ⟨g1, 2, none⟩))) rfl rfl (by (cases e4; exact may_val rfl (fun b w hb hH => exec_q1 hflS rfl hb); exact may_off rfl)) ?_
  refine h_may (cond e4 undef (.int .i64 x.m.b)) rfl rfl (by (cases e4; exact may_val rfl (fun b w hb hH => exec_load rfl rfl (reads_one ty_int rfl) (hH.row 0 rfl) hb); exact may_off rfl)) ?_
  refine h_may (cond e4 undef (.bool p5)) rfl rfl (by subst hp5; (cases e4; exact may_val rfl (fun b w hb hH => exec_cmp rfl rfl rfl rfl hb); exact may_off rfl)) ?_
  refine h_may (.bool e5) rfl rfl (by subst he5; (cases e4 <;> exact may_val rfl (fun b w hb hH => exec_q1 hflS rfl hb))) ?_
  refine h_may (.bool e5) rfl rfl (by exact may_val rfl (fun b w hb hH => exec_q1 hflS rfl hb)) ?_
  refine h_may (cond e5 undef (.pointer (some ⟨g1, 3, none⟩))) rfl rfl (by (cases e5; exact may_val rfl (fun b w hb hH => exec_q1 hflS rfl hb); exact may_off rfl)) ?_
  refine h_may (cond e5 undef (.int .u64 x.m.t)) rfl rfl (by (cases e5; exact may_val rfl (fun b w hb hH => exec_load rfl rfl (reads_one ty_uint64 rfl) (hH.row 0 rfl) hb); exact may_off rfl)) ?_
  refine h_may (cond e5 undef (.bool v4)) rfl rfl (by (cases e5; exact may_act rfl (a_call (ent_of Try.func57 (by kernel_rfl) rfl) (fun w hH => rnumber_any w true x.m.t v4 (by simpa [mayB] using hv4)) rfl rfl rfl); exact may_off rfl)) ?_
  refine h_may (cond e5 undef (.bool (!v4))) rfl rfl (by (cases e5; exact may_val rfl (fun b w hb hH => by exact exec_not rfl rfl rfl hb); exact may_off rfl)) ?_
  refine h_may (.bool e6) rfl rfl (by subst he6; (cases e5 <;> exact may_val rfl (fun b w hb hH => exec_q1 hflS rfl hb))) ?_
  refine h_may (.bool e6) rfl rfl (by exact may_val rfl (fun b w hb hH => exec_q1 hflS rfl hb)) ?_
  refine h_may (cond e6 undef (.pointer (some ⟨g1, 4, none⟩))) rfl rfl (by (cases e6; exact may_val rfl (fun b w hb hH => exec_q1 hflS rfl hb); exact may_off rfl)) ?_
  refine h_may (cond e6 undef (.int .u64 x.m.i)) rfl rfl (by (cases e6; exact may_val rfl (fun b w hb hH => exec_load rfl rfl (reads_one ty_uint64 rfl) (hH.row 0 rfl) hb); exact may_off rfl)) ?_
  refine h_may (cond e6 undef (.bool p7)) rfl rfl (by subst hp7; (cases e6; exact may_val rfl (fun b w hb hH => exec_cmp rfl rfl rfl rfl hb); exact may_off rfl)) ?_
  refine h_may (.bool e7) rfl rfl (by subst he7; (cases e6 <;> exact may_val rfl (fun b w hb hH => exec_q1 hflS rfl hb))) ?_
  refine h_may (.bool e7) rfl rfl (by exact may_val rfl (fun b w hb hH => exec_q1 hflS rfl hb)) ?_
  refine h_may (cond e7 undef (.pointer (some ⟨g1, 5, none⟩))) rfl rfl (by (cases e7; exact may_val rfl (fun b w hb hH => exec_q1 hflS rfl hb); exact may_off rfl)) ?_
  refine h_may (cond e7 undef (.int .u64 x.m.lt)) rfl rfl (by (cases e7; exact may_val rfl (fun b w hb hH => exec_load rfl rfl (reads_one ty_uint64 rfl) (hH.row 0 rfl) hb); exact may_off rfl)) ?_
  refine h_may (cond e7 undef (.bool p8)) rfl rfl (by subst hp8; (cases e7; exact may_val rfl (fun b w hb hH => exec_cmp rfl rfl rfl rfl hb); exact may_off rfl)) ?_
  refine h_may (.bool e8) rfl rfl (by subst he8; (cases e7 <;> exact may_val rfl (fun b w hb hH => exec_q1 hflS rfl hb))) ?_
  refine h_may (.bool e8) rfl rfl (by exact may_val rfl (fun b w hb hH => exec_q1 hflS rfl hb)) ?_
  refine h_may (cond e8 undef (.pointer (some ⟨g1, 7, none⟩))) rfl rfl (by (cases e8; exact may_val rfl (fun b w hb hH => exec_q1 hflS rfl hb); exact may_off rfl)) ?_
  refine h_may (cond e8 undef (.int .u64 x.m.co)) rfl rfl (by (cases e8; exact may_val rfl (fun b w hb hH => exec_load rfl rfl (reads_one ty_uint64 rfl) (hH.row 0 rfl) hb); exact may_off rfl)) ?_
  refine h_may (cond e8 undef (.bool p9)) rfl rfl (by subst hp9; (cases e8; exact may_val rfl (fun b w hb hH => exec_cmp rfl rfl rfl rfl hb); exact may_off rfl)) ?_
  refine h_may (.bool e9) rfl rfl (by subst he9; (cases e8 <;> exact may_val rfl (fun b w hb hH => exec_q1 hflS rfl hb))) ?_
  refine h_done ?_
  refine WC2.keep (env' := [(1, .pointer (some ⟨g1, 0, none⟩)), (2, .bool false), (3, .string (bs l)), (56, .bool e9)]) ⟨rfl, rfl, rfl, rfl, trivial⟩ ?_
  cases e9
  · skip
    refine d_else rfl (d_skip (f_to (d_seq (d_reg ?_))))
    refine h_may (.string (bs l)) rfl rfl (by exact may_val rfl (fun b w hb hH => exec_q1 hflS rfl hb)) ?_
    refine h_may (.bool b1) rfl rfl (by exact may_act rfl (a_call (ent_of Try.func67 (by kernel_rfl) rfl) (fun w hH => has_any w l [105, 110, 100, 101, 120] b1 ha1 hll) rfl rfl rfl)) ?_
    refine h_may (.bool (!b1)) rfl rfl (by exact may_val rfl (fun b w hb hH => by exact exec_not rfl rfl rfl hb)) ?_
    refine h_may (.bool (!b1)) rfl rfl (by exact may_val rfl (fun b w hb hH => exec_q1 hflS rfl hb)) ?_
    refine h_may (cond b1 undef (.pointer (some ⟨g1, 4, none⟩))) rfl rfl (by (cases b1; exact may_val rfl (fun b w hb hH => exec_q1 hflS rfl hb); exact may_off rfl)) ?_
    refine h_may (cond b1 undef (.int .u64 x.m.i)) rfl rfl (by (cases b1; exact may_val rfl (fun b w hb hH => exec_load rfl rfl (reads_one ty_uint64 rfl) (hH.row 0 rfl) hb); exact may_off rfl)) ?_
    refine h_may (cond b1 undef (.bool q1)) rfl rfl (by subst hq1; (cases b1; exact may_val rfl (fun b w hb hH => exec_cmp rfl rfl rfl rfl hb); exact may_off rfl)) ?_
    refine h_may (.bool f1) rfl rfl (by subst hf1; (cases b1 <;> exact may_val rfl (fun b w hb hH => exec_q1 hflS rfl hb))) ?_
    refine h_may (.bool f1) rfl rfl (by exact may_val rfl (fun b w hb hH => exec_q1 hflS rfl hb)) ?_
    refine h_may (cond f1 undef (.string (bs l))) rfl rfl (by (cases f1; exact may_val rfl (fun b w hb hH => exec_q1 hflS rfl hb); exact may_off rfl)) ?_
    refine h_may (cond f1 undef (.bool b2)) rfl rfl (by (cases f1; exact may_act rfl (a_call (ent_of Try.func67 (by kernel_rfl) rfl) (fun w hH => has_any w l [108, 111, 103, 116, 101, 114, 109] b2 ha2 hll) rfl rfl rfl); exact may_off rfl)) ?_
    refine h_may (cond f1 undef (.bool (!b2))) rfl rfl (by (cases f1; exact may_val rfl (fun b w hb hH => by exact exec_not rfl rfl rfl hb); exact may_off rfl)) ?_
    refine h_may (cond f1 undef (.bool (!b2))) rfl rfl (by (cases f1; exact may_val rfl (fun b w hb hH => exec_q1 hflS rfl hb); exact may_off rfl)) ?_
    refine h_may (cond f1 undef (cond b2 undef (.pointer (some ⟨g1, 5, none⟩)))) rfl rfl (by (cases f1; (cases b2; exact may_val rfl (fun b w hb hH => exec_q1 hflS rfl hb); exact may_off rfl); exact may_off rfl)) ?_
    refine h_may (cond f1 undef (cond b2 undef (.int .u64 x.m.lt))) rfl rfl (by (cases f1; (cases b2; exact may_val rfl (fun b w hb hH => exec_load rfl rfl (reads_one ty_uint64 rfl) (hH.row 0 rfl) hb); exact may_off rfl); exact may_off rfl)) ?_
    refine h_may (cond f1 undef (cond b2 undef (.bool q2))) rfl rfl (by subst hq2; (cases f1; (cases b2; exact may_val rfl (fun b w hb hH => exec_cmp rfl rfl rfl rfl hb); exact may_off rfl); exact may_off rfl)) ?_
    refine h_may (cond f1 undef (.bool g2)) rfl rfl (by subst hg2; (cases f1; (cases b2 <;> exact may_val rfl (fun b w hb hH => exec_q1 hflS rfl hb)); exact may_off rfl)) ?_
    refine h_may (.bool f2) rfl rfl (by subst hf2; (cases f1 <;> exact may_val rfl (fun b w hb hH => exec_q1 hflS rfl hb))) ?_
    refine h_may (.bool f2) rfl rfl (by exact may_val rfl (fun b w hb hH => exec_q1 hflS rfl hb)) ?_
    refine h_may (cond f2 undef (.string (bs l))) rfl rfl (by (cases f2; exact may_val rfl (fun b w hb hH => exec_q1 hflS rfl hb); exact may_off rfl)) ?_
    refine h_may (cond f2 undef (.bool b3)) rfl rfl (by (cases f2; exact may_act rfl (a_call (ent_of Try.func67 (by kernel_rfl) rfl) (fun w hH => has_any w l [99, 111, 109, 109, 105, 116] b3 ha3 hll) rfl rfl rfl); exact may_off rfl)) ?_
    refine h_may (cond f2 undef (.bool (!b3))) rfl rfl (by (cases f2; exact may_val rfl (fun b w hb hH => by exact exec_not rfl rfl rfl hb); exact may_off rfl)) ?_
    refine h_may (cond f2 undef (.bool (!b3))) rfl rfl (by (cases f2; exact may_val rfl (fun b w hb hH => exec_q1 hflS rfl hb); exact may_off rfl)) ?_
    refine h_may (cond f2 undef (cond b3 undef (.pointer (some ⟨g1, 7, none⟩)))) rfl rfl (by (cases f2; (cases b3; exact may_val rfl (fun b w hb hH => exec_q1 hflS rfl hb); exact may_off rfl); exact may_off rfl)) ?_
    refine h_may (cond f2 undef (cond b3 undef (.int .u64 x.m.co))) rfl rfl (by (cases f2; (cases b3; exact may_val rfl (fun b w hb hH => exec_load rfl rfl (reads_one ty_uint64 rfl) (hH.row 0 rfl) hb); exact may_off rfl); exact may_off rfl)) ?_
    refine h_may (cond f2 undef (cond b3 undef (.bool q3))) rfl rfl (by subst hq3; (cases f2; (cases b3; exact may_val rfl (fun b w hb hH => exec_cmp rfl rfl rfl rfl hb); exact may_off rfl); exact may_off rfl)) ?_
    refine h_may (cond f2 undef (.bool g3)) rfl rfl (by subst hg3; (cases f2; (cases b3 <;> exact may_val rfl (fun b w hb hH => exec_q1 hflS rfl hb)); exact may_off rfl)) ?_
    refine h_may (.bool f3) rfl rfl (by subst hf3; (cases f2 <;> exact may_val rfl (fun b w hb hH => exec_q1 hflS rfl hb))) ?_
    refine h_may (.bool f3) rfl rfl (by exact may_val rfl (fun b w hb hH => exec_q1 hflS rfl hb)) ?_
    refine h_may (cond f3 undef (.string (bs l))) rfl rfl (by (cases f3; exact may_val rfl (fun b w hb hH => exec_q1 hflS rfl hb); exact may_off rfl)) ?_
    refine h_may (cond f3 undef (.bool b4)) rfl rfl (by (cases f3; exact may_act rfl (a_call (ent_of Try.func67 (by kernel_rfl) rfl) (fun w hH => has_any w l [101, 110, 116, 114, 105, 101, 115] b4 ha4 hll) rfl rfl rfl); exact may_off rfl)) ?_
    refine h_may (cond f3 undef (.bool (!b4))) rfl rfl (by (cases f3; exact may_val rfl (fun b w hb hH => by exact exec_not rfl rfl rfl hb); exact may_off rfl)) ?_
    refine h_may (cond f3 undef (.bool (!b4))) rfl rfl (by (cases f3; exact may_val rfl (fun b w hb hH => exec_q1 hflS rfl hb); exact may_off rfl)) ?_
    refine h_may (cond f3 undef (cond b4 undef (.pointer (some ⟨g1, 6, none⟩)))) rfl rfl (by (cases f3; (cases b4; exact may_val rfl (fun b w hb hH => exec_q1 hflS rfl hb); exact may_off rfl); exact may_off rfl)) ?_
    refine h_may (cond f3 undef (cond b4 undef x.ev)) rfl rfl (by (cases f3; (cases b4; exact may_val rfl (fun b w hb hH => exec_load rfl rfl (reads_one ty_s_api_Entry rfl) (hH.row 0 rfl) hb); exact may_off rfl); exact may_off rfl)) ?_
    refine h_may (cond f3 undef (cond b4 undef (.int .i64 (x.es.length : Int)))) rfl rfl (by (cases f3; (cases b4; exact may_val rfl (fun b w hb hH => e_slen (((argM0 hx hH)).rd.1) Try.underlying23 rfl rfl hb); exact may_off rfl); exact may_off rfl)) ?_
    refine h_may (cond f3 undef (cond b4 undef (.bool q4))) rfl rfl (by subst hq4; (cases f3; (cases b4; exact may_val rfl (fun b w hb hH => exec_cmp rfl rfl rfl rfl hb); exact may_off rfl); exact may_off rfl)) ?_
    refine h_may (cond f3 undef (.bool g4)) rfl rfl (by subst hg4; (cases f3; (cases b4 <;> exact may_val rfl (fun b w hb hH => exec_q1 hflS rfl hb)); exact may_off rfl)) ?_
    refine h_may (.bool f4) rfl rfl (by subst hf4; (cases f3 <;> exact may_val rfl (fun b w hb hH => exec_q1 hflS rfl hb))) ?_
    refine h_may (.bool f4) rfl rfl (by exact may_val rfl (fun b w hb hH => exec_q1 hflS rfl hb)) ?_
    refine h_may (cond f4 undef (.string (bs l))) rfl rfl (by (cases f4; exact may_val rfl (fun b w hb hH => exec_q1 hflS rfl hb); exact may_off rfl)) ?_
    refine h_may (cond f4 undef (.bool b5)) rfl rfl (by (cases f4; exact may_act rfl (a_call (ent_of Try.func67 (by kernel_rfl) rfl) (fun w hH => has_any w l [114, 101, 102, 117, 115, 101, 100] b5 ha5 hll) rfl rfl rfl); exact may_off rfl)) ?_
    refine h_may (cond f4 undef (.bool (!b5))) rfl rfl (by (cases f4; exact may_val rfl (fun b w hb hH => by exact exec_not rfl rfl rfl hb); exact may_off rfl)) ?_
    refine h_may (cond f4 undef (.bool (!b5))) rfl rfl (by (cases f4; exact may_val rfl (fun b w hb hH => exec_q1 hflS rfl hb); exact may_off rfl)) ?_
    refine h_may (cond f4 undef (cond b5 undef (.pointer (some ⟨g1, 8, none⟩)))) rfl rfl (by (cases f4; (cases b5; exact may_val rfl (fun b w hb hH => exec_q1 hflS rfl hb); exact may_off rfl); exact may_off rfl)) ?_
    refine h_may (cond f4 undef (cond b5 undef (.bool x.m.rf))) rfl rfl (by (cases f4; (cases b5; exact may_val rfl (fun b w hb hH => exec_load rfl rfl (reads_one ty_bool rfl) (hH.row 0 rfl) hb); exact may_off rfl); exact may_off rfl)) ?_
    refine h_may (cond f4 undef (.bool g5)) rfl rfl (by subst hg5; (cases f4; (cases b5 <;> exact may_val rfl (fun b w hb hH => exec_q1 hflS rfl hb)); exact may_off rfl)) ?_
    refine h_may (.bool f5) rfl rfl (by subst hf5; (cases f4 <;> exact may_val rfl (fun b w hb hH => exec_q1 hflS rfl hb))) ?_
    refine h_may (.bool f5) rfl rfl (by exact may_val rfl (fun b w hb hH => exec_q1 hflS rfl hb)) ?_
    refine h_may (cond f5 undef (.string (bs l))) rfl rfl (by (cases f5; exact may_val rfl (fun b w hb hH => exec_q1 hflS rfl hb); exact may_off rfl)) ?_
    refine h_may (cond f5 undef (.bool b8)) rfl rfl (by (cases f5; exact may_act rfl (a_call (ent_of Try.func67 (by kernel_rfl) rfl) (fun w hH => has_any w l [108, 97, 115, 116] b8 ha8 hll) rfl rfl rfl); exact may_off rfl)) ?_
    refine h_may (cond f5 undef (.bool (!b8))) rfl rfl (by (cases f5; exact may_val rfl (fun b w hb hH => by exact exec_not rfl rfl rfl hb); exact may_off rfl)) ?_
    refine h_may (cond f5 undef (.bool (!b8))) rfl rfl (by (cases f5; exact may_val rfl (fun b w hb hH => exec_q1 hflS rfl hb); exact may_off rfl)) ?_
    refine h_may (cond f5 undef (cond b8 undef (.pointer (some ⟨g1, 14, none⟩)))) rfl rfl (by (cases f5; (cases b8; exact may_val rfl (fun b w hb hH => exec_q1 hflS rfl hb); exact may_off rfl); exact may_off rfl)) ?_
    refine h_may (cond f5 undef (cond b8 undef (.bool x.m.la))) rfl rfl (by (cases f5; (cases b8; exact may_val rfl (fun b w hb hH => exec_load rfl rfl (reads_one ty_bool rfl) (hH.row 0 rfl) hb); exact may_off rfl); exact may_off rfl)) ?_
    refine h_may (cond f5 undef (.bool g6)) rfl rfl (by subst hg6; (cases f5; (cases b8 <;> exact may_val rfl (fun b w hb hH => exec_q1 hflS rfl hb)); exact may_off rfl)) ?_
    refine h_may (.bool f6) rfl rfl (by subst hf6; (cases f5 <;> exact may_val rfl (fun b w hb hH => exec_q1 hflS rfl hb))) ?_
    refine h_may (.bool f6) rfl rfl (by exact may_val rfl (fun b w hb hH => exec_q1 hflS rfl hb)) ?_
    refine h_may (cond f6 undef (.string (bs l))) rfl rfl (by (cases f6; exact may_val rfl (fun b w hb hH => exec_q1 hflS rfl hb); exact may_off rfl)) ?_
    refine h_may (cond f6 undef (.bool b9)) rfl rfl (by (cases f6; exact may_act rfl (a_call (ent_of Try.func67 (by kernel_rfl) rfl) (fun w hH => has_any w l [100, 97, 116, 97] b9 ha9 hll) rfl rfl rfl); exact may_off rfl)) ?_
    refine h_may (cond f6 undef (.bool (!b9))) rfl rfl (by (cases f6; exact may_val rfl (fun b w hb hH => by exact exec_not rfl rfl rfl hb); exact may_off rfl)) ?_
    refine h_may (cond f6 undef (.bool (!b9))) rfl rfl (by (cases f6; exact may_val rfl (fun b w hb hH => exec_q1 hflS rfl hb); exact may_off rfl)) ?_
    refine h_may (cond f6 undef (cond b9 undef (.pointer (some ⟨g1, 13, none⟩)))) rfl rfl (by (cases f6; (cases b9; exact may_val rfl (fun b w hb hH => exec_q1 hflS rfl hb); exact may_off rfl); exact may_off rfl)) ?_
    refine h_may (cond f6 undef (cond b9 undef x.dv)) rfl rfl (by (cases f6; (cases b9; exact may_val rfl (fun b w hb hH => exec_load rfl rfl (reads_one ty_s_uint8 rfl) (hH.row 0 rfl) hb); exact may_off rfl); exact may_off rfl)) ?_
    refine h_may (cond f6 undef (cond b9 undef (.int .i64 (x.m.d.length : Int)))) rfl rfl (by (cases f6; (cases b9; exact may_val rfl (fun b w hb hH => e_slen (((argM0 hx hH)).d.rd) Try.underlying26 rfl rfl hb); exact may_off rfl); exact may_off rfl)) ?_
    refine h_may (cond f6 undef (cond b9 undef (.bool q7))) rfl rfl (by subst hq7; (cases f6; (cases b9; exact may_val rfl (fun b w hb hH => exec_cmp rfl rfl rfl rfl hb); exact may_off rfl); exact may_off rfl)) ?_
    refine h_may (cond f6 undef (.bool g7)) rfl rfl (by subst hg7; (cases f6; (cases b9 <;> exact may_val rfl (fun b w hb hH => exec_q1 hflS rfl hb)); exact may_off rfl)) ?_
    refine h_may (.bool f7) rfl rfl (by subst hf7; (cases f6 <;> exact may_val rfl (fun b w hb hH => exec_q1 hflS rfl hb))) ?_
    refine h_done ?_
    refine WC2.keep (env' := [(1, .pointer (some ⟨g1, 0, none⟩)), (2, .bool false), (3, .string (bs l)), (124, .bool f7)]) ⟨rfl, rfl, rfl, rfl, trivial⟩ ?_
    cases f7
    · skip
      refine d_else rfl (d_skip (f_to (d_seq (d_reg ?_))))
      refine h_may (.string (bs l)) rfl rfl (by exact may_val rfl (fun b w hb hH => exec_q1 hflS rfl hb)) ?_
      refine h_may (.bool b6) rfl rfl (by exact may_act rfl (a_call (ent_of Try.func67 (by kernel_rfl) rfl) (fun w hH => has_any w l [98, 97, 115, 101] b6 ha6 hll) rfl rfl rfl)) ?_
      refine h_may (.bool b6) rfl rfl (by exact may_val rfl (fun b w hb hH => exec_q1 hflS rfl hb)) ?_
      refine h_may (cond b6 (.pointer (some ⟨g1, 9, none⟩)) undef) rfl rfl (by (cases b6; exact may_off rfl; exact may_val rfl (fun b w hb hH => exec_q1 hflS rfl hb))) ?_
      refine h_may (cond b6 (.agg #[.int .u64 x.m.bi, .int .u64 x.m.bt, .int .i64 x.m.bc]) undef) rfl rfl (by (cases b6; exact may_off rfl; exact may_val rfl (fun b w hb hH => exec_load rfl rfl (reads_agg (cs := [.int .i64 x.m.k, .int .i64 x.m.a, .int .i64 x.m.b, .int .u64 x.m.t, .int .u64 x.m.i, .int .u64 x.m.lt, x.ev, .int .u64 x.m.co, .bool x.m.rf, .int .u64 x.m.bi, .int .u64 x.m.bt, .int .i64 x.m.bc, .int .i64 x.m.o, x.dv, .bool x.m.la]) ty_api_Base rfl) (hH.row 0 rfl) hb))) ?_
      refine h_may (cond b6 (.bool v10) undef) rfl rfl (by (cases b6; exact may_off rfl; exact may_act rfl (a_call (ent_of Try.func68 (by kernel_rfl) rfl) (fun w hH => rbase_any w x.m.bi x.m.bt x.m.bc v10 hv10) rfl rfl rfl))) ?_
      refine h_may (cond b6 (.bool (!v10)) undef) rfl rfl (by (cases b6; exact may_off rfl; exact may_val rfl (fun b w hb hH => by exact exec_not rfl rfl rfl hb))) ?_
      refine h_may (.bool s1) rfl rfl (by subst hs1; (cases b6 <;> exact may_val rfl (fun b w hb hH => exec_q1 hflS rfl hb))) ?_
      refine h_may (.bool s1) rfl rfl (by exact may_val rfl (fun b w hb hH => exec_q1 hflS rfl hb)) ?_
      refine h_may (cond s1 undef (.string (bs l))) rfl rfl (by (cases s1; exact may_val rfl (fun b w hb hH => exec_q1 hflS rfl hb); exact may_off rfl)) ?_
      refine h_may (cond s1 undef (.bool b6)) rfl rfl (by (cases s1; exact may_act rfl (a_call (ent_of Try.func67 (by kernel_rfl) rfl) (fun w hH => has_any w l [98, 97, 115, 101] b6 ha6 hll) rfl rfl rfl); exact may_off rfl)) ?_
      refine h_may (cond s1 undef (.bool (!b6))) rfl rfl (by (cases s1; exact may_val rfl (fun b w hb hH => by exact exec_not rfl rfl rfl hb); exact may_off rfl)) ?_
      refine h_may (cond s1 undef (.bool (!b6))) rfl rfl (by (cases s1; exact may_val rfl (fun b w hb hH => exec_q1 hflS rfl hb); exact may_off rfl)) ?_
      refine h_may (cond s1 undef (cond b6 undef (.pointer (some ⟨g1, 9, none⟩)))) rfl rfl (by (cases s1; (cases b6; exact may_val rfl (fun b w hb hH => exec_q1 hflS rfl hb); exact may_off rfl); exact may_off rfl)) ?_
      refine h_may (cond s1 undef (cond b6 undef (.agg #[.int .u64 x.m.bi, .int .u64 x.m.bt, .int .i64 x.m.bc]))) rfl rfl (by (cases s1; (cases b6; exact may_val rfl (fun b w hb hH => exec_load rfl rfl (reads_agg (cs := [.int .i64 x.m.k, .int .i64 x.m.a, .int .i64 x.m.b, .int .u64 x.m.t, .int .u64 x.m.i, .int .u64 x.m.lt, x.ev, .int .u64 x.m.co, .bool x.m.rf, .int .u64 x.m.bi, .int .u64 x.m.bt, .int .i64 x.m.bc, .int .i64 x.m.o, x.dv, .bool x.m.la]) ty_api_Base rfl) (hH.row 0 rfl) hb); exact may_off rfl); exact may_off rfl)) ?_
      refine h_may (cond s1 undef (cond b6 undef (.agg #[.int .u64 0, .int .u64 0, .int .i64 0]))) rfl rfl (by (cases s1; (cases b6; exact may_val rfl (fun b w hb hH => exec_build rfl rfl (by kernel_rfl) hb); exact may_off rfl); exact may_off rfl)) ?_
      refine h_may (cond s1 undef (cond b6 undef (.bool nz))) rfl rfl (by (cases s1; (cases b6; exact may_val rfl (fun b w hb hH => exec_nes (neBz x.m nz hnz) rfl rfl rfl hb); exact may_off rfl); exact may_off rfl)) ?_
      refine h_may (cond s1 undef (.bool s2)) rfl rfl (by subst hs2; (cases s1; (cases b6 <;> exact may_val rfl (fun b w hb hH => exec_q1 hflS rfl hb)); exact may_off rfl)) ?_
      refine h_may (.bool s3) rfl rfl (by subst hs3; (cases s1 <;> exact may_val rfl (fun b w hb hH => exec_q1 hflS rfl hb))) ?_
      refine h_done ?_
      cases s3
      · skip
        refine d_else rfl (d_skip (f_to (d_seq (d_reg ?_))))
        refine h_may (.pointer (some ⟨g1, 12, none⟩)) rfl rfl (by exact may_val rfl (fun b w hb hH => exec_q1 hflS rfl hb)) ?_
        refine h_may (.int .i64 x.m.o) rfl rfl (by exact may_val rfl (fun b w hb hH => exec_load rfl rfl (reads_one ty_int rfl) (hH.row 0 rfl) hb)) ?_
        refine h_may (.bool u1) rfl rfl (by subst hu1; exact may_val rfl (fun b w hb hH => exec_cmp rfl rfl rfl rfl hb)) ?_
        refine h_may (.bool u1) rfl rfl (by exact may_val rfl (fun b w hb hH => exec_q1 hflS rfl hb)) ?_
        refine h_may (cond u1 undef (.pointer (some ⟨g1, 12, none⟩))) rfl rfl (by (cases u1; exact may_val rfl (fun b w hb hH => exec_q1 hflS rfl hb); exact may_off rfl)) ?_
        refine h_may (cond u1 undef (.int .i64 x.m.o)) rfl rfl (by (cases u1; exact may_val rfl (fun b w hb hH => exec_load rfl rfl (reads_one ty_int rfl) (hH.row 0 rfl) hb); exact may_off rfl)) ?_
        refine h_may (cond u1 undef (.bool u2)) rfl rfl (by subst hu2; (cases u1; exact may_val rfl (fun b w hb hH => exec_cmp rfl rfl rfl rfl hb); exact may_off rfl)) ?_
        refine h_may (.bool u3) rfl rfl (by subst hu3; (cases u1 <;> exact may_val rfl (fun b w hb hH => exec_q1 hflS rfl hb))) ?_
        refine h_may (.bool u3) rfl rfl (by exact may_val rfl (fun b w hb hH => exec_q1 hflS rfl hb)) ?_
        refine h_may (cond u3 undef (.string (bs l))) rfl rfl (by (cases u3; exact may_val rfl (fun b w hb hH => exec_q1 hflS rfl hb); exact may_off rfl)) ?_
        refine h_may (cond u3 undef (.bool b7)) rfl rfl (by (cases u3; exact may_act rfl (a_call (ent_of Try.func67 (by kernel_rfl) rfl) (fun w hH => has_any w l [111, 102, 102, 115, 101, 116] b7 ha7 hll) rfl rfl rfl); exact may_off rfl)) ?_
        refine h_may (cond u3 undef (.bool (!b7))) rfl rfl (by (cases u3; exact may_val rfl (fun b w hb hH => by exact exec_not rfl rfl rfl hb); exact may_off rfl)) ?_
        refine h_may (cond u3 undef (.bool (!b7))) rfl rfl (by (cases u3; exact may_val rfl (fun b w hb hH => exec_q1 hflS rfl hb); exact may_off rfl)) ?_
        refine h_may (cond u3 undef (cond b7 undef (.pointer (some ⟨g1, 12, none⟩)))) rfl rfl (by (cases u3; (cases b7; exact may_val rfl (fun b w hb hH => exec_q1 hflS rfl hb); exact may_off rfl); exact may_off rfl)) ?_
        refine h_may (cond u3 undef (cond b7 undef (.int .i64 x.m.o))) rfl rfl (by (cases u3; (cases b7; exact may_val rfl (fun b w hb hH => exec_load rfl rfl (reads_one ty_int rfl) (hH.row 0 rfl) hb); exact may_off rfl); exact may_off rfl)) ?_
        refine h_may (cond u3 undef (cond b7 undef (.bool u4))) rfl rfl (by subst hu4; (cases u3; (cases b7; exact may_val rfl (fun b w hb hH => exec_cmp rfl rfl rfl rfl hb); exact may_off rfl); exact may_off rfl)) ?_
        refine h_may (cond u3 undef (.bool u5)) rfl rfl (by subst hu5; (cases u3; (cases b7 <;> exact may_val rfl (fun b w hb hH => exec_q1 hflS rfl hb)); exact may_off rfl)) ?_
        refine h_may (.bool u6) rfl rfl (by subst hu6; (cases u3 <;> exact may_val rfl (fun b w hb hH => exec_q1 hflS rfl hb))) ?_
        refine h_done ?_
        cases u6
        · skip
          refine d_else rfl (d_skip (f_to (d_reg ?_)))
          refine h_may (.pointer (some ⟨g1, 13, none⟩)) rfl rfl (by exact may_val rfl (fun b w hb hH => exec_q1 hflS rfl hb)) ?_
          refine h_may (x.dv) rfl rfl (by exact may_val rfl (fun b w hb hH => exec_load rfl rfl (reads_one ty_s_uint8 rfl) (hH.row 0 rfl) hb)) ?_
          refine h_may (.int .i64 (x.m.d.length : Int)) rfl rfl (by exact may_val rfl (fun b w hb hH => e_slen (((argM0 hx hH)).d.rd) Try.underlying26 rfl rfl hb)) ?_
          refine h_may (.bool y1) rfl rfl (by subst hy1; exact may_val rfl (fun b w hb hH => exec_cmp rfl rfl rfl rfl hb)) ?_
          refine h_may (.bool y1) rfl rfl (by exact may_val rfl (fun b w hb hH => exec_q1 hflS rfl hb)) ?_
          refine h_may (cond y1 (.agg #[.int .i64 x.m.k, .int .i64 x.m.a, .int .i64 x.m.b, .int .u64 x.m.t, .int .u64 x.m.i, .int .u64 x.m.lt, x.ev, .int .u64 x.m.co, .bool x.m.rf, .int .u64 x.m.bi, .int .u64 x.m.bt, .int .i64 x.m.bc, .int .i64 x.m.o, x.dv, .bool x.m.la]) undef) rfl rfl (by (cases y1; exact may_off rfl; exact may_val rfl (fun b w hb hH => exec_load rfl rfl (reads_agg (cs := [.int .i64 x.m.k, .int .i64 x.m.a, .int .i64 x.m.b, .int .u64 x.m.t, .int .u64 x.m.i, .int .u64 x.m.lt, x.ev, .int .u64 x.m.co, .bool x.m.rf, .int .u64 x.m.bi, .int .u64 x.m.bt, .int .i64 x.m.bc, .int .i64 x.m.o, x.dv, .bool x.m.la]) ty_api_Msg rfl) (hH.row 0 rfl) hb))) ?_
          refine h_may (cond y1 (.bool v8) undef) rfl rfl (by (cases y1; exact may_off rfl; exact may_act rfl (a_call (ent_of Try.func69 (by kernel_rfl) rfl) (fun w hH => rentries_any w x (argM0 hx hH) v8 hv8) rfl rfl rfl))) ?_
          refine h_may (.bool y2) rfl rfl (by subst hy2; (cases y1 <;> exact may_val rfl (fun b w hb hH => exec_q1 hflS rfl hb))) ?_
          refine h_may (.bool y2) rfl rfl (by exact may_val rfl (fun b w hb hH => exec_q1 hflS rfl hb)) ?_
          refine h_done ?_
          refine WC2.keep (env' := [(2, .bool y2)]) ⟨rfl, trivial⟩ ?_
          refine d_ret ?_
          exact f_fin1 (.tmp rfl) (fun w h => ⟨by first | rfl | (rw [← hR]; rfl), below0 h.up⟩) rfl
        · skip
          obtain rfl : r = false := by rw [← hR]; simp
          refine d_then rfl (d_reg ?_)
          refine h_q hflS rfl ?_
          refine h_done (d_ret (f_then_ret ?_))
          exact f_fin1 (.tmp rfl) (fun w h => ⟨by first | rfl | (rw [← hR]; rfl), below0 h.up⟩) rfl
      · skip
        obtain rfl : r = false := by rw [← hR]; simp
        refine d_then rfl (d_reg ?_)
        refine h_q hflS rfl ?_
        refine h_done (d_ret (f_then_ret ?_))
        exact f_fin1 (.tmp rfl) (fun w h => ⟨by first | rfl | (rw [← hR]; rfl), below0 h.up⟩) rfl
    · skip
      obtain rfl : r = false := by rw [← hR]; simp
      refine d_then rfl (d_reg ?_)
      refine h_q hflS rfl ?_
      refine h_done (d_ret (f_then_ret ?_))
      exact f_fin1 (.tmp rfl) (fun w h => ⟨by first | rfl | (rw [← hR]; rfl), below0 h.up⟩) rfl
  · skip
    obtain rfl : r = false := by rw [← hR]; simp
    refine d_then rfl (d_reg ?_)
    refine h_q hflS rfl ?_
    refine h_done (d_ret (f_then_ret ?_))
    exact f_fin1 (.tmp rfl) (fun w h => ⟨by first | rfl | (rw [← hR]; rfl), below0 h.up⟩) rfl
end Go.Proofs.Ytnhcbjlaeaohjaa.Sep
