/-
  ByTwo · ByAny
-/
import Derived.Test.YtmamedobphlpkaaDoorE03
import Derived.Laws.Rows
set_option linter.unusedSimpArgs false
set_option linter.unusedVariables false

namespace Go.Proofs.YtmamedobphlpkaaDoor
open Go.RowKit

set_option maxHeartbeats 4000000 in
theorem by_two_words (w : World) (mh ml nh nl : Int) (hmh : 0 ≤ mh ∧ mh < 18446744073709551616) (hml : 0 ≤ ml ∧ ml < 18446744073709551616) (hnh : 0 < nh ∧ nh < 18446744073709551616) (hnl : 0 ≤ nl ∧ nl < 18446744073709551616) :
    Calls Tryd.prog 99 #[.agg #[.int .u64 mh, .int .u64 ml], .agg #[.int .u64 nh, .int .u64 nl]] w fun e w' =>
      e = .returned (.tuple #[UV ((mh * 18446744073709551616 + ml) / (nh * 18446744073709551616 + nl)), UV ((mh * 18446744073709551616 + ml) % (nh * 18446744073709551616 + nl))]) ∧ Below w.heap.size w w' := by
  have LZ := hid (fun w => lz64_any w nh hnh)
  have R_m := (((Row.new w 79 #[.int .u64 mh, .int .u64 ml]).alloc (.cells #[.int .u64 nh, .int .u64 nl] 79)).alloc (.cells #[.int .u64 0, .int .u64 0] 79)).alloc (.cells #[.int .u64 0, .int .u64 0] 79)
  have R_n := ((Row.new (w.alloc (.cells #[.int .u64 mh, .int .u64 ml] 79)) 79 #[.int .u64 nh, .int .u64 nl]).alloc (.cells #[.int .u64 0, .int .u64 0] 79)).alloc (.cells #[.int .u64 0, .int .u64 0] 79)
  have R_q := (Row.new ((w.alloc (.cells #[.int .u64 mh, .int .u64 ml] 79)).alloc (.cells #[.int .u64 nh, .int .u64 nl] 79)) 79 #[.int .u64 0, .int .u64 0]).alloc (.cells #[.int .u64 0, .int .u64 0] 79)
  have R_r := Row.new (((w.alloc (.cells #[.int .u64 mh, .int .u64 ml] 79)).alloc (.cells #[.int .u64 nh, .int .u64 nl] 79)).alloc (.cells #[.int .u64 0, .int .u64 0] 79)) 79 #[.int .u64 0, .int .u64 0]
  have HU := ((((Up.refl w).alloc (.cells #[.int .u64 mh, .int .u64 ml] 79)).alloc (.cells #[.int .u64 nh, .int .u64 nl] 79)).alloc (.cells #[.int .u64 0, .int .u64 0] 79)).alloc (.cells #[.int .u64 0, .int .u64 0] 79)
  simp only [alloc_size] at R_n R_q R_r
  obtain ⟨M, hM⟩ : ∃ M, M = mh * 18446744073709551616 + ml := ⟨_, rfl⟩
  obtain ⟨N, hN⟩ : ∃ N, N = nh * 18446744073709551616 + nl := ⟨_, rfl⟩
  rw [← hM, ← hN]
  go_enter Tryd.func99, Tryd.ntmps99
  go_wp2_with fail
  obtain ⟨V, h_V⟩ : ∃ V, V = (((w.alloc (.cells #[.int .u64 mh, .int .u64 ml] 79)).alloc (.cells #[.int .u64 nh, .int .u64 nl] 79)).alloc (.cells #[.int .u64 0, .int .u64 0] 79)).alloc (.cells #[.int .u64 0, .int .u64 0] 79) := ⟨_, rfl⟩
  rw [← h_V]
  rw [← h_V] at R_m R_n R_q R_r HU
  have z_V : V.heap.size = _ := congrArg (fun a => a.heap.size) h_V
  try simp only [alloc_size, setCell_size] at z_V
  clear h_V
  refine Calls.mono (LZ.out _) ?_; rintro e wk ⟨s, rfl, rfl, hs, g1, g2⟩
  clear LZ
  obtain ⟨P, hP⟩ : ∃ P : Int, P = ((2 ^ s : Nat) : Int) := ⟨_, rfl⟩
  obtain ⟨Q, hQ⟩ : ∃ Q : Int, Q = ((2 ^ (64 - s) : Nat) : Int) := ⟨_, rfl⟩
  obtain ⟨Q2, hQ2⟩ : ∃ Q2 : Int, Q2 = ((2 ^ (63 - s) : Nat) : Int) := ⟨_, rfl⟩
  have hpq : P * Q = 18446744073709551616 := by
    rw [hP, hQ, ← Int.natCast_mul, ← Nat.pow_add, show s + (64 - s) = 64 by omega]
    rfl
  have hp : (2 : Int) ^ s = P := by rw [hP, Int.natCast_pow]; rfl
  have hq : (2 : Int) ^ (64 - s) = Q := by rw [hQ, Int.natCast_pow]; rfl
  have hq2 : (2 : Int) ^ (63 - s) = Q2 := by rw [hQ2, Int.natCast_pow]; rfl
  have hP0 : 0 < P := by rw [hP]; exact Int.ofNat_lt.2 (Nat.two_pow_pos s)
  have hQ0 : 0 < Q2 := by rw [hQ2]; exact Int.ofNat_lt.2 (Nat.two_pow_pos _)
  have hQQ : Q = Q2 * 2 := by
    rw [hQ, hQ2, show 64 - s = 63 - s + 1 by omega, Nat.pow_succ, Int.natCast_mul]
    rfl
  have hQ4 : Q = 2 ∨ 4 ≤ Q := by
    by_cases h63 : s = 63
    · left; rw [hQ, h63]; rfl
    · right
      rw [hQ]
      exact Int.ofNat_le.2 (Nat.pow_le_pow_right (show 0 < 2 by decide) (show 2 ≤ 64 - s by omega))
  rw [← hP] at g1 g2
  obtain ⟨nP, hnP⟩ : ∃ nP, nP = nh * P := ⟨_, rfl⟩
  obtain ⟨t, ht⟩ : ∃ t, t = nl / Q := ⟨_, rfl⟩
  obtain ⟨top, htop⟩ : ∃ top, top = nP + t := ⟨_, rfl⟩
  obtain ⟨X2, hX2⟩ : ∃ X2, X2 = mh % 2 * 9223372036854775808 + ml / 2 := ⟨_, rfl⟩
  have ht0 : 0 ≤ t ∧ t < P := by
    rw [ht]
    refine ⟨Int.ediv_nonneg hnl.1 (by omega), Int.ediv_lt_of_lt_mul (by omega) (by rw [hpq]; exact hnl.2)⟩
  have hnPP : nP + P ≤ 18446744073709551616 := by
    have : nh < Q := by
      apply Int.lt_of_mul_lt_mul_right (a := P) _ (by omega)
      rw [Int.mul_comm Q, hpq]
      exact g2
    have h2 : (nh + 1) * P ≤ Q * P := Int.mul_le_mul_of_nonneg_right (by omega) (by omega)
    rw [Int.add_mul, Int.one_mul, Int.mul_comm Q, hpq, ← hnP] at h2
    exact h2
  rw [← hnP] at g1 g2
  have hX20 : 0 ≤ X2 ∧ X2 < 18446744073709551616 := by omega
  have hM0 : 0 ≤ M ∧ M < 340282366920938463463374607431768211456 := by omega
  have hN0 : 0 < N := by omega
  have hN1 : N < 340282366920938463463374607431768211456 := by omega
  have hhalf : mh / 2 * 18446744073709551616 + X2 = M / 2 := by omega
  have DV := fun w => div64_any w (mh / 2) X2 top (by omega) hX20 (by omega)
  rw [hhalf] at DV
  have hg := top_guess (M := M) (t := top) (q2 := Q2) (Q := Q) hM0.1 hQ0 (by omega) hQQ
  have hnear := top_near (M := M) (nh := nh) (nl := nl) (P := P) (Q := Q) hM0 hnh.1 hnl.1 hQ4 hpq (by omega)
  rw [← hnP, ← ht, ← htop, ← hg, ← hN] at hnear
  obtain ⟨g0, hg0⟩ : ∃ g0, g0 = M / 2 / top := ⟨_, rfl⟩
  obtain ⟨x0, hx0⟩ : ∃ x0, x0 = M / 2 % top := ⟨_, rfl⟩
  obtain ⟨g, hgg⟩ : ∃ g, g = g0 / Q2 := ⟨_, rfl⟩
  rw [← hg0, ← hgg] at hnear
  rw [← hg0, ← hx0] at DV
  have hg00 : 0 ≤ g := by
    have := Int.ediv_nonneg hM0.1 (show 0 ≤ N by omega)
    omega
  have E1 : IntKind.u64.wrap (nh * P) = nP := by rw [← hnP, IntKind.wrap_u64]; omega
  have E2 : nl / Q = t := ht.symm
  have E3 : bits .or .u64 nP t = top := by
    rw [htop, hnP, hP]
    rw [hnP, hP] at hnPP
    rw [hP] at ht0
    exact nat_or_sum nh t s (by omega) (by omega) ht0.1 ht0.2 (by omega)
  have E4 : IntKind.u64.wrap (mh * 9223372036854775808) = mh % 2 * 9223372036854775808 := by rw [IntKind.wrap_u64]; omega
  have E5 : bits .or .u64 (mh % 2 * 9223372036854775808) (ml / 2) = X2 := by
    rw [hX2]
    exact nat_or_sum (mh % 2) (ml / 2) 63 (by omega) (by omega) (by omega) (by omega) (by omega)
  have E6 : g0 / Q2 = g := hgg.symm
  have k64 : wrap64 (64 - (s : Int)) = ((64 - s : Nat) : Int) := by simp only [wrap64]; omega
  have k63 : wrap64 (63 - (s : Int)) = ((63 - s : Nat) : Int) := by simp only [wrap64]; omega
  have k0 : ¬ ((64 - s : Nat) : Int) < 0 := by omega
  have k1 : ¬ (s : Int) < 0 := by omega
  have k2 : ¬ ((63 - s : Nat) : Int) < 0 := by omega
  have LS := fun w (x : Int) (hx : Big x) => less_any w M x hM0 hx
  have LN := fun w (x : Int) (hx : Big x) => less_any w x N hx ⟨by omega, hN1⟩
  have CP := fun w (x : Int) (hx : Big x) => compare_any w x N hx ⟨by omega, hN1⟩
  rw [show UV M = .agg #[.int .u64 mh, .int .u64 ml] by rw [hM]; exact UV_words hml.1 hml.2] at LS
  rw [show UV N = .agg #[.int .u64 nh, .int .u64 nl] by rw [hN]; exact UV_words hnl.1 hnl.2] at LN CP
  have MU := fun w (x : Int) (hx : 0 ≤ x ∧ x < 18446744073709551616) => mul64 x nl hx hnl w
  have DV := hid DV
  have HN := hid (And.intro hnear (And.intro hM0 (And.intro hN0 (And.intro hN (And.intro hnh (And.intro hnl (And.intro hM (And.intro hg00 hN1))))))))
  replace LS := hid LS
  replace LN := hid LN
  replace CP := hid CP
  replace MU := hid MU
  clear hnear hM0 hN0 hN hM hg00 hN1 hg hg0 hx0 hgg hhalf hX20 hX2 hnPP ht0 hnP ht htop g1 g2 hpq hP hQ hQ2 hP0 hQ0 hQQ hQ4 hmh hml hnh hnl
  have c1_0 := R_m.cell 0
  have c1_1 := R_m.cell 1
  have c2_0 := R_n.cell 0
  have c2_1 := R_n.cell 1
  simp at c1_0 c1_1 c2_0 c2_1
  go_wp2_with fail
  go_quiet (fail)
  go_wp2_with fail
  clear c1_0 c1_1 c2_0 c2_1
  refine Calls.mono (DV.out _) ?_; rintro e w1 ⟨rfl, n1, hn1⟩
  have hb_w1 : Below V.heap.size V w1 := by rw [hn1]; exact (((Up.refl V).drewN nq).drewN n1).below
  clear hn1
  have z_w1 := hb_w1.size
  replace R_m := R_m.mod (Mod.of_below hb_w1 Nil) (fun hf => hf)
  replace R_n := R_n.mod (Mod.of_below hb_w1 Nil) (fun hf => hf)
  replace R_q := R_q.mod (Mod.of_below hb_w1 Nil) (fun hf => hf)
  replace R_r := R_r.mod (Mod.of_below hb_w1 Nil) (fun hf => hf)
  replace HU := HU.trans hb_w1
  clear hb_w1
  by_cases hg : 0 < g
  · obtain ⟨h, hh⟩ : ∃ h, h = g - 1 := ⟨_, rfl⟩
    have E7 : IntKind.u64.wrap (g - 1) = h := by
      have h1 : g ≤ M / N + 1 := HN.out.1.2
      have h2 : M / N < 18446744073709551616 := by
        apply Int.ediv_lt_of_lt_mul HN.out.2.2.1
        have := HN.out.2.1; have := HN.out.2.2.2.1; have := HN.out.2.2.2.2.1; have := HN.out.2.2.2.2.2.1; omega
      rw [hh, IntKind.wrap_u64]; omega
    obtain ⟨m0, m1, m2⟩ := mend (h := h) HN.out.2.1.1 HN.out.2.2.1 HN.out.1.1 HN.out.1.2 (by have := HN.out.2.2.2.2.2.2.2.1; omega)
    obtain ⟨xh, hxh⟩ : ∃ xh, xh = h * nl / 18446744073709551616 := ⟨_, rfl⟩
    obtain ⟨xl, hxl⟩ : ∃ xl, xl = h * nl % 18446744073709551616 := ⟨_, rfl⟩
    obtain ⟨z, hz⟩ : ∃ z, z = h * nh := ⟨_, rfl⟩
    obtain ⟨ah, hah⟩ : ∃ ah, ah = xh + z := ⟨_, rfl⟩
    have hz0 : 0 ≤ z := by rw [hz]; exact Int.mul_nonneg m0 (by have := HN.out.2.2.2.2.1; omega)
    have hxy : 0 ≤ h * nl := Int.mul_nonneg m0 (by have := HN.out.2.2.2.2.2.1; omega)
    have hhN : h * N = ah * 18446744073709551616 + xl := by rw [HN.out.2.2.2.1, Int.mul_add, ← Int.mul_assoc, ← hz]; omega
    have hl0 : 0 ≤ xl ∧ xl < 18446744073709551616 := by omega
    have hR0 : 0 ≤ h * N ∧ h * N ≤ M := by omega
    have hh64 : h < 18446744073709551616 := by
      have h1 : h * 18446744073709551616 ≤ h * N := Int.mul_le_mul_of_nonneg_left (by have := HN.out.2.2.2.1; have := HN.out.2.2.2.2.1; have := HN.out.2.2.2.2.2.1; omega) m0
      have := HN.out.2.1
      omega
    have F1 : IntKind.u64.wrap (h * nh) = z := by have := HN.out.2.1; rw [← hz, IntKind.wrap_u64]; omega
    have F2 : IntKind.u64.wrap (xh + z) = ah := by have := HN.out.2.1; rw [← hah, IntKind.wrap_u64]; omega
    have mu := fun w => MU.out w h ⟨m0, hh64⟩
    rw [← hxh, ← hxl] at mu
    replace mu := hid mu
    obtain ⟨R, hR⟩ : ∃ R, R = M - h * N := ⟨_, rfl⟩
    rw [← hR] at m1 m2
    have hRB : Big R := ⟨m1, by have := HN.out.2.1; omega⟩
    obtain ⟨rh, rl, hru, hrw, _, hrl⟩ := UV_of hRB
    have ls := fun w => LS.out w (h * N) ⟨hR0.1, by have := HN.out.2.1; omega⟩
    rw [← hR, show R % 340282366920938463463374607431768211456 = R from Int.emod_eq_of_lt hRB.1 hRB.2, hru, hhN, UV_words hl0.1 hl0.2] at ls
    have cp := fun w => CP.out w R hRB
    have ln := fun w => LN.out w R hRB
    rw [hru] at cp ln
    replace ls := hid ls
    replace cp := hid cp
    replace ln := hid ln
    replace m0 := hid m0
    clear LS CP LN MU hxh hxl hz hah hz0 hxy hhN hl0 hR0 hR hrw hrl m1
    replace hh := hid hh
    rcases m2 with ⟨c1, c2, c3⟩ | ⟨c1, c2, c3⟩
    · skip
      rw [cmp3_lt c1] at cp
      have hru' : UV R = .agg #[.int .u64 rh, .int .u64 rl] := hru
      replace c1 := hid c1
      replace c2 := hid c2
      replace c3 := hid c3
      replace hru := hid hru
      replace hh64 := hid hh64
      clear hRB
      have c3_0 := R_m.cell 0
      have c3_1 := R_m.cell 1
      have c4_0 := R_n.cell 0
      have c4_1 := R_n.cell 1
      simp at c3_0 c3_1 c4_0 c4_1
      go_wp2_with fail
      clear c3_0 c3_1 c4_0 c4_1
      refine Calls.mono (mu.out _) ?_; rintro e wk ⟨rfl, rfl⟩
      have c5_0 := R_m.cell 0
      have c5_1 := R_m.cell 1
      have c6_0 := R_n.cell 0
      have c6_1 := R_n.cell 1
      simp at c5_0 c5_1 c6_0 c6_1
      go_wp2_with fail
      clear c5_0 c5_1 c6_0 c6_1
      refine Calls.mono (ls.out _) ?_; rintro e w2 ⟨rfl, hb_w2⟩
      have z_w2 := hb_w2.size
      try simp only [alloc_size, setCell_size] at z_w2
      replace R_m := R_m.mod (Mod.of_below hb_w2 Nil) (fun hf => hf)
      replace R_n := R_n.mod (Mod.of_below hb_w2 Nil) (fun hf => hf)
      replace R_q := R_q.mod (Mod.of_below hb_w2 Nil) (fun hf => hf)
      replace R_r := R_r.mod (Mod.of_below hb_w2 Nil) (fun hf => hf)
      replace HU := HU.trans hb_w2
      clear hb_w2
      have c7_0 := R_r.cell 0
      have c7_1 := R_r.cell 1
      have f7_0 := R_r.frozen 0
      have f7_1 := R_r.frozen 1
      replace R_r := R_r.set 0 (.int .u64 rh)
      try simp only [List.setIfInBounds_toArray, List.set_cons_zero, List.set_cons_succ] at R_r
      replace R_m := R_m.far (p := ⟨w.heap.size + 1 + 1 + 1, 0, none⟩) (by first | (simp; done) | (simp; omega) | omega) (.int .u64 rh)
      replace R_n := R_n.far (p := ⟨w.heap.size + 1 + 1 + 1, 0, none⟩) (by first | (simp; done) | (simp; omega) | omega) (.int .u64 rh)
      replace R_q := R_q.far (p := ⟨w.heap.size + 1 + 1 + 1, 0, none⟩) (by first | (simp; done) | (simp; omega) | omega) (.int .u64 rh)
      replace HU := HU.setCell (p := w.heap.size + 1 + 1 + 1) (i := 0) (by omega) (.int .u64 rh)
      have c8_0 := R_r.cell 0
      have c8_1 := R_r.cell 1
      have f8_0 := R_r.frozen 0
      have f8_1 := R_r.frozen 1
      replace R_r := R_r.set 1 (.int .u64 rl)
      try simp only [List.setIfInBounds_toArray, List.set_cons_zero, List.set_cons_succ] at R_r
      replace R_m := R_m.far (p := ⟨w.heap.size + 1 + 1 + 1, 1, none⟩) (by first | (simp; done) | (simp; omega) | omega) (.int .u64 rl)
      replace R_n := R_n.far (p := ⟨w.heap.size + 1 + 1 + 1, 1, none⟩) (by first | (simp; done) | (simp; omega) | omega) (.int .u64 rl)
      replace R_q := R_q.far (p := ⟨w.heap.size + 1 + 1 + 1, 1, none⟩) (by first | (simp; done) | (simp; omega) | omega) (.int .u64 rl)
      replace HU := HU.setCell (p := w.heap.size + 1 + 1 + 1) (i := 1) (by omega) (.int .u64 rl)
      have c9_0 := R_r.cell 0
      have c9_1 := R_r.cell 1
      have f9_0 := R_r.frozen 0
      have f9_1 := R_r.frozen 1
      have c10_0 := R_n.cell 0
      have c10_1 := R_n.cell 1
      simp at c7_0 c7_1 f7_0 f7_1 c8_0 c8_1 f8_0 f8_1 c9_0 c9_1 f9_0 f9_1 c10_0 c10_1
      go_wp2_with fail
      obtain ⟨V2, h_V2⟩ : ∃ V2, V2 = ((w2).setCell ⟨w.heap.size + 1 + 1 + 1, 0, none⟩ (.int .u64 rh)).setCell ⟨w.heap.size + 1 + 1 + 1, 1, none⟩ (.int .u64 rl) := ⟨_, rfl⟩
      rw [← h_V2]
      rw [← h_V2] at R_m R_n R_q R_r HU
      have z_V2 : V2.heap.size = _ := congrArg (fun a => a.heap.size) h_V2
      try simp only [alloc_size, setCell_size] at z_V2
      clear h_V2
      clear c7_0 c7_1 f7_0 f7_1 c8_0 c8_1 f8_0 f8_1 c9_0 c9_1 f9_0 f9_1 c10_0 c10_1
      refine Calls.mono (cp.out _) ?_; rintro e w3 ⟨rfl, hb_w3⟩
      have z_w3 := hb_w3.size
      try simp only [alloc_size, setCell_size] at z_w3
      replace R_m := R_m.mod (Mod.of_below hb_w3 Nil) (fun hf => hf)
      replace R_n := R_n.mod (Mod.of_below hb_w3 Nil) (fun hf => hf)
      replace R_q := R_q.mod (Mod.of_below hb_w3 Nil) (fun hf => hf)
      replace R_r := R_r.mod (Mod.of_below hb_w3 Nil) (fun hf => hf)
      replace HU := HU.trans hb_w3
      clear hb_w3
      go_wp2_with fail
      obtain ⟨V3, h_V3⟩ : ∃ V3, V3 = w3 := ⟨_, rfl⟩
      rw [← h_V3]
      rw [← h_V3] at R_m R_n R_q R_r HU
      have z_V3 : V3.heap.size = _ := congrArg (fun a => a.heap.size) h_V3
      try simp only [alloc_size, setCell_size] at z_V3
      clear h_V3
      have hUQ : UV (M / N) = .agg #[.int .u64 0, .int .u64 h] := by have := hh64.out; have := m0.out; have h1 := UV_words (hi := 0) (lo := h) (by omega) (by omega); rw [Int.zero_mul, Int.zero_add] at h1; rw [c2.out, h1]
      have hUR : UV (M % N) = .agg #[.int .u64 rh, .int .u64 rl] := by rw [c3.out, hru.out]
      replace hUQ := hid hUQ
      replace hUR := hid hUR
      have QA : Row (V3) (w.heap.size + 1 + 1) 79 #[.int .u64 0, .int .u64 0] := R_q
      have SA : Row (V3) (w.heap.size + 1 + 1 + 1) 79 #[.int .u64 rh, .int .u64 rl] := R_r
      obtain ⟨yA0, yA1, yA2⟩ := QA.two (.int .u64 0) (.int .u64 h)
      have TA := (SA.far (p := ⟨w.heap.size + 1 + 1, 0, none⟩) (by first | (simp; done) | (simp; omega) | omega) (.int .u64 0)).far (p := ⟨w.heap.size + 1 + 1, 1, none⟩) (by first | (simp; done) | (simp; omega) | omega) (.int .u64 h)
      obtain ⟨zA0, zA1, zA2⟩ := TA.two (.int .u64 rh) (.int .u64 rl)
      have PA := ((((QA.set 0 (.int .u64 0)).set 1 (.int .u64 h)).far (p := ⟨w.heap.size + 1 + 1 + 1, 0, none⟩) (by first | (simp; done) | (simp; omega) | omega) (.int .u64 rh)).far (p := ⟨w.heap.size + 1 + 1 + 1, 1, none⟩) (by first | (simp; done) | (simp; omega) | omega) (.int .u64 rl))
      have aA0 := QA.cell 0
      have bA0 := SA.cell 0
      have cA0 := TA.cell 0
      have dA0 := PA.cell 0
      have faA0 := QA.frozen 0
      have fbA0 := SA.frozen 0
      have fcA0 := TA.frozen 0
      have aA1 := QA.cell 1
      have bA1 := SA.cell 1
      have cA1 := TA.cell 1
      have dA1 := PA.cell 1
      have faA1 := QA.frozen 1
      have fbA1 := SA.frozen 1
      have fcA1 := TA.frozen 1
      have QB : Row (V3.drew) (w.heap.size + 1 + 1) 79 #[.int .u64 0, .int .u64 0] := R_q.drew
      have SB : Row (V3.drew) (w.heap.size + 1 + 1 + 1) 79 #[.int .u64 rh, .int .u64 rl] := R_r.drew
      obtain ⟨yB0, yB1, yB2⟩ := QB.two (.int .u64 0) (.int .u64 h)
      have TB := (SB.far (p := ⟨w.heap.size + 1 + 1, 0, none⟩) (by first | (simp; done) | (simp; omega) | omega) (.int .u64 0)).far (p := ⟨w.heap.size + 1 + 1, 1, none⟩) (by first | (simp; done) | (simp; omega) | omega) (.int .u64 h)
      obtain ⟨zB0, zB1, zB2⟩ := TB.two (.int .u64 rh) (.int .u64 rl)
      have PB := ((((QB.set 0 (.int .u64 0)).set 1 (.int .u64 h)).far (p := ⟨w.heap.size + 1 + 1 + 1, 0, none⟩) (by first | (simp; done) | (simp; omega) | omega) (.int .u64 rh)).far (p := ⟨w.heap.size + 1 + 1 + 1, 1, none⟩) (by first | (simp; done) | (simp; omega) | omega) (.int .u64 rl))
      have aB0 := QB.cell 0
      have bB0 := SB.cell 0
      have cB0 := TB.cell 0
      have dB0 := PB.cell 0
      have faB0 := QB.frozen 0
      have fbB0 := SB.frozen 0
      have fcB0 := TB.frozen 0
      have aB1 := QB.cell 1
      have bB1 := SB.cell 1
      have cB1 := TB.cell 1
      have dB1 := PB.cell 1
      have faB1 := QB.frozen 1
      have fbB1 := SB.frozen 1
      have fcB1 := TB.frozen 1
      simp at aA0 bA0 cA0 dA0 faA0 fbA0 fcA0 aA1 bA1 cA1 dA1 faA1 fbA1 fcA1 aB0 bB0 cB0 dB0 faB0 fbB0 fcB0 aB1 bB1 cB1 dB1 faB1 fbB1 fcB1
      have HyA0 := hid yA0
      have HyA1 := hid yA1
      have HzA0 := hid zA0
      have HzA1 := hid zA1
      have HyB0 := hid yB0
      have HyB1 := hid yB1
      have HzB0 := hid zB0
      have HzB1 := hid zB1
      have HE := (((HU.setCell (p := w.heap.size + 1 + 1) (i := 0) (by omega) (.int .u64 0)).setCell (p := w.heap.size + 1 + 1) (i := 1) (by omega) (.int .u64 h)).setCell (p := w.heap.size + 1 + 1 + 1) (i := 0) (by omega) (.int .u64 rh)).setCell (p := w.heap.size + 1 + 1 + 1) (i := 1) (by omega) (.int .u64 rl)
      clear QA SA TA PA QB SB TB PB
      go_region
      all_goals
        go_wp2_with fail
        simp [bodyPost, results, Tryd.results99, go_sem, HyA0.out, HyA1.out, HzA0.out, HzA1.out, hUQ.out, hUR.out]
        first | exact HE.below | exact ⟨HE.below.os, HE.below.tape, HE.below.output, HE.below.size, HE.below.block⟩
    · skip
      have c4 : R - N < N := by
        have h1 := Int.emod_lt_of_pos M HN.out.2.2.1
        omega
      have hSB : Big (R - N) := ⟨by omega, by have := HN.out.2.2.1; have := hRB.2; omega⟩
      obtain ⟨sh, sl, hsu, _, _, _⟩ := UV_of hSB
      rw [show (R - N) % 340282366920938463463374607431768211456 = R - N from Int.emod_eq_of_lt hSB.1 hSB.2, hsu] at ln
      have hc : cmp3 R N = 1 ∨ cmp3 R N = 0 := by
        rcases cmp3_cases R N with ⟨h, e⟩ | ⟨h, e⟩ | ⟨h, e⟩ <;> omega
      have hc0 : 0 ≤ cmp3 R N := by omega
      have hh64' : h + 1 < 18446744073709551616 := by
        have h1 : (h + 1) * 18446744073709551616 ≤ (h + 1) * N := Int.mul_le_mul_of_nonneg_left (by have := HN.out.2.2.2.1; have := HN.out.2.2.2.2.1; have := HN.out.2.2.2.2.2.1; omega) (by have := m0.out; omega)
        have h2 : (h + 1) * N ≤ M := by rw [← c2]; exact Int.ediv_mul_le M (by have := HN.out.2.2.1; omega)
        have := HN.out.2.1
        omega
      have F3 : IntKind.u64.wrap (h + 1) = h + 1 := by have := m0.out; rw [IntKind.wrap_u64]; omega
      replace hh64' := hid hh64'
      replace hsu := hid hsu
      clear hc c4 hSB
      obtain ⟨cv, hcv⟩ : ∃ cv, cv = cmp3 R N := ⟨_, rfl⟩
      rw [← hcv] at cp hc0
      clear hcv
      replace c1 := hid c1
      replace c2 := hid c2
      replace c3 := hid c3
      replace hru := hid hru
      replace hh64 := hid hh64
      clear hRB
      have c11_0 := R_m.cell 0
      have c11_1 := R_m.cell 1
      have c12_0 := R_n.cell 0
      have c12_1 := R_n.cell 1
      simp at c11_0 c11_1 c12_0 c12_1
      go_wp2_with fail
      clear c11_0 c11_1 c12_0 c12_1
      refine Calls.mono (mu.out _) ?_; rintro e wk ⟨rfl, rfl⟩
      have c13_0 := R_m.cell 0
      have c13_1 := R_m.cell 1
      have c14_0 := R_n.cell 0
      have c14_1 := R_n.cell 1
      simp at c13_0 c13_1 c14_0 c14_1
      go_wp2_with fail
      clear c13_0 c13_1 c14_0 c14_1
      refine Calls.mono (ls.out _) ?_; rintro e w2 ⟨rfl, hb_w2⟩
      have z_w2 := hb_w2.size
      try simp only [alloc_size, setCell_size] at z_w2
      replace R_m := R_m.mod (Mod.of_below hb_w2 Nil) (fun hf => hf)
      replace R_n := R_n.mod (Mod.of_below hb_w2 Nil) (fun hf => hf)
      replace R_q := R_q.mod (Mod.of_below hb_w2 Nil) (fun hf => hf)
      replace R_r := R_r.mod (Mod.of_below hb_w2 Nil) (fun hf => hf)
      replace HU := HU.trans hb_w2
      clear hb_w2
      have c15_0 := R_r.cell 0
      have c15_1 := R_r.cell 1
      have f15_0 := R_r.frozen 0
      have f15_1 := R_r.frozen 1
      replace R_r := R_r.set 0 (.int .u64 rh)
      try simp only [List.setIfInBounds_toArray, List.set_cons_zero, List.set_cons_succ] at R_r
      replace R_m := R_m.far (p := ⟨w.heap.size + 1 + 1 + 1, 0, none⟩) (by first | (simp; done) | (simp; omega) | omega) (.int .u64 rh)
      replace R_n := R_n.far (p := ⟨w.heap.size + 1 + 1 + 1, 0, none⟩) (by first | (simp; done) | (simp; omega) | omega) (.int .u64 rh)
      replace R_q := R_q.far (p := ⟨w.heap.size + 1 + 1 + 1, 0, none⟩) (by first | (simp; done) | (simp; omega) | omega) (.int .u64 rh)
      replace HU := HU.setCell (p := w.heap.size + 1 + 1 + 1) (i := 0) (by omega) (.int .u64 rh)
      have c16_0 := R_r.cell 0
      have c16_1 := R_r.cell 1
      have f16_0 := R_r.frozen 0
      have f16_1 := R_r.frozen 1
      replace R_r := R_r.set 1 (.int .u64 rl)
      try simp only [List.setIfInBounds_toArray, List.set_cons_zero, List.set_cons_succ] at R_r
      replace R_m := R_m.far (p := ⟨w.heap.size + 1 + 1 + 1, 1, none⟩) (by first | (simp; done) | (simp; omega) | omega) (.int .u64 rl)
      replace R_n := R_n.far (p := ⟨w.heap.size + 1 + 1 + 1, 1, none⟩) (by first | (simp; done) | (simp; omega) | omega) (.int .u64 rl)
      replace R_q := R_q.far (p := ⟨w.heap.size + 1 + 1 + 1, 1, none⟩) (by first | (simp; done) | (simp; omega) | omega) (.int .u64 rl)
      replace HU := HU.setCell (p := w.heap.size + 1 + 1 + 1) (i := 1) (by omega) (.int .u64 rl)
      have c17_0 := R_r.cell 0
      have c17_1 := R_r.cell 1
      have f17_0 := R_r.frozen 0
      have f17_1 := R_r.frozen 1
      have c18_0 := R_n.cell 0
      have c18_1 := R_n.cell 1
      simp at c15_0 c15_1 f15_0 f15_1 c16_0 c16_1 f16_0 f16_1 c17_0 c17_1 f17_0 f17_1 c18_0 c18_1
      go_wp2_with fail
      obtain ⟨V2, h_V2⟩ : ∃ V2, V2 = ((w2).setCell ⟨w.heap.size + 1 + 1 + 1, 0, none⟩ (.int .u64 rh)).setCell ⟨w.heap.size + 1 + 1 + 1, 1, none⟩ (.int .u64 rl) := ⟨_, rfl⟩
      rw [← h_V2]
      rw [← h_V2] at R_m R_n R_q R_r HU
      have z_V2 : V2.heap.size = _ := congrArg (fun a => a.heap.size) h_V2
      try simp only [alloc_size, setCell_size] at z_V2
      clear h_V2
      clear c15_0 c15_1 f15_0 f15_1 c16_0 c16_1 f16_0 f16_1 c17_0 c17_1 f17_0 f17_1 c18_0 c18_1
      refine Calls.mono (cp.out _) ?_; rintro e w3 ⟨rfl, hb_w3⟩
      have z_w3 := hb_w3.size
      try simp only [alloc_size, setCell_size] at z_w3
      replace R_m := R_m.mod (Mod.of_below hb_w3 Nil) (fun hf => hf)
      replace R_n := R_n.mod (Mod.of_below hb_w3 Nil) (fun hf => hf)
      replace R_q := R_q.mod (Mod.of_below hb_w3 Nil) (fun hf => hf)
      replace R_r := R_r.mod (Mod.of_below hb_w3 Nil) (fun hf => hf)
      replace HU := HU.trans hb_w3
      clear hb_w3
      have c19_0 := R_r.cell 0
      have c19_1 := R_r.cell 1
      have c20_0 := R_n.cell 0
      have c20_1 := R_n.cell 1
      simp at c19_0 c19_1 c20_0 c20_1
      go_wp2_with fail
      clear c19_0 c19_1 c20_0 c20_1
      refine Calls.mono (ln.out _) ?_; rintro e w4 ⟨rfl, hb_w4⟩
      have z_w4 := hb_w4.size
      try simp only [alloc_size, setCell_size] at z_w4
      replace R_m := R_m.mod (Mod.of_below hb_w4 Nil) (fun hf => hf)
      replace R_n := R_n.mod (Mod.of_below hb_w4 Nil) (fun hf => hf)
      replace R_q := R_q.mod (Mod.of_below hb_w4 Nil) (fun hf => hf)
      replace R_r := R_r.mod (Mod.of_below hb_w4 Nil) (fun hf => hf)
      replace HU := HU.trans hb_w4
      clear hb_w4
      have c21_0 := R_r.cell 0
      have c21_1 := R_r.cell 1
      have f21_0 := R_r.frozen 0
      have f21_1 := R_r.frozen 1
      replace R_r := R_r.set 0 (.int .u64 sh)
      try simp only [List.setIfInBounds_toArray, List.set_cons_zero, List.set_cons_succ] at R_r
      replace R_m := R_m.far (p := ⟨w.heap.size + 1 + 1 + 1, 0, none⟩) (by first | (simp; done) | (simp; omega) | omega) (.int .u64 sh)
      replace R_n := R_n.far (p := ⟨w.heap.size + 1 + 1 + 1, 0, none⟩) (by first | (simp; done) | (simp; omega) | omega) (.int .u64 sh)
      replace R_q := R_q.far (p := ⟨w.heap.size + 1 + 1 + 1, 0, none⟩) (by first | (simp; done) | (simp; omega) | omega) (.int .u64 sh)
      replace HU := HU.setCell (p := w.heap.size + 1 + 1 + 1) (i := 0) (by omega) (.int .u64 sh)
      have c22_0 := R_r.cell 0
      have c22_1 := R_r.cell 1
      have f22_0 := R_r.frozen 0
      have f22_1 := R_r.frozen 1
      replace R_r := R_r.set 1 (.int .u64 sl)
      try simp only [List.setIfInBounds_toArray, List.set_cons_zero, List.set_cons_succ] at R_r
      replace R_m := R_m.far (p := ⟨w.heap.size + 1 + 1 + 1, 1, none⟩) (by first | (simp; done) | (simp; omega) | omega) (.int .u64 sl)
      replace R_n := R_n.far (p := ⟨w.heap.size + 1 + 1 + 1, 1, none⟩) (by first | (simp; done) | (simp; omega) | omega) (.int .u64 sl)
      replace R_q := R_q.far (p := ⟨w.heap.size + 1 + 1 + 1, 1, none⟩) (by first | (simp; done) | (simp; omega) | omega) (.int .u64 sl)
      replace HU := HU.setCell (p := w.heap.size + 1 + 1 + 1) (i := 1) (by omega) (.int .u64 sl)
      have c23_0 := R_r.cell 0
      have c23_1 := R_r.cell 1
      have f23_0 := R_r.frozen 0
      have f23_1 := R_r.frozen 1
      simp at c21_0 c21_1 f21_0 f21_1 c22_0 c22_1 f22_0 f22_1 c23_0 c23_1 f23_0 f23_1
      go_wp2_with fail
      obtain ⟨V3, h_V3⟩ : ∃ V3, V3 = ((w4).setCell ⟨w.heap.size + 1 + 1 + 1, 0, none⟩ (.int .u64 sh)).setCell ⟨w.heap.size + 1 + 1 + 1, 1, none⟩ (.int .u64 sl) := ⟨_, rfl⟩
      rw [← h_V3]
      rw [← h_V3] at R_m R_n R_q R_r HU
      have z_V3 : V3.heap.size = _ := congrArg (fun a => a.heap.size) h_V3
      try simp only [alloc_size, setCell_size] at z_V3
      clear h_V3
      clear c21_0 c21_1 f21_0 f21_1 c22_0 c22_1 f22_0 f22_1 c23_0 c23_1 f23_0 f23_1
      have hUQ : UV (M / N) = .agg #[.int .u64 0, .int .u64 (h + 1)] := by have := hh64'.out; have := m0.out; have h1 := UV_words (hi := 0) (lo := h + 1) (by omega) (by omega); rw [Int.zero_mul, Int.zero_add] at h1; rw [c2.out, h1]
      have hUR : UV (M % N) = .agg #[.int .u64 sh, .int .u64 sl] := by rw [c3.out, hsu.out]
      replace hUQ := hid hUQ
      replace hUR := hid hUR
      have QA : Row (V3) (w.heap.size + 1 + 1) 79 #[.int .u64 0, .int .u64 0] := R_q
      have SA : Row (V3) (w.heap.size + 1 + 1 + 1) 79 #[.int .u64 sh, .int .u64 sl] := R_r
      obtain ⟨yA0, yA1, yA2⟩ := QA.two (.int .u64 0) (.int .u64 (h + 1))
      have TA := (SA.far (p := ⟨w.heap.size + 1 + 1, 0, none⟩) (by first | (simp; done) | (simp; omega) | omega) (.int .u64 0)).far (p := ⟨w.heap.size + 1 + 1, 1, none⟩) (by first | (simp; done) | (simp; omega) | omega) (.int .u64 (h + 1))
      obtain ⟨zA0, zA1, zA2⟩ := TA.two (.int .u64 sh) (.int .u64 sl)
      have PA := ((((QA.set 0 (.int .u64 0)).set 1 (.int .u64 (h + 1))).far (p := ⟨w.heap.size + 1 + 1 + 1, 0, none⟩) (by first | (simp; done) | (simp; omega) | omega) (.int .u64 sh)).far (p := ⟨w.heap.size + 1 + 1 + 1, 1, none⟩) (by first | (simp; done) | (simp; omega) | omega) (.int .u64 sl))
      have aA0 := QA.cell 0
      have bA0 := SA.cell 0
      have cA0 := TA.cell 0
      have dA0 := PA.cell 0
      have faA0 := QA.frozen 0
      have fbA0 := SA.frozen 0
      have fcA0 := TA.frozen 0
      have aA1 := QA.cell 1
      have bA1 := SA.cell 1
      have cA1 := TA.cell 1
      have dA1 := PA.cell 1
      have faA1 := QA.frozen 1
      have fbA1 := SA.frozen 1
      have fcA1 := TA.frozen 1
      have QB : Row (V3.drew) (w.heap.size + 1 + 1) 79 #[.int .u64 0, .int .u64 0] := R_q.drew
      have SB : Row (V3.drew) (w.heap.size + 1 + 1 + 1) 79 #[.int .u64 sh, .int .u64 sl] := R_r.drew
      obtain ⟨yB0, yB1, yB2⟩ := QB.two (.int .u64 0) (.int .u64 (h + 1))
      have TB := (SB.far (p := ⟨w.heap.size + 1 + 1, 0, none⟩) (by first | (simp; done) | (simp; omega) | omega) (.int .u64 0)).far (p := ⟨w.heap.size + 1 + 1, 1, none⟩) (by first | (simp; done) | (simp; omega) | omega) (.int .u64 (h + 1))
      obtain ⟨zB0, zB1, zB2⟩ := TB.two (.int .u64 sh) (.int .u64 sl)
      have PB := ((((QB.set 0 (.int .u64 0)).set 1 (.int .u64 (h + 1))).far (p := ⟨w.heap.size + 1 + 1 + 1, 0, none⟩) (by first | (simp; done) | (simp; omega) | omega) (.int .u64 sh)).far (p := ⟨w.heap.size + 1 + 1 + 1, 1, none⟩) (by first | (simp; done) | (simp; omega) | omega) (.int .u64 sl))
      have aB0 := QB.cell 0
      have bB0 := SB.cell 0
      have cB0 := TB.cell 0
      have dB0 := PB.cell 0
      have faB0 := QB.frozen 0
      have fbB0 := SB.frozen 0
      have fcB0 := TB.frozen 0
      have aB1 := QB.cell 1
      have bB1 := SB.cell 1
      have cB1 := TB.cell 1
      have dB1 := PB.cell 1
      have faB1 := QB.frozen 1
      have fbB1 := SB.frozen 1
      have fcB1 := TB.frozen 1
      simp at aA0 bA0 cA0 dA0 faA0 fbA0 fcA0 aA1 bA1 cA1 dA1 faA1 fbA1 fcA1 aB0 bB0 cB0 dB0 faB0 fbB0 fcB0 aB1 bB1 cB1 dB1 faB1 fbB1 fcB1
      have HyA0 := hid yA0
      have HyA1 := hid yA1
      have HzA0 := hid zA0
      have HzA1 := hid zA1
      have HyB0 := hid yB0
      have HyB1 := hid yB1
      have HzB0 := hid zB0
      have HzB1 := hid zB1
      have HE := (((HU.setCell (p := w.heap.size + 1 + 1) (i := 0) (by omega) (.int .u64 0)).setCell (p := w.heap.size + 1 + 1) (i := 1) (by omega) (.int .u64 (h + 1))).setCell (p := w.heap.size + 1 + 1 + 1) (i := 0) (by omega) (.int .u64 sh)).setCell (p := w.heap.size + 1 + 1 + 1) (i := 1) (by omega) (.int .u64 sl)
      clear QA SA TA PA QB SB TB PB
      go_region
      all_goals
        go_wp2_with fail
        simp [bodyPost, results, Tryd.results99, go_sem, HyA0.out, HyA1.out, HzA0.out, HzA1.out, hUQ.out, hUR.out]
        first | exact HE.below | exact ⟨HE.below.os, HE.below.tape, HE.below.output, HE.below.size, HE.below.block⟩
  · skip
    obtain ⟨m0, m1, m2⟩ := mend (h := g) HN.out.2.1.1 HN.out.2.2.1 HN.out.1.1 HN.out.1.2 (by have := HN.out.2.2.2.2.2.2.2.1; omega)
    obtain ⟨xh, hxh⟩ : ∃ xh, xh = g * nl / 18446744073709551616 := ⟨_, rfl⟩
    obtain ⟨xl, hxl⟩ : ∃ xl, xl = g * nl % 18446744073709551616 := ⟨_, rfl⟩
    obtain ⟨z, hz⟩ : ∃ z, z = g * nh := ⟨_, rfl⟩
    obtain ⟨ah, hah⟩ : ∃ ah, ah = xh + z := ⟨_, rfl⟩
    have hz0 : 0 ≤ z := by rw [hz]; exact Int.mul_nonneg m0 (by have := HN.out.2.2.2.2.1; omega)
    have hxy : 0 ≤ g * nl := Int.mul_nonneg m0 (by have := HN.out.2.2.2.2.2.1; omega)
    have hhN : g * N = ah * 18446744073709551616 + xl := by rw [HN.out.2.2.2.1, Int.mul_add, ← Int.mul_assoc, ← hz]; omega
    have hl0 : 0 ≤ xl ∧ xl < 18446744073709551616 := by omega
    have hR0 : 0 ≤ g * N ∧ g * N ≤ M := by omega
    have hh64 : g < 18446744073709551616 := by
      have h1 : g * 18446744073709551616 ≤ g * N := Int.mul_le_mul_of_nonneg_left (by have := HN.out.2.2.2.1; have := HN.out.2.2.2.2.1; have := HN.out.2.2.2.2.2.1; omega) m0
      have := HN.out.2.1
      omega
    have F1 : IntKind.u64.wrap (g * nh) = z := by have := HN.out.2.1; rw [← hz, IntKind.wrap_u64]; omega
    have F2 : IntKind.u64.wrap (xh + z) = ah := by have := HN.out.2.1; rw [← hah, IntKind.wrap_u64]; omega
    have mu := fun w => MU.out w g ⟨m0, hh64⟩
    rw [← hxh, ← hxl] at mu
    replace mu := hid mu
    obtain ⟨R, hR⟩ : ∃ R, R = M - g * N := ⟨_, rfl⟩
    rw [← hR] at m1 m2
    have hRB : Big R := ⟨m1, by have := HN.out.2.1; omega⟩
    obtain ⟨rh, rl, hru, hrw, _, hrl⟩ := UV_of hRB
    have ls := fun w => LS.out w (g * N) ⟨hR0.1, by have := HN.out.2.1; omega⟩
    rw [← hR, show R % 340282366920938463463374607431768211456 = R from Int.emod_eq_of_lt hRB.1 hRB.2, hru, hhN, UV_words hl0.1 hl0.2] at ls
    have cp := fun w => CP.out w R hRB
    have ln := fun w => LN.out w R hRB
    rw [hru] at cp ln
    replace ls := hid ls
    replace cp := hid cp
    replace ln := hid ln
    replace m0 := hid m0
    clear LS CP LN MU hxh hxl hz hah hz0 hxy hhN hl0 hR0 hR hrw hrl m1
    rcases m2 with ⟨c1, c2, c3⟩ | ⟨c1, c2, c3⟩
    · skip
      rw [cmp3_lt c1] at cp
      have hru' : UV R = .agg #[.int .u64 rh, .int .u64 rl] := hru
      replace c1 := hid c1
      replace c2 := hid c2
      replace c3 := hid c3
      replace hru := hid hru
      replace hh64 := hid hh64
      clear hRB
      have c24_0 := R_m.cell 0
      have c24_1 := R_m.cell 1
      have c25_0 := R_n.cell 0
      have c25_1 := R_n.cell 1
      simp at c24_0 c24_1 c25_0 c25_1
      go_wp2_with fail
      clear c24_0 c24_1 c25_0 c25_1
      refine Calls.mono (mu.out _) ?_; rintro e wk ⟨rfl, rfl⟩
      have c26_0 := R_m.cell 0
      have c26_1 := R_m.cell 1
      have c27_0 := R_n.cell 0
      have c27_1 := R_n.cell 1
      simp at c26_0 c26_1 c27_0 c27_1
      go_wp2_with fail
      clear c26_0 c26_1 c27_0 c27_1
      refine Calls.mono (ls.out _) ?_; rintro e w2 ⟨rfl, hb_w2⟩
      have z_w2 := hb_w2.size
      try simp only [alloc_size, setCell_size] at z_w2
      replace R_m := R_m.mod (Mod.of_below hb_w2 Nil) (fun hf => hf)
      replace R_n := R_n.mod (Mod.of_below hb_w2 Nil) (fun hf => hf)
      replace R_q := R_q.mod (Mod.of_below hb_w2 Nil) (fun hf => hf)
      replace R_r := R_r.mod (Mod.of_below hb_w2 Nil) (fun hf => hf)
      replace HU := HU.trans hb_w2
      clear hb_w2
      have c28_0 := R_r.cell 0
      have c28_1 := R_r.cell 1
      have f28_0 := R_r.frozen 0
      have f28_1 := R_r.frozen 1
      replace R_r := R_r.set 0 (.int .u64 rh)
      try simp only [List.setIfInBounds_toArray, List.set_cons_zero, List.set_cons_succ] at R_r
      replace R_m := R_m.far (p := ⟨w.heap.size + 1 + 1 + 1, 0, none⟩) (by first | (simp; done) | (simp; omega) | omega) (.int .u64 rh)
      replace R_n := R_n.far (p := ⟨w.heap.size + 1 + 1 + 1, 0, none⟩) (by first | (simp; done) | (simp; omega) | omega) (.int .u64 rh)
      replace R_q := R_q.far (p := ⟨w.heap.size + 1 + 1 + 1, 0, none⟩) (by first | (simp; done) | (simp; omega) | omega) (.int .u64 rh)
      replace HU := HU.setCell (p := w.heap.size + 1 + 1 + 1) (i := 0) (by omega) (.int .u64 rh)
      have c29_0 := R_r.cell 0
      have c29_1 := R_r.cell 1
      have f29_0 := R_r.frozen 0
      have f29_1 := R_r.frozen 1
      replace R_r := R_r.set 1 (.int .u64 rl)
      try simp only [List.setIfInBounds_toArray, List.set_cons_zero, List.set_cons_succ] at R_r
      replace R_m := R_m.far (p := ⟨w.heap.size + 1 + 1 + 1, 1, none⟩) (by first | (simp; done) | (simp; omega) | omega) (.int .u64 rl)
      replace R_n := R_n.far (p := ⟨w.heap.size + 1 + 1 + 1, 1, none⟩) (by first | (simp; done) | (simp; omega) | omega) (.int .u64 rl)
      replace R_q := R_q.far (p := ⟨w.heap.size + 1 + 1 + 1, 1, none⟩) (by first | (simp; done) | (simp; omega) | omega) (.int .u64 rl)
      replace HU := HU.setCell (p := w.heap.size + 1 + 1 + 1) (i := 1) (by omega) (.int .u64 rl)
      have c30_0 := R_r.cell 0
      have c30_1 := R_r.cell 1
      have f30_0 := R_r.frozen 0
      have f30_1 := R_r.frozen 1
      have c31_0 := R_n.cell 0
      have c31_1 := R_n.cell 1
      simp at c28_0 c28_1 f28_0 f28_1 c29_0 c29_1 f29_0 f29_1 c30_0 c30_1 f30_0 f30_1 c31_0 c31_1
      go_wp2_with fail
      obtain ⟨V2, h_V2⟩ : ∃ V2, V2 = ((w2).setCell ⟨w.heap.size + 1 + 1 + 1, 0, none⟩ (.int .u64 rh)).setCell ⟨w.heap.size + 1 + 1 + 1, 1, none⟩ (.int .u64 rl) := ⟨_, rfl⟩
      rw [← h_V2]
      rw [← h_V2] at R_m R_n R_q R_r HU
      have z_V2 : V2.heap.size = _ := congrArg (fun a => a.heap.size) h_V2
      try simp only [alloc_size, setCell_size] at z_V2
      clear h_V2
      clear c28_0 c28_1 f28_0 f28_1 c29_0 c29_1 f29_0 f29_1 c30_0 c30_1 f30_0 f30_1 c31_0 c31_1
      refine Calls.mono (cp.out _) ?_; rintro e w3 ⟨rfl, hb_w3⟩
      have z_w3 := hb_w3.size
      try simp only [alloc_size, setCell_size] at z_w3
      replace R_m := R_m.mod (Mod.of_below hb_w3 Nil) (fun hf => hf)
      replace R_n := R_n.mod (Mod.of_below hb_w3 Nil) (fun hf => hf)
      replace R_q := R_q.mod (Mod.of_below hb_w3 Nil) (fun hf => hf)
      replace R_r := R_r.mod (Mod.of_below hb_w3 Nil) (fun hf => hf)
      replace HU := HU.trans hb_w3
      clear hb_w3
      go_wp2_with fail
      obtain ⟨V3, h_V3⟩ : ∃ V3, V3 = w3 := ⟨_, rfl⟩
      rw [← h_V3]
      rw [← h_V3] at R_m R_n R_q R_r HU
      have z_V3 : V3.heap.size = _ := congrArg (fun a => a.heap.size) h_V3
      try simp only [alloc_size, setCell_size] at z_V3
      clear h_V3
      have hUQ : UV (M / N) = .agg #[.int .u64 0, .int .u64 g] := by have := hh64.out; have := m0.out; have h1 := UV_words (hi := 0) (lo := g) (by omega) (by omega); rw [Int.zero_mul, Int.zero_add] at h1; rw [c2.out, h1]
      have hUR : UV (M % N) = .agg #[.int .u64 rh, .int .u64 rl] := by rw [c3.out, hru.out]
      replace hUQ := hid hUQ
      replace hUR := hid hUR
      have QA : Row (V3) (w.heap.size + 1 + 1) 79 #[.int .u64 0, .int .u64 0] := R_q
      have SA : Row (V3) (w.heap.size + 1 + 1 + 1) 79 #[.int .u64 rh, .int .u64 rl] := R_r
      obtain ⟨yA0, yA1, yA2⟩ := QA.two (.int .u64 0) (.int .u64 g)
      have TA := (SA.far (p := ⟨w.heap.size + 1 + 1, 0, none⟩) (by first | (simp; done) | (simp; omega) | omega) (.int .u64 0)).far (p := ⟨w.heap.size + 1 + 1, 1, none⟩) (by first | (simp; done) | (simp; omega) | omega) (.int .u64 g)
      obtain ⟨zA0, zA1, zA2⟩ := TA.two (.int .u64 rh) (.int .u64 rl)
      have PA := ((((QA.set 0 (.int .u64 0)).set 1 (.int .u64 g)).far (p := ⟨w.heap.size + 1 + 1 + 1, 0, none⟩) (by first | (simp; done) | (simp; omega) | omega) (.int .u64 rh)).far (p := ⟨w.heap.size + 1 + 1 + 1, 1, none⟩) (by first | (simp; done) | (simp; omega) | omega) (.int .u64 rl))
      have aA0 := QA.cell 0
      have bA0 := SA.cell 0
      have cA0 := TA.cell 0
      have dA0 := PA.cell 0
      have faA0 := QA.frozen 0
      have fbA0 := SA.frozen 0
      have fcA0 := TA.frozen 0
      have aA1 := QA.cell 1
      have bA1 := SA.cell 1
      have cA1 := TA.cell 1
      have dA1 := PA.cell 1
      have faA1 := QA.frozen 1
      have fbA1 := SA.frozen 1
      have fcA1 := TA.frozen 1
      have QB : Row (V3.drew) (w.heap.size + 1 + 1) 79 #[.int .u64 0, .int .u64 0] := R_q.drew
      have SB : Row (V3.drew) (w.heap.size + 1 + 1 + 1) 79 #[.int .u64 rh, .int .u64 rl] := R_r.drew
      obtain ⟨yB0, yB1, yB2⟩ := QB.two (.int .u64 0) (.int .u64 g)
      have TB := (SB.far (p := ⟨w.heap.size + 1 + 1, 0, none⟩) (by first | (simp; done) | (simp; omega) | omega) (.int .u64 0)).far (p := ⟨w.heap.size + 1 + 1, 1, none⟩) (by first | (simp; done) | (simp; omega) | omega) (.int .u64 g)
      obtain ⟨zB0, zB1, zB2⟩ := TB.two (.int .u64 rh) (.int .u64 rl)
      have PB := ((((QB.set 0 (.int .u64 0)).set 1 (.int .u64 g)).far (p := ⟨w.heap.size + 1 + 1 + 1, 0, none⟩) (by first | (simp; done) | (simp; omega) | omega) (.int .u64 rh)).far (p := ⟨w.heap.size + 1 + 1 + 1, 1, none⟩) (by first | (simp; done) | (simp; omega) | omega) (.int .u64 rl))
      have aB0 := QB.cell 0
      have bB0 := SB.cell 0
      have cB0 := TB.cell 0
      have dB0 := PB.cell 0
      have faB0 := QB.frozen 0
      have fbB0 := SB.frozen 0
      have fcB0 := TB.frozen 0
      have aB1 := QB.cell 1
      have bB1 := SB.cell 1
      have cB1 := TB.cell 1
      have dB1 := PB.cell 1
      have faB1 := QB.frozen 1
      have fbB1 := SB.frozen 1
      have fcB1 := TB.frozen 1
      simp at aA0 bA0 cA0 dA0 faA0 fbA0 fcA0 aA1 bA1 cA1 dA1 faA1 fbA1 fcA1 aB0 bB0 cB0 dB0 faB0 fbB0 fcB0 aB1 bB1 cB1 dB1 faB1 fbB1 fcB1
      have HyA0 := hid yA0
      have HyA1 := hid yA1
      have HzA0 := hid zA0
      have HzA1 := hid zA1
      have HyB0 := hid yB0
      have HyB1 := hid yB1
      have HzB0 := hid zB0
      have HzB1 := hid zB1
      have HE := (((HU.setCell (p := w.heap.size + 1 + 1) (i := 0) (by omega) (.int .u64 0)).setCell (p := w.heap.size + 1 + 1) (i := 1) (by omega) (.int .u64 g)).setCell (p := w.heap.size + 1 + 1 + 1) (i := 0) (by omega) (.int .u64 rh)).setCell (p := w.heap.size + 1 + 1 + 1) (i := 1) (by omega) (.int .u64 rl)
      clear QA SA TA PA QB SB TB PB
      go_region
      all_goals
        go_wp2_with fail
        simp [bodyPost, results, Tryd.results99, go_sem, HyA0.out, HyA1.out, HzA0.out, HzA1.out, hUQ.out, hUR.out]
        first | exact HE.below | exact ⟨HE.below.os, HE.below.tape, HE.below.output, HE.below.size, HE.below.block⟩
    · skip
      have c4 : R - N < N := by
        have h1 := Int.emod_lt_of_pos M HN.out.2.2.1
        omega
      have hSB : Big (R - N) := ⟨by omega, by have := HN.out.2.2.1; have := hRB.2; omega⟩
      obtain ⟨sh, sl, hsu, _, _, _⟩ := UV_of hSB
      rw [show (R - N) % 340282366920938463463374607431768211456 = R - N from Int.emod_eq_of_lt hSB.1 hSB.2, hsu] at ln
      have hc : cmp3 R N = 1 ∨ cmp3 R N = 0 := by
        rcases cmp3_cases R N with ⟨h, e⟩ | ⟨h, e⟩ | ⟨h, e⟩ <;> omega
      have hc0 : 0 ≤ cmp3 R N := by omega
      have hh64' : g + 1 < 18446744073709551616 := by
        have h1 : (g + 1) * 18446744073709551616 ≤ (g + 1) * N := Int.mul_le_mul_of_nonneg_left (by have := HN.out.2.2.2.1; have := HN.out.2.2.2.2.1; have := HN.out.2.2.2.2.2.1; omega) (by have := m0.out; omega)
        have h2 : (g + 1) * N ≤ M := by rw [← c2]; exact Int.ediv_mul_le M (by have := HN.out.2.2.1; omega)
        have := HN.out.2.1
        omega
      have F3 : IntKind.u64.wrap (g + 1) = g + 1 := by have := m0.out; rw [IntKind.wrap_u64]; omega
      replace hh64' := hid hh64'
      replace hsu := hid hsu
      clear hc c4 hSB
      obtain ⟨cv, hcv⟩ : ∃ cv, cv = cmp3 R N := ⟨_, rfl⟩
      rw [← hcv] at cp hc0
      clear hcv
      replace c1 := hid c1
      replace c2 := hid c2
      replace c3 := hid c3
      replace hru := hid hru
      replace hh64 := hid hh64
      clear hRB
      have c32_0 := R_m.cell 0
      have c32_1 := R_m.cell 1
      have c33_0 := R_n.cell 0
      have c33_1 := R_n.cell 1
      simp at c32_0 c32_1 c33_0 c33_1
      go_wp2_with fail
      clear c32_0 c32_1 c33_0 c33_1
      refine Calls.mono (mu.out _) ?_; rintro e wk ⟨rfl, rfl⟩
      have c34_0 := R_m.cell 0
      have c34_1 := R_m.cell 1
      have c35_0 := R_n.cell 0
      have c35_1 := R_n.cell 1
      simp at c34_0 c34_1 c35_0 c35_1
      go_wp2_with fail
      clear c34_0 c34_1 c35_0 c35_1
      refine Calls.mono (ls.out _) ?_; rintro e w2 ⟨rfl, hb_w2⟩
      have z_w2 := hb_w2.size
      try simp only [alloc_size, setCell_size] at z_w2
      replace R_m := R_m.mod (Mod.of_below hb_w2 Nil) (fun hf => hf)
      replace R_n := R_n.mod (Mod.of_below hb_w2 Nil) (fun hf => hf)
      replace R_q := R_q.mod (Mod.of_below hb_w2 Nil) (fun hf => hf)
      replace R_r := R_r.mod (Mod.of_below hb_w2 Nil) (fun hf => hf)
      replace HU := HU.trans hb_w2
      clear hb_w2
      have c36_0 := R_r.cell 0
      have c36_1 := R_r.cell 1
      have f36_0 := R_r.frozen 0
      have f36_1 := R_r.frozen 1
      replace R_r := R_r.set 0 (.int .u64 rh)
      try simp only [List.setIfInBounds_toArray, List.set_cons_zero, List.set_cons_succ] at R_r
      replace R_m := R_m.far (p := ⟨w.heap.size + 1 + 1 + 1, 0, none⟩) (by first | (simp; done) | (simp; omega) | omega) (.int .u64 rh)
      replace R_n := R_n.far (p := ⟨w.heap.size + 1 + 1 + 1, 0, none⟩) (by first | (simp; done) | (simp; omega) | omega) (.int .u64 rh)
      replace R_q := R_q.far (p := ⟨w.heap.size + 1 + 1 + 1, 0, none⟩) (by first | (simp; done) | (simp; omega) | omega) (.int .u64 rh)
      replace HU := HU.setCell (p := w.heap.size + 1 + 1 + 1) (i := 0) (by omega) (.int .u64 rh)
      have c37_0 := R_r.cell 0
      have c37_1 := R_r.cell 1
      have f37_0 := R_r.frozen 0
      have f37_1 := R_r.frozen 1
      replace R_r := R_r.set 1 (.int .u64 rl)
      try simp only [List.setIfInBounds_toArray, List.set_cons_zero, List.set_cons_succ] at R_r
      replace R_m := R_m.far (p := ⟨w.heap.size + 1 + 1 + 1, 1, none⟩) (by first | (simp; done) | (simp; omega) | omega) (.int .u64 rl)
      replace R_n := R_n.far (p := ⟨w.heap.size + 1 + 1 + 1, 1, none⟩) (by first | (simp; done) | (simp; omega) | omega) (.int .u64 rl)
      replace R_q := R_q.far (p := ⟨w.heap.size + 1 + 1 + 1, 1, none⟩) (by first | (simp; done) | (simp; omega) | omega) (.int .u64 rl)
      replace HU := HU.setCell (p := w.heap.size + 1 + 1 + 1) (i := 1) (by omega) (.int .u64 rl)
      have c38_0 := R_r.cell 0
      have c38_1 := R_r.cell 1
      have f38_0 := R_r.frozen 0
      have f38_1 := R_r.frozen 1
      have c39_0 := R_n.cell 0
      have c39_1 := R_n.cell 1
      simp at c36_0 c36_1 f36_0 f36_1 c37_0 c37_1 f37_0 f37_1 c38_0 c38_1 f38_0 f38_1 c39_0 c39_1
      go_wp2_with fail
      obtain ⟨V2, h_V2⟩ : ∃ V2, V2 = ((w2).setCell ⟨w.heap.size + 1 + 1 + 1, 0, none⟩ (.int .u64 rh)).setCell ⟨w.heap.size + 1 + 1 + 1, 1, none⟩ (.int .u64 rl) := ⟨_, rfl⟩
      rw [← h_V2]
      rw [← h_V2] at R_m R_n R_q R_r HU
      have z_V2 : V2.heap.size = _ := congrArg (fun a => a.heap.size) h_V2
      try simp only [alloc_size, setCell_size] at z_V2
      clear h_V2
      clear c36_0 c36_1 f36_0 f36_1 c37_0 c37_1 f37_0 f37_1 c38_0 c38_1 f38_0 f38_1 c39_0 c39_1
      refine Calls.mono (cp.out _) ?_; rintro e w3 ⟨rfl, hb_w3⟩
      have z_w3 := hb_w3.size
      try simp only [alloc_size, setCell_size] at z_w3
      replace R_m := R_m.mod (Mod.of_below hb_w3 Nil) (fun hf => hf)
      replace R_n := R_n.mod (Mod.of_below hb_w3 Nil) (fun hf => hf)
      replace R_q := R_q.mod (Mod.of_below hb_w3 Nil) (fun hf => hf)
      replace R_r := R_r.mod (Mod.of_below hb_w3 Nil) (fun hf => hf)
      replace HU := HU.trans hb_w3
      clear hb_w3
      have c40_0 := R_r.cell 0
      have c40_1 := R_r.cell 1
      have c41_0 := R_n.cell 0
      have c41_1 := R_n.cell 1
      simp at c40_0 c40_1 c41_0 c41_1
      go_wp2_with fail
      clear c40_0 c40_1 c41_0 c41_1
      refine Calls.mono (ln.out _) ?_; rintro e w4 ⟨rfl, hb_w4⟩
      have z_w4 := hb_w4.size
      try simp only [alloc_size, setCell_size] at z_w4
      replace R_m := R_m.mod (Mod.of_below hb_w4 Nil) (fun hf => hf)
      replace R_n := R_n.mod (Mod.of_below hb_w4 Nil) (fun hf => hf)
      replace R_q := R_q.mod (Mod.of_below hb_w4 Nil) (fun hf => hf)
      replace R_r := R_r.mod (Mod.of_below hb_w4 Nil) (fun hf => hf)
      replace HU := HU.trans hb_w4
      clear hb_w4
      have c42_0 := R_r.cell 0
      have c42_1 := R_r.cell 1
      have f42_0 := R_r.frozen 0
      have f42_1 := R_r.frozen 1
      replace R_r := R_r.set 0 (.int .u64 sh)
      try simp only [List.setIfInBounds_toArray, List.set_cons_zero, List.set_cons_succ] at R_r
      replace R_m := R_m.far (p := ⟨w.heap.size + 1 + 1 + 1, 0, none⟩) (by first | (simp; done) | (simp; omega) | omega) (.int .u64 sh)
      replace R_n := R_n.far (p := ⟨w.heap.size + 1 + 1 + 1, 0, none⟩) (by first | (simp; done) | (simp; omega) | omega) (.int .u64 sh)
      replace R_q := R_q.far (p := ⟨w.heap.size + 1 + 1 + 1, 0, none⟩) (by first | (simp; done) | (simp; omega) | omega) (.int .u64 sh)
      replace HU := HU.setCell (p := w.heap.size + 1 + 1 + 1) (i := 0) (by omega) (.int .u64 sh)
      have c43_0 := R_r.cell 0
      have c43_1 := R_r.cell 1
      have f43_0 := R_r.frozen 0
      have f43_1 := R_r.frozen 1
      replace R_r := R_r.set 1 (.int .u64 sl)
      try simp only [List.setIfInBounds_toArray, List.set_cons_zero, List.set_cons_succ] at R_r
      replace R_m := R_m.far (p := ⟨w.heap.size + 1 + 1 + 1, 1, none⟩) (by first | (simp; done) | (simp; omega) | omega) (.int .u64 sl)
      replace R_n := R_n.far (p := ⟨w.heap.size + 1 + 1 + 1, 1, none⟩) (by first | (simp; done) | (simp; omega) | omega) (.int .u64 sl)
      replace R_q := R_q.far (p := ⟨w.heap.size + 1 + 1 + 1, 1, none⟩) (by first | (simp; done) | (simp; omega) | omega) (.int .u64 sl)
      replace HU := HU.setCell (p := w.heap.size + 1 + 1 + 1) (i := 1) (by omega) (.int .u64 sl)
      have c44_0 := R_r.cell 0
      have c44_1 := R_r.cell 1
      have f44_0 := R_r.frozen 0
      have f44_1 := R_r.frozen 1
      simp at c42_0 c42_1 f42_0 f42_1 c43_0 c43_1 f43_0 f43_1 c44_0 c44_1 f44_0 f44_1
      go_wp2_with fail
      obtain ⟨V3, h_V3⟩ : ∃ V3, V3 = ((w4).setCell ⟨w.heap.size + 1 + 1 + 1, 0, none⟩ (.int .u64 sh)).setCell ⟨w.heap.size + 1 + 1 + 1, 1, none⟩ (.int .u64 sl) := ⟨_, rfl⟩
      rw [← h_V3]
      rw [← h_V3] at R_m R_n R_q R_r HU
      have z_V3 : V3.heap.size = _ := congrArg (fun a => a.heap.size) h_V3
      try simp only [alloc_size, setCell_size] at z_V3
      clear h_V3
      clear c42_0 c42_1 f42_0 f42_1 c43_0 c43_1 f43_0 f43_1 c44_0 c44_1 f44_0 f44_1
      have hUQ : UV (M / N) = .agg #[.int .u64 0, .int .u64 (g + 1)] := by have := hh64'.out; have := m0.out; have h1 := UV_words (hi := 0) (lo := g + 1) (by omega) (by omega); rw [Int.zero_mul, Int.zero_add] at h1; rw [c2.out, h1]
      have hUR : UV (M % N) = .agg #[.int .u64 sh, .int .u64 sl] := by rw [c3.out, hsu.out]
      replace hUQ := hid hUQ
      replace hUR := hid hUR
      have QA : Row (V3) (w.heap.size + 1 + 1) 79 #[.int .u64 0, .int .u64 0] := R_q
      have SA : Row (V3) (w.heap.size + 1 + 1 + 1) 79 #[.int .u64 sh, .int .u64 sl] := R_r
      obtain ⟨yA0, yA1, yA2⟩ := QA.two (.int .u64 0) (.int .u64 (g + 1))
      have TA := (SA.far (p := ⟨w.heap.size + 1 + 1, 0, none⟩) (by first | (simp; done) | (simp; omega) | omega) (.int .u64 0)).far (p := ⟨w.heap.size + 1 + 1, 1, none⟩) (by first | (simp; done) | (simp; omega) | omega) (.int .u64 (g + 1))
      obtain ⟨zA0, zA1, zA2⟩ := TA.two (.int .u64 sh) (.int .u64 sl)
      have PA := ((((QA.set 0 (.int .u64 0)).set 1 (.int .u64 (g + 1))).far (p := ⟨w.heap.size + 1 + 1 + 1, 0, none⟩) (by first | (simp; done) | (simp; omega) | omega) (.int .u64 sh)).far (p := ⟨w.heap.size + 1 + 1 + 1, 1, none⟩) (by first | (simp; done) | (simp; omega) | omega) (.int .u64 sl))
      have aA0 := QA.cell 0
      have bA0 := SA.cell 0
      have cA0 := TA.cell 0
      have dA0 := PA.cell 0
      have faA0 := QA.frozen 0
      have fbA0 := SA.frozen 0
      have fcA0 := TA.frozen 0
      have aA1 := QA.cell 1
      have bA1 := SA.cell 1
      have cA1 := TA.cell 1
      have dA1 := PA.cell 1
      have faA1 := QA.frozen 1
      have fbA1 := SA.frozen 1
      have fcA1 := TA.frozen 1
      have QB : Row (V3.drew) (w.heap.size + 1 + 1) 79 #[.int .u64 0, .int .u64 0] := R_q.drew
      have SB : Row (V3.drew) (w.heap.size + 1 + 1 + 1) 79 #[.int .u64 sh, .int .u64 sl] := R_r.drew
      obtain ⟨yB0, yB1, yB2⟩ := QB.two (.int .u64 0) (.int .u64 (g + 1))
      have TB := (SB.far (p := ⟨w.heap.size + 1 + 1, 0, none⟩) (by first | (simp; done) | (simp; omega) | omega) (.int .u64 0)).far (p := ⟨w.heap.size + 1 + 1, 1, none⟩) (by first | (simp; done) | (simp; omega) | omega) (.int .u64 (g + 1))
      obtain ⟨zB0, zB1, zB2⟩ := TB.two (.int .u64 sh) (.int .u64 sl)
      have PB := ((((QB.set 0 (.int .u64 0)).set 1 (.int .u64 (g + 1))).far (p := ⟨w.heap.size + 1 + 1 + 1, 0, none⟩) (by first | (simp; done) | (simp; omega) | omega) (.int .u64 sh)).far (p := ⟨w.heap.size + 1 + 1 + 1, 1, none⟩) (by first | (simp; done) | (simp; omega) | omega) (.int .u64 sl))
      have aB0 := QB.cell 0
      have bB0 := SB.cell 0
      have cB0 := TB.cell 0
      have dB0 := PB.cell 0
      have faB0 := QB.frozen 0
      have fbB0 := SB.frozen 0
      have fcB0 := TB.frozen 0
      have aB1 := QB.cell 1
      have bB1 := SB.cell 1
      have cB1 := TB.cell 1
      have dB1 := PB.cell 1
      have faB1 := QB.frozen 1
      have fbB1 := SB.frozen 1
      have fcB1 := TB.frozen 1
      simp at aA0 bA0 cA0 dA0 faA0 fbA0 fcA0 aA1 bA1 cA1 dA1 faA1 fbA1 fcA1 aB0 bB0 cB0 dB0 faB0 fbB0 fcB0 aB1 bB1 cB1 dB1 faB1 fbB1 fcB1
      have HyA0 := hid yA0
      have HyA1 := hid yA1
      have HzA0 := hid zA0
      have HzA1 := hid zA1
      have HyB0 := hid yB0
      have HyB1 := hid yB1
      have HzB0 := hid zB0
      have HzB1 := hid zB1
      have HE := (((HU.setCell (p := w.heap.size + 1 + 1) (i := 0) (by omega) (.int .u64 0)).setCell (p := w.heap.size + 1 + 1) (i := 1) (by omega) (.int .u64 (g + 1))).setCell (p := w.heap.size + 1 + 1 + 1) (i := 0) (by omega) (.int .u64 sh)).setCell (p := w.heap.size + 1 + 1 + 1) (i := 1) (by omega) (.int .u64 sl)
      clear QA SA TA PA QB SB TB PB
      go_region
      all_goals
        go_wp2_with fail
        simp [bodyPost, results, Tryd.results99, go_sem, HyA0.out, HyA1.out, HzA0.out, HzA1.out, hUQ.out, hUR.out]
        first | exact HE.below | exact ⟨HE.below.os, HE.below.tape, HE.below.output, HE.below.size, HE.below.block⟩
end Go.Proofs.YtmamedobphlpkaaDoor

namespace Go.Proofs.YtmamedobphlpkaaDoor
open Go.RowKit

set_option maxHeartbeats 1000000 in
theorem by_any (w : World) (m n : Int) (hm : Big m) (hn : Big n) (h0 : 0 < n) :
    Calls Tryd.prog 91 #[UV m, UV n] w fun e w' => e = .returned (.tuple #[UV (m / n), UV (m % n)]) ∧ Below w.heap.size w w' := by
  obtain ⟨mh, ml, e1, hmw, hmh, hml⟩ := UV_of hm
  obtain ⟨nh, nl, e2, hnw, hnh, hnl⟩ := UV_of hn
  rw [e1, e2]
  by_cases hz : nh = 0
  · subst hz
    rw [Int.zero_mul, Int.zero_add] at hnw
    subst hnw
    have h := by_one w mh ml n hmh hml ⟨h0, hnl.2⟩
    have hd := Int.emod_add_mul_ediv mh n
    have hd0 := Int.emod_nonneg mh (show n ≠ 0 by omega)
    have hd1 := Int.emod_lt_of_pos mh h0
    obtain ⟨a, ha⟩ : ∃ a, a = mh / n := ⟨_, rfl⟩
    obtain ⟨b, hb⟩ : ∃ b, b = mh % n := ⟨_, rfl⟩
    rw [← ha, ← hb] at h
    rw [← ha, ← hb] at hd
    rw [← hb] at hd0 hd1
    have hmb : m = b * 18446744073709551616 + ml + n * a * 18446744073709551616 := by omega
    have hq : m / n = a * 18446744073709551616 + (b * 18446744073709551616 + ml) / n := by
      rw [hmb, Int.mul_assoc, Int.add_mul_ediv_left _ _ (by omega)]
      omega
    have hr : m % n = (b * 18446744073709551616 + ml) % n := by
      rw [hmb, Int.mul_assoc, Int.add_mul_emod_self_left]
    have hk0 : 0 ≤ (b * 18446744073709551616 + ml) / n := Int.ediv_nonneg (by omega) (by omega)
    have hk1 : (b * 18446744073709551616 + ml) / n < 18446744073709551616 := by
      apply Int.ediv_lt_of_lt_mul h0
      omega
    have hr0 := Int.emod_nonneg (b * 18446744073709551616 + ml) (show n ≠ 0 by omega)
    have hr1 := Int.emod_lt_of_pos (b * 18446744073709551616 + ml) h0
    have hu := UV_words (hi := 0) (lo := (b * 18446744073709551616 + ml) % n) hr0 (by omega)
    rw [Int.zero_mul, Int.zero_add] at hu
    rw [hq, hr, UV_words hk0 hk1, hu]
    exact h
  · have hb2 := fun w => by_two_words w mh ml nh nl hmh hml ⟨by omega, hnh.2⟩ hnl
    rw [← hmw, ← hnw] at hb2
    have hpos : 0 < nh := by omega
    obtain ⟨q, hq⟩ : ∃ q, q = m / n := ⟨_, rfl⟩
    obtain ⟨r, hr⟩ : ∃ r, r = m % n := ⟨_, rfl⟩
    rw [← hq, ← hr] at hb2 ⊢
    obtain ⟨qh, hqh⟩ : ∃ qh, qh = q / 18446744073709551616 := ⟨_, rfl⟩
    obtain ⟨ql, hql⟩ : ∃ ql, ql = q % 18446744073709551616 := ⟨_, rfl⟩
    obtain ⟨rh, hrh⟩ : ∃ rh, rh = r / 18446744073709551616 := ⟨_, rfl⟩
    obtain ⟨rl, hrl⟩ : ∃ rl, rl = r % 18446744073709551616 := ⟨_, rfl⟩
    have hUq : UV q = .agg #[.int .u64 qh, .int .u64 ql] := by rw [hqh, hql]; rfl
    have hUr : UV r = .agg #[.int .u64 rh, .int .u64 rl] := by rw [hrh, hrl]; rfl
    rw [hUq, hUr] at hb2 ⊢
    replace hb2 := hid hb2
    clear hUq hUr hqh hql hrh hrl hq hr hmw hnw e1 e2 hm hn hmh hml hnh hnl hz h0
    have R_m := (((Row.new w 79 #[.int .u64 mh, .int .u64 ml]).alloc (.cells #[.int .u64 nh, .int .u64 nl] 79)).alloc (.cells #[.int .u64 0, .int .u64 0] 79)).alloc (.cells #[.int .u64 0, .int .u64 0] 79)
    have R_n := ((Row.new (w.alloc (.cells #[.int .u64 mh, .int .u64 ml] 79)) 79 #[.int .u64 nh, .int .u64 nl]).alloc (.cells #[.int .u64 0, .int .u64 0] 79)).alloc (.cells #[.int .u64 0, .int .u64 0] 79)
    have R_q := (Row.new ((w.alloc (.cells #[.int .u64 mh, .int .u64 ml] 79)).alloc (.cells #[.int .u64 nh, .int .u64 nl] 79)) 79 #[.int .u64 0, .int .u64 0]).alloc (.cells #[.int .u64 0, .int .u64 0] 79)
    have R_r := Row.new (((w.alloc (.cells #[.int .u64 mh, .int .u64 ml] 79)).alloc (.cells #[.int .u64 nh, .int .u64 nl] 79)).alloc (.cells #[.int .u64 0, .int .u64 0] 79)) 79 #[.int .u64 0, .int .u64 0]
    have HU := ((((Up.refl w).alloc (.cells #[.int .u64 mh, .int .u64 ml] 79)).alloc (.cells #[.int .u64 nh, .int .u64 nl] 79)).alloc (.cells #[.int .u64 0, .int .u64 0] 79)).alloc (.cells #[.int .u64 0, .int .u64 0] 79)
    simp only [alloc_size] at R_n R_q R_r
    go_enter Tryd.func91, Tryd.ntmps91
    go_wp2_with fail
    refine Calls.mono (hb2.out _) ?_; rintro e w1 ⟨rfl, hb_w1⟩
    have z_w1 := hb_w1.size
    try simp only [alloc_size, setCell_size] at z_w1
    replace R_m := R_m.mod (Mod.of_below hb_w1 Nil) (fun hf => hf)
    replace R_n := R_n.mod (Mod.of_below hb_w1 Nil) (fun hf => hf)
    replace R_q := R_q.mod (Mod.of_below hb_w1 Nil) (fun hf => hf)
    replace R_r := R_r.mod (Mod.of_below hb_w1 Nil) (fun hf => hf)
    replace HU := HU.trans hb_w1
    clear hb_w1
    have c1_0 := R_q.cell 0
    have c1_1 := R_q.cell 1
    have f1_0 := R_q.frozen 0
    have f1_1 := R_q.frozen 1
    have c2_0 := R_r.cell 0
    have c2_1 := R_r.cell 1
    have f2_0 := R_r.frozen 0
    have f2_1 := R_r.frozen 1
    replace R_q := R_q.set 0 (.int .u64 qh)
    try simp only [List.setIfInBounds_toArray, List.set_cons_zero, List.set_cons_succ] at R_q
    replace R_m := R_m.far (p := ⟨w.heap.size + 1 + 1, 0, none⟩) (by first | (simp; done) | (simp; omega) | omega) (.int .u64 qh)
    replace R_n := R_n.far (p := ⟨w.heap.size + 1 + 1, 0, none⟩) (by first | (simp; done) | (simp; omega) | omega) (.int .u64 qh)
    replace R_r := R_r.far (p := ⟨w.heap.size + 1 + 1, 0, none⟩) (by first | (simp; done) | (simp; omega) | omega) (.int .u64 qh)
    replace HU := HU.setCell (p := w.heap.size + 1 + 1) (i := 0) (by omega) (.int .u64 qh)
    have c3_0 := R_q.cell 0
    have c3_1 := R_q.cell 1
    have f3_0 := R_q.frozen 0
    have f3_1 := R_q.frozen 1
    replace R_q := R_q.set 1 (.int .u64 ql)
    try simp only [List.setIfInBounds_toArray, List.set_cons_zero, List.set_cons_succ] at R_q
    replace R_m := R_m.far (p := ⟨w.heap.size + 1 + 1, 1, none⟩) (by first | (simp; done) | (simp; omega) | omega) (.int .u64 ql)
    replace R_n := R_n.far (p := ⟨w.heap.size + 1 + 1, 1, none⟩) (by first | (simp; done) | (simp; omega) | omega) (.int .u64 ql)
    replace R_r := R_r.far (p := ⟨w.heap.size + 1 + 1, 1, none⟩) (by first | (simp; done) | (simp; omega) | omega) (.int .u64 ql)
    replace HU := HU.setCell (p := w.heap.size + 1 + 1) (i := 1) (by omega) (.int .u64 ql)
    have c4_0 := R_q.cell 0
    have c4_1 := R_q.cell 1
    have f4_0 := R_q.frozen 0
    have f4_1 := R_q.frozen 1
    replace R_r := R_r.set 0 (.int .u64 rh)
    try simp only [List.setIfInBounds_toArray, List.set_cons_zero, List.set_cons_succ] at R_r
    replace R_m := R_m.far (p := ⟨w.heap.size + 1 + 1 + 1, 0, none⟩) (by first | (simp; done) | (simp; omega) | omega) (.int .u64 rh)
    replace R_n := R_n.far (p := ⟨w.heap.size + 1 + 1 + 1, 0, none⟩) (by first | (simp; done) | (simp; omega) | omega) (.int .u64 rh)
    replace R_q := R_q.far (p := ⟨w.heap.size + 1 + 1 + 1, 0, none⟩) (by first | (simp; done) | (simp; omega) | omega) (.int .u64 rh)
    replace HU := HU.setCell (p := w.heap.size + 1 + 1 + 1) (i := 0) (by omega) (.int .u64 rh)
    have c5_0 := R_r.cell 0
    have c5_1 := R_r.cell 1
    have f5_0 := R_r.frozen 0
    have f5_1 := R_r.frozen 1
    replace R_r := R_r.set 1 (.int .u64 rl)
    try simp only [List.setIfInBounds_toArray, List.set_cons_zero, List.set_cons_succ] at R_r
    replace R_m := R_m.far (p := ⟨w.heap.size + 1 + 1 + 1, 1, none⟩) (by first | (simp; done) | (simp; omega) | omega) (.int .u64 rl)
    replace R_n := R_n.far (p := ⟨w.heap.size + 1 + 1 + 1, 1, none⟩) (by first | (simp; done) | (simp; omega) | omega) (.int .u64 rl)
    replace R_q := R_q.far (p := ⟨w.heap.size + 1 + 1 + 1, 1, none⟩) (by first | (simp; done) | (simp; omega) | omega) (.int .u64 rl)
    replace HU := HU.setCell (p := w.heap.size + 1 + 1 + 1) (i := 1) (by omega) (.int .u64 rl)
    have c6_0 := R_r.cell 0
    have c6_1 := R_r.cell 1
    have f6_0 := R_r.frozen 0
    have f6_1 := R_r.frozen 1
    simp at c1_0 c1_1 f1_0 f1_1 c2_0 c2_1 f2_0 f2_1 c3_0 c3_1 f3_0 f3_1 c4_0 c4_1 f4_0 f4_1 c5_0 c5_1 f5_0 f5_1 c6_0 c6_1 f6_0 f6_1
    go_wp2_with fail
    have r1 := run_loadVar_row (P := Tryd.prog) _ (w.heap.size + 1 + 1) 79 79 #[.int .u64 qh, .int .u64 ql] (0, 0) _ R_q Tryd.underlying79 rfl (by kernel_rfl)
    have r2 := run_loadVar_row (P := Tryd.prog) _ (w.heap.size + 1 + 1 + 1) 79 79 #[.int .u64 rh, .int .u64 rl] (0, 0) _ R_r Tryd.underlying79 rfl (by kernel_rfl)
    exact bodyPost_ret (v := .tuple #[.agg #[.int .u64 qh, .int .u64 ql], .agg #[.int .u64 rh, .int .u64 rl]]) (by simp [results, Tryd.results91, asAddr, r1, r2]) rfl ⟨rfl, HU.below⟩
end Go.Proofs.YtmamedobphlpkaaDoor
