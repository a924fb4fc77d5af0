/-
  bits.Div64, of any number that is below its divisor by a word.
-/
import Derived.Test.YtfalllekhcocgaaDoorKnuth
namespace Go.Proofs.YtfalllekhcocgaaDoor
open Go.RowKit

theorem fin_div {N y P K R : Int} (hP : 0 < P) (hy : 0 < y) (h : N * P = K * (y * P) + R) (h0 : 0 ≤ R) (h1 : R < y * P) : K = N / y ∧ R / P = N % y := by
  have e1 : N * P / (y * P) = N / y := Int.mul_ediv_mul_of_pos_left N y hP
  have hYP : 0 < y * P := Int.mul_pos hy hP
  have hK : N * P / (y * P) = K := by
    rw [h, Int.add_comm, Int.add_mul_ediv_right _ _ (by omega), Int.ediv_eq_zero_of_lt h0 h1, Int.zero_add]
  have hK2 : K = N / y := by rw [← e1, hK]
  refine ⟨hK2, ?_⟩
  have h2 : R = (N % y) * P := by
    have h3 := Int.emod_add_mul_ediv N y
    rw [← hK2] at h3
    have h4 : N * P = (N % y) * P + y * K * P := by rw [← Int.add_mul, h3]
    have h5 : y * K * P = K * (y * P) := by rw [Int.mul_comm y K, Int.mul_assoc]
    omega
  rw [h2, Int.mul_ediv_cancel _ (by omega)]

set_option maxHeartbeats 4000000 in
theorem div64_pos (w : World) (hi lo y : Int) (h0 : 0 < hi ∧ hi < y) (hl : 0 ≤ lo ∧ lo < 18446744073709551616) (hy : y < 18446744073709551616) :
    Calls Tryd.prog 51 #[.int .u64 hi, .int .u64 lo, .int .u64 y] w fun e w' =>
      e = .returned (.tuple #[.int .u64 ((hi * 18446744073709551616 + lo) / y), .int .u64 ((hi * 18446744073709551616 + lo) % y)]) ∧ ∃ n, w' = w.drewN n := by
  have LZ := hid (fun w => lz64_any w y ⟨by omega, hy⟩)
  have h1 : ¬ y = 0 := by omega
  have h2 : ¬ y ≤ hi := by omega
  have h3 : ¬ hi = 0 := by omega
  go_enter Tryd.func51, Tryd.ntmps51
  go_wp2_with fail
  refine Calls.mono (LZ.out _) ?_; rintro e wk ⟨s, rfl, rfl, hs, g1, g2⟩
  clear LZ
  obtain ⟨P, hP⟩ : ∃ P : Int, P = ((2 ^ s : Nat) : Int) := ⟨_, rfl⟩
  obtain ⟨Q, hQ⟩ : ∃ Q : Int, Q = ((2 ^ (64 - s) : Nat) : Int) := ⟨_, rfl⟩
  have hpq : P * Q = 18446744073709551616 := by
    rw [hP, hQ, ← Int.natCast_mul, ← Nat.pow_add, show s + (64 - s) = 64 by omega]
    rfl
  have hp : (2 : Int) ^ s = P := by rw [hP, Int.natCast_pow]; rfl
  have hq : (2 : Int) ^ (64 - s) = Q := by rw [hQ, Int.natCast_pow]; rfl
  have hP0 : 0 < P := by rw [hP]; exact Int.ofNat_lt.2 (Nat.two_pow_pos s)
  have hQ0 : 0 < Q := by rw [hQ]; exact Int.ofNat_lt.2 (Nat.two_pow_pos _)
  rw [← hP] at g1 g2
  obtain ⟨Y, hY⟩ : ∃ Y, Y = y * P := ⟨_, rfl⟩
  rw [← hY] at g1 g2
  obtain ⟨a, ha⟩ : ∃ a, a = Y / 4294967296 := ⟨_, rfl⟩
  obtain ⟨b, hb⟩ : ∃ b, b = Y % 4294967296 := ⟨_, rfl⟩
  obtain ⟨H, hH⟩ : ∃ H, H = hi * P := ⟨_, rfl⟩
  obtain ⟨t, ht⟩ : ∃ t, t = lo / Q := ⟨_, rfl⟩
  obtain ⟨U, hU⟩ : ∃ U, U = H + t := ⟨_, rfl⟩
  obtain ⟨V, hV⟩ : ∃ V, V = lo % Q * P := ⟨_, rfl⟩
  obtain ⟨c, hc⟩ : ∃ c, c = V / 4294967296 := ⟨_, rfl⟩
  obtain ⟨d, hd⟩ : ∃ d, d = V % 4294967296 := ⟨_, rfl⟩
  have ht0 : 0 ≤ t ∧ t < P := by
    rw [ht]
    refine ⟨Int.ediv_nonneg hl.1 (by omega), Int.ediv_lt_of_lt_mul hQ0 (by rw [hpq]; exact hl.2)⟩
  have hHY : 0 ≤ H ∧ H + P ≤ Y := by
    rw [hH, hY]
    refine ⟨Int.mul_nonneg (by omega) (by omega), ?_⟩
    have : (hi + 1) * P ≤ y * P := Int.mul_le_mul_of_nonneg_right (by omega) (by omega)
    rw [Int.add_mul, Int.one_mul] at this
    exact this
  have hV0 : 0 ≤ V ∧ V < 18446744073709551616 := by
    rw [hV]
    have m0 := Int.emod_nonneg lo (show Q ≠ 0 by omega)
    have m1 := Int.emod_lt_of_pos lo hQ0
    refine ⟨Int.mul_nonneg m0 (by omega), ?_⟩
    rw [← hpq, Int.mul_comm P Q]
    exact Int.mul_lt_mul_of_pos_right m1 hP0
  have hlo : lo * P = t * 18446744073709551616 + V := by
    have m := Int.emod_add_mul_ediv lo Q
    rw [← ht] at m
    rw [hV, ← hpq, ← Int.mul_assoc, Int.mul_comm t P, Int.mul_assoc, Int.mul_comm P (t * Q), ← Int.add_mul, Int.mul_comm t Q]
    congr 1
    omega
  have hNP : (hi * 18446744073709551616 + lo) * P = (U * 4294967296 + c) * 4294967296 + d := by
    rw [Int.add_mul, hlo, Int.mul_assoc, Int.mul_comm 18446744073709551616 P, ← Int.mul_assoc, ← hH, hU]
    omega
  have hH1 : Halves U c a b := by constructor <;> omega
  have E1 : IntKind.u64.wrap (y * P) = Y := by rw [← hY, IntKind.wrap_u64]; omega
  have E2 : Y / 4294967296 = a := ha.symm
  have E3 : bits .and .u64 Y 4294967295 = b := by rw [nat_and_mask Y (by omega), hb]
  have E4 : IntKind.u64.wrap (hi * P) = H := by rw [← hH, IntKind.wrap_u64]; omega
  have E5 : lo / Q = t := ht.symm
  have E6 : bits .or .u64 H t = U := by
    rw [hU, hH, hP]
    rw [hH, hP] at hHY
    rw [hP] at ht0
    exact nat_or_sum hi t s (by omega) (by omega) ht0.1 ht0.2 (by omega)
  have E7 : IntKind.u64.wrap (lo * P) = V := by rw [hlo, IntKind.wrap_u64]; omega
  have E8 : V / 4294967296 = c := hc.symm
  have E9 : bits .and .u64 V 4294967295 = d := by rw [nat_and_mask V hV0, hd]
  have hYab : Y = a * 4294967296 + b := by omega
  have hd0 : 0 ≤ d ∧ d < 4294967296 := by omega
  have hPy : 0 < y := by omega
  have ha0 : ¬ a = 0 := by omega
  obtain ⟨k, m, r, E10, E11, E12, E13, G1⟩ := hH1.start
  have HM := hid (And.intro hNP (And.intro hY (And.intro hH1 (And.intro hYab (And.intro hd0 (And.intro hP0 (And.intro hPy (And.intro g1 g2))))))))
  replace G1 := hid G1
  clear hNP hY hH1 hYab hd0 hP0 hPy g1 g2 hlo hV0 hHY ht0 hpq hQ0 hP hQ ha hb hH ht hU hV hc hd h0 hl hy

  go_wp2_with fail
  go_loopw [15, 16] (fun q r wr => ∃ qi ri : Int, q = .int .u64 qi ∧ r = .int .u64 ri ∧ Guess U c a b qi ri ∧ w = wr) (fun q _ _ => (intOf q).toNat)
  case atStart => exact ⟨k, r, by go_num, by go_num, G1.out, rfl⟩
  case round =>
    obtain ⟨q, r, rfl, rfl, g, rfl⟩ := hrel
    have hH := HM.out.2.2.1
    have hw1 : IntKind.u64.wrap (r + a) = r + a := by have := g.r0; have := g.r1; have := hH.a0; have := hH.a1; rw [IntKind.wrap_u64]; omega
    by_cases hge : 4294967296 ≤ q
    · skip
      have hw2 : IntKind.u64.wrap (q - 1) = q - 1 := by have := g.q0; have := g.q1; have := g.less hH (Or.inl hge); rw [IntKind.wrap_u64]; omega
      by_cases hbr : 4294967296 ≤ r + a
      · have hq := g.stop hH (Or.inl hge) hbr
        replace hq := hid hq
        replace g := hid g
        replace hH := hid hH
        obtain ⟨x1, x2, x3, U2, F1, F2, F3, F4, fs, f0, f1, f2, f3⟩ := hH.out.rest HM.out.2.2.2.1 hq.out
        have hH2 := hH.out.second HM.out.2.2.2.2.1 f0 (by rw [← HM.out.2.2.2.1]; exact f1)
        obtain ⟨k2, m2, r2, F5, F6, F7, F8, G2⟩ := hH2.start
        have HQ := hid (And.intro fs (And.intro f2 f3))
        replace hH2 := hid hH2
        replace G2 := hid G2
        clear fs f0 f1 f2 f3 hq hH g
        go_wp2_with fail
        go_loopw [18, 16] (fun q r wr => ∃ qi ri : Int, q = .int .u64 qi ∧ r = .int .u64 ri ∧ Guess U2 d a b qi ri ∧ w = wr) (fun q _ _ => (intOf q).toNat)
        case atStart => exact ⟨k2, r2, by go_num, by go_num, G2.out, rfl⟩
        case round =>
          obtain ⟨qi, ri, rfl, rfl, gi, rfl⟩ := hrel
          have hHi := hH2.out
          have hw1 : IntKind.u64.wrap (ri + a) = ri + a := by have := gi.r0; have := gi.r1; have := hHi.a0; have := hHi.a1; rw [IntKind.wrap_u64]; omega
          by_cases hge : 4294967296 ≤ qi
          · skip
            have hw2 : IntKind.u64.wrap (qi - 1) = qi - 1 := by have := gi.q0; have := gi.q1; have := gi.less hHi (Or.inl hge); rw [IntKind.wrap_u64]; omega
            by_cases hbr : 4294967296 ≤ ri + a
            · have hqi := gi.stop hHi (Or.inl hge) hbr
              replace hqi := hid hqi
              replace gi := hid gi
              replace hHi := hid hHi
              obtain ⟨y1, T1, T2⟩ := wrap_pair HQ.out.2.1 HQ.out.2.2 (q := (q - 1))  (k := (qi - 1)) (by rw [hqi.out]; exact Int.ediv_nonneg (by have := hHi.out.u0; have := hHi.out.c0; omega) (by have := hHi.out.pos; omega)) (by rw [hqi.out]; exact hHi.out.most)
              obtain ⟨x4, x5, x6, R2, T3, T4, T5, T6, fs, f0, f1, _, _⟩ := hHi.out.rest HM.out.2.2.2.1 hqi.out
              have hfin := fin_div (N := hi * 18446744073709551616 + lo) (y := y) (P := P) (K := (q - 1) * 4294967296 + (qi - 1)) (R := R2) HM.out.2.2.2.2.2.1 HM.out.2.2.2.2.2.2.1 (by
                rw [HM.out.1, ← HM.out.2.1, HQ.out.1, Int.add_mul ((q - 1) * 4294967296), Int.mul_assoc, Int.mul_comm 4294967296 Y, ← Int.mul_assoc]
                omega) f0 (by rw [← HM.out.2.1]; exact f1)
              replace hfin := hid hfin
              clear fs f0 f1
              go_wp2_with fail
              go_ret2
              rw [← hfin.out.1, ← hfin.out.2]
              exact ⟨rfl, 0, rfl⟩
            · have gn := gi.next hHi (Or.inl hge) (by omega)
              have hql := gi.less hHi (Or.inl hge)
              replace hql := hid hql
              replace gn := hid gn
              replace gi := hid gi
              replace hHi := hid hHi
              go_wp2_with fail
              go_roundw
              case rel => exact ⟨qi - 1, ri + a, by go_num, by go_num, gn.out, by trivial⟩
              case measure => have := hql.out; simp [intOf]; omega
          · have hw3 : IntKind.u64.wrap (qi * b) = qi * b := by have := mul_lt_half gi.q0 (by omega) hHi.b0 hHi.b1; rw [IntKind.wrap_u64]; omega
            have hw4 : IntKind.u64.wrap (4294967296 * ri) = 4294967296 * ri := by have := gi.r0; have := gi.r1; rw [IntKind.wrap_u64]; omega
            have hw5 : IntKind.u64.wrap (4294967296 * ri + d) = 4294967296 * ri + d := by have := gi.r0; have := gi.r1; have := hHi.c0; have := hHi.c1; rw [IntKind.wrap_u64]; omega
            by_cases hgt : 4294967296 * ri + d < qi * b
            · skip
              have hw2 : IntKind.u64.wrap (qi - 1) = qi - 1 := by have := gi.q0; have := gi.q1; have := gi.less hHi (Or.inr hgt); rw [IntKind.wrap_u64]; omega
              by_cases hbr : 4294967296 ≤ ri + a
              · have hqi := gi.stop hHi (Or.inr hgt) hbr
                replace hqi := hid hqi
                replace gi := hid gi
                replace hHi := hid hHi
                obtain ⟨y1, T1, T2⟩ := wrap_pair HQ.out.2.1 HQ.out.2.2 (q := (q - 1))  (k := (qi - 1)) (by rw [hqi.out]; exact Int.ediv_nonneg (by have := hHi.out.u0; have := hHi.out.c0; omega) (by have := hHi.out.pos; omega)) (by rw [hqi.out]; exact hHi.out.most)
                obtain ⟨x4, x5, x6, R2, T3, T4, T5, T6, fs, f0, f1, _, _⟩ := hHi.out.rest HM.out.2.2.2.1 hqi.out
                have hfin := fin_div (N := hi * 18446744073709551616 + lo) (y := y) (P := P) (K := (q - 1) * 4294967296 + (qi - 1)) (R := R2) HM.out.2.2.2.2.2.1 HM.out.2.2.2.2.2.2.1 (by
                  rw [HM.out.1, ← HM.out.2.1, HQ.out.1, Int.add_mul ((q - 1) * 4294967296), Int.mul_assoc, Int.mul_comm 4294967296 Y, ← Int.mul_assoc]
                  omega) f0 (by rw [← HM.out.2.1]; exact f1)
                replace hfin := hid hfin
                clear fs f0 f1
                go_wp2_with fail
                go_ret2
                rw [← hfin.out.1, ← hfin.out.2]
                exact ⟨rfl, 0, rfl⟩
              · have gn := gi.next hHi (Or.inr hgt) (by omega)
                have hql := gi.less hHi (Or.inr hgt)
                replace hql := hid hql
                replace gn := hid gn
                replace gi := hid gi
                replace hHi := hid hHi
                go_wp2_with fail
                go_roundw
                case rel => exact ⟨qi - 1, ri + a, by go_num, by go_num, gn.out, by trivial⟩
                case measure => have := hql.out; simp [intOf]; omega
            · have hqi := gi.done hHi (by omega)
              replace hqi := hid hqi
              replace gi := hid gi
              replace hHi := hid hHi
              obtain ⟨y1, T1, T2⟩ := wrap_pair HQ.out.2.1 HQ.out.2.2 (q := (q - 1))  (k := qi) (by rw [hqi.out]; exact Int.ediv_nonneg (by have := hHi.out.u0; have := hHi.out.c0; omega) (by have := hHi.out.pos; omega)) (by rw [hqi.out]; exact hHi.out.most)
              obtain ⟨x4, x5, x6, R2, T3, T4, T5, T6, fs, f0, f1, _, _⟩ := hHi.out.rest HM.out.2.2.2.1 hqi.out
              have hfin := fin_div (N := hi * 18446744073709551616 + lo) (y := y) (P := P) (K := (q - 1) * 4294967296 + qi) (R := R2) HM.out.2.2.2.2.2.1 HM.out.2.2.2.2.2.2.1 (by
                rw [HM.out.1, ← HM.out.2.1, HQ.out.1, Int.add_mul ((q - 1) * 4294967296), Int.mul_assoc, Int.mul_comm 4294967296 Y, ← Int.mul_assoc]
                omega) f0 (by rw [← HM.out.2.1]; exact f1)
              replace hfin := hid hfin
              clear fs f0 f1
              go_wp2_with fail
              go_ret2
              rw [← hfin.out.1, ← hfin.out.2]
              exact ⟨rfl, 0, rfl⟩
      · have gn := g.next hH (Or.inl hge) (by omega)
        have hql := g.less hH (Or.inl hge)
        replace hql := hid hql
        replace gn := hid gn
        replace g := hid g
        replace hH := hid hH
        go_wp2_with fail
        go_roundw
        case rel => exact ⟨q - 1, r + a, by go_num, by go_num, gn.out, by trivial⟩
        case measure => have := hql.out; simp [intOf]; omega
    · have hw3 : IntKind.u64.wrap (q * b) = q * b := by have := mul_lt_half g.q0 (by omega) hH.b0 hH.b1; rw [IntKind.wrap_u64]; omega
      have hw4 : IntKind.u64.wrap (4294967296 * r) = 4294967296 * r := by have := g.r0; have := g.r1; rw [IntKind.wrap_u64]; omega
      have hw5 : IntKind.u64.wrap (4294967296 * r + c) = 4294967296 * r + c := by have := g.r0; have := g.r1; have := hH.c0; have := hH.c1; rw [IntKind.wrap_u64]; omega
      by_cases hgt : 4294967296 * r + c < q * b
      · skip
        have hw2 : IntKind.u64.wrap (q - 1) = q - 1 := by have := g.q0; have := g.q1; have := g.less hH (Or.inr hgt); rw [IntKind.wrap_u64]; omega
        by_cases hbr : 4294967296 ≤ r + a
        · have hq := g.stop hH (Or.inr hgt) hbr
          replace hq := hid hq
          replace g := hid g
          replace hH := hid hH
          obtain ⟨x1, x2, x3, U2, F1, F2, F3, F4, fs, f0, f1, f2, f3⟩ := hH.out.rest HM.out.2.2.2.1 hq.out
          have hH2 := hH.out.second HM.out.2.2.2.2.1 f0 (by rw [← HM.out.2.2.2.1]; exact f1)
          obtain ⟨k2, m2, r2, F5, F6, F7, F8, G2⟩ := hH2.start
          have HQ := hid (And.intro fs (And.intro f2 f3))
          replace hH2 := hid hH2
          replace G2 := hid G2
          clear fs f0 f1 f2 f3 hq hH g
          go_wp2_with fail
          go_loopw [18, 16] (fun q r wr => ∃ qi ri : Int, q = .int .u64 qi ∧ r = .int .u64 ri ∧ Guess U2 d a b qi ri ∧ w = wr) (fun q _ _ => (intOf q).toNat)
          case atStart => exact ⟨k2, r2, by go_num, by go_num, G2.out, rfl⟩
          case round =>
            obtain ⟨qi, ri, rfl, rfl, gi, rfl⟩ := hrel
            have hHi := hH2.out
            have hw1 : IntKind.u64.wrap (ri + a) = ri + a := by have := gi.r0; have := gi.r1; have := hHi.a0; have := hHi.a1; rw [IntKind.wrap_u64]; omega
            by_cases hge : 4294967296 ≤ qi
            · skip
              have hw2 : IntKind.u64.wrap (qi - 1) = qi - 1 := by have := gi.q0; have := gi.q1; have := gi.less hHi (Or.inl hge); rw [IntKind.wrap_u64]; omega
              by_cases hbr : 4294967296 ≤ ri + a
              · have hqi := gi.stop hHi (Or.inl hge) hbr
                replace hqi := hid hqi
                replace gi := hid gi
                replace hHi := hid hHi
                obtain ⟨y1, T1, T2⟩ := wrap_pair HQ.out.2.1 HQ.out.2.2 (q := (q - 1))  (k := (qi - 1)) (by rw [hqi.out]; exact Int.ediv_nonneg (by have := hHi.out.u0; have := hHi.out.c0; omega) (by have := hHi.out.pos; omega)) (by rw [hqi.out]; exact hHi.out.most)
                obtain ⟨x4, x5, x6, R2, T3, T4, T5, T6, fs, f0, f1, _, _⟩ := hHi.out.rest HM.out.2.2.2.1 hqi.out
                have hfin := fin_div (N := hi * 18446744073709551616 + lo) (y := y) (P := P) (K := (q - 1) * 4294967296 + (qi - 1)) (R := R2) HM.out.2.2.2.2.2.1 HM.out.2.2.2.2.2.2.1 (by
                  rw [HM.out.1, ← HM.out.2.1, HQ.out.1, Int.add_mul ((q - 1) * 4294967296), Int.mul_assoc, Int.mul_comm 4294967296 Y, ← Int.mul_assoc]
                  omega) f0 (by rw [← HM.out.2.1]; exact f1)
                replace hfin := hid hfin
                clear fs f0 f1
                go_wp2_with fail
                go_ret2
                rw [← hfin.out.1, ← hfin.out.2]
                exact ⟨rfl, 0, rfl⟩
              · have gn := gi.next hHi (Or.inl hge) (by omega)
                have hql := gi.less hHi (Or.inl hge)
                replace hql := hid hql
                replace gn := hid gn
                replace gi := hid gi
                replace hHi := hid hHi
                go_wp2_with fail
                go_roundw
                case rel => exact ⟨qi - 1, ri + a, by go_num, by go_num, gn.out, by trivial⟩
                case measure => have := hql.out; simp [intOf]; omega
            · have hw3 : IntKind.u64.wrap (qi * b) = qi * b := by have := mul_lt_half gi.q0 (by omega) hHi.b0 hHi.b1; rw [IntKind.wrap_u64]; omega
              have hw4 : IntKind.u64.wrap (4294967296 * ri) = 4294967296 * ri := by have := gi.r0; have := gi.r1; rw [IntKind.wrap_u64]; omega
              have hw5 : IntKind.u64.wrap (4294967296 * ri + d) = 4294967296 * ri + d := by have := gi.r0; have := gi.r1; have := hHi.c0; have := hHi.c1; rw [IntKind.wrap_u64]; omega
              by_cases hgt : 4294967296 * ri + d < qi * b
              · skip
                have hw2 : IntKind.u64.wrap (qi - 1) = qi - 1 := by have := gi.q0; have := gi.q1; have := gi.less hHi (Or.inr hgt); rw [IntKind.wrap_u64]; omega
                by_cases hbr : 4294967296 ≤ ri + a
                · have hqi := gi.stop hHi (Or.inr hgt) hbr
                  replace hqi := hid hqi
                  replace gi := hid gi
                  replace hHi := hid hHi
                  obtain ⟨y1, T1, T2⟩ := wrap_pair HQ.out.2.1 HQ.out.2.2 (q := (q - 1))  (k := (qi - 1)) (by rw [hqi.out]; exact Int.ediv_nonneg (by have := hHi.out.u0; have := hHi.out.c0; omega) (by have := hHi.out.pos; omega)) (by rw [hqi.out]; exact hHi.out.most)
                  obtain ⟨x4, x5, x6, R2, T3, T4, T5, T6, fs, f0, f1, _, _⟩ := hHi.out.rest HM.out.2.2.2.1 hqi.out
                  have hfin := fin_div (N := hi * 18446744073709551616 + lo) (y := y) (P := P) (K := (q - 1) * 4294967296 + (qi - 1)) (R := R2) HM.out.2.2.2.2.2.1 HM.out.2.2.2.2.2.2.1 (by
                    rw [HM.out.1, ← HM.out.2.1, HQ.out.1, Int.add_mul ((q - 1) * 4294967296), Int.mul_assoc, Int.mul_comm 4294967296 Y, ← Int.mul_assoc]
                    omega) f0 (by rw [← HM.out.2.1]; exact f1)
                  replace hfin := hid hfin
                  clear fs f0 f1
                  go_wp2_with fail
                  go_ret2
                  rw [← hfin.out.1, ← hfin.out.2]
                  exact ⟨rfl, 0, rfl⟩
                · have gn := gi.next hHi (Or.inr hgt) (by omega)
                  have hql := gi.less hHi (Or.inr hgt)
                  replace hql := hid hql
                  replace gn := hid gn
                  replace gi := hid gi
                  replace hHi := hid hHi
                  go_wp2_with fail
                  go_roundw
                  case rel => exact ⟨qi - 1, ri + a, by go_num, by go_num, gn.out, by trivial⟩
                  case measure => have := hql.out; simp [intOf]; omega
              · have hqi := gi.done hHi (by omega)
                replace hqi := hid hqi
                replace gi := hid gi
                replace hHi := hid hHi
                obtain ⟨y1, T1, T2⟩ := wrap_pair HQ.out.2.1 HQ.out.2.2 (q := (q - 1))  (k := qi) (by rw [hqi.out]; exact Int.ediv_nonneg (by have := hHi.out.u0; have := hHi.out.c0; omega) (by have := hHi.out.pos; omega)) (by rw [hqi.out]; exact hHi.out.most)
                obtain ⟨x4, x5, x6, R2, T3, T4, T5, T6, fs, f0, f1, _, _⟩ := hHi.out.rest HM.out.2.2.2.1 hqi.out
                have hfin := fin_div (N := hi * 18446744073709551616 + lo) (y := y) (P := P) (K := (q - 1) * 4294967296 + qi) (R := R2) HM.out.2.2.2.2.2.1 HM.out.2.2.2.2.2.2.1 (by
                  rw [HM.out.1, ← HM.out.2.1, HQ.out.1, Int.add_mul ((q - 1) * 4294967296), Int.mul_assoc, Int.mul_comm 4294967296 Y, ← Int.mul_assoc]
                  omega) f0 (by rw [← HM.out.2.1]; exact f1)
                replace hfin := hid hfin
                clear fs f0 f1
                go_wp2_with fail
                go_ret2
                rw [← hfin.out.1, ← hfin.out.2]
                exact ⟨rfl, 0, rfl⟩
        · have gn := g.next hH (Or.inr hgt) (by omega)
          have hql := g.less hH (Or.inr hgt)
          replace hql := hid hql
          replace gn := hid gn
          replace g := hid g
          replace hH := hid hH
          go_wp2_with fail
          go_roundw
          case rel => exact ⟨q - 1, r + a, by go_num, by go_num, gn.out, by trivial⟩
          case measure => have := hql.out; simp [intOf]; omega
      · have hq := g.done hH (by omega)
        replace hq := hid hq
        replace g := hid g
        replace hH := hid hH
        obtain ⟨x1, x2, x3, U2, F1, F2, F3, F4, fs, f0, f1, f2, f3⟩ := hH.out.rest HM.out.2.2.2.1 hq.out
        have hH2 := hH.out.second HM.out.2.2.2.2.1 f0 (by rw [← HM.out.2.2.2.1]; exact f1)
        obtain ⟨k2, m2, r2, F5, F6, F7, F8, G2⟩ := hH2.start
        have HQ := hid (And.intro fs (And.intro f2 f3))
        replace hH2 := hid hH2
        replace G2 := hid G2
        clear fs f0 f1 f2 f3 hq hH g
        go_wp2_with fail
        go_loopw [18, 16] (fun q r wr => ∃ qi ri : Int, q = .int .u64 qi ∧ r = .int .u64 ri ∧ Guess U2 d a b qi ri ∧ w = wr) (fun q _ _ => (intOf q).toNat)
        case atStart => exact ⟨k2, r2, by go_num, by go_num, G2.out, rfl⟩
        case round =>
          obtain ⟨qi, ri, rfl, rfl, gi, rfl⟩ := hrel
          have hHi := hH2.out
          have hw1 : IntKind.u64.wrap (ri + a) = ri + a := by have := gi.r0; have := gi.r1; have := hHi.a0; have := hHi.a1; rw [IntKind.wrap_u64]; omega
          by_cases hge : 4294967296 ≤ qi
          · skip
            have hw2 : IntKind.u64.wrap (qi - 1) = qi - 1 := by have := gi.q0; have := gi.q1; have := gi.less hHi (Or.inl hge); rw [IntKind.wrap_u64]; omega
            by_cases hbr : 4294967296 ≤ ri + a
            · have hqi := gi.stop hHi (Or.inl hge) hbr
              replace hqi := hid hqi
              replace gi := hid gi
              replace hHi := hid hHi
              obtain ⟨y1, T1, T2⟩ := wrap_pair HQ.out.2.1 HQ.out.2.2 (q := q)  (k := (qi - 1)) (by rw [hqi.out]; exact Int.ediv_nonneg (by have := hHi.out.u0; have := hHi.out.c0; omega) (by have := hHi.out.pos; omega)) (by rw [hqi.out]; exact hHi.out.most)
              obtain ⟨x4, x5, x6, R2, T3, T4, T5, T6, fs, f0, f1, _, _⟩ := hHi.out.rest HM.out.2.2.2.1 hqi.out
              have hfin := fin_div (N := hi * 18446744073709551616 + lo) (y := y) (P := P) (K := q * 4294967296 + (qi - 1)) (R := R2) HM.out.2.2.2.2.2.1 HM.out.2.2.2.2.2.2.1 (by
                rw [HM.out.1, ← HM.out.2.1, HQ.out.1, Int.add_mul (q * 4294967296), Int.mul_assoc, Int.mul_comm 4294967296 Y, ← Int.mul_assoc]
                omega) f0 (by rw [← HM.out.2.1]; exact f1)
              replace hfin := hid hfin
              clear fs f0 f1
              go_wp2_with fail
              go_ret2
              rw [← hfin.out.1, ← hfin.out.2]
              exact ⟨rfl, 0, rfl⟩
            · have gn := gi.next hHi (Or.inl hge) (by omega)
              have hql := gi.less hHi (Or.inl hge)
              replace hql := hid hql
              replace gn := hid gn
              replace gi := hid gi
              replace hHi := hid hHi
              go_wp2_with fail
              go_roundw
              case rel => exact ⟨qi - 1, ri + a, by go_num, by go_num, gn.out, by trivial⟩
              case measure => have := hql.out; simp [intOf]; omega
          · have hw3 : IntKind.u64.wrap (qi * b) = qi * b := by have := mul_lt_half gi.q0 (by omega) hHi.b0 hHi.b1; rw [IntKind.wrap_u64]; omega
            have hw4 : IntKind.u64.wrap (4294967296 * ri) = 4294967296 * ri := by have := gi.r0; have := gi.r1; rw [IntKind.wrap_u64]; omega
            have hw5 : IntKind.u64.wrap (4294967296 * ri + d) = 4294967296 * ri + d := by have := gi.r0; have := gi.r1; have := hHi.c0; have := hHi.c1; rw [IntKind.wrap_u64]; omega
            by_cases hgt : 4294967296 * ri + d < qi * b
            · skip
              have hw2 : IntKind.u64.wrap (qi - 1) = qi - 1 := by have := gi.q0; have := gi.q1; have := gi.less hHi (Or.inr hgt); rw [IntKind.wrap_u64]; omega
              by_cases hbr : 4294967296 ≤ ri + a
              · have hqi := gi.stop hHi (Or.inr hgt) hbr
                replace hqi := hid hqi
                replace gi := hid gi
                replace hHi := hid hHi
                obtain ⟨y1, T1, T2⟩ := wrap_pair HQ.out.2.1 HQ.out.2.2 (q := q)  (k := (qi - 1)) (by rw [hqi.out]; exact Int.ediv_nonneg (by have := hHi.out.u0; have := hHi.out.c0; omega) (by have := hHi.out.pos; omega)) (by rw [hqi.out]; exact hHi.out.most)
                obtain ⟨x4, x5, x6, R2, T3, T4, T5, T6, fs, f0, f1, _, _⟩ := hHi.out.rest HM.out.2.2.2.1 hqi.out
                have hfin := fin_div (N := hi * 18446744073709551616 + lo) (y := y) (P := P) (K := q * 4294967296 + (qi - 1)) (R := R2) HM.out.2.2.2.2.2.1 HM.out.2.2.2.2.2.2.1 (by
                  rw [HM.out.1, ← HM.out.2.1, HQ.out.1, Int.add_mul (q * 4294967296), Int.mul_assoc, Int.mul_comm 4294967296 Y, ← Int.mul_assoc]
                  omega) f0 (by rw [← HM.out.2.1]; exact f1)
                replace hfin := hid hfin
                clear fs f0 f1
                go_wp2_with fail
                go_ret2
                rw [← hfin.out.1, ← hfin.out.2]
                exact ⟨rfl, 0, rfl⟩
              · have gn := gi.next hHi (Or.inr hgt) (by omega)
                have hql := gi.less hHi (Or.inr hgt)
                replace hql := hid hql
                replace gn := hid gn
                replace gi := hid gi
                replace hHi := hid hHi
                go_wp2_with fail
                go_roundw
                case rel => exact ⟨qi - 1, ri + a, by go_num, by go_num, gn.out, by trivial⟩
                case measure => have := hql.out; simp [intOf]; omega
            · have hqi := gi.done hHi (by omega)
              replace hqi := hid hqi
              replace gi := hid gi
              replace hHi := hid hHi
              obtain ⟨y1, T1, T2⟩ := wrap_pair HQ.out.2.1 HQ.out.2.2 (q := q)  (k := qi) (by rw [hqi.out]; exact Int.ediv_nonneg (by have := hHi.out.u0; have := hHi.out.c0; omega) (by have := hHi.out.pos; omega)) (by rw [hqi.out]; exact hHi.out.most)
              obtain ⟨x4, x5, x6, R2, T3, T4, T5, T6, fs, f0, f1, _, _⟩ := hHi.out.rest HM.out.2.2.2.1 hqi.out
              have hfin := fin_div (N := hi * 18446744073709551616 + lo) (y := y) (P := P) (K := q * 4294967296 + qi) (R := R2) HM.out.2.2.2.2.2.1 HM.out.2.2.2.2.2.2.1 (by
                rw [HM.out.1, ← HM.out.2.1, HQ.out.1, Int.add_mul (q * 4294967296), Int.mul_assoc, Int.mul_comm 4294967296 Y, ← Int.mul_assoc]
                omega) f0 (by rw [← HM.out.2.1]; exact f1)
              replace hfin := hid hfin
              clear fs f0 f1
              go_wp2_with fail
              go_ret2
              rw [← hfin.out.1, ← hfin.out.2]
              exact ⟨rfl, 0, rfl⟩
end Go.Proofs.YtfalllekhcocgaaDoor
