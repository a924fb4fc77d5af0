/-
  Words by a power of ten, rounded half-even.
-/
import Derived.Test.YtfalllekhcocgaaDoorAddW
import Derived.Test.YtfalllekhcocgaaDoorBigs
namespace Go.Proofs.YtfalllekhcocgaaDoor
open Go.RowKit

/-- a number doubled, in two words -/
theorem doubled {h l : Int} (hh : 0 ≤ h ∧ h < 9223372036854775808) (hl : 0 ≤ l ∧ l < 18446744073709551616) :
    bits .or .u64 (IntKind.u64.wrap (h * 2)) (l / 9223372036854775808) = h * 2 + l / 9223372036854775808 ∧ IntKind.u64.wrap (l * 2) = l * 2 - l / 9223372036854775808 * 18446744073709551616 := by
  refine ⟨?_, by rw [IntKind.wrap_u64]; omega⟩
  have e1 : IntKind.u64.wrap (h * 2) = h * 2 := by rw [IntKind.wrap_u64]; omega
  rw [e1]
  obtain ⟨h, rfl⟩ := Int.eq_ofNat_of_zero_le hh.1
  obtain ⟨b, hb⟩ : ∃ b : Nat, l / 9223372036854775808 = (b : Int) := ⟨(l / 9223372036854775808).toNat, by omega⟩
  have hb1 : b < 2 := by omega
  rw [hb]
  have e : h * 2 ||| b = h * 2 + b := by
    have := Nat.two_pow_add_eq_or_of_lt (i := 1) (b := b) (by omega) h
    rw [Nat.pow_one, Nat.mul_comm] at this
    exact this.symm
  show IntKind.u64.wrap ((BitVec.ofInt 64 ((h : Int) * 2) ||| BitVec.ofInt 64 (b : Int)).toNat : Int) = _
  rw [show ((h : Int) * 2) = ((h * 2 : Nat) : Int) by omega, BitVec.toNat_or, BitVec.ofInt_natCast, BitVec.ofInt_natCast, BitVec.toNat_ofNat, BitVec.toNat_ofNat, Nat.mod_eq_of_lt (by omega), Nat.mod_eq_of_lt (by omega), e, IntKind.wrap_u64]
  omega
theorem low_bit {l : Int} (hl : 0 ≤ l ∧ l < 18446744073709551616) : bits .and .u64 l 1 = l % 2 := by
  obtain ⟨l, rfl⟩ := Int.eq_ofNat_of_zero_le hl.1
  show IntKind.u64.wrap ((BitVec.ofInt 64 (l : Int) &&& BitVec.ofInt 64 1).toNat : Int) = _
  rw [show (1 : Int) = ((1 : Nat) : Int) from rfl, BitVec.toNat_and, BitVec.ofInt_natCast, BitVec.ofInt_natCast, BitVec.toNat_ofNat, BitVec.toNat_ofNat, Nat.mod_eq_of_lt (by omega), Nat.mod_eq_of_lt (by decide), Nat.and_one_is_mod, IntKind.wrap_u64]
  omega
/-- two cuts are one -/
theorem two_cuts {N f s n1 r n2 t : Int} (hf : 0 < f) (hr : 0 ≤ r ∧ r < f) (ht : 0 ≤ t ∧ t < s) (h1 : f * n1 + r = N) (h2 : s * n2 + t = n1) :
    N / (f * s) = n2 ∧ N % (f * s) = t * f + r ∧ 0 ≤ t * f + r ∧ t * f + r < f * s := by
  have hs : 0 < s := by omega
  have hfs : 0 < f * s := Int.mul_pos hf hs
  have h3 : t * f + r < f * s := by
    have := Int.mul_le_mul_of_nonneg_right (show t + 1 ≤ s by omega) (show 0 ≤ f by omega)
    rw [Int.add_mul, Int.one_mul, Int.mul_comm s] at this
    omega
  have h4 : 0 ≤ t * f := Int.mul_nonneg ht.1 (by omega)
  have h5 : N = (t * f + r) + f * s * n2 := by
    rw [← h1, ← h2, Int.mul_add, Int.mul_assoc, Int.mul_comm f t]
    omega
  refine ⟨?_, ?_, by omega, h3⟩
  · rw [h5, Int.add_mul_ediv_left _ _ (by omega), Int.ediv_eq_zero_of_lt (by omega) h3]
    omega
  · rw [h5, Int.add_mul_emod_self_left, Int.emod_eq_of_lt (by omega) h3]
/-- half-even, of integers -/
def hE (N d : Int) : Int := if d < 2 * (N % d) ∨ (2 * (N % d) = d ∧ N / d % 2 = 1) then N / d + 1 else N / d
theorem hE_nat (n d : Nat) : hE (n : Int) (d : Int) = (halfEven n d : Int) := by
  unfold hE halfEven
  rw [← Int.natCast_ediv, ← Int.natCast_emod]
  by_cases h : d < 2 * (n % d) ∨ 2 * (n % d) = d ∧ n / d % 2 = 1
  · rw [if_pos h, if_pos (by omega)]; omega
  · rw [if_neg h, if_neg (by omega)]

set_option maxRecDepth 100000 in
set_option maxHeartbeats 4000000 in
theorem scale_lo (w : World) (g : Nat) (a b c e : Int) (k : Nat) (hk : k ≤ 18) (ha : 0 ≤ a ∧ a < 18446744073709551616) (hb : 0 ≤ b ∧ b < 18446744073709551616) (hc : 0 ≤ c ∧ c < 18446744073709551616) (he : 0 ≤ e ∧ e < 18446744073709551616) (hR : Row w g 49 #[.int .u64 a, .int .u64 b, .int .u64 c, .int .u64 e]) :
    Calls Tryd.prog 44 #[.pointer (some ⟨g, 0, none⟩), .int .i64 (k : Int)] w fun x w' =>
      x = .returned (.tuple #[]) ∧ (∃ s0 s1 s2 s3 : Int, Row w' g 49 #[.int .u64 s0, .int .u64 s1, .int .u64 s2, .int .u64 s3] ∧ (0 ≤ s0 ∧ s0 < 18446744073709551616) ∧ (0 ≤ s1 ∧ s1 < 18446744073709551616) ∧ (0 ≤ s2 ∧ s2 < 18446744073709551616) ∧ (0 ≤ s3 ∧ s3 < 18446744073709551616) ∧ s0 + s1 * 18446744073709551616 + s2 * 340282366920938463463374607431768211456 + s3 * 6277101735386680763835789423207666416102355444464034512896 = hE (a + b * 18446744073709551616 + c * 340282366920938463463374607431768211456 + e * 6277101735386680763835789423207666416102355444464034512896) ((10 ^ k : Nat) : Int)) ∧ Mod (One g) w w' := by
  have T1 := fun w => ten_any w k (by omega)
  have T0 := fun w => ten_any w 0 (by omega)
  have f1 : (0 : Int) < ((10 ^ k : Nat) : Int) := by have := Nat.pow_pos (n := k) (show 0 < 10 by decide); omega
  have f2 : ((10 ^ k : Nat) : Int) ≤ 1000000000000000000 := by have := Nat.pow_le_pow_right (show 0 < 10 by decide) (show k ≤ 18 by omega); omega
  have s1 : (0 : Int) < ((10 ^ 0 : Nat) : Int) := by have := Nat.pow_pos (n := 0) (show 0 < 10 by decide); omega
  have s2 : ((10 ^ 0 : Nat) : Int) ≤ 1000000000000000000 := by have := Nat.pow_le_pow_right (show 0 < 10 by decide) (show 0 ≤ 18 by omega); omega
  obtain ⟨d, hd⟩ : ∃ d, d = ((10 ^ k : Nat) : Int) := ⟨_, rfl⟩
  rw [← hd]
  have hfs : d = ((10 ^ k : Nat) : Int) * ((10 ^ 0 : Nat) : Int) := by
    rw [hd, ← Int.natCast_mul, ← Nat.pow_add]
    have hij : k + 0 = k := by omega
    rw [hij]
  clear hd
  obtain ⟨f, hf⟩ : ∃ f, f = ((10 ^ k : Nat) : Int) := ⟨_, rfl⟩
  obtain ⟨s, hs⟩ : ∃ s, s = ((10 ^ 0 : Nat) : Int) := ⟨_, rfl⟩
  rw [← hf] at T1 f1 f2 hfs
  rw [← hs] at T0 s1 s2 hfs
  obtain ⟨N, hN⟩ : ∃ N, N = a + b * 18446744073709551616 + c * 340282366920938463463374607431768211456 + e * 6277101735386680763835789423207666416102355444464034512896 := ⟨_, rfl⟩
  rw [← hN]
  have hN4 : 0 ≤ N ∧ N < 115792089237316195423570985008687907853269984665640564039457584007913129639936 := by omega
  have C1 := fun w h => cut_words w g a b c e f ha hb hc he ⟨f1, by omega⟩ h
  rw [← hN] at C1
  have w1 : IntKind.i64.wrap ((k : Int) - (k : Int)) = 0 := by rw [IntKind.wrap_i64]; omega
  have w2 : (k : Int) ≤ 18 := by omega
  have T1 := hid T1
  have T0 := hid T0
  have C1 := hid C1
  have F1 := hid f1
  have F2 := hid f2
  have S1 := hid s1
  have S2 := hid s2
  have HN4 := hid hN4
  have HFS := hid hfs
  clear f1 f2 s1 s2 hfs hf hs hN hN4 ha hb hc he
  go_enter Tryd.func44, Tryd.ntmps44
  go_wp2_with fail
  refine Calls.mono (T1.out _) ?_; rintro x w1 ⟨rfl, hb1⟩
  go_wp2_with fail
  refine Calls.mono (T0.out _) ?_; rintro x w2 ⟨rfl, hb2⟩
  have hR2 := (hR.below hb1 hR.lt).below hb2 (hR.below hb1 hR.lt).lt
  have hM2 := (Mod.of_below hb1 (One g)).same (Mod.of_below hb2 (One g))
  clear hb1 hb2 hR
  go_wp2_with fail
  refine Calls.mono (C1.out _ hR2) ?_; rintro x w3 ⟨q0, q1, q2, q3, r, rfl, hR3, hm3, hr, h0, h1, h2, h3, hv1⟩
  have C2 := fun w h => cut_words w g q0 q1 q2 q3 s h0 h1 h2 h3 ⟨S1.out, by have := S2.out; omega⟩ h
  replace C2 := hid C2
  replace hM2 := hM2.same hm3
  have V1 := hid (And.intro hr hv1)
  clear hR2 hm3 hr h0 h1 h2 h3 hv1
  go_wp2_with fail
  refine Calls.mono (C2.out _ hR3) ?_; rintro x w4 ⟨p0, p1, p2, p3, t, rfl, hR4, hm4, ht, g0, g1, g2, g3, hv2⟩
  have hM4 := hM2.same hm4
  clear hR3 hm4 hM2
  have tc := two_cuts F1.out V1.out.1 ht V1.out.2 hv2
  rw [← HFS.out] at tc
  have hd36 : d ≤ 1000000000000000000000000000000000000 := by
    rw [HFS.out]
    exact Int.mul_le_mul F2.out S2.out (Int.le_of_lt S1.out) (by decide)
  have htf : t * f ≤ t * f + r := by have := V1.out.1.1; omega
  have htf0 : 0 ≤ t * f := Int.mul_nonneg ht.1 (Int.le_of_lt F1.out)
  have m1 := fun w => mul64 t f ⟨ht.1, by have := S2.out; omega⟩ ⟨Int.le_of_lt F1.out, by have := F2.out; omega⟩ w
  have m2 := fun w => mul64 f s ⟨Int.le_of_lt F1.out, by have := F2.out; omega⟩ ⟨Int.le_of_lt S1.out, by have := S2.out; omega⟩ w
  rw [← HFS.out] at m2
  have hrr := V1.out.1
  have hff := F2.out
  obtain ⟨P, hP⟩ : ∃ P, P = t * f := ⟨_, rfl⟩
  rw [← hP] at tc htf htf0 m1
  obtain ⟨mh, hmh⟩ : ∃ x, x = P / 18446744073709551616 := ⟨_, rfl⟩
  obtain ⟨ml, hml⟩ : ∃ x, x = P % 18446744073709551616 := ⟨_, rfl⟩
  rw [← hmh, ← hml] at m1
  have A1 := fun w => add64 ml r 0 (by omega) hrr.1 (Int.le_refl 0) (by decide) w
  rw [Int.add_zero] at A1
  obtain ⟨l, hl⟩ : ∃ x, x = (ml + r) % 18446744073709551616 := ⟨_, rfl⟩
  obtain ⟨cy, hcy⟩ : ∃ x, x = (ml + r) / 18446744073709551616 := ⟨_, rfl⟩
  rw [← hl, ← hcy] at A1
  obtain ⟨h, hh⟩ : ∃ x, x = mh + cy := ⟨_, rfl⟩
  have wh : IntKind.u64.wrap (mh + cy) = h := by rw [IntKind.wrap_u64]; omega
  have hR0 : h * 18446744073709551616 + l = P + r := by omega
  have hlb : 0 ≤ l ∧ l < 18446744073709551616 := by omega
  have hhb : 0 ≤ h ∧ h < 9223372036854775808 := by omega
  have db := doubled hhb hlb
  obtain ⟨h2, hh2⟩ : ∃ x, x = h * 2 + l / 9223372036854775808 := ⟨_, rfl⟩
  obtain ⟨l2, hl2⟩ : ∃ x, x = l * 2 - l / 9223372036854775808 * 18446744073709551616 := ⟨_, rfl⟩
  rw [← hh2, ← hl2] at db
  obtain ⟨db1, db2⟩ := db
  have hdd : h2 * 18446744073709551616 + l2 = 2 * (P + r) := by omega
  obtain ⟨dh, hdh⟩ : ∃ x, x = d / 18446744073709551616 := ⟨_, rfl⟩
  obtain ⟨dl, hdl⟩ : ∃ x, x = d % 18446744073709551616 := ⟨_, rfl⟩
  rw [← hdh, ← hdl] at m2
  have hdpos : 0 < d := by omega
  have K := fun w => compare_any w (2 * (P + r)) d (by unfold Big; omega) (by unfold Big; omega)
  rw [← hdd, UV_words (by omega) (by omega), show UV d = .agg #[.int .u64 dh, .int .u64 dl] by rw [hdh, hdl]; rfl] at K
  obtain ⟨N2, hN2⟩ : ∃ N2, N2 = p0 + p1 * 18446744073709551616 + p2 * 340282366920938463463374607431768211456 + p3 * 6277101735386680763835789423207666416102355444464034512896 := ⟨_, rfl⟩
  rw [← hN2] at tc hv2
  have hx2 : bits .and .u64 p0 1 = p0 % 2 := low_bit g0
  have hmod2 : N2 % 2 = p0 % 2 := by omega
  have hNd : d * N2 + (P + r) = N := by have h5 := Int.emod_add_mul_ediv N d; rw [tc.1, tc.2.1] at h5; omega
  have hN20 : 0 ≤ N2 := by omega
  have hNN := HN4.out
  rw [hdd] at K
  have AD := fun w n (hn : 0 ≤ n ∧ n < 18446744073709551616) hf h => add_to_words w g p0 p1 p2 p3 n g0 g1 g2 g3 hn hf h
  rw [← hN2] at AD
  have hbig : 2 ≤ d → N2 + 1 < 115792089237316195423570985008687907853269984665640564039457584007913129639936 := fun h => by have := Int.mul_le_mul_of_nonneg_right h hN20; omega
  have m1 := hid m1
  have m2 := hid m2
  have AD := hid AD
  have TC := hid tc
  have HB := hid hbig
  have HM2 := hid hmod2
  have HP0 := hid (And.intro g0 (And.intro g1 (And.intro g2 g3)))
  have HN2 := hid hN2
  have HX := hid hx2
  have DB1 := hid db1
  have A1 := hid A1
  rcases cmp3_cases (2 * (P + r)) d with ⟨hc, ec⟩ | ⟨hc, ec⟩ | ⟨hc, ec⟩
  · rw [ec] at K
    have K := hid K
    have HC := hid hc
    have a1 := A1.out
    have d1 := DB1.out
    have x1 := HX.out
    clear hP hmh hml hl hcy hh hR0 hlb hhb hh2 hl2 hdd hdh hdl hdpos hN2 hx2 hmod2 hNd hN20 hNN hbig tc htf htf0 hrr hff hd36 ht g0 g1 g2 g3 hv2 hc ec db1
    go_wp2_with fail
    refine Calls.mono (m1.out _) ?_; rintro x w5 ⟨rfl, rfl⟩
    go_wp2_with fail
    refine Calls.mono (m2.out _) ?_; rintro x w5 ⟨rfl, rfl⟩
    go_wp2_with fail
    refine Calls.mono (K.out _) ?_; rintro x w6 ⟨rfl, hb6⟩
    have hR5 := hR4.alloc (.cells #[.int .u64 h2, .int .u64 l2] 54)
    have hM5 := hM4.alloc (.cells #[.int .u64 h2, .int .u64 l2] 54)
    have hR6 := hR5.below hb6 hR5.lt
    have hM6 := hM5.same (Mod.of_below hb6 (One g))
    have y0 := hR6.cell 0
    simp at y0
    clear hR4 hR5 hM4 hM5 hb6 a1 d1
    go_wp2_with fail
    go_end0
    exact ⟨rfl, ⟨p0, p1, p2, p3, hR6, HP0.out.1, HP0.out.2.1, HP0.out.2.2.1, HP0.out.2.2.2, by
      have h1 := TC.out; have h2 := HC.out
      rw [← HN2.out]; unfold hE; rw [h1.1, h1.2.1, if_neg (by omega)]⟩, hM6⟩
  · rw [ec] at K
    have K := hid K
    have HC := hid hc
    have a1 := A1.out
    have d1 := DB1.out
    have x1 := HX.out
    clear hP hmh hml hl hcy hh hR0 hlb hhb hh2 hl2 hdd hdh hdl hdpos hN2 hx2 hmod2 hNd hN20 hNN hbig tc htf htf0 hrr hff hd36 ht g0 g1 g2 g3 hv2 hc ec db1
    go_wp2_with fail
    refine Calls.mono (m1.out _) ?_; rintro x w5 ⟨rfl, rfl⟩
    go_wp2_with fail
    refine Calls.mono (m2.out _) ?_; rintro x w5 ⟨rfl, rfl⟩
    go_wp2_with fail
    refine Calls.mono (K.out _) ?_; rintro x w6 ⟨rfl, hb6⟩
    have hR5 := hR4.alloc (.cells #[.int .u64 h2, .int .u64 l2] 54)
    have hM5 := hM4.alloc (.cells #[.int .u64 h2, .int .u64 l2] 54)
    have hR6 := hR5.below hb6 hR5.lt
    have hM6 := hM5.same (Mod.of_below hb6 (One g))
    have y0 := hR6.cell 0
    simp at y0
    clear hR4 hR5 hM4 hM5 hb6 a1 d1
    go_wp2_with fail
    refine Calls.mono (AD.out _ 1 (by have := HP0.out; omega) (by have h1 := TC.out; have h2 := HC.out; have h3 := HB.out (by omega); omega) hR6) ?_; rintro x w7 ⟨s0, s1, s2, s3, rfl, hR7, hm7, b0, b1, b2, b3, hv⟩
    go_wp2_with fail
    go_end0
    exact ⟨rfl, ⟨s0, s1, s2, s3, hR7, b0, b1, b2, b3, by
      have h1 := TC.out; have h2 := HC.out; have h3 := HM2.out
      rw [hv]; unfold hE; rw [h1.1, h1.2.1]
      rw [if_pos (.inl (by omega))]⟩, hM6.same hm7⟩
  · rw [ec] at K
    have K := hid K
    have HC := hid hc
    have a1 := A1.out
    have d1 := DB1.out
    have x1 := HX.out
    clear hP hmh hml hl hcy hh hR0 hlb hhb hh2 hl2 hdd hdh hdl hdpos hN2 hx2 hmod2 hNd hN20 hNN hbig tc htf htf0 hrr hff hd36 ht g0 g1 g2 g3 hv2 hc ec db1
    go_wp2_with fail
    refine Calls.mono (m1.out _) ?_; rintro x w5 ⟨rfl, rfl⟩
    go_wp2_with fail
    refine Calls.mono (m2.out _) ?_; rintro x w5 ⟨rfl, rfl⟩
    go_wp2_with fail
    refine Calls.mono (K.out _) ?_; rintro x w6 ⟨rfl, hb6⟩
    have hR5 := hR4.alloc (.cells #[.int .u64 h2, .int .u64 l2] 54)
    have hM5 := hM4.alloc (.cells #[.int .u64 h2, .int .u64 l2] 54)
    have hR6 := hR5.below hb6 hR5.lt
    have hM6 := hM5.same (Mod.of_below hb6 (One g))
    have y0 := hR6.cell 0
    simp at y0
    clear hR4 hR5 hM4 hM5 hb6 a1 d1
    go_wp2_with fail
    refine Calls.mono (AD.out _ (p0 % 2) (by have := HP0.out; omega) (by have h1 := TC.out; have h2 := HC.out; have h3 := HB.out (by omega); omega) hR6) ?_; rintro x w7 ⟨s0, s1, s2, s3, rfl, hR7, hm7, b0, b1, b2, b3, hv⟩
    go_wp2_with fail
    go_end0
    exact ⟨rfl, ⟨s0, s1, s2, s3, hR7, b0, b1, b2, b3, by
      have h1 := TC.out; have h2 := HC.out; have h3 := HM2.out
      rw [hv]; unfold hE; rw [h1.1, h1.2.1]
      by_cases hp : N2 % 2 = 1
      · rw [if_pos (.inr ⟨by omega, hp⟩)]; omega
      · rw [if_neg (by omega)]; omega⟩, hM6.same hm7⟩

set_option maxRecDepth 100000 in
set_option maxHeartbeats 4000000 in
theorem scale_hi (w : World) (g : Nat) (a b c e : Int) (k : Nat) (hk : 18 < k ∧ k ≤ 36) (ha : 0 ≤ a ∧ a < 18446744073709551616) (hb : 0 ≤ b ∧ b < 18446744073709551616) (hc : 0 ≤ c ∧ c < 18446744073709551616) (he : 0 ≤ e ∧ e < 18446744073709551616) (hR : Row w g 49 #[.int .u64 a, .int .u64 b, .int .u64 c, .int .u64 e]) :
    Calls Tryd.prog 44 #[.pointer (some ⟨g, 0, none⟩), .int .i64 (k : Int)] w fun x w' =>
      x = .returned (.tuple #[]) ∧ (∃ s0 s1 s2 s3 : Int, Row w' g 49 #[.int .u64 s0, .int .u64 s1, .int .u64 s2, .int .u64 s3] ∧ (0 ≤ s0 ∧ s0 < 18446744073709551616) ∧ (0 ≤ s1 ∧ s1 < 18446744073709551616) ∧ (0 ≤ s2 ∧ s2 < 18446744073709551616) ∧ (0 ≤ s3 ∧ s3 < 18446744073709551616) ∧ s0 + s1 * 18446744073709551616 + s2 * 340282366920938463463374607431768211456 + s3 * 6277101735386680763835789423207666416102355444464034512896 = hE (a + b * 18446744073709551616 + c * 340282366920938463463374607431768211456 + e * 6277101735386680763835789423207666416102355444464034512896) ((10 ^ k : Nat) : Int)) ∧ Mod (One g) w w' := by
  have T1 := fun w => ten_any w 18 (by omega)
  have T0 := fun w => ten_any w (k - 18) (by omega)
  have f1 : (0 : Int) < ((10 ^ 18 : Nat) : Int) := by have := Nat.pow_pos (n := 18) (show 0 < 10 by decide); omega
  have f2 : ((10 ^ 18 : Nat) : Int) ≤ 1000000000000000000 := by have := Nat.pow_le_pow_right (show 0 < 10 by decide) (show 18 ≤ 18 by omega); omega
  have s1 : (0 : Int) < ((10 ^ (k - 18) : Nat) : Int) := by have := Nat.pow_pos (n := (k - 18)) (show 0 < 10 by decide); omega
  have s2 : ((10 ^ (k - 18) : Nat) : Int) ≤ 1000000000000000000 := by have := Nat.pow_le_pow_right (show 0 < 10 by decide) (show (k - 18) ≤ 18 by omega); omega
  obtain ⟨d, hd⟩ : ∃ d, d = ((10 ^ k : Nat) : Int) := ⟨_, rfl⟩
  rw [← hd]
  have hfs : d = ((10 ^ 18 : Nat) : Int) * ((10 ^ (k - 18) : Nat) : Int) := by
    rw [hd, ← Int.natCast_mul, ← Nat.pow_add]
    have hij : 18 + (k - 18) = k := by omega
    rw [hij]
  clear hd
  obtain ⟨f, hf⟩ : ∃ f, f = ((10 ^ 18 : Nat) : Int) := ⟨_, rfl⟩
  obtain ⟨s, hs⟩ : ∃ s, s = ((10 ^ (k - 18) : Nat) : Int) := ⟨_, rfl⟩
  rw [← hf] at T1 f1 f2 hfs
  rw [← hs] at T0 s1 s2 hfs
  obtain ⟨N, hN⟩ : ∃ N, N = a + b * 18446744073709551616 + c * 340282366920938463463374607431768211456 + e * 6277101735386680763835789423207666416102355444464034512896 := ⟨_, rfl⟩
  rw [← hN]
  have hN4 : 0 ≤ N ∧ N < 115792089237316195423570985008687907853269984665640564039457584007913129639936 := by omega
  have C1 := fun w h => cut_words w g a b c e f ha hb hc he ⟨f1, by omega⟩ h
  rw [← hN] at C1
  have w1 : (k : Int) - 18 = ((k - 18 : Nat) : Int) := by omega
  have w2 : ¬ (k : Int) ≤ 18 := by omega
  have w3 : (18 : Int) < k := by omega
  have T1 := hid T1
  have T0 := hid T0
  have C1 := hid C1
  have F1 := hid f1
  have F2 := hid f2
  have S1 := hid s1
  have S2 := hid s2
  have HN4 := hid hN4
  have HFS := hid hfs
  clear f1 f2 s1 s2 hfs hf hs hN hN4 ha hb hc he
  go_enter Tryd.func44, Tryd.ntmps44
  go_wp2_with fail
  refine Calls.mono (T1.out _) ?_; rintro x w1 ⟨rfl, hb1⟩
  go_wp2_with fail
  refine Calls.mono (T0.out _) ?_; rintro x w2 ⟨rfl, hb2⟩
  have hR2 := (hR.below hb1 hR.lt).below hb2 (hR.below hb1 hR.lt).lt
  have hM2 := (Mod.of_below hb1 (One g)).same (Mod.of_below hb2 (One g))
  clear hb1 hb2 hR
  go_wp2_with fail
  refine Calls.mono (C1.out _ hR2) ?_; rintro x w3 ⟨q0, q1, q2, q3, r, rfl, hR3, hm3, hr, h0, h1, h2, h3, hv1⟩
  have C2 := fun w h => cut_words w g q0 q1 q2 q3 s h0 h1 h2 h3 ⟨S1.out, by have := S2.out; omega⟩ h
  replace C2 := hid C2
  replace hM2 := hM2.same hm3
  have V1 := hid (And.intro hr hv1)
  clear hR2 hm3 hr h0 h1 h2 h3 hv1
  go_wp2_with fail
  refine Calls.mono (C2.out _ hR3) ?_; rintro x w4 ⟨p0, p1, p2, p3, t, rfl, hR4, hm4, ht, g0, g1, g2, g3, hv2⟩
  have hM4 := hM2.same hm4
  clear hR3 hm4 hM2
  have tc := two_cuts F1.out V1.out.1 ht V1.out.2 hv2
  rw [← HFS.out] at tc
  have hd36 : d ≤ 1000000000000000000000000000000000000 := by
    rw [HFS.out]
    exact Int.mul_le_mul F2.out S2.out (Int.le_of_lt S1.out) (by decide)
  have htf : t * f ≤ t * f + r := by have := V1.out.1.1; omega
  have htf0 : 0 ≤ t * f := Int.mul_nonneg ht.1 (Int.le_of_lt F1.out)
  have m1 := fun w => mul64 t f ⟨ht.1, by have := S2.out; omega⟩ ⟨Int.le_of_lt F1.out, by have := F2.out; omega⟩ w
  have m2 := fun w => mul64 f s ⟨Int.le_of_lt F1.out, by have := F2.out; omega⟩ ⟨Int.le_of_lt S1.out, by have := S2.out; omega⟩ w
  rw [← HFS.out] at m2
  have hrr := V1.out.1
  have hff := F2.out
  obtain ⟨P, hP⟩ : ∃ P, P = t * f := ⟨_, rfl⟩
  rw [← hP] at tc htf htf0 m1
  obtain ⟨mh, hmh⟩ : ∃ x, x = P / 18446744073709551616 := ⟨_, rfl⟩
  obtain ⟨ml, hml⟩ : ∃ x, x = P % 18446744073709551616 := ⟨_, rfl⟩
  rw [← hmh, ← hml] at m1
  have A1 := fun w => add64 ml r 0 (by omega) hrr.1 (Int.le_refl 0) (by decide) w
  rw [Int.add_zero] at A1
  obtain ⟨l, hl⟩ : ∃ x, x = (ml + r) % 18446744073709551616 := ⟨_, rfl⟩
  obtain ⟨cy, hcy⟩ : ∃ x, x = (ml + r) / 18446744073709551616 := ⟨_, rfl⟩
  rw [← hl, ← hcy] at A1
  obtain ⟨h, hh⟩ : ∃ x, x = mh + cy := ⟨_, rfl⟩
  have wh : IntKind.u64.wrap (mh + cy) = h := by rw [IntKind.wrap_u64]; omega
  have hR0 : h * 18446744073709551616 + l = P + r := by omega
  have hlb : 0 ≤ l ∧ l < 18446744073709551616 := by omega
  have hhb : 0 ≤ h ∧ h < 9223372036854775808 := by omega
  have db := doubled hhb hlb
  obtain ⟨h2, hh2⟩ : ∃ x, x = h * 2 + l / 9223372036854775808 := ⟨_, rfl⟩
  obtain ⟨l2, hl2⟩ : ∃ x, x = l * 2 - l / 9223372036854775808 * 18446744073709551616 := ⟨_, rfl⟩
  rw [← hh2, ← hl2] at db
  obtain ⟨db1, db2⟩ := db
  have hdd : h2 * 18446744073709551616 + l2 = 2 * (P + r) := by omega
  obtain ⟨dh, hdh⟩ : ∃ x, x = d / 18446744073709551616 := ⟨_, rfl⟩
  obtain ⟨dl, hdl⟩ : ∃ x, x = d % 18446744073709551616 := ⟨_, rfl⟩
  rw [← hdh, ← hdl] at m2
  have hdpos : 0 < d := by omega
  have K := fun w => compare_any w (2 * (P + r)) d (by unfold Big; omega) (by unfold Big; omega)
  rw [← hdd, UV_words (by omega) (by omega), show UV d = .agg #[.int .u64 dh, .int .u64 dl] by rw [hdh, hdl]; rfl] at K
  obtain ⟨N2, hN2⟩ : ∃ N2, N2 = p0 + p1 * 18446744073709551616 + p2 * 340282366920938463463374607431768211456 + p3 * 6277101735386680763835789423207666416102355444464034512896 := ⟨_, rfl⟩
  rw [← hN2] at tc hv2
  have hx2 : bits .and .u64 p0 1 = p0 % 2 := low_bit g0
  have hmod2 : N2 % 2 = p0 % 2 := by omega
  have hNd : d * N2 + (P + r) = N := by have h5 := Int.emod_add_mul_ediv N d; rw [tc.1, tc.2.1] at h5; omega
  have hN20 : 0 ≤ N2 := by omega
  have hNN := HN4.out
  rw [hdd] at K
  have AD := fun w n (hn : 0 ≤ n ∧ n < 18446744073709551616) hf h => add_to_words w g p0 p1 p2 p3 n g0 g1 g2 g3 hn hf h
  rw [← hN2] at AD
  have hbig : 2 ≤ d → N2 + 1 < 115792089237316195423570985008687907853269984665640564039457584007913129639936 := fun h => by have := Int.mul_le_mul_of_nonneg_right h hN20; omega
  have m1 := hid m1
  have m2 := hid m2
  have AD := hid AD
  have TC := hid tc
  have HB := hid hbig
  have HM2 := hid hmod2
  have HP0 := hid (And.intro g0 (And.intro g1 (And.intro g2 g3)))
  have HN2 := hid hN2
  have HX := hid hx2
  have DB1 := hid db1
  have A1 := hid A1
  rcases cmp3_cases (2 * (P + r)) d with ⟨hc, ec⟩ | ⟨hc, ec⟩ | ⟨hc, ec⟩
  · rw [ec] at K
    have K := hid K
    have HC := hid hc
    have a1 := A1.out
    have d1 := DB1.out
    have x1 := HX.out
    clear hP hmh hml hl hcy hh hR0 hlb hhb hh2 hl2 hdd hdh hdl hdpos hN2 hx2 hmod2 hNd hN20 hNN hbig tc htf htf0 hrr hff hd36 ht g0 g1 g2 g3 hv2 hc ec db1
    go_wp2_with fail
    refine Calls.mono (m1.out _) ?_; rintro x w5 ⟨rfl, rfl⟩
    go_wp2_with fail
    refine Calls.mono (m2.out _) ?_; rintro x w5 ⟨rfl, rfl⟩
    go_wp2_with fail
    refine Calls.mono (K.out _) ?_; rintro x w6 ⟨rfl, hb6⟩
    have hR5 := hR4.alloc (.cells #[.int .u64 h2, .int .u64 l2] 54)
    have hM5 := hM4.alloc (.cells #[.int .u64 h2, .int .u64 l2] 54)
    have hR6 := hR5.below hb6 hR5.lt
    have hM6 := hM5.same (Mod.of_below hb6 (One g))
    have y0 := hR6.cell 0
    simp at y0
    clear hR4 hR5 hM4 hM5 hb6 a1 d1
    go_wp2_with fail
    go_end0
    exact ⟨rfl, ⟨p0, p1, p2, p3, hR6, HP0.out.1, HP0.out.2.1, HP0.out.2.2.1, HP0.out.2.2.2, by
      have h1 := TC.out; have h2 := HC.out
      rw [← HN2.out]; unfold hE; rw [h1.1, h1.2.1, if_neg (by omega)]⟩, hM6⟩
  · rw [ec] at K
    have K := hid K
    have HC := hid hc
    have a1 := A1.out
    have d1 := DB1.out
    have x1 := HX.out
    clear hP hmh hml hl hcy hh hR0 hlb hhb hh2 hl2 hdd hdh hdl hdpos hN2 hx2 hmod2 hNd hN20 hNN hbig tc htf htf0 hrr hff hd36 ht g0 g1 g2 g3 hv2 hc ec db1
    go_wp2_with fail
    refine Calls.mono (m1.out _) ?_; rintro x w5 ⟨rfl, rfl⟩
    go_wp2_with fail
    refine Calls.mono (m2.out _) ?_; rintro x w5 ⟨rfl, rfl⟩
    go_wp2_with fail
    refine Calls.mono (K.out _) ?_; rintro x w6 ⟨rfl, hb6⟩
    have hR5 := hR4.alloc (.cells #[.int .u64 h2, .int .u64 l2] 54)
    have hM5 := hM4.alloc (.cells #[.int .u64 h2, .int .u64 l2] 54)
    have hR6 := hR5.below hb6 hR5.lt
    have hM6 := hM5.same (Mod.of_below hb6 (One g))
    have y0 := hR6.cell 0
    simp at y0
    clear hR4 hR5 hM4 hM5 hb6 a1 d1
    go_wp2_with fail
    refine Calls.mono (AD.out _ 1 (by have := HP0.out; omega) (by have h1 := TC.out; have h2 := HC.out; have h3 := HB.out (by omega); omega) hR6) ?_; rintro x w7 ⟨s0, s1, s2, s3, rfl, hR7, hm7, b0, b1, b2, b3, hv⟩
    go_wp2_with fail
    go_end0
    exact ⟨rfl, ⟨s0, s1, s2, s3, hR7, b0, b1, b2, b3, by
      have h1 := TC.out; have h2 := HC.out; have h3 := HM2.out
      rw [hv]; unfold hE; rw [h1.1, h1.2.1]
      rw [if_pos (.inl (by omega))]⟩, hM6.same hm7⟩
  · rw [ec] at K
    have K := hid K
    have HC := hid hc
    have a1 := A1.out
    have d1 := DB1.out
    have x1 := HX.out
    clear hP hmh hml hl hcy hh hR0 hlb hhb hh2 hl2 hdd hdh hdl hdpos hN2 hx2 hmod2 hNd hN20 hNN hbig tc htf htf0 hrr hff hd36 ht g0 g1 g2 g3 hv2 hc ec db1
    go_wp2_with fail
    refine Calls.mono (m1.out _) ?_; rintro x w5 ⟨rfl, rfl⟩
    go_wp2_with fail
    refine Calls.mono (m2.out _) ?_; rintro x w5 ⟨rfl, rfl⟩
    go_wp2_with fail
    refine Calls.mono (K.out _) ?_; rintro x w6 ⟨rfl, hb6⟩
    have hR5 := hR4.alloc (.cells #[.int .u64 h2, .int .u64 l2] 54)
    have hM5 := hM4.alloc (.cells #[.int .u64 h2, .int .u64 l2] 54)
    have hR6 := hR5.below hb6 hR5.lt
    have hM6 := hM5.same (Mod.of_below hb6 (One g))
    have y0 := hR6.cell 0
    simp at y0
    clear hR4 hR5 hM4 hM5 hb6 a1 d1
    go_wp2_with fail
    refine Calls.mono (AD.out _ (p0 % 2) (by have := HP0.out; omega) (by have h1 := TC.out; have h2 := HC.out; have h3 := HB.out (by omega); omega) hR6) ?_; rintro x w7 ⟨s0, s1, s2, s3, rfl, hR7, hm7, b0, b1, b2, b3, hv⟩
    go_wp2_with fail
    go_end0
    exact ⟨rfl, ⟨s0, s1, s2, s3, hR7, b0, b1, b2, b3, by
      have h1 := TC.out; have h2 := HC.out; have h3 := HM2.out
      rw [hv]; unfold hE; rw [h1.1, h1.2.1]
      by_cases hp : N2 % 2 = 1
      · rw [if_pos (.inr ⟨by omega, hp⟩)]; omega
      · rw [if_neg (by omega)]; omega⟩, hM6.same hm7⟩
end Go.Proofs.YtfalllekhcocgaaDoor
