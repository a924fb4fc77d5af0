/-
  Len · Knuth · Div64 · By · Two
-/
import Derived.Test.YtmamedobphlpkaaDoorE02
import Derived.BigQuiet
set_option linter.unusedSimpArgs false
set_option linter.unusedVariables false

namespace Go.Proofs.YtmamedobphlpkaaDoor
open Go.RowKit

theorem len_tab (T : ByteArray) (hT : (List.range 256).all (fun i => decide ((T.data.getD i 0).toNat ≤ 8 ∧ i < 2 ^ (T.data.getD i 0).toNat ∧ (i = 0 ∨ 0 < (T.data.getD i 0).toNat ∧ 2 ^ ((T.data.getD i 0).toNat - 1) ≤ i))) = true)
    (x i : Int) (b : Nat) (hb : b ≤ 56) (h0 : 0 ≤ x) (hi : i = x / ((2 ^ b : Nat) : Int)) (hi2 : i < 256) (hnz : b = 0 ∨ 0 < i) (h : i.toNat < T.size) :
    (T[i.toNat]'h).toNat ≤ 8 ∧ x < ((2 ^ (b + (T[i.toNat]'h).toNat) : Nat) : Int) ∧ (0 < x → ((2 ^ (b + (T[i.toNat]'h).toNat - 1) : Nat) : Int) ≤ x ∧ 0 < b + (T[i.toNat]'h).toNat) := by
  obtain ⟨X, rfl⟩ : ∃ X : Nat, x = X := ⟨x.toNat, by omega⟩
  rw [← Int.natCast_ediv] at hi
  obtain ⟨I, hI⟩ : ∃ I : Nat, I = X / 2 ^ b := ⟨_, rfl⟩
  rw [← hI] at hi
  subst hi
  have hs : (I : Int).toNat = I := Int.toNat_natCast I
  have hg : (T[(I : Int).toNat]'h) = T.data.getD I 0 := by
    have h' : I < T.data.size := by rw [hs] at h; exact h
    simp only [hs]
    rw [Array.getD_eq_getD_getElem?, Array.getElem?_eq_getElem h']
    rfl
  rw [hg]
  have hall := List.all_eq_true.1 hT I (List.mem_range.2 (by omega))
  obtain ⟨h1, h2, h3⟩ := of_decide_eq_true hall
  obtain ⟨n, hn⟩ : ∃ n, n = (T.data.getD I 0).toNat := ⟨_, rfl⟩
  rw [← hn] at h1 h2 h3 ⊢
  have hp : 0 < 2 ^ b := Nat.two_pow_pos b
  refine ⟨h1, ?_, fun hx => ?_⟩
  · have : X < 2 ^ b * 2 ^ n := by
      rw [Nat.mul_comm]
      exact (Nat.div_lt_iff_lt_mul hp).1 (hI ▸ h2)
    rw [Nat.pow_add]
    exact_mod_cast this
  · rcases h3 with h3 | ⟨h3, h4⟩
    · rcases hnz with hz | hz
      · subst hz
        simp at hI
        omega
      · omega
    · refine ⟨?_, by omega⟩
      have : 2 ^ (n - 1) * 2 ^ b ≤ X := (Nat.le_div_iff_mul_le hp).1 (hI ▸ h4)
      rw [show b + n - 1 = (n - 1) + b by omega, Nat.pow_add]
      exact_mod_cast this

theorem wrap64_nat (n : Nat) (h : n ≤ 64) : wrap64 (n : Int) = n := by simp only [wrap64]; omega
theorem len_fin (T : ByteArray) (hT : (List.range 256).all (fun i => decide ((T.data.getD i 0).toNat ≤ 8 ∧ i < 2 ^ (T.data.getD i 0).toNat ∧ (i = 0 ∨ 0 < (T.data.getD i 0).toNat ∧ 2 ^ ((T.data.getD i 0).toNat - 1) ≤ i))) = true)
    (w : World) (x i : Int) (b : Nat) (c : Int) (hc : c = (b : Int)) (hb : b ≤ 56) (h0 : 0 ≤ x) (hi : i = x / ((2 ^ b : Nat) : Int)) (hi2 : i < 256) (hnz : 0 < i) (h : i.toNat < T.size) :
    ∃ n : Nat, Ending.returned (.int .i64 (wrap64 (c + wrap64 ((T[i.toNat]'h).toNat : Int)))) = .returned (.int .i64 n) ∧ w = w ∧ n ≤ 64 ∧ x < ((2 ^ n : Nat) : Int) ∧ (0 < x → ((2 ^ (n - 1) : Nat) : Int) ≤ x ∧ 0 < n) := by
  subst hc
  obtain ⟨h1, h2, h3⟩ := len_tab T hT x i b hb h0 hi hi2 (Or.inr hnz) h
  obtain ⟨n, hn⟩ : ∃ n : Nat, n = (T[i.toNat]'h).toNat := ⟨_, rfl⟩
  rw [← hn] at h1 h2 h3 ⊢
  have hbn : b + n ≤ 64 := by clear h2 h3 hi; omega
  rw [wrap64_nat n (by clear h2 h3 hi; omega), ← Int.natCast_add, wrap64_nat (b + n) hbn]
  exact ⟨b + n, rfl, rfl, hbn, h2, h3⟩
theorem len_fin0 (T : ByteArray) (hT : (List.range 256).all (fun i => decide ((T.data.getD i 0).toNat ≤ 8 ∧ i < 2 ^ (T.data.getD i 0).toNat ∧ (i = 0 ∨ 0 < (T.data.getD i 0).toNat ∧ 2 ^ ((T.data.getD i 0).toNat - 1) ≤ i))) = true)
    (w : World) (x : Int) (h0 : 0 ≤ x) (hi2 : x < 256) (h : x.toNat < T.size) :
    ∃ n : Nat, Ending.returned (.int .i64 (wrap64 (wrap64 ((T[x.toNat]'h).toNat : Int)))) = .returned (.int .i64 n) ∧ w = w ∧ n ≤ 64 ∧ x < ((2 ^ n : Nat) : Int) ∧ (0 < x → ((2 ^ (n - 1) : Nat) : Int) ≤ x ∧ 0 < n) := by
  obtain ⟨h1, h2, h3⟩ := len_tab T hT x x 0 (by omega) h0 (by simp) hi2 (Or.inl rfl) h
  obtain ⟨n, hn⟩ : ∃ n : Nat, n = (T[x.toNat]'h).toNat := ⟨_, rfl⟩
  rw [← hn] at h1 h2 h3 ⊢
  rw [Nat.zero_add] at h2 h3
  have e1 : wrap64 (n : Int) = n := by simp only [wrap64]; omega
  rw [e1, e1]
  exact ⟨n, rfl, rfl, by omega, h2, h3⟩

set_option maxRecDepth 100000 in
set_option maxHeartbeats 1000000 in
theorem len64_any (w : World) (x : Int) (hx : 0 ≤ x ∧ x < 18446744073709551616) :
    Calls Tryd.prog 100 #[.int .u64 x] w fun e w' => ∃ n : Nat, e = .returned (.int .i64 n) ∧ w = w' ∧ n ≤ 64 ∧ x < ((2 ^ n : Nat) : Int) ∧ (0 < x → ((2 ^ (n - 1) : Nat) : Int) ≤ x ∧ 0 < n) := by
  go_enter Tryd.func100, Tryd.ntmps100
  by_cases h1 : x < 4294967296
  · go_wp2_with fail
    · go_ret
      exact len_fin _ (by kernel_rfl) w x _ 24 24 rfl (by omega) hx.1 ((show _ = x / 16777216 by omega).trans rfl) (by omega) (by omega) _
    · go_ret
      exact len_fin _ (by kernel_rfl) w x _ 16 16 rfl (by omega) hx.1 ((show _ = x / 65536 by omega).trans rfl) (by omega) (by omega) _
    · go_ret
      exact len_fin _ (by kernel_rfl) w x _ 8 8 rfl (by omega) hx.1 ((show _ = x / 256 by omega).trans rfl) (by omega) (by omega) _
    · go_ret
      exact len_fin0 _ (by kernel_rfl) w x hx.1 (by omega) _
  · go_wp2_with fail
    · go_ret
      exact len_fin _ (by kernel_rfl) w x _ 56 56 rfl (by omega) hx.1 ((show _ = x / 72057594037927936 by omega).trans rfl) (by omega) (by omega) _
    · go_ret
      exact len_fin _ (by kernel_rfl) w x _ 48 48 rfl (by omega) hx.1 ((show _ = x / 281474976710656 by omega).trans rfl) (by omega) (by omega) _
    · go_ret
      exact len_fin _ (by kernel_rfl) w x _ 40 40 rfl (by omega) hx.1 ((show _ = x / 1099511627776 by omega).trans rfl) (by omega) (by omega) _
    · go_ret
      exact len_fin _ (by kernel_rfl) w x _ 32 32 rfl (by omega) hx.1 ((show _ = x / 4294967296 by omega).trans rfl) (by omega) (by omega) _

theorem lz64_any (w : World) (y : Int) (hy : 0 < y ∧ y < 18446744073709551616) :
    Calls Tryd.prog 94 #[.int .u64 y] w fun e w' => ∃ s : Nat, e = .returned (.int .i64 s) ∧ w = w' ∧ s ≤ 63 ∧ 9223372036854775808 ≤ y * ((2 ^ s : Nat) : Int) ∧ y * ((2 ^ s : Nat) : Int) < 18446744073709551616 := by
  go_enter Tryd.func94, Tryd.ntmps94
  go_wp2_with fail
  refine Calls.mono (len64_any w y ⟨by omega, hy.2⟩) ?_; rintro e wk ⟨n, rfl, rfl, h1, h2, h3⟩
  obtain ⟨h3, h4⟩ := h3 hy.1
  have hs : 9223372036854775808 ≤ y * ((2 ^ (64 - n) : Nat) : Int) ∧ y * ((2 ^ (64 - n) : Nat) : Int) < 18446744073709551616 := by
    obtain ⟨Y, rfl⟩ : ∃ Y : Nat, y = Y := ⟨y.toNat, by omega⟩
    have a1 : 2 ^ (n - 1) * 2 ^ (64 - n) ≤ Y * 2 ^ (64 - n) := Nat.mul_le_mul_right _ (by exact_mod_cast h3)
    have a2 : Y * 2 ^ (64 - n) < 2 ^ n * 2 ^ (64 - n) := Nat.mul_lt_mul_of_pos_right (by exact_mod_cast h2) (Nat.two_pow_pos _)
    rw [← Nat.pow_add, show n - 1 + (64 - n) = 63 by omega] at a1
    rw [← Nat.pow_add, show n + (64 - n) = 64 by omega] at a2
    rw [← Int.natCast_mul]
    exact ⟨Int.ofNat_le.2 a1, Int.ofNat_lt.2 a2⟩
  have HS := hid hs
  clear hs h2 h3
  have hw : 64 - (n : Int) = ((64 - n : Nat) : Int) := by omega
  go_wp2_with fail
  go_ret
  exact ⟨64 - n, rfl, by trivial, by omega, HS.out⟩
end Go.Proofs.YtmamedobphlpkaaDoor

namespace Go.Proofs.YtmamedobphlpkaaDoor

/-- what holds at the head of the loop that mends a guess: U, c over a, b; the guess q and what is left, r -/
structure Guess (U c a b q r : Int) : Prop where
  q0 : 0 ≤ q
  q1 : q ≤ 4294967297
  r0 : 0 ≤ r
  r1 : r < 4294967296
  sum : U = q * a + r
  least : (U * 4294967296 + c) / (a * 4294967296 + b) ≤ q

structure Halves (U c a b : Int) : Prop where
  a0 : 2147483648 ≤ a
  a1 : a < 4294967296
  b0 : 0 ≤ b
  b1 : b < 4294967296
  c0 : 0 ≤ c
  c1 : c < 4294967296
  u0 : 0 ≤ U
  u1 : U < a * 4294967296 + b

theorem mul_lt_half {q b : Int} (hq : 0 ≤ q) (hq1 : q ≤ 4294967295) (hb : 0 ≤ b) (hb1 : b < 4294967296) : 0 ≤ q * b ∧ q * b ≤ 18446744065119617025 := by
  refine ⟨Int.mul_nonneg hq hb, ?_⟩
  have h := Int.mul_le_mul hq1 (show b ≤ 4294967295 by omega) hb (by decide)
  exact h
theorem Halves.split {U c a b : Int} (q : Int) : q * (a * 4294967296 + b) = q * a * 4294967296 + q * b := by
  rw [Int.mul_add, Int.mul_assoc]
theorem Halves.pos {U c a b : Int} (h : Halves U c a b) : 0 < a * 4294967296 + b := by
  have := h.a0; have := h.b0; omega
theorem Halves.most {U c a b : Int} (h : Halves U c a b) : (U * 4294967296 + c) / (a * 4294967296 + b) < 4294967296 := by
  apply Int.ediv_lt_of_lt_mul h.pos
  have := h.u1; have := h.c1; omega
theorem Halves.first {U c a b : Int} (h : Halves U c a b) : Guess U c a b (U / a) (U - U / a * a) := by
  have ha : 0 < a := by have := h.a0; omega
  have hm : U - U / a * a = U % a := by
    have := Int.emod_add_mul_ediv U a
    rw [Int.mul_comm] at this
    omega
  refine ⟨Int.ediv_nonneg h.u0 (by omega), ?_, ?_, ?_, by omega, ?_⟩
  · have : U / a < 4294967298 := by
      apply Int.ediv_lt_of_lt_mul ha
      have := h.u1; have := h.b1; have := h.a0; omega
    omega
  · rw [hm]; exact Int.emod_nonneg _ (by omega)
  · rw [hm]; have := Int.emod_lt_of_pos U ha; have := h.a1; omega
  · have h1 : U < (U / a + 1) * a := by
      have := Int.emod_add_mul_ediv U a
      have h2 := Int.emod_lt_of_pos U ha
      rw [Int.add_mul, Int.one_mul, Int.mul_comm]
      omega
    have h3 : (U * 4294967296 + c) / (a * 4294967296 + b) < U / a + 1 := by
      apply Int.ediv_lt_of_lt_mul h.pos
      rw [Halves.split (U := U) (c := c)]
      have h4 : 0 ≤ (U / a + 1) * b := Int.mul_nonneg (by have := Int.ediv_nonneg h.u0 (show 0 ≤ a by omega); omega) h.b0
      have := h.c1
      omega
    omega
/-- the guess is right: the loop ends -/
theorem Guess.done {U c a b q r : Int} (g : Guess U c a b q r) (h : Halves U c a b) (hn : q * b ≤ 4294967296 * r + c) : q = (U * 4294967296 + c) / (a * 4294967296 + b) := by
  have h1 : q ≤ (U * 4294967296 + c) / (a * 4294967296 + b) := by
    apply Int.le_ediv_of_mul_le h.pos
    rw [Halves.split (U := U) (c := c)]
    have := g.sum
    omega
  have := g.least
  omega
/-- it is too great: one less -/
theorem Guess.less {U c a b q r : Int} (g : Guess U c a b q r) (h : Halves U c a b) (hn : 4294967296 ≤ q ∨ 4294967296 * r + c < q * b) : (U * 4294967296 + c) / (a * 4294967296 + b) ≤ q - 1 ∧ 1 ≤ q := by
  have h1 : (U * 4294967296 + c) / (a * 4294967296 + b) < q := by
    rcases hn with hn | hn
    · have := h.most; omega
    · apply Int.ediv_lt_of_lt_mul h.pos
      rw [Halves.split (U := U) (c := c)]
      have := g.sum
      omega
  have h2 : 0 ≤ (U * 4294967296 + c) / (a * 4294967296 + b) := Int.ediv_nonneg (by have := h.u0; have := h.c0; omega) (by have := h.pos; omega)
  omega
theorem Guess.next {U c a b q r : Int} (g : Guess U c a b q r) (h : Halves U c a b) (hn : 4294967296 ≤ q ∨ 4294967296 * r + c < q * b) (hr : r + a < 4294967296) : Guess U c a b (q - 1) (r + a) := by
  obtain ⟨h1, h2⟩ := g.less h hn
  refine ⟨by omega, by have := g.q1; omega, by have := g.r0; have := h.a0; omega, hr, ?_, h1⟩
  rw [Int.sub_mul, Int.one_mul]
  have := g.sum
  omega
theorem Guess.stop {U c a b q r : Int} (g : Guess U c a b q r) (h : Halves U c a b) (hn : 4294967296 ≤ q ∨ 4294967296 * r + c < q * b) (hr : 4294967296 ≤ r + a) : q - 1 = (U * 4294967296 + c) / (a * 4294967296 + b) := by
  obtain ⟨h1, h2⟩ := g.less h hn
  have h3 : q - 1 ≤ (U * 4294967296 + c) / (a * 4294967296 + b) := by
    apply Int.le_ediv_of_mul_le h.pos
    rw [Halves.split (U := U) (c := c), Int.sub_mul, Int.one_mul]
    have h4 : (q - 1) * b ≤ 4294967296 * b := Int.mul_le_mul_of_nonneg_right (by have := g.q1; omega) h.b0
    have := g.sum
    have := h.b1
    have := h.c0
    omega
  omega

/-- the first guess, as the program reckons it -/
theorem Halves.start {U c a b : Int} (h : Halves U c a b) : ∃ k m r : Int, U.tdiv a = k ∧ IntKind.u64.wrap k = k ∧ IntKind.u64.wrap (k * a) = m ∧ IntKind.u64.wrap (U - m) = r ∧ Guess U c a b k r := by
  have g := h.first
  obtain ⟨k, hk⟩ : ∃ k, k = U / a := ⟨_, rfl⟩
  obtain ⟨m, hm⟩ : ∃ m, m = k * a := ⟨_, rfl⟩
  rw [← hk] at g
  rw [← hm] at g
  have g0 := g.q0
  have g1 := g.q1
  have g2 := g.r0
  have g3 := g.r1
  have h1 := h.u1
  have h2 := h.a1
  have h3 := h.b1
  have hm0 : 0 ≤ m := by rw [hm]; exact Int.mul_nonneg g0 (by have := h.a0; omega)
  refine ⟨k, m, U - m, by rw [hk]; exact Int.tdiv_eq_ediv_of_nonneg h.u0, ?_, ?_, ?_, g⟩
  · rw [IntKind.wrap_u64]; omega
  · rw [← hm, IntKind.wrap_u64]; omega
  · rw [IntKind.wrap_u64]; omega
/-- what is left behind the first half, as the program reckons it -/
theorem Halves.rest {U c a b Y q : Int} (h : Halves U c a b) (hY : Y = a * 4294967296 + b) (hq : q = (U * 4294967296 + c) / (a * 4294967296 + b)) :
    ∃ x1 x2 x3 R : Int, IntKind.u64.wrap (U * 4294967296) = x1 ∧ IntKind.u64.wrap (x1 + c) = x2 ∧ IntKind.u64.wrap (q * Y) = x3 ∧ IntKind.u64.wrap (x2 - x3) = R ∧ U * 4294967296 + c = q * Y + R ∧ 0 ≤ R ∧ R < Y ∧ 0 ≤ q ∧ q < 4294967296 := by
  have hp := h.pos
  have hm := h.most
  have h0 : 0 ≤ (U * 4294967296 + c) / (a * 4294967296 + b) := Int.ediv_nonneg (by have := h.u0; have := h.c0; omega) (by omega)
  rw [← hq] at hm h0
  rw [← hY] at hp hq
  have e := Int.emod_add_mul_ediv (U * 4294967296 + c) Y
  rw [← hq, Int.mul_comm Y q] at e
  have e0 := Int.emod_nonneg (U * 4294967296 + c) (show Y ≠ 0 by omega)
  have e1 := Int.emod_lt_of_pos (U * 4294967296 + c) hp
  obtain ⟨R, hR⟩ : ∃ R, R = (U * 4294967296 + c) % Y := ⟨_, rfl⟩
  rw [← hR] at e e0 e1
  clear hR hq
  have h1 := h.a1
  have h2 := h.b1
  refine ⟨_, _, _, R, rfl, rfl, rfl, ?_, by omega, e0, e1, h0, hm⟩
  obtain ⟨z, hz⟩ : ∃ z, z = q * Y := ⟨_, rfl⟩
  rw [← hz] at e ⊢
  clear hz
  simp only [IntKind.wrap_u64]
  omega
theorem Halves.second {U c a b d R : Int} (h : Halves U c a b) (hd : 0 ≤ d ∧ d < 4294967296) (h0 : 0 ≤ R) (h1 : R < a * 4294967296 + b) : Halves R d a b :=
  ⟨h.a0, h.a1, h.b0, h.b1, hd.1, hd.2, h0, h1⟩
theorem wrap_pair {q k : Int} (h0 : 0 ≤ q) (h1 : q < 4294967296) (h2 : 0 ≤ k) (h3 : k < 4294967296) : ∃ y1 : Int, IntKind.u64.wrap (q * 4294967296) = y1 ∧ IntKind.u64.wrap (y1 + k) = q * 4294967296 + k := by
  refine ⟨_, rfl, ?_⟩
  simp only [IntKind.wrap_u64]
  omega

theorem nat_and_mask (V : Int) (hV : 0 ≤ V ∧ V < 18446744073709551616) : bits .and .u64 V 4294967295 = V % 4294967296 := by
  obtain ⟨v, rfl⟩ := Int.eq_ofNat_of_zero_le hV.1
  have e : v &&& 4294967295 = v % 4294967296 := Nat.and_two_pow_sub_one_eq_mod v 32
  show IntKind.u64.wrap ((BitVec.ofInt 64 (v : Int) &&& BitVec.ofInt 64 ((4294967295 : Nat) : Int)).toNat : Int) = _
  rw [BitVec.toNat_and, BitVec.ofInt_natCast, BitVec.ofInt_natCast, BitVec.toNat_ofNat, BitVec.toNat_ofNat, Nat.mod_eq_of_lt (by omega), Nat.mod_eq_of_lt (by omega), e]
  simp [IntKind.wrap, IntKind.signed, IntKind.bits]
  omega
theorem nat_or_sum (h t : Int) (s : Nat) (hh : 0 ≤ h) (hlt : h * ((2 ^ s : Nat) : Int) < 18446744073709551616) (ht : 0 ≤ t) (ht1 : t < ((2 ^ s : Nat) : Int)) (hsum : h * ((2 ^ s : Nat) : Int) + t < 18446744073709551616) :
    bits .or .u64 (h * ((2 ^ s : Nat) : Int)) t = h * ((2 ^ s : Nat) : Int) + t := by
  obtain ⟨h, rfl⟩ := Int.eq_ofNat_of_zero_le hh
  obtain ⟨t, rfl⟩ := Int.eq_ofNat_of_zero_le ht
  have ht2 : t < 2 ^ s := by exact_mod_cast ht1
  have e : 2 ^ s * h ||| t = 2 ^ s * h + t := (Nat.two_pow_add_eq_or_of_lt ht2 h).symm
  rw [← Int.natCast_mul] at hsum hlt ⊢
  rw [Nat.mul_comm] at hsum hlt ⊢
  obtain ⟨m, hm⟩ : ∃ m, m = 2 ^ s * h := ⟨_, rfl⟩
  rw [← hm] at hsum hlt e ⊢
  show IntKind.u64.wrap ((BitVec.ofInt 64 (m : Int) ||| BitVec.ofInt 64 (t : Int)).toNat : Int) = _
  rw [BitVec.toNat_or, BitVec.ofInt_natCast, BitVec.ofInt_natCast, BitVec.toNat_ofNat, BitVec.toNat_ofNat, Nat.mod_eq_of_lt (by omega), Nat.mod_eq_of_lt (by omega), e]
  simp [IntKind.wrap, IntKind.signed, IntKind.bits]
  omega
end Go.Proofs.YtmamedobphlpkaaDoor

namespace Go.Proofs.YtmamedobphlpkaaDoor
open Go.RowKit

theorem fin_div {N y P K R : Int} (hP : 0 < P) (hy : 0 < y) (h : N * P = K * (y * P) + R) (h0 : 0 ≤ R) (h1 : R < y * P) : K = N / y ∧ R / P = N % y := by
  have e1 : N * P / (y * P) = N / y := Int.mul_ediv_mul_of_pos_left N y hP
  have hYP : 0 < y * P := Int.mul_pos hy hP
  have hK : N * P / (y * P) = K := by
    rw [h, Int.add_comm, Int.add_mul_ediv_right _ _ (by omega), Int.ediv_eq_zero_of_lt h0 h1, Int.zero_add]
  have hK2 : K = N / y := by rw [← e1, hK]
  refine ⟨hK2, ?_⟩
  have h2 : R = (N % y) * P := by
    have h3 := Int.emod_add_mul_ediv N y
    rw [← hK2] at h3
    have h4 : N * P = (N % y) * P + y * K * P := by rw [← Int.add_mul, h3]
    have h5 : y * K * P = K * (y * P) := by rw [Int.mul_comm y K, Int.mul_assoc]
    omega
  rw [h2, Int.mul_ediv_cancel _ (by omega)]

set_option maxHeartbeats 4000000 in
theorem div64_pos (w : World) (hi lo y : Int) (h0 : 0 < hi ∧ hi < y) (hl : 0 ≤ lo ∧ lo < 18446744073709551616) (hy : y < 18446744073709551616) :
    Calls Tryd.prog 80 #[.int .u64 hi, .int .u64 lo, .int .u64 y] w fun e w' =>
      e = .returned (.tuple #[.int .u64 ((hi * 18446744073709551616 + lo) / y), .int .u64 ((hi * 18446744073709551616 + lo) % y)]) ∧ ∃ n, w' = w.drewN n := by
  have LZ := hid (fun w => lz64_any w y ⟨by omega, hy⟩)
  have h1 : ¬ y = 0 := by omega
  have h2 : ¬ y ≤ hi := by omega
  have h3 : ¬ hi = 0 := by omega
  go_enter Tryd.func80, Tryd.ntmps80
  go_wp2_with fail
  refine Calls.mono (LZ.out _) ?_; rintro e wk ⟨s, rfl, rfl, hs, g1, g2⟩
  clear LZ
  obtain ⟨P, hP⟩ : ∃ P : Int, P = ((2 ^ s : Nat) : Int) := ⟨_, rfl⟩
  obtain ⟨Q, hQ⟩ : ∃ Q : Int, Q = ((2 ^ (64 - s) : Nat) : Int) := ⟨_, rfl⟩
  have hpq : P * Q = 18446744073709551616 := by
    rw [hP, hQ, ← Int.natCast_mul, ← Nat.pow_add, show s + (64 - s) = 64 by omega]
    rfl
  have hp : (2 : Int) ^ s = P := by rw [hP, Int.natCast_pow]; rfl
  have hq : (2 : Int) ^ (64 - s) = Q := by rw [hQ, Int.natCast_pow]; rfl
  have hP0 : 0 < P := by rw [hP]; exact Int.ofNat_lt.2 (Nat.two_pow_pos s)
  have hQ0 : 0 < Q := by rw [hQ]; exact Int.ofNat_lt.2 (Nat.two_pow_pos _)
  rw [← hP] at g1 g2
  obtain ⟨Y, hY⟩ : ∃ Y, Y = y * P := ⟨_, rfl⟩
  rw [← hY] at g1 g2
  obtain ⟨a, ha⟩ : ∃ a, a = Y / 4294967296 := ⟨_, rfl⟩
  obtain ⟨b, hb⟩ : ∃ b, b = Y % 4294967296 := ⟨_, rfl⟩
  obtain ⟨H, hH⟩ : ∃ H, H = hi * P := ⟨_, rfl⟩
  obtain ⟨t, ht⟩ : ∃ t, t = lo / Q := ⟨_, rfl⟩
  obtain ⟨U, hU⟩ : ∃ U, U = H + t := ⟨_, rfl⟩
  obtain ⟨V, hV⟩ : ∃ V, V = lo % Q * P := ⟨_, rfl⟩
  obtain ⟨c, hc⟩ : ∃ c, c = V / 4294967296 := ⟨_, rfl⟩
  obtain ⟨d, hd⟩ : ∃ d, d = V % 4294967296 := ⟨_, rfl⟩
  have ht0 : 0 ≤ t ∧ t < P := by
    rw [ht]
    refine ⟨Int.ediv_nonneg hl.1 (by omega), Int.ediv_lt_of_lt_mul hQ0 (by rw [hpq]; exact hl.2)⟩
  have hHY : 0 ≤ H ∧ H + P ≤ Y := by
    rw [hH, hY]
    refine ⟨Int.mul_nonneg (by omega) (by omega), ?_⟩
    have : (hi + 1) * P ≤ y * P := Int.mul_le_mul_of_nonneg_right (by omega) (by omega)
    rw [Int.add_mul, Int.one_mul] at this
    exact this
  have hV0 : 0 ≤ V ∧ V < 18446744073709551616 := by
    rw [hV]
    have m0 := Int.emod_nonneg lo (show Q ≠ 0 by omega)
    have m1 := Int.emod_lt_of_pos lo hQ0
    refine ⟨Int.mul_nonneg m0 (by omega), ?_⟩
    rw [← hpq, Int.mul_comm P Q]
    exact Int.mul_lt_mul_of_pos_right m1 hP0
  have hlo : lo * P = t * 18446744073709551616 + V := by
    have m := Int.emod_add_mul_ediv lo Q
    rw [← ht] at m
    rw [hV, ← hpq, ← Int.mul_assoc, Int.mul_comm t P, Int.mul_assoc, Int.mul_comm P (t * Q), ← Int.add_mul, Int.mul_comm t Q]
    congr 1
    omega
  have hNP : (hi * 18446744073709551616 + lo) * P = (U * 4294967296 + c) * 4294967296 + d := by
    rw [Int.add_mul, hlo, Int.mul_assoc, Int.mul_comm 18446744073709551616 P, ← Int.mul_assoc, ← hH, hU]
    omega
  have hH1 : Halves U c a b := by constructor <;> omega
  have E1 : IntKind.u64.wrap (y * P) = Y := by rw [← hY, IntKind.wrap_u64]; omega
  have E2 : Y / 4294967296 = a := ha.symm
  have E3 : bits .and .u64 Y 4294967295 = b := by rw [nat_and_mask Y (by omega), hb]
  have E4 : IntKind.u64.wrap (hi * P) = H := by rw [← hH, IntKind.wrap_u64]; omega
  have E5 : lo / Q = t := ht.symm
  have E6 : bits .or .u64 H t = U := by
    rw [hU, hH, hP]
    rw [hH, hP] at hHY
    rw [hP] at ht0
    exact nat_or_sum hi t s (by omega) (by omega) ht0.1 ht0.2 (by omega)
  have E7 : IntKind.u64.wrap (lo * P) = V := by rw [hlo, IntKind.wrap_u64]; omega
  have E8 : V / 4294967296 = c := hc.symm
  have E9 : bits .and .u64 V 4294967295 = d := by rw [nat_and_mask V hV0, hd]
  have hYab : Y = a * 4294967296 + b := by omega
  have hd0 : 0 ≤ d ∧ d < 4294967296 := by omega
  have hPy : 0 < y := by omega
  have ha0 : ¬ a = 0 := by omega
  obtain ⟨k, m, r, E10, E11, E12, E13, G1⟩ := hH1.start
  have HM := hid (And.intro hNP (And.intro hY (And.intro hH1 (And.intro hYab (And.intro hd0 (And.intro hP0 (And.intro hPy (And.intro g1 g2))))))))
  replace G1 := hid G1
  clear hNP hY hH1 hYab hd0 hP0 hPy g1 g2 hlo hV0 hHY ht0 hpq hQ0 hP hQ ha hb hH ht hU hV hc hd h0 hl hy

  go_wp2_with fail
  go_loopw [15, 16] (fun q r wr => ∃ qi ri : Int, q = .int .u64 qi ∧ r = .int .u64 ri ∧ Guess U c a b qi ri ∧ w = wr) (fun q _ _ => (intOf q).toNat)
  case atStart => exact ⟨k, r, by go_num, by go_num, G1.out, rfl⟩
  case round =>
    obtain ⟨q, r, rfl, rfl, g, rfl⟩ := hrel
    have hH := HM.out.2.2.1
    have hw1 : IntKind.u64.wrap (r + a) = r + a := by have := g.r0; have := g.r1; have := hH.a0; have := hH.a1; rw [IntKind.wrap_u64]; omega
    by_cases hge : 4294967296 ≤ q
    · skip
      have hw2 : IntKind.u64.wrap (q - 1) = q - 1 := by have := g.q0; have := g.q1; have := g.less hH (Or.inl hge); rw [IntKind.wrap_u64]; omega
      by_cases hbr : 4294967296 ≤ r + a
      · have hq := g.stop hH (Or.inl hge) hbr
        replace hq := hid hq
        replace g := hid g
        replace hH := hid hH
        obtain ⟨x1, x2, x3, U2, F1, F2, F3, F4, fs, f0, f1, f2, f3⟩ := hH.out.rest HM.out.2.2.2.1 hq.out
        have hH2 := hH.out.second HM.out.2.2.2.2.1 f0 (by rw [← HM.out.2.2.2.1]; exact f1)
        obtain ⟨k2, m2, r2, F5, F6, F7, F8, G2⟩ := hH2.start
        have HQ := hid (And.intro fs (And.intro f2 f3))
        replace hH2 := hid hH2
        replace G2 := hid G2
        clear fs f0 f1 f2 f3 hq hH g
        go_wp2_with fail
        go_loopw [18, 16] (fun q r wr => ∃ qi ri : Int, q = .int .u64 qi ∧ r = .int .u64 ri ∧ Guess U2 d a b qi ri ∧ w = wr) (fun q _ _ => (intOf q).toNat)
        case atStart => exact ⟨k2, r2, by go_num, by go_num, G2.out, rfl⟩
        case round =>
          obtain ⟨qi, ri, rfl, rfl, gi, rfl⟩ := hrel
          have hHi := hH2.out
          have hw1 : IntKind.u64.wrap (ri + a) = ri + a := by have := gi.r0; have := gi.r1; have := hHi.a0; have := hHi.a1; rw [IntKind.wrap_u64]; omega
          by_cases hge : 4294967296 ≤ qi
          · skip
            have hw2 : IntKind.u64.wrap (qi - 1) = qi - 1 := by have := gi.q0; have := gi.q1; have := gi.less hHi (Or.inl hge); rw [IntKind.wrap_u64]; omega
            by_cases hbr : 4294967296 ≤ ri + a
            · have hqi := gi.stop hHi (Or.inl hge) hbr
              replace hqi := hid hqi
              replace gi := hid gi
              replace hHi := hid hHi
              obtain ⟨y1, T1, T2⟩ := wrap_pair HQ.out.2.1 HQ.out.2.2 (q := (q - 1))  (k := (qi - 1)) (by rw [hqi.out]; exact Int.ediv_nonneg (by have := hHi.out.u0; have := hHi.out.c0; omega) (by have := hHi.out.pos; omega)) (by rw [hqi.out]; exact hHi.out.most)
              obtain ⟨x4, x5, x6, R2, T3, T4, T5, T6, fs, f0, f1, _, _⟩ := hHi.out.rest HM.out.2.2.2.1 hqi.out
              have hfin := fin_div (N := hi * 18446744073709551616 + lo) (y := y) (P := P) (K := (q - 1) * 4294967296 + (qi - 1)) (R := R2) HM.out.2.2.2.2.2.1 HM.out.2.2.2.2.2.2.1 (by
                rw [HM.out.1, ← HM.out.2.1, HQ.out.1, Int.add_mul ((q - 1) * 4294967296), Int.mul_assoc, Int.mul_comm 4294967296 Y, ← Int.mul_assoc]
                omega) f0 (by rw [← HM.out.2.1]; exact f1)
              replace hfin := hid hfin
              clear fs f0 f1
              go_wp2_with fail
              go_ret2
              rw [← hfin.out.1, ← hfin.out.2]
              exact ⟨rfl, 0, rfl⟩
            · have gn := gi.next hHi (Or.inl hge) (by omega)
              have hql := gi.less hHi (Or.inl hge)
              replace hql := hid hql
              replace gn := hid gn
              replace gi := hid gi
              replace hHi := hid hHi
              go_wp2_with fail
              go_roundw
              case rel => exact ⟨qi - 1, ri + a, by go_num, by go_num, gn.out, by trivial⟩
              case measure => have := hql.out; simp [intOf]; omega
          · have hw3 : IntKind.u64.wrap (qi * b) = qi * b := by have := mul_lt_half gi.q0 (by omega) hHi.b0 hHi.b1; rw [IntKind.wrap_u64]; omega
            have hw4 : IntKind.u64.wrap (4294967296 * ri) = 4294967296 * ri := by have := gi.r0; have := gi.r1; rw [IntKind.wrap_u64]; omega
            have hw5 : IntKind.u64.wrap (4294967296 * ri + d) = 4294967296 * ri + d := by have := gi.r0; have := gi.r1; have := hHi.c0; have := hHi.c1; rw [IntKind.wrap_u64]; omega
            by_cases hgt : 4294967296 * ri + d < qi * b
            · skip
              have hw2 : IntKind.u64.wrap (qi - 1) = qi - 1 := by have := gi.q0; have := gi.q1; have := gi.less hHi (Or.inr hgt); rw [IntKind.wrap_u64]; omega
              by_cases hbr : 4294967296 ≤ ri + a
              · have hqi := gi.stop hHi (Or.inr hgt) hbr
                replace hqi := hid hqi
                replace gi := hid gi
                replace hHi := hid hHi
                obtain ⟨y1, T1, T2⟩ := wrap_pair HQ.out.2.1 HQ.out.2.2 (q := (q - 1))  (k := (qi - 1)) (by rw [hqi.out]; exact Int.ediv_nonneg (by have := hHi.out.u0; have := hHi.out.c0; omega) (by have := hHi.out.pos; omega)) (by rw [hqi.out]; exact hHi.out.most)
                obtain ⟨x4, x5, x6, R2, T3, T4, T5, T6, fs, f0, f1, _, _⟩ := hHi.out.rest HM.out.2.2.2.1 hqi.out
                have hfin := fin_div (N := hi * 18446744073709551616 + lo) (y := y) (P := P) (K := (q - 1) * 4294967296 + (qi - 1)) (R := R2) HM.out.2.2.2.2.2.1 HM.out.2.2.2.2.2.2.1 (by
                  rw [HM.out.1, ← HM.out.2.1, HQ.out.1, Int.add_mul ((q - 1) * 4294967296), Int.mul_assoc, Int.mul_comm 4294967296 Y, ← Int.mul_assoc]
                  omega) f0 (by rw [← HM.out.2.1]; exact f1)
                replace hfin := hid hfin
                clear fs f0 f1
                go_wp2_with fail
                go_ret2
                rw [← hfin.out.1, ← hfin.out.2]
                exact ⟨rfl, 0, rfl⟩
              · have gn := gi.next hHi (Or.inr hgt) (by omega)
                have hql := gi.less hHi (Or.inr hgt)
                replace hql := hid hql
                replace gn := hid gn
                replace gi := hid gi
                replace hHi := hid hHi
                go_wp2_with fail
                go_roundw
                case rel => exact ⟨qi - 1, ri + a, by go_num, by go_num, gn.out, by trivial⟩
                case measure => have := hql.out; simp [intOf]; omega
            · have hqi := gi.done hHi (by omega)
              replace hqi := hid hqi
              replace gi := hid gi
              replace hHi := hid hHi
              obtain ⟨y1, T1, T2⟩ := wrap_pair HQ.out.2.1 HQ.out.2.2 (q := (q - 1))  (k := qi) (by rw [hqi.out]; exact Int.ediv_nonneg (by have := hHi.out.u0; have := hHi.out.c0; omega) (by have := hHi.out.pos; omega)) (by rw [hqi.out]; exact hHi.out.most)
              obtain ⟨x4, x5, x6, R2, T3, T4, T5, T6, fs, f0, f1, _, _⟩ := hHi.out.rest HM.out.2.2.2.1 hqi.out
              have hfin := fin_div (N := hi * 18446744073709551616 + lo) (y := y) (P := P) (K := (q - 1) * 4294967296 + qi) (R := R2) HM.out.2.2.2.2.2.1 HM.out.2.2.2.2.2.2.1 (by
                rw [HM.out.1, ← HM.out.2.1, HQ.out.1, Int.add_mul ((q - 1) * 4294967296), Int.mul_assoc, Int.mul_comm 4294967296 Y, ← Int.mul_assoc]
                omega) f0 (by rw [← HM.out.2.1]; exact f1)
              replace hfin := hid hfin
              clear fs f0 f1
              go_wp2_with fail
              go_ret2
              rw [← hfin.out.1, ← hfin.out.2]
              exact ⟨rfl, 0, rfl⟩
      · have gn := g.next hH (Or.inl hge) (by omega)
        have hql := g.less hH (Or.inl hge)
        replace hql := hid hql
        replace gn := hid gn
        replace g := hid g
        replace hH := hid hH
        go_wp2_with fail
        go_roundw
        case rel => exact ⟨q - 1, r + a, by go_num, by go_num, gn.out, by trivial⟩
        case measure => have := hql.out; simp [intOf]; omega
    · have hw3 : IntKind.u64.wrap (q * b) = q * b := by have := mul_lt_half g.q0 (by omega) hH.b0 hH.b1; rw [IntKind.wrap_u64]; omega
      have hw4 : IntKind.u64.wrap (4294967296 * r) = 4294967296 * r := by have := g.r0; have := g.r1; rw [IntKind.wrap_u64]; omega
      have hw5 : IntKind.u64.wrap (4294967296 * r + c) = 4294967296 * r + c := by have := g.r0; have := g.r1; have := hH.c0; have := hH.c1; rw [IntKind.wrap_u64]; omega
      by_cases hgt : 4294967296 * r + c < q * b
      · skip
        have hw2 : IntKind.u64.wrap (q - 1) = q - 1 := by have := g.q0; have := g.q1; have := g.less hH (Or.inr hgt); rw [IntKind.wrap_u64]; omega
        by_cases hbr : 4294967296 ≤ r + a
        · have hq := g.stop hH (Or.inr hgt) hbr
          replace hq := hid hq
          replace g := hid g
          replace hH := hid hH
          obtain ⟨x1, x2, x3, U2, F1, F2, F3, F4, fs, f0, f1, f2, f3⟩ := hH.out.rest HM.out.2.2.2.1 hq.out
          have hH2 := hH.out.second HM.out.2.2.2.2.1 f0 (by rw [← HM.out.2.2.2.1]; exact f1)
          obtain ⟨k2, m2, r2, F5, F6, F7, F8, G2⟩ := hH2.start
          have HQ := hid (And.intro fs (And.intro f2 f3))
          replace hH2 := hid hH2
          replace G2 := hid G2
          clear fs f0 f1 f2 f3 hq hH g
          go_wp2_with fail
          go_loopw [18, 16] (fun q r wr => ∃ qi ri : Int, q = .int .u64 qi ∧ r = .int .u64 ri ∧ Guess U2 d a b qi ri ∧ w = wr) (fun q _ _ => (intOf q).toNat)
          case atStart => exact ⟨k2, r2, by go_num, by go_num, G2.out, rfl⟩
          case round =>
            obtain ⟨qi, ri, rfl, rfl, gi, rfl⟩ := hrel
            have hHi := hH2.out
            have hw1 : IntKind.u64.wrap (ri + a) = ri + a := by have := gi.r0; have := gi.r1; have := hHi.a0; have := hHi.a1; rw [IntKind.wrap_u64]; omega
            by_cases hge : 4294967296 ≤ qi
            · skip
              have hw2 : IntKind.u64.wrap (qi - 1) = qi - 1 := by have := gi.q0; have := gi.q1; have := gi.less hHi (Or.inl hge); rw [IntKind.wrap_u64]; omega
              by_cases hbr : 4294967296 ≤ ri + a
              · have hqi := gi.stop hHi (Or.inl hge) hbr
                replace hqi := hid hqi
                replace gi := hid gi
                replace hHi := hid hHi
                obtain ⟨y1, T1, T2⟩ := wrap_pair HQ.out.2.1 HQ.out.2.2 (q := (q - 1))  (k := (qi - 1)) (by rw [hqi.out]; exact Int.ediv_nonneg (by have := hHi.out.u0; have := hHi.out.c0; omega) (by have := hHi.out.pos; omega)) (by rw [hqi.out]; exact hHi.out.most)
                obtain ⟨x4, x5, x6, R2, T3, T4, T5, T6, fs, f0, f1, _, _⟩ := hHi.out.rest HM.out.2.2.2.1 hqi.out
                have hfin := fin_div (N := hi * 18446744073709551616 + lo) (y := y) (P := P) (K := (q - 1) * 4294967296 + (qi - 1)) (R := R2) HM.out.2.2.2.2.2.1 HM.out.2.2.2.2.2.2.1 (by
                  rw [HM.out.1, ← HM.out.2.1, HQ.out.1, Int.add_mul ((q - 1) * 4294967296), Int.mul_assoc, Int.mul_comm 4294967296 Y, ← Int.mul_assoc]
                  omega) f0 (by rw [← HM.out.2.1]; exact f1)
                replace hfin := hid hfin
                clear fs f0 f1
                go_wp2_with fail
                go_ret2
                rw [← hfin.out.1, ← hfin.out.2]
                exact ⟨rfl, 0, rfl⟩
              · have gn := gi.next hHi (Or.inl hge) (by omega)
                have hql := gi.less hHi (Or.inl hge)
                replace hql := hid hql
                replace gn := hid gn
                replace gi := hid gi
                replace hHi := hid hHi
                go_wp2_with fail
                go_roundw
                case rel => exact ⟨qi - 1, ri + a, by go_num, by go_num, gn.out, by trivial⟩
                case measure => have := hql.out; simp [intOf]; omega
            · have hw3 : IntKind.u64.wrap (qi * b) = qi * b := by have := mul_lt_half gi.q0 (by omega) hHi.b0 hHi.b1; rw [IntKind.wrap_u64]; omega
              have hw4 : IntKind.u64.wrap (4294967296 * ri) = 4294967296 * ri := by have := gi.r0; have := gi.r1; rw [IntKind.wrap_u64]; omega
              have hw5 : IntKind.u64.wrap (4294967296 * ri + d) = 4294967296 * ri + d := by have := gi.r0; have := gi.r1; have := hHi.c0; have := hHi.c1; rw [IntKind.wrap_u64]; omega
              by_cases hgt : 4294967296 * ri + d < qi * b
              · skip
                have hw2 : IntKind.u64.wrap (qi - 1) = qi - 1 := by have := gi.q0; have := gi.q1; have := gi.less hHi (Or.inr hgt); rw [IntKind.wrap_u64]; omega
                by_cases hbr : 4294967296 ≤ ri + a
                · have hqi := gi.stop hHi (Or.inr hgt) hbr
                  replace hqi := hid hqi
                  replace gi := hid gi
                  replace hHi := hid hHi
                  obtain ⟨y1, T1, T2⟩ := wrap_pair HQ.out.2.1 HQ.out.2.2 (q := (q - 1))  (k := (qi - 1)) (by rw [hqi.out]; exact Int.ediv_nonneg (by have := hHi.out.u0; have := hHi.out.c0; omega) (by have := hHi.out.pos; omega)) (by rw [hqi.out]; exact hHi.out.most)
                  obtain ⟨x4, x5, x6, R2, T3, T4, T5, T6, fs, f0, f1, _, _⟩ := hHi.out.rest HM.out.2.2.2.1 hqi.out
                  have hfin := fin_div (N := hi * 18446744073709551616 + lo) (y := y) (P := P) (K := (q - 1) * 4294967296 + (qi - 1)) (R := R2) HM.out.2.2.2.2.2.1 HM.out.2.2.2.2.2.2.1 (by
                    rw [HM.out.1, ← HM.out.2.1, HQ.out.1, Int.add_mul ((q - 1) * 4294967296), Int.mul_assoc, Int.mul_comm 4294967296 Y, ← Int.mul_assoc]
                    omega) f0 (by rw [← HM.out.2.1]; exact f1)
                  replace hfin := hid hfin
                  clear fs f0 f1
                  go_wp2_with fail
                  go_ret2
                  rw [← hfin.out.1, ← hfin.out.2]
                  exact ⟨rfl, 0, rfl⟩
                · have gn := gi.next hHi (Or.inr hgt) (by omega)
                  have hql := gi.less hHi (Or.inr hgt)
                  replace hql := hid hql
                  replace gn := hid gn
                  replace gi := hid gi
                  replace hHi := hid hHi
                  go_wp2_with fail
                  go_roundw
                  case rel => exact ⟨qi - 1, ri + a, by go_num, by go_num, gn.out, by trivial⟩
                  case measure => have := hql.out; simp [intOf]; omega
              · have hqi := gi.done hHi (by omega)
                replace hqi := hid hqi
                replace gi := hid gi
                replace hHi := hid hHi
                obtain ⟨y1, T1, T2⟩ := wrap_pair HQ.out.2.1 HQ.out.2.2 (q := (q - 1))  (k := qi) (by rw [hqi.out]; exact Int.ediv_nonneg (by have := hHi.out.u0; have := hHi.out.c0; omega) (by have := hHi.out.pos; omega)) (by rw [hqi.out]; exact hHi.out.most)
                obtain ⟨x4, x5, x6, R2, T3, T4, T5, T6, fs, f0, f1, _, _⟩ := hHi.out.rest HM.out.2.2.2.1 hqi.out
                have hfin := fin_div (N := hi * 18446744073709551616 + lo) (y := y) (P := P) (K := (q - 1) * 4294967296 + qi) (R := R2) HM.out.2.2.2.2.2.1 HM.out.2.2.2.2.2.2.1 (by
                  rw [HM.out.1, ← HM.out.2.1, HQ.out.1, Int.add_mul ((q - 1) * 4294967296), Int.mul_assoc, Int.mul_comm 4294967296 Y, ← Int.mul_assoc]
                  omega) f0 (by rw [← HM.out.2.1]; exact f1)
                replace hfin := hid hfin
                clear fs f0 f1
                go_wp2_with fail
                go_ret2
                rw [← hfin.out.1, ← hfin.out.2]
                exact ⟨rfl, 0, rfl⟩
        · have gn := g.next hH (Or.inr hgt) (by omega)
          have hql := g.less hH (Or.inr hgt)
          replace hql := hid hql
          replace gn := hid gn
          replace g := hid g
          replace hH := hid hH
          go_wp2_with fail
          go_roundw
          case rel => exact ⟨q - 1, r + a, by go_num, by go_num, gn.out, by trivial⟩
          case measure => have := hql.out; simp [intOf]; omega
      · have hq := g.done hH (by omega)
        replace hq := hid hq
        replace g := hid g
        replace hH := hid hH
        obtain ⟨x1, x2, x3, U2, F1, F2, F3, F4, fs, f0, f1, f2, f3⟩ := hH.out.rest HM.out.2.2.2.1 hq.out
        have hH2 := hH.out.second HM.out.2.2.2.2.1 f0 (by rw [← HM.out.2.2.2.1]; exact f1)
        obtain ⟨k2, m2, r2, F5, F6, F7, F8, G2⟩ := hH2.start
        have HQ := hid (And.intro fs (And.intro f2 f3))
        replace hH2 := hid hH2
        replace G2 := hid G2
        clear fs f0 f1 f2 f3 hq hH g
        go_wp2_with fail
        go_loopw [18, 16] (fun q r wr => ∃ qi ri : Int, q = .int .u64 qi ∧ r = .int .u64 ri ∧ Guess U2 d a b qi ri ∧ w = wr) (fun q _ _ => (intOf q).toNat)
        case atStart => exact ⟨k2, r2, by go_num, by go_num, G2.out, rfl⟩
        case round =>
          obtain ⟨qi, ri, rfl, rfl, gi, rfl⟩ := hrel
          have hHi := hH2.out
          have hw1 : IntKind.u64.wrap (ri + a) = ri + a := by have := gi.r0; have := gi.r1; have := hHi.a0; have := hHi.a1; rw [IntKind.wrap_u64]; omega
          by_cases hge : 4294967296 ≤ qi
          · skip
            have hw2 : IntKind.u64.wrap (qi - 1) = qi - 1 := by have := gi.q0; have := gi.q1; have := gi.less hHi (Or.inl hge); rw [IntKind.wrap_u64]; omega
            by_cases hbr : 4294967296 ≤ ri + a
            · have hqi := gi.stop hHi (Or.inl hge) hbr
              replace hqi := hid hqi
              replace gi := hid gi
              replace hHi := hid hHi
              obtain ⟨y1, T1, T2⟩ := wrap_pair HQ.out.2.1 HQ.out.2.2 (q := q)  (k := (qi - 1)) (by rw [hqi.out]; exact Int.ediv_nonneg (by have := hHi.out.u0; have := hHi.out.c0; omega) (by have := hHi.out.pos; omega)) (by rw [hqi.out]; exact hHi.out.most)
              obtain ⟨x4, x5, x6, R2, T3, T4, T5, T6, fs, f0, f1, _, _⟩ := hHi.out.rest HM.out.2.2.2.1 hqi.out
              have hfin := fin_div (N := hi * 18446744073709551616 + lo) (y := y) (P := P) (K := q * 4294967296 + (qi - 1)) (R := R2) HM.out.2.2.2.2.2.1 HM.out.2.2.2.2.2.2.1 (by
                rw [HM.out.1, ← HM.out.2.1, HQ.out.1, Int.add_mul (q * 4294967296), Int.mul_assoc, Int.mul_comm 4294967296 Y, ← Int.mul_assoc]
                omega) f0 (by rw [← HM.out.2.1]; exact f1)
              replace hfin := hid hfin
              clear fs f0 f1
              go_wp2_with fail
              go_ret2
              rw [← hfin.out.1, ← hfin.out.2]
              exact ⟨rfl, 0, rfl⟩
            · have gn := gi.next hHi (Or.inl hge) (by omega)
              have hql := gi.less hHi (Or.inl hge)
              replace hql := hid hql
              replace gn := hid gn
              replace gi := hid gi
              replace hHi := hid hHi
              go_wp2_with fail
              go_roundw
              case rel => exact ⟨qi - 1, ri + a, by go_num, by go_num, gn.out, by trivial⟩
              case measure => have := hql.out; simp [intOf]; omega
          · have hw3 : IntKind.u64.wrap (qi * b) = qi * b := by have := mul_lt_half gi.q0 (by omega) hHi.b0 hHi.b1; rw [IntKind.wrap_u64]; omega
            have hw4 : IntKind.u64.wrap (4294967296 * ri) = 4294967296 * ri := by have := gi.r0; have := gi.r1; rw [IntKind.wrap_u64]; omega
            have hw5 : IntKind.u64.wrap (4294967296 * ri + d) = 4294967296 * ri + d := by have := gi.r0; have := gi.r1; have := hHi.c0; have := hHi.c1; rw [IntKind.wrap_u64]; omega
            by_cases hgt : 4294967296 * ri + d < qi * b
            · skip
              have hw2 : IntKind.u64.wrap (qi - 1) = qi - 1 := by have := gi.q0; have := gi.q1; have := gi.less hHi (Or.inr hgt); rw [IntKind.wrap_u64]; omega
              by_cases hbr : 4294967296 ≤ ri + a
              · have hqi := gi.stop hHi (Or.inr hgt) hbr
                replace hqi := hid hqi
                replace gi := hid gi
                replace hHi := hid hHi
                obtain ⟨y1, T1, T2⟩ := wrap_pair HQ.out.2.1 HQ.out.2.2 (q := q)  (k := (qi - 1)) (by rw [hqi.out]; exact Int.ediv_nonneg (by have := hHi.out.u0; have := hHi.out.c0; omega) (by have := hHi.out.pos; omega)) (by rw [hqi.out]; exact hHi.out.most)
                obtain ⟨x4, x5, x6, R2, T3, T4, T5, T6, fs, f0, f1, _, _⟩ := hHi.out.rest HM.out.2.2.2.1 hqi.out
                have hfin := fin_div (N := hi * 18446744073709551616 + lo) (y := y) (P := P) (K := q * 4294967296 + (qi - 1)) (R := R2) HM.out.2.2.2.2.2.1 HM.out.2.2.2.2.2.2.1 (by
                  rw [HM.out.1, ← HM.out.2.1, HQ.out.1, Int.add_mul (q * 4294967296), Int.mul_assoc, Int.mul_comm 4294967296 Y, ← Int.mul_assoc]
                  omega) f0 (by rw [← HM.out.2.1]; exact f1)
                replace hfin := hid hfin
                clear fs f0 f1
                go_wp2_with fail
                go_ret2
                rw [← hfin.out.1, ← hfin.out.2]
                exact ⟨rfl, 0, rfl⟩
              · have gn := gi.next hHi (Or.inr hgt) (by omega)
                have hql := gi.less hHi (Or.inr hgt)
                replace hql := hid hql
                replace gn := hid gn
                replace gi := hid gi
                replace hHi := hid hHi
                go_wp2_with fail
                go_roundw
                case rel => exact ⟨qi - 1, ri + a, by go_num, by go_num, gn.out, by trivial⟩
                case measure => have := hql.out; simp [intOf]; omega
            · have hqi := gi.done hHi (by omega)
              replace hqi := hid hqi
              replace gi := hid gi
              replace hHi := hid hHi
              obtain ⟨y1, T1, T2⟩ := wrap_pair HQ.out.2.1 HQ.out.2.2 (q := q)  (k := qi) (by rw [hqi.out]; exact Int.ediv_nonneg (by have := hHi.out.u0; have := hHi.out.c0; omega) (by have := hHi.out.pos; omega)) (by rw [hqi.out]; exact hHi.out.most)
              obtain ⟨x4, x5, x6, R2, T3, T4, T5, T6, fs, f0, f1, _, _⟩ := hHi.out.rest HM.out.2.2.2.1 hqi.out
              have hfin := fin_div (N := hi * 18446744073709551616 + lo) (y := y) (P := P) (K := q * 4294967296 + qi) (R := R2) HM.out.2.2.2.2.2.1 HM.out.2.2.2.2.2.2.1 (by
                rw [HM.out.1, ← HM.out.2.1, HQ.out.1, Int.add_mul (q * 4294967296), Int.mul_assoc, Int.mul_comm 4294967296 Y, ← Int.mul_assoc]
                omega) f0 (by rw [← HM.out.2.1]; exact f1)
              replace hfin := hid hfin
              clear fs f0 f1
              go_wp2_with fail
              go_ret2
              rw [← hfin.out.1, ← hfin.out.2]
              exact ⟨rfl, 0, rfl⟩
end Go.Proofs.YtmamedobphlpkaaDoor

namespace Go.Proofs.YtmamedobphlpkaaDoor
open Go.RowKit

theorem div64_any (w : World) (hi lo y : Int) (h0 : 0 ≤ hi ∧ hi < y) (hl : 0 ≤ lo ∧ lo < 18446744073709551616) (hy : y < 18446744073709551616) :
    Calls Tryd.prog 80 #[.int .u64 hi, .int .u64 lo, .int .u64 y] w fun e w' =>
      e = .returned (.tuple #[.int .u64 ((hi * 18446744073709551616 + lo) / y), .int .u64 ((hi * 18446744073709551616 + lo) % y)]) ∧ ∃ n, w' = w.drewN n := by
  by_cases h : hi = 0
  · subst h
    rw [Int.zero_mul, Int.zero_add]
    exact div64_small w lo y hl ⟨by omega, hy⟩
  · exact div64_pos w hi lo y ⟨by omega, h0.2⟩ hl hy

set_option maxHeartbeats 1000000 in
theorem by_one (w : World) (mh ml nl : Int) (hmh : 0 ≤ mh ∧ mh < 18446744073709551616) (hml : 0 ≤ ml ∧ ml < 18446744073709551616) (hn : 0 < nl ∧ nl < 18446744073709551616) :
    Calls Tryd.prog 91 #[.agg #[.int .u64 mh, .int .u64 ml], .agg #[.int .u64 0, .int .u64 nl]] w fun e w' =>
      e = .returned (.tuple #[.agg #[.int .u64 (mh / nl), .int .u64 ((mh % nl * 18446744073709551616 + ml) / nl)], .agg #[.int .u64 0, .int .u64 ((mh % nl * 18446744073709551616 + ml) % nl)]]) ∧ Below w.heap.size w w' := by
  have hA := fun w => div64_small w mh nl hmh hn
  have hB := fun w => div64_any w (mh % nl) ml nl ⟨Int.emod_nonneg _ (by omega), Int.emod_lt_of_pos _ hn.1⟩ hml hn.2
  obtain ⟨qH, hq1⟩ : ∃ q1, q1 = mh / nl := ⟨_, rfl⟩
  obtain ⟨rH, hr1⟩ : ∃ r1, r1 = mh % nl := ⟨_, rfl⟩
  rw [← hq1, ← hr1] at hA
  rw [← hr1] at hB
  rw [← hq1, ← hr1]
  obtain ⟨q, hq⟩ : ∃ q, q = (rH * 18446744073709551616 + ml) / nl := ⟨_, rfl⟩
  obtain ⟨r, hr⟩ : ∃ r, r = (rH * 18446744073709551616 + ml) % nl := ⟨_, rfl⟩
  rw [← hq, ← hr] at hB ⊢
  have HA := hid hA
  have HB := hid hB
  clear hA hB hq hr hq1 hr1 hmh hml hn
  have hQ0 := (Row.new ((w.alloc (.cells #[.int .u64 mh, .int .u64 ml] 79)).alloc (.cells #[.int .u64 0, .int .u64 nl] 79)) 79 #[.int .u64 0, .int .u64 0]).alloc (.cells #[.int .u64 0, .int .u64 0] 79)
  have hR0 := Row.new (((w.alloc (.cells #[.int .u64 mh, .int .u64 ml] 79)).alloc (.cells #[.int .u64 0, .int .u64 nl] 79)).alloc (.cells #[.int .u64 0, .int .u64 0] 79)) 79 #[.int .u64 0, .int .u64 0]
  have hM0 := (((Row.new w 79 #[.int .u64 mh, .int .u64 ml]).alloc (.cells #[.int .u64 0, .int .u64 nl] 79)).alloc (.cells #[.int .u64 0, .int .u64 0] 79)).alloc (.cells #[.int .u64 0, .int .u64 0] 79)
  have hN0 := ((Row.new (w.alloc (.cells #[.int .u64 mh, .int .u64 ml] 79)) 79 #[.int .u64 0, .int .u64 nl]).alloc (.cells #[.int .u64 0, .int .u64 0] 79)).alloc (.cells #[.int .u64 0, .int .u64 0] 79)
  have hU0 := ((((Up.refl w).alloc (.cells #[.int .u64 mh, .int .u64 ml] 79)).alloc (.cells #[.int .u64 0, .int .u64 nl] 79)).alloc (.cells #[.int .u64 0, .int .u64 0] 79)).alloc (.cells #[.int .u64 0, .int .u64 0] 79)
  simp only [alloc_size] at hQ0 hR0 hN0
  obtain ⟨V, hV⟩ : ∃ V, V = (((w.alloc (.cells #[.int .u64 mh, .int .u64 ml] 79)).alloc (.cells #[.int .u64 0, .int .u64 nl] 79)).alloc (.cells #[.int .u64 0, .int .u64 0] 79)).alloc (.cells #[.int .u64 0, .int .u64 0] 79) := ⟨_, rfl⟩
  rw [← hV] at hQ0 hR0 hM0 hN0 hU0
  go_enter Tryd.func91, Tryd.ntmps91
  go_wp2_with fail
  rw [← hV]
  refine Calls.mono (HA.out _) ?_; rintro e w1 ⟨rfl, n1, h1⟩
  have hb1 : Below V.heap.size V w1 := by rw [h1]; exact ((Up.refl V).drewN n1).below
  clear h1 hV
  have hQ1 := hQ0.below hb1 hQ0.lt
  have hR1 := hR0.below hb1 hR0.lt
  have hM1 := hM0.below hb1 hM0.lt
  have hN1 := hN0.below hb1 hN0.lt
  have hU1 := hU0.trans hb1
  clear hQ0 hR0 hM0 hN0 hU0 hb1
  have a0 := hQ1.cell 0
  have a1 := hQ1.frozen 0
  have b0 := hR1.cell 1
  have b1 := hR1.frozen 1
  have m1 := hM1.cell 1
  have v1 := hN1.cell 1
  have hQ2 := (hQ1.set 0 (.int .u64 qH)).far (p := ⟨w.heap.size + 1 + 1 + 1, 1, none⟩) (by simp) (.int .u64 rH)
  have hR2 := (hR1.far (p := ⟨w.heap.size + 1 + 1, 0, none⟩) (by simp) (.int .u64 qH)).set 1 (.int .u64 rH)
  have hM2 := (hM1.far (p := ⟨w.heap.size + 1 + 1, 0, none⟩) (by simp; omega) (.int .u64 qH)).far (p := ⟨w.heap.size + 1 + 1 + 1, 1, none⟩) (by simp; omega) (.int .u64 rH)
  have hN2 := (hN1.far (p := ⟨w.heap.size + 1 + 1, 0, none⟩) (by simp) (.int .u64 qH)).far (p := ⟨w.heap.size + 1 + 1 + 1, 1, none⟩) (by simp) (.int .u64 rH)
  have hU2 := (hU1.setCell (p := w.heap.size + 1 + 1) (i := 0) (by omega) (.int .u64 qH)).setCell (p := w.heap.size + 1 + 1 + 1) (i := 1) (by omega) (.int .u64 rH)
  obtain ⟨V2, hV2⟩ : ∃ V2, V2 = (w1.setCell ⟨w.heap.size + 1 + 1, 0, none⟩ (.int .u64 qH)).setCell ⟨w.heap.size + 1 + 1 + 1, 1, none⟩ (.int .u64 rH) := ⟨_, rfl⟩
  rw [← hV2] at hQ2 hR2 hM2 hN2 hU2
  have x1 := hM2.cell 1
  have x2 := hN2.cell 1
  have x3 := hR2.cell 1
  rw [hV2] at x1 x2 x3
  simp at a0 a1 b0 b1 m1 v1 x1 x2 x3
  clear hQ1 hR1 hM1 hN1 hU1
  go_wp2_with fail
  rw [← hV2]
  clear x1 x2 x3 a0 a1 b0 b1 m1 v1 hM2 hN2 hV2
  simp only [List.setIfInBounds_toArray, List.set_cons_zero, List.set_cons_succ] at hQ2 hR2
  refine Calls.mono (HB.out _) ?_; rintro e w3 ⟨rfl, n2, h2⟩
  have hb2 : Below V2.heap.size V2 w3 := by rw [h2]; exact ((Up.refl V2).drewN n2).below
  clear h2
  have hQ3 := hQ2.below hb2 hQ2.lt
  have hR3 := hR2.below hb2 hR2.lt
  have hU3 := hU2.trans hb2
  clear hQ2 hR2 hU2 hb2
  have a0 := hQ3.cell 1
  have a1 := hQ3.frozen 1
  have b0 := hR3.cell 1
  have b1 := hR3.frozen 1
  have hQ4 := (hQ3.set 1 (.int .u64 q)).far (p := ⟨w.heap.size + 1 + 1 + 1, 1, none⟩) (by simp) (.int .u64 r)
  have hR4 := (hR3.far (p := ⟨w.heap.size + 1 + 1, 1, none⟩) (by simp) (.int .u64 q)).set 1 (.int .u64 r)
  have hU4 := (hU3.setCell (p := w.heap.size + 1 + 1) (i := 1) (by omega) (.int .u64 q)).setCell (p := w.heap.size + 1 + 1 + 1) (i := 1) (by omega) (.int .u64 r)
  obtain ⟨V4, hV4⟩ : ∃ V4, V4 = (w3.setCell ⟨w.heap.size + 1 + 1, 1, none⟩ (.int .u64 q)).setCell ⟨w.heap.size + 1 + 1 + 1, 1, none⟩ (.int .u64 r) := ⟨_, rfl⟩
  rw [← hV4] at hQ4 hR4 hU4
  simp at a0 a1 b0 b1
  simp only [List.setIfInBounds_toArray, List.set_cons_zero, List.set_cons_succ] at hQ4 hR4
  clear hQ3 hR3 hU3
  go_wp2_with fail
  rw [← hV4]
  clear a0 a1 b0 b1 hV4
  have hQ5 : Row V4.drew (w.heap.size + 1 + 1) 79 #[.int .u64 qH, .int .u64 q] := hQ4.drew
  have hR5 : Row V4.drew (w.heap.size + 1 + 1 + 1) 79 #[.int .u64 0, .int .u64 r] := hR4.drew
  have hU5 := hU4.drew
  obtain ⟨y0, y1, y2⟩ := hQ4.two (.int .u64 qH) (.int .u64 q)
  have hR8 := (hR4.far (p := ⟨w.heap.size + 1 + 1, 0, none⟩) (by simp) (.int .u64 qH)).far (p := ⟨w.heap.size + 1 + 1, 1, none⟩) (by simp) (.int .u64 q)
  obtain ⟨z0, z1, z2⟩ := hR8.two (.int .u64 0) (.int .u64 r)
  have Y0 := hid y0
  have Y1 := hid y1
  have Z0 := hid z0
  have Z1 := hid z1
  clear hQ4 hR4 hU4 hR8 y0 y1 y2 z0 z1 z2
  obtain ⟨d0, d1, d2⟩ := hQ5.two (.int .u64 qH) (.int .u64 q)
  have hQ6 := (hQ5.set 0 (.int .u64 qH)).set 1 (.int .u64 q)
  have hR6 := (hR5.far (p := ⟨w.heap.size + 1 + 1, 0, none⟩) (by simp) (.int .u64 qH)).far (p := ⟨w.heap.size + 1 + 1, 1, none⟩) (by simp) (.int .u64 q)
  obtain ⟨e0, e1, e2⟩ := hR6.two (.int .u64 0) (.int .u64 r)
  have hQ7 := (hQ6.far (p := ⟨w.heap.size + 1 + 1 + 1, 0, none⟩) (by simp) (.int .u64 0)).far (p := ⟨w.heap.size + 1 + 1 + 1, 1, none⟩) (by simp) (.int .u64 r)
  have q0 := hQ5.cell 0
  have q1 := hQ5.cell 1
  have q2 := hQ5.frozen 0
  have q3 := hQ5.frozen 1
  have r0 := hR5.cell 0
  have r1 := hR5.cell 1
  have r2 := hR6.cell 0
  have r3 := hR6.cell 1
  have r4 := hR6.frozen 0
  have r5 := hR6.frozen 1
  have t0 := hQ7.cell 0
  have t1 := hQ7.cell 1
  have hU7 := (((hU5.setCell (p := w.heap.size + 1 + 1) (i := 0) (by omega) (.int .u64 qH)).setCell (p := w.heap.size + 1 + 1) (i := 1) (by omega) (.int .u64 q)).setCell (p := w.heap.size + 1 + 1 + 1) (i := 0) (by omega) (.int .u64 0)).setCell (p := w.heap.size + 1 + 1 + 1) (i := 1) (by omega) (.int .u64 r)
  simp at q0 q1 q2 q3 r0 r1 r2 r3 r4 r5 t0 t1 d0 d1 d2 e0 e1 e2
  clear hQ5 hQ6 hR5 hR6 hQ7 hU5
  go_region
  all_goals
    go_wp2_with fail
    simp [bodyPost, results, Tryd.results91, go_sem, Y0.out, Y1.out, Z0.out, Z1.out]
    first | exact hU7.below | exact ⟨hU7.below.os, hU7.below.tape, hU7.below.output, hU7.below.size, hU7.below.block⟩ | trace_state
end Go.Proofs.YtmamedobphlpkaaDoor

namespace Go.Proofs.YtmamedobphlpkaaDoor

theorem guess_near {M N T : Int} (hM : 0 ≤ M) (hT : 0 < T) (hTN : T ≤ N) (h : M * (N - T) < N * T) : M / N ≤ M / T ∧ M / T ≤ M / N + 1 := by
  have hN : 0 < N := by omega
  constructor
  · apply Int.le_ediv_of_mul_le hT
    have h1 := Int.emod_add_mul_ediv M N
    have h2 := Int.emod_nonneg M (show N ≠ 0 by omega)
    have h3 : M / N * T ≤ M / N * N := Int.mul_le_mul_of_nonneg_left hTN (Int.ediv_nonneg hM (by omega))
    rw [Int.mul_comm N] at h1
    omega
  · have hlt : M / T < M / N + 2 := by
      apply Int.ediv_lt_of_lt_mul hT
      apply Int.lt_of_mul_lt_mul_right (a := N) _ (by omega)
      have h1 : M < (M / N + 1) * N := by
        have e := Int.emod_add_mul_ediv M N
        have e1 := Int.emod_lt_of_pos M hN
        rw [Int.add_mul, Int.one_mul, Int.mul_comm]
        omega
      have h2 : M * N < M * T + N * T := by rw [Int.mul_sub] at h; omega
      have h3 : M * T ≤ (M / N + 1) * N * T := Int.mul_le_mul_of_nonneg_right (by omega) (by omega)
      have h4 : (M / N + 2) * T * N = (M / N + 1) * N * T + N * T := by
        rw [show M / N + 2 = (M / N + 1) + 1 by omega, Int.add_mul _ 1, Int.one_mul, Int.add_mul, Int.mul_assoc (M / N + 1) T N, Int.mul_comm T N, Int.mul_assoc (M / N + 1) N T]
      omega
    omega

theorem top_near {M nh nl P Q : Int} (hM : 0 ≤ M ∧ M < 340282366920938463463374607431768211456) (hnh : 0 < nh) (hnl : 0 ≤ nl) (hQ : Q = 2 ∨ 4 ≤ Q) (hPQ : P * Q = 18446744073709551616) (htop : 9223372036854775808 ≤ nh * P + nl / Q) :
    M / (nh * 18446744073709551616 + nl) ≤ M / ((nh * P + nl / Q) * Q) ∧ M / ((nh * P + nl / Q) * Q) ≤ M / (nh * 18446744073709551616 + nl) + 1 := by
  have hQ0 : 0 < Q := by omega
  obtain ⟨t, ht⟩ : ∃ t, t = nh * P + nl / Q := ⟨_, rfl⟩
  obtain ⟨T, hT⟩ : ∃ T, T = t * Q := ⟨_, rfl⟩
  obtain ⟨N, hN⟩ : ∃ N, N = nh * 18446744073709551616 + nl := ⟨_, rfl⟩
  obtain ⟨D, hD⟩ : ∃ D, D = nl % Q := ⟨_, rfl⟩
  have d0 : 0 ≤ D := by rw [hD]; exact Int.emod_nonneg _ (by omega)
  have d1 : D < Q := by rw [hD]; exact Int.emod_lt_of_pos _ hQ0
  have hNT : N = T + D := by
    have e := Int.emod_add_mul_ediv nl Q
    rw [hN, hT, ht, hD, Int.add_mul, Int.mul_assoc, hPQ, Int.mul_comm (nl / Q)]
    omega
  rw [← ht] at htop ⊢
  rw [← hT, ← hN]
  have hT63 : 9223372036854775808 * Q ≤ T := by rw [hT]; exact Int.mul_le_mul_of_nonneg_right htop (by omega)
  have hT0 : 0 < T := by omega
  apply guess_near hM.1 hT0 (by omega)
  rw [show N - T = D by omega]
  have hTT : T * T ≤ N * T := Int.mul_le_mul_of_nonneg_right (by omega) (by omega)
  rcases hQ with rfl | hQ4
  · have hMD : M * D ≤ M * 1 := Int.mul_le_mul_of_nonneg_left (by omega) hM.1
    have h2 : 18446744073709551616 * 18446744073709551616 ≤ T * T := Int.mul_le_mul (by omega) (by omega) (by decide) (by omega)
    omega
  · have hMD : M * D ≤ M * Q := Int.mul_le_mul_of_nonneg_left (by omega) hM.1
    have hMQ : M * Q < 340282366920938463463374607431768211456 * Q := Int.mul_lt_mul_of_pos_right hM.2 hQ0
    have h2 : 9223372036854775808 * Q * (9223372036854775808 * Q) ≤ T * T := Int.mul_le_mul hT63 hT63 (by omega) (by omega)
    have h3 : 9223372036854775808 * Q * (9223372036854775808 * 4) ≤ 9223372036854775808 * Q * (9223372036854775808 * Q) := Int.mul_le_mul_of_nonneg_left (by omega) (by omega)
    omega

/-- the guess as the program reckons it -/
theorem top_guess {M t q2 Q : Int} (hM : 0 ≤ M) (hq : 0 < q2) (ht : 0 < t) (hQ : Q = q2 * 2) : M / 2 / t / q2 = M / (t * Q) := by
  rw [Int.ediv_ediv_of_nonneg (by omega), Int.ediv_ediv_of_nonneg (by have := Int.mul_pos (show (0:Int) < 2 by decide) ht; omega)]
  congr 1
  rw [hQ, Int.mul_comm 2, Int.mul_assoc]

/-- one less is taken, and mended -/
theorem mend {M N g h : Int} (hM : 0 ≤ M) (hN : 0 < N) (h0 : M / N ≤ g) (h1 : g ≤ M / N + 1) (hh : (0 < g ∧ h = g - 1) ∨ (g = 0 ∧ h = 0)) :
    0 ≤ h ∧ 0 ≤ M - h * N ∧ ((M - h * N < N ∧ M / N = h ∧ M % N = M - h * N) ∨ (N ≤ M - h * N ∧ M / N = h + 1 ∧ M % N = M - h * N - N)) := by
  have e := Int.emod_add_mul_ediv M N
  have e0 := Int.emod_nonneg M (show N ≠ 0 by omega)
  have e1 := Int.emod_lt_of_pos M hN
  have q0 := Int.ediv_nonneg hM (show 0 ≤ N by omega)
  rw [Int.mul_comm] at e
  obtain ⟨k, hk⟩ : ∃ k, k = M / N := ⟨_, rfl⟩
  rw [← hk] at e h0 h1 q0 ⊢
  have : h = k ∨ h = k - 1 := by omega
  rcases this with rfl | rfl
  · refine ⟨q0, by omega, Or.inl ⟨by omega, rfl, by omega⟩⟩
  · refine ⟨by omega, ?_, Or.inr ⟨?_, by omega, ?_⟩⟩ <;> rw [Int.sub_mul, Int.one_mul] <;> omega
end Go.Proofs.YtmamedobphlpkaaDoor
