/-
  The reference's Reader: wrong, Byte, Num, Int, Text, End: what they answer, and what they leave.
-/
import Derived.Test.YtefggpcfijcneaaClone
import Derived.Test.YtefggpcfijcneaaMath
import Derived.Test.YtefggpcfijcneaaBits
import Derived.Deep.QuietTactic
import Derived.BigQuiet
namespace Go.Proofs.Ytefggpcfijcneaa
open Go.RowKit

/-- At block p lies the reference's Reader of the bytes b (in blocks of S, p is none of them); l is what is left, f the fault. -/
def RRd (S : Nat → Prop) (w : World) (p : Nat) (A : Option Addr) (c : Nat) (b l : List UInt8) (f : Nat) : Prop :=
  ∃ j, j ≤ b.length ∧ l = b.drop j ∧ Row w p 72 #[.slice A b.length c, .int .i64 (j : Int), .int .i64 (f : Int)] ∧ Bs S w A c b ∧ b.length ≤ 140737488355328 ∧ ∀ k, S k → ¬ One p k

theorem RRd.mod {S T : Nat → Prop} {w w' : World} {p c f : Nat} {A : Option Addr} {b l : List UInt8} (h : RRd S w p A c b l f) (hm : Mod T w w') (hp : ¬ T p) (hn : ∀ k, S k → ¬ T k) : RRd S w' p A c b l f := by
  obtain ⟨j, hj, hl, hr, hs, hb, hne⟩ := h
  exact ⟨j, hj, hl, hr.mod hm hp, hs.mod hm hn, hb, hne⟩
theorem RRd.lt {S : Nat → Prop} {w : World} {p c f : Nat} {A : Option Addr} {b l : List UInt8} (h : RRd S w p A c b l f) : p < w.heap.size := by
  obtain ⟨_, _, _, hr, _⟩ := h
  exact hr.lt

theorem refWrong_any (w : World) (p : Nat) (x : Value) (j f a q : Int) (h : Row w p 72 #[x, .int .i64 j, .int .i64 f]) :
    Calls Try.prog 44 #[.pointer (some ⟨p, 0, none⟩), .int .i64 a, .int .i64 q] w fun e w' =>
      e = .returned (.int .u64 0) ∧ Row w' p 72 #[x, .int .i64 a, .int .i64 q] ∧ Mod (One p) w w' := by
  have h0 := h.cell 0
  have h1 := h.cell 1
  have h2 := h.cell 2
  have f1 := h.frozen 1
  have f2 := h.frozen 2
  simp at h0 h1 h2
  go_enter Try.func44, Try.ntmps44
  go_wp2
  go_ret
  exact ⟨rfl, (h.set 2 _).set 1 _, (Mod.one _ _ _ _).same (Mod.one _ _ _ _)⟩

theorem refByte_any {S : Nat → Prop} (w : World) (p c f most : Nat) (A : Option Addr) (b l : List UInt8) (h : RRd S w p A c b l f) (hm : most < 256) :
    Calls Try.prog 39 #[.pointer (some ⟨p, 0, none⟩), .int .u8 (most : Int)] w fun e w' =>
      e = .returned (.int .u8 ((rbyte most l f).1 : Int)) ∧ RRd S w' p A c b (rbyte most l f).2.1 (rbyte most l f).2.2 ∧ Mod (One p) w w' := by
  obtain ⟨j, hj, rfl, hr, hs, hl, hne⟩ := h
  have h0 := hr.cell 0
  have h1 := hr.cell 1
  have h2 := hr.cell 2
  have f1 := hr.frozen 1
  simp at h0 h1 h2
  by_cases hf : f = 0
  · subst hf
    by_cases hlt : j < b.length
    · obtain ⟨g, o, rfl, hg, hc⟩ := hs.2.2 (by omega)
      have hb := hc j b[j] (List.getElem?_eq_getElem hlt)
      unfold u8v at hb
      clear hc
      have hd : b.drop j = b[j] :: b.drop (j + 1) := List.drop_eq_getElem_cons hlt
      obtain ⟨n, hn⟩ : ∃ n : Nat, n = (b[j]).toNat := ⟨_, rfl⟩
      have hn2 : n < 256 := by rw [hn]; exact UInt8.toNat_lt _
      rw [← hn] at hb
      by_cases hmb : most < n
      · have hE : rbyte most (b.drop j) 0 = (0, b.drop j, 12) := by rw [hd]; simp only [rbyte, ← hn]; rw [if_neg (by simp), if_pos hmb]
        have HE := hid hE
        clear hE hd hn
        go_enter Try.func39, Try.ntmps39
        go_wp2_with fail
        go_quiet (fail)
        go_wp2_with fail
        go_quiet (fail)
        go_wp2_with (go_at_call 44; refine (refWrong_any _ p _ _ _ _ _ (hr.mod ((Mod.refl Nil w).drewN _) (fun hf => hf))).mono ?_; rintro e w' ⟨rfl, hr', hm'⟩)
        go_ret
        rw [HE.out]
        have hm1 := ((Mod.refl (One p) w).drewN _).same hm'
        exact ⟨rfl, ⟨j, hj, rfl, hr', hs.mod hm1 hne, hl, hne⟩, hm1⟩
      · have hE : rbyte most (b.drop j) 0 = (n, b.drop (j + 1), 0) := by rw [hd]; simp only [rbyte, ← hn]; rw [if_neg (by simp), if_neg hmb]
        have HE := hid hE
        have hmN : ∀ N, Mod (One p) w ((w.drewN N).setCell ⟨p, 1, none⟩ (.int .i64 ((j : Int) + 1))) := fun N => ((Mod.refl (One p) w).drewN N).same (Mod.one _ _ _ _)
        have hrN : ∀ N, Row ((w.drewN N).setCell ⟨p, 1, none⟩ (.int .i64 ((j : Int) + 1))) p 72 #[.slice (some ⟨g, o, none⟩) b.length c, .int .i64 ((j : Int) + 1), .int .i64 ((0 : Nat) : Int)] :=
          fun N => (hr.mod ((Mod.refl Nil w).drewN N) (fun hf => hf)).set 1 (.int .i64 ((j : Int) + 1))
        have k0 : ∀ N, ((w.drewN N).setCell ⟨p, 1, none⟩ (.int .i64 ((j : Int) + 1))).cell? ⟨p, 0, none⟩ = some (.slice (some ⟨g, o, none⟩) b.length c) := fun N => by simpa using (hrN N).cell 0
        have k1 : ∀ N, ((w.drewN N).setCell ⟨p, 1, none⟩ (.int .i64 ((j : Int) + 1))).cell? ⟨p, 1, none⟩ = some (.int .i64 ((j : Int) + 1)) := fun N => by simpa using (hrN N).cell 1
        have kb : ∀ N, ((w.drewN N).setCell ⟨p, 1, none⟩ (.int .i64 ((j : Int) + 1))).cell? ⟨g, o + j, none⟩ = some (.int .u8 (n : Int)) := fun N => by
          obtain ⟨g2, o2, he, _, hc2⟩ := (hs.mod (hmN N) hne).2.2 (by omega)
          cases he
          have := hc2 j b[j] (List.getElem?_eq_getElem hlt)
          unfold u8v at this
          rw [this, hn]
        clear hE hd hn
        go_enter Try.func39, Try.ntmps39
        go_wp2_with fail
        go_quiet (fail)
        go_wp2_with fail
        go_quiet (fail)
        go_wp2_with fail
        go_quiet (fail)
        go_wp2_with fail
        go_ret
        rw [HE.out]
        exact ⟨rfl, ⟨j + 1, by omega, rfl, (hrN _).mod ((Mod.refl Nil _).drewN _) (fun hf => hf), hs.mod ((hmN _).drewN _) hne, hl, hne⟩, (hmN _).drewN _⟩
    · have hE : rbyte most (b.drop j) 0 = (0, b.drop j, 10) := by rw [List.drop_eq_nil_of_le (by omega)]; rfl
      have HE := hid hE
      clear hE
      go_enter Try.func39, Try.ntmps39
      go_wp2_with fail
      go_quiet (fail)
      go_wp2_with (go_at_call 44; refine (refWrong_any _ p _ _ _ _ _ (hr.mod ((Mod.refl Nil w).drewN _) (fun hf => hf))).mono ?_; rintro e w' ⟨rfl, hr', hm'⟩)
      go_ret
      rw [HE.out]
      have hm1 := ((Mod.refl (One p) w).drewN _).same hm'
      exact ⟨rfl, ⟨j, hj, rfl, hr', hs.mod hm1 hne, hl, hne⟩, hm1⟩
  · have hE : rbyte most (b.drop j) f = (0, b.drop j, f) := by unfold rbyte; rw [if_pos hf]
    have HE := hid hE
    clear hE
    go_enter Try.func39, Try.ntmps39
    go_wp2
    go_ret
    rw [HE.out]
    exact ⟨rfl, ⟨j, hj, rfl, hr, hs, hl, hne⟩, Mod.refl _ _⟩

theorem refEnd_any {S : Nat → Prop} (w : World) (p c f : Nat) (A : Option Addr) (b l : List UInt8) (h : RRd S w p A c b l f) :
    Calls Try.prog 43 #[.pointer (some ⟨p, 0, none⟩)] w fun e w' => e = .returned (.int .i64 (rend l f : Int)) ∧ Below w.heap.size w w' := by
  obtain ⟨j, hj, rfl, hr, hs, hl, hne⟩ := h
  have h0 := hr.cell 0
  have h1 := hr.cell 1
  have h2 := hr.cell 2
  simp at h0 h1 h2
  by_cases hf : f = 0
  · subst hf
    by_cases hlt : j < b.length
    · have hE : rend (b.drop j) 0 = 11 := by unfold rend; rw [if_pos ⟨rfl, by rw [List.length_drop]; omega⟩]
      rw [hE]
      clear hE
      go_enter Try.func43, Try.ntmps43
      go_wp2_with fail
      go_quiet (fail)
      go_wp2_with fail
      go_ret
      exact ⟨rfl, ((Up.refl w).drewN _).below⟩
    · have hE : rend (b.drop j) 0 = 0 := by unfold rend; rw [if_neg (by rw [List.length_drop]; omega)]
      rw [hE]
      clear hE
      go_enter Try.func43, Try.ntmps43
      go_wp2_with fail
      go_quiet (fail)
      go_wp2_with fail
      go_ret
      exact ⟨rfl, ((Up.refl w).drewN _).below⟩
  · have hE : rend (b.drop j) f = f := by unfold rend; rw [if_neg (by omega)]
    rw [hE]
    clear hE
    go_enter Try.func43, Try.ntmps43
    go_wp2_with fail
    go_quiet (fail)
    go_wp2_with fail
    go_ret
    exact ⟨rfl, ((Up.refl w).drewN _).below⟩

theorem sum_digit (a b k : Nat) (hk : k ≤ 9) (ha : a < 2 ^ (7 * k)) (h9 : ¬ (k = 9 ∧ 1 < b)) :
    IntKind.u64.wrap ((a : Int) + IntKind.u64.wrap ((b : Int) % 128 * 2 ^ (7 * k))) = ((a + b % 128 * 2 ^ (7 * k) : Nat) : Int) := by
  have hm : b % 128 * 2 ^ (7 * k) + a < 18446744073709551616 := by
    by_cases h : k = 9
    · subst h
      have hc1 : b % 128 * 2 ^ (7 * 9) ≤ 1 * 2 ^ (7 * 9) := Nat.mul_le_mul_right _ (by omega)
      omega
    · have : (2 : Nat) ^ (7 * k) ≤ 2 ^ 56 := Nat.pow_le_pow_right (by omega) (by omega)
      have hc1 : b % 128 * 2 ^ (7 * k) ≤ 127 * 2 ^ (7 * k) := Nat.mul_le_mul_right _ (by omega)
      omega
  have e : ((b : Int) % 128 * 2 ^ (7 * k)) = ((b % 128 * 2 ^ (7 * k) : Nat) : Int) := by push_cast; rfl
  rw [e, u64_wrap_nat _ (by omega), ← Int.natCast_add, u64_wrap_nat _ (by omega)]

theorem sum_digit9 (a b : Nat) (ha : a < 2 ^ (7 * 9)) (hb : b ≤ 1) :
    IntKind.u64.wrap ((a : Int) + (b : Int) % 128 * 9223372036854775808) = ((a + b % 128 * 2 ^ (7 * 9) : Nat) : Int) := by
  have hm : b % 128 * 9223372036854775808 + a < 18446744073709551616 := by omega
  have e : ((a : Int) + (b : Int) % 128 * 9223372036854775808) = ((a + b % 128 * 2 ^ (7 * 9) : Nat) : Int) := by omega
  rw [e, u64_wrap_nat _ (by omega)]

set_option maxRecDepth 100000 in
set_option maxHeartbeats 4000000 in
theorem refRNum_any {S : Nat → Prop} (w : World) (p c f most : Nat) (A : Option Addr) (b l : List UInt8) (h : RRd S w p A c b l f) (hm : most < 18446744073709551616) :
    Calls Try.prog 40 #[.pointer (some ⟨p, 0, none⟩), .int .u64 (most : Int)] w fun e w' =>
      e = .returned (.int .u64 ((rnum most l f).1 : Int)) ∧ RRd S w' p A c b (rnum most l f).2.1 (rnum most l f).2.2 ∧ Mod (One p) w w' := by
  obtain ⟨j, hj, rfl, hr, hs, hl, hne⟩ := h
  have h0 := hr.cell 0
  have h1 := hr.cell 1
  have h2 := hr.cell 2
  have f1 := hr.frozen 1
  simp at h0 h1 h2
  by_cases hf : f = 0
  · subst hf
    have hE : rnum most (b.drop j) 0 = ((vnum most (b.drop j) 0 0).1, (b.drop j).drop (vnum most (b.drop j) 0 0).2.1, (vnum most (b.drop j) 0 0).2.2) := by unfold rnum; rw [if_neg (by simp)]
    rw [hE]
    clear hE
    go_enter Try.func40, Try.ntmps40
    go_wp2_with fail
    go_loop [6, 7, 8] (fun n i _ => ∃ k a : Nat, j + k ≤ b.length ∧ k ≤ 9 ∧ a < 2 ^ (7 * k) ∧ vnum most (b.drop j) 0 0 = vnum most (b.drop (j + k)) k a ∧ i = .int .i64 k ∧ n = .int .u64 a) (fun _ i _ => b.length - (intOf i).toNat)
    case atStart => exact ⟨0, 0, by omega, by omega, by decide, rfl, rfl, rfl⟩
    case round =>
      obtain ⟨k, a, hk, hk9, ha, hv, rfl, rfl⟩ := hrel
      have HV := hid hv
      clear hv
      by_cases hlt : j + k < b.length
      · obtain ⟨g, o, rfl, hg, hc⟩ := hs.2.2 (by omega)
        have hb := hc (j + k) b[j + k] (List.getElem?_eq_getElem hlt)
        unfold u8v at hb
        clear hc
        obtain ⟨x, hx⟩ : ∃ x : Nat, x = (b[j + k]).toNat := ⟨_, rfl⟩
        have hx2 : x < 256 := by rw [hx]; exact UInt8.toNat_lt _
        rw [← hx] at hb
        have HB := hid hx
        clear hx
        have hd : b.drop (j + k) = b[j + k] :: b.drop (j + (k + 1)) := List.drop_eq_getElem_cons hlt
        have HD := hid hd
        clear hd
        have HA := hid ha
        have HM := hid hm
        clear hm
        by_cases h9 : k = 9 ∧ 1 < x
        · obtain ⟨rfl, hb1⟩ := h9
          clear ha
          go_wp2_with (go_at_call 44; refine (refWrong_any _ p _ _ _ _ _ hr).mono ?_; rintro e w' ⟨rfl, hr', hm'⟩)
          go_ret
          rw [HV.out, HD.out]
          unfold vnum
          rw [← HB.out, if_pos ⟨rfl, hb1⟩]
          exact ⟨rfl, ⟨j, hj, by simp, hr', hs.mod hm' hne, hl, hne⟩, hm'⟩
        obtain ⟨X, hX⟩ : ∃ X : Nat, X = a + x % 128 * 2 ^ (7 * k) := ⟨_, rfl⟩
        have hN := sum_digit a x k hk9 ha h9
        rw [← hX] at hN
        by_cases h1 : 128 ≤ x
        · have hk8 : k ≤ 8 := by omega
          have HX := hid hX
          clear ha hX
          go_wp2_with fail
          go_round
          case rel =>
            refine ⟨k + 1, X, by omega, by omega, ?_, ?_, by go_num, rfl⟩
            · have hp : (2 : Nat) ^ (7 * (k + 1)) = 128 * 2 ^ (7 * k) := by rw [Nat.mul_add, Nat.pow_add]; omega
              have hc : x % 128 * 2 ^ (7 * k) ≤ 127 * 2 ^ (7 * k) := Nat.mul_le_mul_right _ (by omega)
              have := HA.out
              have := HX.out
              omega
            · rw [HV.out, HD.out]
              conv => lhs; unfold vnum
              rw [← HB.out, if_neg h9, if_pos h1, ← HX.out]
          case measure => simp [intOf]; omega
        have h1' : x < 128 := by omega
        by_cases hz : x = 0 ∧ 0 < k
        · obtain ⟨rfl, hk0⟩ := hz
          clear ha hX
          go_wp2_with (go_at_call 44; refine (refWrong_any _ p _ _ _ _ _ hr).mono ?_; rintro e w' ⟨rfl, hr', hm'⟩)
          all_goals
            go_ret
            rw [HV.out, HD.out]
            unfold vnum
            rw [← HB.out, if_neg h9, if_neg h1, if_pos ⟨rfl, hk0⟩]
            exact ⟨rfl, ⟨j, hj, by simp, hr', hs.mod hm' hne, hl, hne⟩, hm'⟩
        by_cases e9 : k = 9
        · subst e9
          have hb1 : x ≤ 1 := by omega
          have hN9 := sum_digit9 a x ha hb1
          rw [← hX] at hN9
          have HX := hid hX
          clear ha hX hN
          by_cases hl2 : most < X
          · go_wp2_with (go_at_call 44; refine (refWrong_any _ p _ _ _ _ _ hr).mono ?_; rintro e w' ⟨rfl, hr', hm'⟩)
            all_goals
              go_ret
              rw [HV.out, HD.out]
              unfold vnum
              rw [← HB.out, if_neg (by omega), if_neg h1, if_neg (by omega), ← HX.out, if_pos hl2]
              exact ⟨rfl, ⟨j, hj, by simp, hr', hs.mod hm' hne, hl, hne⟩, hm'⟩
          · go_wp2_with (go_at_call 44; refine (refWrong_any _ p _ _ _ _ _ hr).mono ?_; rintro e w' ⟨rfl, hr', hm'⟩)
            all_goals
              go_ret
              rw [HV.out, HD.out]
              unfold vnum
              rw [← HB.out, if_neg (by omega), if_neg h1, if_neg (by omega), ← HX.out, if_neg hl2]
              refine ⟨rfl, ⟨j + 9 + 1, by omega, by simp only [List.drop_drop], ?_, hs.mod (Mod.one _ _ _ _) hne, hl, hne⟩, Mod.one _ _ _ _⟩
              exact hr.set 1 _
        have hk8 : k ≤ 8 := by omega
        have HX := hid hX
        clear ha hX
        by_cases hl2 : most < X
        · go_wp2_with (go_at_call 44; refine (refWrong_any _ p _ _ _ _ _ hr).mono ?_; rintro e w' ⟨rfl, hr', hm'⟩)
          all_goals
            go_ret
            rw [HV.out, HD.out]
            unfold vnum
            rw [← HB.out, if_neg h9, if_neg h1, if_neg hz, ← HX.out, if_pos hl2]
            exact ⟨rfl, ⟨j, hj, by simp, hr', hs.mod hm' hne, hl, hne⟩, hm'⟩
        · go_wp2_with (go_at_call 44; refine (refWrong_any _ p _ _ _ _ _ hr).mono ?_; rintro e w' ⟨rfl, hr', hm'⟩)
          all_goals
            go_ret
            rw [HV.out, HD.out]
            unfold vnum
            rw [← HB.out, if_neg h9, if_neg h1, if_neg hz, ← HX.out, if_neg hl2]
            refine ⟨rfl, ⟨j + k + 1, by omega, by simp only [List.drop_drop]; congr 1, ?_, hs.mod (Mod.one _ _ _ _) hne, hl, hne⟩, Mod.one _ _ _ _⟩
            exact hr.set 1 _
      · have hd : b.drop (j + k) = [] := List.drop_eq_nil_of_le (by omega)
        have HD := hid hd
        clear hd ha hm
        go_wp2_with (go_at_call 44; refine (refWrong_any _ p _ _ _ _ _ hr).mono ?_; rintro e w' ⟨rfl, hr', hm'⟩)
        go_ret
        rw [HV.out, HD.out]
        exact ⟨rfl, ⟨j, hj, by simp [vnum], hr', hs.mod hm' hne, hl, hne⟩, hm'⟩
  · have hE : rnum most (b.drop j) f = (0, b.drop j, f) := by unfold rnum; rw [if_pos hf]
    have HE := hid hE
    clear hE
    go_enter Try.func40, Try.ntmps40
    go_wp2
    go_ret
    rw [HE.out]
    exact ⟨rfl, ⟨j, hj, rfl, hr, hs, hl, hne⟩, Mod.refl _ _⟩

theorem unzig_div (n : Nat) (hn : n < 18446744073709551616) : (if n % 2 = 1 then -((n / 2 : Nat) : Int) - 1 else ((n / 2 : Nat) : Int)) = unzig n := by
  unfold unzig
  split <;> split <;> omega

set_option maxRecDepth 100000 in
theorem refRInt_any {S : Nat → Prop} (w : World) (p c f : Nat) (A : Option Addr) (b l : List UInt8) (h : RRd S w p A c b l f) :
    Calls Try.prog 42 #[.pointer (some ⟨p, 0, none⟩)] w fun e w' =>
      e = .returned (.int .i64 (rint l f).1) ∧ RRd S w' p A c b (rint l f).2.1 (rint l f).2.2 ∧ Mod (One p) w w' := by
  have hC := refRNum_any w p c f 18446744073709551615 A b l h (by decide)
  have hn : (rnum 18446744073709551615 l f).1 < 18446744073709551616 := by
    unfold rnum; split
    · show (0 : Nat) < _; decide
    · rcases vnum_ends 18446744073709551615 l 0 0 (by omega) (by decide) with h | h <;> omega
  unfold rint
  obtain ⟨⟨n, l', f'⟩, hx⟩ : ∃ x, rnum 18446744073709551615 l f = x := ⟨_, rfl⟩
  rw [hx] at hC hn ⊢
  simp only at hC hn ⊢
  clear hx
  have HC := hid hC
  clear hC
  have hE := unzig_div n hn
  by_cases hp : n % 2 = 1
  · rw [if_pos hp] at hE
    rw [← hE]
    clear hE
    go_enter Try.func42, Try.ntmps42
    go_wp2_with (go_at_call 40; refine Calls.mono HC.out ?_; rintro e w' ⟨rfl, hr', hm'⟩)
    go_ret
    exact ⟨rfl, hr', hm'⟩
  · rw [if_neg hp] at hE
    rw [← hE]
    clear hE
    go_enter Try.func42, Try.ntmps42
    go_wp2_with (go_at_call 40; refine Calls.mono HC.out ?_; rintro e w' ⟨rfl, hr', hm'⟩)
    go_ret
    exact ⟨rfl, hr', hm'⟩
end Go.Proofs.Ytefggpcfijcneaa
