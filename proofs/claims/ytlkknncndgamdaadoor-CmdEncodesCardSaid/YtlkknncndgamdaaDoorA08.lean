/-
  RefRead · OneMath · Read · CmdM · RdT
-/
import Derived.Test.YtlkknncndgamdaaDoorA07
import Derived.Deep.QuietTactic
import Derived.BigQuiet
set_option linter.unusedSimpArgs false
set_option linter.unusedVariables false

namespace Go.Proofs.YtlkknncndgamdaaDoor
open Go.RowKit

/-- At block p lies the reference's Reader of the bytes b (in blocks of S, p is none of them); l is what is left, f the fault. -/
def RRd (S : Nat → Prop) (w : World) (p : Nat) (A : Option Addr) (c : Nat) (b l : List UInt8) (f : Nat) : Prop :=
  ∃ j, j ≤ b.length ∧ l = b.drop j ∧ Row w p 80 #[.slice A b.length c, .int .i64 (j : Int), .int .i64 (f : Int)] ∧ Bs S w A c b ∧ b.length ≤ 140737488355328 ∧ ∀ k, S k → ¬ One p k

theorem RRd.mod {S T : Nat → Prop} {w w' : World} {p c f : Nat} {A : Option Addr} {b l : List UInt8} (h : RRd S w p A c b l f) (hm : Mod T w w') (hp : ¬ T p) (hn : ∀ k, S k → ¬ T k) : RRd S w' p A c b l f := by
  obtain ⟨j, hj, hl, hr, hs, hb, hne⟩ := h
  exact ⟨j, hj, hl, hr.mod hm hp, hs.mod hm hn, hb, hne⟩
theorem RRd.lt {S : Nat → Prop} {w : World} {p c f : Nat} {A : Option Addr} {b l : List UInt8} (h : RRd S w p A c b l f) : p < w.heap.size := by
  obtain ⟨_, _, _, hr, _⟩ := h
  exact hr.lt

theorem refWrong_any (w : World) (p : Nat) (x : Value) (j f a q : Int) (h : Row w p 80 #[x, .int .i64 j, .int .i64 f]) :
    Calls Tryd.prog 56 #[.pointer (some ⟨p, 0, none⟩), .int .i64 a, .int .i64 q] w fun e w' =>
      e = .returned (.int .u64 0) ∧ Row w' p 80 #[x, .int .i64 a, .int .i64 q] ∧ Mod (One p) w w' := by
  have h0 := h.cell 0
  have h1 := h.cell 1
  have h2 := h.cell 2
  have f1 := h.frozen 1
  have f2 := h.frozen 2
  simp at h0 h1 h2
  go_enter Tryd.func56, Tryd.ntmps56
  go_wp2
  go_ret
  exact ⟨rfl, (h.set 2 _).set 1 _, (Mod.one _ _ _ _).same (Mod.one _ _ _ _)⟩

theorem refByte_any {S : Nat → Prop} (w : World) (p c f most : Nat) (A : Option Addr) (b l : List UInt8) (h : RRd S w p A c b l f) (hm : most < 256) :
    Calls Tryd.prog 47 #[.pointer (some ⟨p, 0, none⟩), .int .u8 (most : Int)] w fun e w' =>
      e = .returned (.int .u8 ((rbyte most l f).1 : Int)) ∧ RRd S w' p A c b (rbyte most l f).2.1 (rbyte most l f).2.2 ∧ Mod (One p) w w' := by
  obtain ⟨j, hj, rfl, hr, hs, hl, hne⟩ := h
  have h0 := hr.cell 0
  have h1 := hr.cell 1
  have h2 := hr.cell 2
  have f1 := hr.frozen 1
  simp at h0 h1 h2
  by_cases hf : f = 0
  · subst hf
    by_cases hlt : j < b.length
    · obtain ⟨g, o, rfl, hg, hc⟩ := hs.2.2 (by omega)
      have hb := hc j b[j] (List.getElem?_eq_getElem hlt)
      unfold u8v at hb
      clear hc
      have hd : b.drop j = b[j] :: b.drop (j + 1) := List.drop_eq_getElem_cons hlt
      obtain ⟨n, hn⟩ : ∃ n : Nat, n = (b[j]).toNat := ⟨_, rfl⟩
      have hn2 : n < 256 := by rw [hn]; exact UInt8.toNat_lt _
      rw [← hn] at hb
      by_cases hmb : most < n
      · have hE : rbyte most (b.drop j) 0 = (0, b.drop j, 12) := by rw [hd]; simp only [rbyte, ← hn]; rw [if_neg (by simp), if_pos hmb]
        have HE := hid hE
        clear hE hd hn
        go_enter Tryd.func47, Tryd.ntmps47
        go_wp2_with fail
        go_quiet (fail)
        go_wp2_with fail
        go_quiet (fail)
        go_wp2_with (go_at_call 56; refine (refWrong_any _ p _ _ _ _ _ (hr.mod ((Mod.refl Nil w).drewN _) (fun hf => hf))).mono ?_; rintro e w' ⟨rfl, hr', hm'⟩)
        go_ret
        rw [HE.out]
        have hm1 := ((Mod.refl (One p) w).drewN _).same hm'
        exact ⟨rfl, ⟨j, hj, rfl, hr', hs.mod hm1 hne, hl, hne⟩, hm1⟩
      · have hE : rbyte most (b.drop j) 0 = (n, b.drop (j + 1), 0) := by rw [hd]; simp only [rbyte, ← hn]; rw [if_neg (by simp), if_neg hmb]
        have HE := hid hE
        have hmN : ∀ N, Mod (One p) w ((w.drewN N).setCell ⟨p, 1, none⟩ (.int .i64 ((j : Int) + 1))) := fun N => ((Mod.refl (One p) w).drewN N).same (Mod.one _ _ _ _)
        have hrN : ∀ N, Row ((w.drewN N).setCell ⟨p, 1, none⟩ (.int .i64 ((j : Int) + 1))) p 80 #[.slice (some ⟨g, o, none⟩) b.length c, .int .i64 ((j : Int) + 1), .int .i64 ((0 : Nat) : Int)] :=
          fun N => (hr.mod ((Mod.refl Nil w).drewN N) (fun hf => hf)).set 1 (.int .i64 ((j : Int) + 1))
        have k0 : ∀ N, ((w.drewN N).setCell ⟨p, 1, none⟩ (.int .i64 ((j : Int) + 1))).cell? ⟨p, 0, none⟩ = some (.slice (some ⟨g, o, none⟩) b.length c) := fun N => by simpa using (hrN N).cell 0
        have k1 : ∀ N, ((w.drewN N).setCell ⟨p, 1, none⟩ (.int .i64 ((j : Int) + 1))).cell? ⟨p, 1, none⟩ = some (.int .i64 ((j : Int) + 1)) := fun N => by simpa using (hrN N).cell 1
        have kb : ∀ N, ((w.drewN N).setCell ⟨p, 1, none⟩ (.int .i64 ((j : Int) + 1))).cell? ⟨g, o + j, none⟩ = some (.int .u8 (n : Int)) := fun N => by
          obtain ⟨g2, o2, he, _, hc2⟩ := (hs.mod (hmN N) hne).2.2 (by omega)
          cases he
          have := hc2 j b[j] (List.getElem?_eq_getElem hlt)
          unfold u8v at this
          rw [this, hn]
        clear hE hd hn
        go_enter Tryd.func47, Tryd.ntmps47
        go_wp2_with fail
        go_quiet (fail)
        go_wp2_with fail
        go_quiet (fail)
        go_wp2_with fail
        go_quiet (fail)
        go_wp2_with fail
        go_ret
        rw [HE.out]
        exact ⟨rfl, ⟨j + 1, by omega, rfl, (hrN _).mod ((Mod.refl Nil _).drewN _) (fun hf => hf), hs.mod ((hmN _).drewN _) hne, hl, hne⟩, (hmN _).drewN _⟩
    · have hE : rbyte most (b.drop j) 0 = (0, b.drop j, 10) := by rw [List.drop_eq_nil_of_le (by omega)]; rfl
      have HE := hid hE
      clear hE
      go_enter Tryd.func47, Tryd.ntmps47
      go_wp2_with fail
      go_quiet (fail)
      go_wp2_with (go_at_call 56; refine (refWrong_any _ p _ _ _ _ _ (hr.mod ((Mod.refl Nil w).drewN _) (fun hf => hf))).mono ?_; rintro e w' ⟨rfl, hr', hm'⟩)
      go_ret
      rw [HE.out]
      have hm1 := ((Mod.refl (One p) w).drewN _).same hm'
      exact ⟨rfl, ⟨j, hj, rfl, hr', hs.mod hm1 hne, hl, hne⟩, hm1⟩
  · have hE : rbyte most (b.drop j) f = (0, b.drop j, f) := by unfold rbyte; rw [if_pos hf]
    have HE := hid hE
    clear hE
    go_enter Tryd.func47, Tryd.ntmps47
    go_wp2
    go_ret
    rw [HE.out]
    exact ⟨rfl, ⟨j, hj, rfl, hr, hs, hl, hne⟩, Mod.refl _ _⟩

theorem refEnd_any {S : Nat → Prop} (w : World) (p c f : Nat) (A : Option Addr) (b l : List UInt8) (h : RRd S w p A c b l f) :
    Calls Tryd.prog 51 #[.pointer (some ⟨p, 0, none⟩)] w fun e w' => e = .returned (.int .i64 (rend l f : Int)) ∧ Below w.heap.size w w' := by
  obtain ⟨j, hj, rfl, hr, hs, hl, hne⟩ := h
  have h0 := hr.cell 0
  have h1 := hr.cell 1
  have h2 := hr.cell 2
  simp at h0 h1 h2
  by_cases hf : f = 0
  · subst hf
    by_cases hlt : j < b.length
    · have hE : rend (b.drop j) 0 = 11 := by unfold rend; rw [if_pos ⟨rfl, by rw [List.length_drop]; omega⟩]
      rw [hE]
      clear hE
      go_enter Tryd.func51, Tryd.ntmps51
      go_wp2_with fail
      go_quiet (fail)
      go_wp2_with fail
      go_ret
      exact ⟨rfl, ((Up.refl w).drewN _).below⟩
    · have hE : rend (b.drop j) 0 = 0 := by unfold rend; rw [if_neg (by rw [List.length_drop]; omega)]
      rw [hE]
      clear hE
      go_enter Tryd.func51, Tryd.ntmps51
      go_wp2_with fail
      go_quiet (fail)
      go_wp2_with fail
      go_ret
      exact ⟨rfl, ((Up.refl w).drewN _).below⟩
  · have hE : rend (b.drop j) f = f := by unfold rend; rw [if_neg (by omega)]
    rw [hE]
    clear hE
    go_enter Tryd.func51, Tryd.ntmps51
    go_wp2_with fail
    go_quiet (fail)
    go_wp2_with fail
    go_ret
    exact ⟨rfl, ((Up.refl w).drewN _).below⟩

theorem sum_digit (a b k : Nat) (hk : k ≤ 9) (ha : a < 2 ^ (7 * k)) (h9 : ¬ (k = 9 ∧ 1 < b)) :
    IntKind.u64.wrap ((a : Int) + IntKind.u64.wrap ((b : Int) % 128 * 2 ^ (7 * k))) = ((a + b % 128 * 2 ^ (7 * k) : Nat) : Int) := by
  have hm : b % 128 * 2 ^ (7 * k) + a < 18446744073709551616 := by
    by_cases h : k = 9
    · subst h
      have hc1 : b % 128 * 2 ^ (7 * 9) ≤ 1 * 2 ^ (7 * 9) := Nat.mul_le_mul_right _ (by omega)
      omega
    · have : (2 : Nat) ^ (7 * k) ≤ 2 ^ 56 := Nat.pow_le_pow_right (by omega) (by omega)
      have hc1 : b % 128 * 2 ^ (7 * k) ≤ 127 * 2 ^ (7 * k) := Nat.mul_le_mul_right _ (by omega)
      omega
  have e : ((b : Int) % 128 * 2 ^ (7 * k)) = ((b % 128 * 2 ^ (7 * k) : Nat) : Int) := by push_cast; rfl
  rw [e, u64_wrap_nat _ (by omega), ← Int.natCast_add, u64_wrap_nat _ (by omega)]

theorem sum_digit9 (a b : Nat) (ha : a < 2 ^ (7 * 9)) (hb : b ≤ 1) :
    IntKind.u64.wrap ((a : Int) + (b : Int) % 128 * 9223372036854775808) = ((a + b % 128 * 2 ^ (7 * 9) : Nat) : Int) := by
  have hm : b % 128 * 9223372036854775808 + a < 18446744073709551616 := by omega
  have e : ((a : Int) + (b : Int) % 128 * 9223372036854775808) = ((a + b % 128 * 2 ^ (7 * 9) : Nat) : Int) := by omega
  rw [e, u64_wrap_nat _ (by omega)]

set_option maxRecDepth 100000 in
set_option maxHeartbeats 4000000 in
theorem refRNum_any {S : Nat → Prop} (w : World) (p c f most : Nat) (A : Option Addr) (b l : List UInt8) (h : RRd S w p A c b l f) (hm : most < 18446744073709551616) :
    Calls Tryd.prog 48 #[.pointer (some ⟨p, 0, none⟩), .int .u64 (most : Int)] w fun e w' =>
      e = .returned (.int .u64 ((rnum most l f).1 : Int)) ∧ RRd S w' p A c b (rnum most l f).2.1 (rnum most l f).2.2 ∧ Mod (One p) w w' := by
  obtain ⟨j, hj, rfl, hr, hs, hl, hne⟩ := h
  have h0 := hr.cell 0
  have h1 := hr.cell 1
  have h2 := hr.cell 2
  have f1 := hr.frozen 1
  simp at h0 h1 h2
  by_cases hf : f = 0
  · subst hf
    have hE : rnum most (b.drop j) 0 = ((vnum most (b.drop j) 0 0).1, (b.drop j).drop (vnum most (b.drop j) 0 0).2.1, (vnum most (b.drop j) 0 0).2.2) := by unfold rnum; rw [if_neg (by simp)]
    rw [hE]
    clear hE
    go_enter Tryd.func48, Tryd.ntmps48
    go_wp2_with fail
    go_loop [6, 7, 8] (fun n i _ => ∃ k a : Nat, j + k ≤ b.length ∧ k ≤ 9 ∧ a < 2 ^ (7 * k) ∧ vnum most (b.drop j) 0 0 = vnum most (b.drop (j + k)) k a ∧ i = .int .i64 k ∧ n = .int .u64 a) (fun _ i _ => b.length - (intOf i).toNat)
    case atStart => exact ⟨0, 0, by omega, by omega, by decide, rfl, rfl, rfl⟩
    case round =>
      obtain ⟨k, a, hk, hk9, ha, hv, rfl, rfl⟩ := hrel
      have HV := hid hv
      clear hv
      by_cases hlt : j + k < b.length
      · obtain ⟨g, o, rfl, hg, hc⟩ := hs.2.2 (by omega)
        have hb := hc (j + k) b[j + k] (List.getElem?_eq_getElem hlt)
        unfold u8v at hb
        clear hc
        obtain ⟨x, hx⟩ : ∃ x : Nat, x = (b[j + k]).toNat := ⟨_, rfl⟩
        have hx2 : x < 256 := by rw [hx]; exact UInt8.toNat_lt _
        rw [← hx] at hb
        have HB := hid hx
        clear hx
        have hd : b.drop (j + k) = b[j + k] :: b.drop (j + (k + 1)) := List.drop_eq_getElem_cons hlt
        have HD := hid hd
        clear hd
        have HA := hid ha
        have HM := hid hm
        clear hm
        by_cases h9 : k = 9 ∧ 1 < x
        · obtain ⟨rfl, hb1⟩ := h9
          clear ha
          go_wp2_with (go_at_call 56; refine (refWrong_any _ p _ _ _ _ _ hr).mono ?_; rintro e w' ⟨rfl, hr', hm'⟩)
          go_ret
          rw [HV.out, HD.out]
          unfold vnum
          rw [← HB.out, if_pos ⟨rfl, hb1⟩]
          exact ⟨rfl, ⟨j, hj, by simp, hr', hs.mod hm' hne, hl, hne⟩, hm'⟩
        obtain ⟨X, hX⟩ : ∃ X : Nat, X = a + x % 128 * 2 ^ (7 * k) := ⟨_, rfl⟩
        have hN := sum_digit a x k hk9 ha h9
        rw [← hX] at hN
        by_cases h1 : 128 ≤ x
        · have hk8 : k ≤ 8 := by omega
          have HX := hid hX
          clear ha hX
          go_wp2_with fail
          go_round
          case rel =>
            refine ⟨k + 1, X, by omega, by omega, ?_, ?_, by go_num, rfl⟩
            · have hp : (2 : Nat) ^ (7 * (k + 1)) = 128 * 2 ^ (7 * k) := by rw [Nat.mul_add, Nat.pow_add]; omega
              have hc : x % 128 * 2 ^ (7 * k) ≤ 127 * 2 ^ (7 * k) := Nat.mul_le_mul_right _ (by omega)
              have := HA.out
              have := HX.out
              omega
            · rw [HV.out, HD.out]
              conv => lhs; unfold vnum
              rw [← HB.out, if_neg h9, if_pos h1, ← HX.out]
          case measure => simp [intOf]; omega
        have h1' : x < 128 := by omega
        by_cases hz : x = 0 ∧ 0 < k
        · obtain ⟨rfl, hk0⟩ := hz
          clear ha hX
          go_wp2_with (go_at_call 56; refine (refWrong_any _ p _ _ _ _ _ hr).mono ?_; rintro e w' ⟨rfl, hr', hm'⟩)
          all_goals
            go_ret
            rw [HV.out, HD.out]
            unfold vnum
            rw [← HB.out, if_neg h9, if_neg h1, if_pos ⟨rfl, hk0⟩]
            exact ⟨rfl, ⟨j, hj, by simp, hr', hs.mod hm' hne, hl, hne⟩, hm'⟩
        by_cases e9 : k = 9
        · subst e9
          have hb1 : x ≤ 1 := by omega
          have hN9 := sum_digit9 a x ha hb1
          rw [← hX] at hN9
          have HX := hid hX
          clear ha hX hN
          by_cases hl2 : most < X
          · go_wp2_with (go_at_call 56; refine (refWrong_any _ p _ _ _ _ _ hr).mono ?_; rintro e w' ⟨rfl, hr', hm'⟩)
            all_goals
              go_ret
              rw [HV.out, HD.out]
              unfold vnum
              rw [← HB.out, if_neg (by omega), if_neg h1, if_neg (by omega), ← HX.out, if_pos hl2]
              exact ⟨rfl, ⟨j, hj, by simp, hr', hs.mod hm' hne, hl, hne⟩, hm'⟩
          · go_wp2_with (go_at_call 56; refine (refWrong_any _ p _ _ _ _ _ hr).mono ?_; rintro e w' ⟨rfl, hr', hm'⟩)
            all_goals
              go_ret
              rw [HV.out, HD.out]
              unfold vnum
              rw [← HB.out, if_neg (by omega), if_neg h1, if_neg (by omega), ← HX.out, if_neg hl2]
              refine ⟨rfl, ⟨j + 9 + 1, by omega, by simp only [List.drop_drop], ?_, hs.mod (Mod.one _ _ _ _) hne, hl, hne⟩, Mod.one _ _ _ _⟩
              exact hr.set 1 _
        have hk8 : k ≤ 8 := by omega
        have HX := hid hX
        clear ha hX
        by_cases hl2 : most < X
        · go_wp2_with (go_at_call 56; refine (refWrong_any _ p _ _ _ _ _ hr).mono ?_; rintro e w' ⟨rfl, hr', hm'⟩)
          all_goals
            go_ret
            rw [HV.out, HD.out]
            unfold vnum
            rw [← HB.out, if_neg h9, if_neg h1, if_neg hz, ← HX.out, if_pos hl2]
            exact ⟨rfl, ⟨j, hj, by simp, hr', hs.mod hm' hne, hl, hne⟩, hm'⟩
        · go_wp2_with (go_at_call 56; refine (refWrong_any _ p _ _ _ _ _ hr).mono ?_; rintro e w' ⟨rfl, hr', hm'⟩)
          all_goals
            go_ret
            rw [HV.out, HD.out]
            unfold vnum
            rw [← HB.out, if_neg h9, if_neg h1, if_neg hz, ← HX.out, if_neg hl2]
            refine ⟨rfl, ⟨j + k + 1, by omega, by simp only [List.drop_drop]; congr 1, ?_, hs.mod (Mod.one _ _ _ _) hne, hl, hne⟩, Mod.one _ _ _ _⟩
            exact hr.set 1 _
      · have hd : b.drop (j + k) = [] := List.drop_eq_nil_of_le (by omega)
        have HD := hid hd
        clear hd ha hm
        go_wp2_with (go_at_call 56; refine (refWrong_any _ p _ _ _ _ _ hr).mono ?_; rintro e w' ⟨rfl, hr', hm'⟩)
        go_ret
        rw [HV.out, HD.out]
        exact ⟨rfl, ⟨j, hj, by simp [vnum], hr', hs.mod hm' hne, hl, hne⟩, hm'⟩
  · have hE : rnum most (b.drop j) f = (0, b.drop j, f) := by unfold rnum; rw [if_pos hf]
    have HE := hid hE
    clear hE
    go_enter Tryd.func48, Tryd.ntmps48
    go_wp2
    go_ret
    rw [HE.out]
    exact ⟨rfl, ⟨j, hj, rfl, hr, hs, hl, hne⟩, Mod.refl _ _⟩

theorem unzig_div (n : Nat) (hn : n < 18446744073709551616) : (if n % 2 = 1 then -((n / 2 : Nat) : Int) - 1 else ((n / 2 : Nat) : Int)) = unzig n := by
  unfold unzig
  split <;> split <;> omega

set_option maxRecDepth 100000 in
theorem refRInt_any {S : Nat → Prop} (w : World) (p c f : Nat) (A : Option Addr) (b l : List UInt8) (h : RRd S w p A c b l f) :
    Calls Tryd.prog 57 #[.pointer (some ⟨p, 0, none⟩)] w fun e w' =>
      e = .returned (.int .i64 (rint l f).1) ∧ RRd S w' p A c b (rint l f).2.1 (rint l f).2.2 ∧ Mod (One p) w w' := by
  have hC := refRNum_any w p c f 18446744073709551615 A b l h (by decide)
  have hn : (rnum 18446744073709551615 l f).1 < 18446744073709551616 := by
    unfold rnum; split
    · show (0 : Nat) < _; decide
    · rcases vnum_ends 18446744073709551615 l 0 0 (by omega) (by decide) with h | h <;> omega
  unfold rint
  obtain ⟨⟨n, l', f'⟩, hx⟩ : ∃ x, rnum 18446744073709551615 l f = x := ⟨_, rfl⟩
  rw [hx] at hC hn ⊢
  simp only at hC hn ⊢
  clear hx
  have HC := hid hC
  clear hC
  have hE := unzig_div n hn
  by_cases hp : n % 2 = 1
  · rw [if_pos hp] at hE
    rw [← hE]
    clear hE
    go_enter Tryd.func57, Tryd.ntmps57
    go_wp2_with (go_at_call 48; refine Calls.mono HC.out ?_; rintro e w' ⟨rfl, hr', hm'⟩)
    go_ret
    exact ⟨rfl, hr', hm'⟩
  · rw [if_neg hp] at hE
    rw [← hE]
    clear hE
    go_enter Tryd.func57, Tryd.ntmps57
    go_wp2_with (go_at_call 48; refine Calls.mono HC.out ?_; rintro e w' ⟨rfl, hr', hm'⟩)
    go_ret
    exact ⟨rfl, hr', hm'⟩
end Go.Proofs.YtlkknncndgamdaaDoor

namespace Go.Proofs.YtlkknncndgamdaaDoor

theorem unzig_range {n : Nat} (h : n < 18446744073709551616) : -9223372036854775808 ≤ unzig n ∧ unzig n ≤ 9223372036854775807 := by
  unfold unzig
  split <;> omega
theorem rnum_lt (most : Nat) (l : List UInt8) (f : Nat) : (rnum most l f).1 < 18446744073709551616 := by
  unfold rnum
  split
  · show (0 : Nat) < _; decide
  · rcases vnum_ends most l 0 0 (by omega) (by decide) with ⟨_, _, _, _, h⟩ | ⟨h, _⟩
    · exact h
    · show (vnum most l 0 0).1 < _
      rw [h]; decide
theorem rint_range (l : List UInt8) (f : Nat) : -9223372036854775808 ≤ (rint l f).1 ∧ (rint l f).1 ≤ 9223372036854775807 := unzig_range (rnum_lt _ _ _)
theorem rbyte_lt (most : Nat) (l : List UInt8) (f : Nat) : (rbyte most l f).1 < 256 := by
  unfold rbyte
  split
  · show (0 : Nat) < _; decide
  · cases l with
    | nil => show (0 : Nat) < _; decide
    | cons b r =>
      have hb := UInt8.toNat_lt b
      simp only
      split
      · show (0 : Nat) < _; decide
      · exact hb
end Go.Proofs.YtlkknncndgamdaaDoor

namespace Go.Proofs.YtlkknncndgamdaaDoor

theorem pow_step (k : Nat) : (2 : Nat) ^ (7 * (k + 1)) = 128 * 2 ^ (7 * k) := by rw [Nat.mul_add, Nat.pow_add]; omega
theorem byte_of (n : Nat) (h : n < 256) : (UInt8.ofNat n).toNat = n := by simp [UInt8.toNat_ofNat']; omega
theorem digit_sum (n k a : Nat) : a + n % 128 * 2 ^ (7 * k) + n / 128 * 2 ^ (7 * (k + 1)) = a + n * 2 ^ (7 * k) := by
  rw [pow_step]
  have h : n = 128 * (n / 128) + n % 128 := by omega
  have h2 : n * 2 ^ (7 * k) = (128 * (n / 128) + n % 128) * 2 ^ (7 * k) := by rw [← h]
  rw [h2, Nat.add_mul, Nat.mul_comm 128 (n / 128), Nat.mul_assoc]
  omega
theorem small_k {n k a : Nat} (hs : a + n * 2 ^ (7 * k) < 18446744073709551616) (hk : k ≤ 9) (hn : 2 ≤ n) : k < 9 := by
  rcases Nat.lt_or_ge k 9 with h | h
  · exact h
  · have : k = 9 := by omega
    subst this
    have : 2 * 2 ^ (7 * 9) ≤ n * 2 ^ (7 * 9) := Nat.mul_le_mul_right _ hn
    omega

theorem vnum_lay (most : Nat) (n : Nat) : ∀ (k a : Nat) (r : List UInt8), (0 < k → 0 < n) → a + n * 2 ^ (7 * k) ≤ most → a + n * 2 ^ (7 * k) < 18446744073709551616 → k ≤ 9 →
    vnum most (vlay n ++ r) k a = (a + n * 2 ^ (7 * k), k + (vlay n).length, 0) := by
  induction n using Nat.strongRecOn with
  | _ n ih =>
    intro k a r h0 hm hs hk
    by_cases hn : n < 128
    · rw [vlay_small hn]
      simp only [List.cons_append, List.nil_append, List.length_cons, List.length_nil]
      unfold vnum
      rw [byte_of n (by omega), if_neg, if_neg (by omega), if_neg (by omega), Nat.mod_eq_of_lt hn, if_neg (by omega)]
      rintro ⟨rfl, h1⟩
      have := small_k hs hk h1
      omega
    · have hk9 := small_k hs hk (show 2 ≤ n by omega)
      rw [vlay_more (by omega)]
      simp only [List.cons_append, List.length_cons]
      unfold vnum
      rw [byte_of _ (by omega), if_neg (by omega), if_pos (by omega), show (n % 128 + 128) % 128 = n % 128 by omega]
      rw [ih (n / 128) (by omega) (k + 1) _ r (fun _ => by omega) (by rw [digit_sum]; exact hm) (by rw [digit_sum]; exact hs) (by omega), digit_sum]
      congr 2
      omega

theorem vnum_lay0 (most n : Nat) (r : List UInt8) (hm : n ≤ most) (hs : n < 18446744073709551616) : vnum most (vlay n ++ r) 0 0 = (n, (vlay n).length, 0) := by
  have := vnum_lay most n 0 0 r (by omega) (by simpa using hm) (by simpa using hs) (by omega)
  simpa using this
/-! ## whole -/
theorem rbyte_lay (most : Nat) (b : UInt8) (r : List UInt8) (h : b.toNat ≤ most) : rbyte most (b :: r) 0 = (b.toNat, r, 0) := by
  simp only [rbyte]
  rw [if_neg (by simp), if_neg (by omega)]
theorem rnum_lay (most n : Nat) (r : List UInt8) (hm : n ≤ most) (hs : n < 18446744073709551616) : rnum most (vlay n ++ r) 0 = (n, r, 0) := by
  unfold rnum
  rw [if_neg (by simp), vnum_lay0 most n r hm hs]
  simp
theorem unzig_zig (i : Int) : unzig (zig i) = i := by
  unfold unzig zig
  by_cases h : 0 ≤ i
  · rw [if_pos h, if_pos (by omega)]; omega
  · rw [if_neg h, if_neg (by omega)]; omega
theorem rint_lay (i : Int) (r : List UInt8) (h1 : -9223372036854775808 ≤ i) (h2 : i ≤ 9223372036854775807) : rint (vlay (zig i) ++ r) 0 = (i, r, 0) := by
  have hz := zig_lt i h1 h2
  unfold rint
  rw [rnum_lay _ _ _ (by omega) hz, unzig_zig]
/-! ## cut off -/
/-! ## a fault stays -/
theorem rbyte_stuck {most f : Nat} {l : List UInt8} (h : f ≠ 0) : rbyte most l f = (0, l, f) := by simp [rbyte, h]
theorem rnum_stuck {most f : Nat} {l : List UInt8} (h : f ≠ 0) : rnum most l f = (0, l, f) := by simp [rnum, h]
/-! ## a beginning of D, cut off, or a fault that says so -/
def CutInv (D l : List UInt8) (f : Nat) : Prop := f = 10 ∨ (f = 0 ∧ ∃ m, m < D.length ∧ l = D.take m)
theorem CutInv.parts {B R l : List UInt8} {f : Nat} (h : CutInv (B ++ R) l f) : f = 10 ∨ (f = 0 ∧ ∃ m, m < B.length ∧ l = B.take m) ∨ (f = 0 ∧ ∃ m, m < R.length ∧ l = B ++ R.take m) := by
  rcases h with h | ⟨h, m, hm, rfl⟩
  · exact .inl h
  · rw [List.length_append] at hm
    by_cases hb : m < B.length
    · exact .inr (.inl ⟨h, m, hb, List.take_append_of_le_length (by omega)⟩)
    · obtain ⟨j, rfl⟩ : ∃ j, m = B.length + j := ⟨m - B.length, by omega⟩
      exact .inr (.inr ⟨h, j, by omega, List.take_length_add_append ..⟩)
end Go.Proofs.YtlkknncndgamdaaDoor

namespace Go.Proofs.YtlkknncndgamdaaDoor

/-- a command -/
structure CmdD where
  k : Int
  s : Int
  q : Int
  a : Int
  b : Int
  hi : Int
  lo : Int
  sc : Int
  x : List UInt8
  y : List UInt8
deriving DecidableEq
def CmdD.zero : CmdD := ⟨0, 0, 0, 0, 0, 0, 0, 0, [], []⟩
def U64 (n : Int) : Prop := 0 ≤ n ∧ n ≤ 18446744073709551615
def I64 (n : Int) : Prop := -9223372036854775808 ≤ n ∧ n ≤ 9223372036854775807
structure CmdD.ok (c : CmdD) : Prop where
  k : I64 c.k
  s : U64 c.s
  q : U64 c.q
  a : U64 c.a
  b : U64 c.b
  hi : I64 c.hi
  lo : U64 c.lo
  sc : I64 c.sc
  x : c.x.length ≤ 9223372036854775807
  y : c.y.length ≤ 9223372036854775807

/-- the fields of a kind, as a sum of 1 (session), 2, 4, 8, 16 (amount), 32, 64 -/
def fo (k : Int) : Nat := if k = 6 ∨ k = 8 then 31 else if k = 4 ∨ k = 5 then 23 else if k = 9 then 7 else if k = 7 then 115 else if k = 11 then 99 else if k = 3 ∨ k = 10 then 35 else if k = 2 then 39 else if k = 1 then 1 else 0
def wth (h f : Nat) : Bool := (h &&& f) != 0
theorem fo_kinds {k : Int} (h : fo k ≠ 0) : k = 1 ∨ k = 2 ∨ k = 3 ∨ k = 4 ∨ k = 5 ∨ k = 6 ∨ k = 7 ∨ k = 8 ∨ k = 9 ∨ k = 10 ∨ k = 11 := by
  unfold fo at h
  repeat' split at h
  all_goals first | omega | exact absurd rfl h
theorem fo_lt (k : Int) : fo k < 128 := by
  unfold fo
  repeat' split
  all_goals decide
theorem fo_off {k : Int} (h : ¬ (1 ≤ k ∧ k ≤ 11)) : fo k = 0 := by
  rcases Nat.eq_zero_or_pos (fo k) with h0 | h0
  · exact h0
  · have := fo_kinds (k := k) (by omega)
    omega
/-- every kind has a session -/
theorem fo_session {k : Int} (h : fo k ≠ 0) : wth (fo k) 1 = true := by
  rcases fo_kinds h with rfl | rfl | rfl | rfl | rfl | rfl | rfl | rfl | rfl | rfl | rfl <;> rfl
theorem wth_zero (f : Nat) : wth 0 f = false := by simp [wth]

def numB (n : Int) : Bool := decide (n ≥ 1) && decide (n ≤ 72057594037927935)
def letB (b : UInt8) : Bool := decide (65 ≤ b.toNat) && decide (b.toNat ≤ 90)
def nameB (l : List UInt8) : Bool := decide (l.length = 3) && l.all letB
def scB (n : Int) : Bool := decide (n ≥ 0) && decide (n ≤ 18)
def mayB (has right zero : Bool) : Bool := match has with | true => right | false => zero
def zeroD (c : CmdD) : Bool := c.hi == 0 && (c.lo == 0 && c.sc == 0)
def rightB (c : CmdD) : Bool :=
  fo c.k != 0 && mayB (wth (fo c.k) 1) (numB c.s) (c.s == 0) && mayB (wth (fo c.k) 2) (numB c.q) (c.q == 0) && mayB (wth (fo c.k) 4) true (c.a == 0) && mayB (wth (fo c.k) 8) true (c.b == 0)
    && mayB (wth (fo c.k) 16) (scB c.sc) (zeroD c) && mayB (wth (fo c.k) 32) (nameB c.x) (c.x == []) && mayB (wth (fo c.k) 64) (nameB c.y) (c.y == [])

/-! ## What is laid -/
def opt (b : Bool) (x : List UInt8) : List UInt8 := match b with | true => x | false => []
def putIf (b : Bool) (l x : List UInt8) : List UInt8 := match b with | true => l ++ x | false => l
theorem putIf_eq (b : Bool) (l x : List UInt8) : putIf b l x = l ++ opt b x := by cases b <;> simp [putIf, opt]
def layU (n : Int) : List UInt8 := vlay n.toNat
theorem layU_len {n : Int} (h : U64 n) : (layU n).length ≤ 10 := vlay_length _ (by have := h.2; omega)
def layD (hi lo sc : Int) : List UInt8 := [UInt8.ofNat sc.toNat] ++ vlay (zig hi) ++ layU lo
def encL (c : CmdD) : List UInt8 :=
  putIf (wth (fo c.k) 64) (putIf (wth (fo c.k) 32) (putIf (wth (fo c.k) 16) (putIf (wth (fo c.k) 8) (putIf (wth (fo c.k) 4) (putIf (wth (fo c.k) 2) (putIf (wth (fo c.k) 1) [UInt8.ofNat c.k.toNat] (layU c.s)) (layU c.q)) (layU c.a)) (layU c.b)) (layD c.hi c.lo c.sc)) c.x) c.y
theorem encL_eq (c : CmdD) : encL c = UInt8.ofNat c.k.toNat :: (opt (wth (fo c.k) 1) (layU c.s) ++ (opt (wth (fo c.k) 2) (layU c.q) ++ (opt (wth (fo c.k) 4) (layU c.a) ++ (opt (wth (fo c.k) 8) (layU c.b) ++ (opt (wth (fo c.k) 16) (layD c.hi c.lo c.sc) ++ (opt (wth (fo c.k) 32) c.x ++ opt (wth (fo c.k) 64) c.y)))))) := by
  unfold encL
  simp only [putIf_eq, List.append_assoc]
  rfl

/-! ## What is read -/
def rIf (b : Bool) (r : Nat × List UInt8 × Nat) (l : List UInt8) (f : Nat) : Nat × List UInt8 × Nat := match b with | true => r | false => (0, l, f)
def rdec (l : List UInt8) (f : Nat) : (Int × Nat × Nat) × List UInt8 × Nat :=
  (((rint (rbyte 18 l f).2.1 (rbyte 18 l f).2.2).1, (rnum 18446744073709551615 (rint (rbyte 18 l f).2.1 (rbyte 18 l f).2.2).2.1 (rint (rbyte 18 l f).2.1 (rbyte 18 l f).2.2).2.2).1, (rbyte 18 l f).1), (rnum 18446744073709551615 (rint (rbyte 18 l f).2.1 (rbyte 18 l f).2.2).2.1 (rint (rbyte 18 l f).2.1 (rbyte 18 l f).2.2).2.2).2)
theorem rdec_of {l l1 l2 l3 : List UInt8} {f f1 f2 f3 sc lo : Nat} {hi : Int} (h1 : rbyte 18 l f = (sc, l1, f1)) (h2 : rint l1 f1 = (hi, l2, f2)) (h3 : rnum 18446744073709551615 l2 f2 = (lo, l3, f3)) : rdec l f = ((hi, lo, sc), l3, f3) := by
  simp only [rdec, h1, h2, h3]
def rnam (l : List UInt8) (f : Nat) : List UInt8 × List UInt8 × Nat :=
  ([UInt8.ofNat (rbyte 90 l f).1, UInt8.ofNat (rbyte 90 (rbyte 90 l f).2.1 (rbyte 90 l f).2.2).1, UInt8.ofNat (rbyte 90 (rbyte 90 (rbyte 90 l f).2.1 (rbyte 90 l f).2.2).2.1 (rbyte 90 (rbyte 90 l f).2.1 (rbyte 90 l f).2.2).2.2).1], (rbyte 90 (rbyte 90 (rbyte 90 l f).2.1 (rbyte 90 l f).2.2).2.1 (rbyte 90 (rbyte 90 l f).2.1 (rbyte 90 l f).2.2).2.2).2)
theorem rnam_of {l l1 l2 l3 : List UInt8} {f f1 f2 f3 a b c : Nat} (h1 : rbyte 90 l f = (a, l1, f1)) (h2 : rbyte 90 l1 f1 = (b, l2, f2)) (h3 : rbyte 90 l2 f2 = (c, l3, f3)) : rnam l f = ([UInt8.ofNat a, UInt8.ofNat b, UInt8.ofNat c], l3, f3) := by
  simp only [rnam, h1, h2, h3]
def rIfD (b : Bool) (l : List UInt8) (f : Nat) : (Int × Nat × Nat) × List UInt8 × Nat := match b with | true => rdec l f | false => ((0, 0, 0), l, f)
def rIfX (b : Bool) (l : List UInt8) (f : Nat) : List UInt8 × List UInt8 × Nat := match b with | true => rnam l f | false => ([], l, f)
/-- what is read of l: the command, the rest, what was wrong -/
structure Read (l : List UInt8) (c : CmdD) (l' : List UInt8) (f' : Nat) where
  mk ::
  n0 : Nat
  l0 : List UInt8
  f0 : Nat
  h0 : rbyte 11 l 0 = (n0, l0, f0)
  n1 : Nat
  l1 : List UInt8
  f1 : Nat
  h1 : rIf (wth (fo (n0 : Int)) 1) (rnum 72057594037927935 l0 f0) l0 f0 = (n1, l1, f1)
  n2 : Nat
  l2 : List UInt8
  f2 : Nat
  h2 : rIf (wth (fo (n0 : Int)) 2) (rnum 72057594037927935 l1 f1) l1 f1 = (n2, l2, f2)
  n3 : Nat
  l3 : List UInt8
  f3 : Nat
  h3 : rIf (wth (fo (n0 : Int)) 4) (rnum 18446744073709551615 l2 f2) l2 f2 = (n3, l3, f3)
  n4 : Nat
  l4 : List UInt8
  f4 : Nat
  h4 : rIf (wth (fo (n0 : Int)) 8) (rnum 18446744073709551615 l3 f3) l3 f3 = (n4, l4, f4)
  hi : Int
  lo : Nat
  sc : Nat
  l5 : List UInt8
  f5 : Nat
  h5 : rIfD (wth (fo (n0 : Int)) 16) l4 f4 = ((hi, lo, sc), l5, f5)
  x : List UInt8
  l6 : List UInt8
  f6 : Nat
  h6 : rIfX (wth (fo (n0 : Int)) 32) l5 f5 = (x, l6, f6)
  y : List UInt8
  h7 : rIfX (wth (fo (n0 : Int)) 64) l6 f6 = (y, l', f')
  hc : c = ⟨(n0 : Int), (n1 : Int), (n2 : Int), (n3 : Int), (n4 : Int), hi, (lo : Int), (sc : Int), x, y⟩
/-- something is always read -/
theorem read_any (l : List UInt8) : ∃ c l' f', Nonempty (Read l c l' f') := by
  obtain ⟨⟨n0, l0, f0⟩, h0⟩ : ∃ R, rbyte 11 l 0 = R := ⟨_, rfl⟩
  obtain ⟨⟨n1, l1, f1⟩, h1⟩ : ∃ R, rIf (wth (fo (n0 : Int)) 1) (rnum 72057594037927935 l0 f0) l0 f0 = R := ⟨_, rfl⟩
  obtain ⟨⟨n2, l2, f2⟩, h2⟩ : ∃ R, rIf (wth (fo (n0 : Int)) 2) (rnum 72057594037927935 l1 f1) l1 f1 = R := ⟨_, rfl⟩
  obtain ⟨⟨n3, l3, f3⟩, h3⟩ : ∃ R, rIf (wth (fo (n0 : Int)) 4) (rnum 18446744073709551615 l2 f2) l2 f2 = R := ⟨_, rfl⟩
  obtain ⟨⟨n4, l4, f4⟩, h4⟩ : ∃ R, rIf (wth (fo (n0 : Int)) 8) (rnum 18446744073709551615 l3 f3) l3 f3 = R := ⟨_, rfl⟩
  obtain ⟨⟨⟨hi, lo, sc⟩, l5, f5⟩, h5⟩ : ∃ R, rIfD (wth (fo (n0 : Int)) 16) l4 f4 = R := ⟨_, rfl⟩
  obtain ⟨⟨x, l6, f6⟩, h6⟩ : ∃ R, rIfX (wth (fo (n0 : Int)) 32) l5 f5 = R := ⟨_, rfl⟩
  obtain ⟨⟨y, l7, f7⟩, h7⟩ : ∃ R, rIfX (wth (fo (n0 : Int)) 64) l6 f6 = R := ⟨_, rfl⟩
  exact ⟨_, l7, f7, ⟨⟨n0, l0, f0, h0, n1, l1, f1, h1, n2, l2, f2, h2, n3, l3, f3, h3, n4, l4, f4, h4, hi, lo, sc, l5, f5, h5, x, l6, f6, h6, y, h7, rfl⟩⟩⟩
/-- what Decode answers -/
structure Decoded (l : List UInt8) (c : CmdD) (e : Nat) : Prop where
  is : (l.length > 128 ∧ c = .zero ∧ e = 12) ∨ (l.length ≤ 128 ∧ ∃ c0 l' f', Nonempty (Read l c0 l' f') ∧ ((rend l' f' ≠ 0 ∧ c = .zero ∧ e = rend l' f') ∨ (rend l' f' = 0 ∧ rightB c0 = false ∧ c = .zero ∧ e = 11) ∨ (rend l' f' = 0 ∧ rightB c0 = true ∧ c = c0 ∧ e = 0)))
theorem decoded_any (l : List UInt8) : ∃ c e, Decoded l c e := by
  by_cases h : l.length > 128
  · exact ⟨.zero, 12, ⟨.inl ⟨h, rfl, rfl⟩⟩⟩
  · obtain ⟨c0, l', f', hr⟩ := read_any l
    by_cases he : rend l' f' = 0
    · cases hR : rightB c0
      · exact ⟨.zero, 11, ⟨.inr ⟨by omega, c0, l', f', hr, .inr (.inl ⟨he, hR, rfl, rfl⟩)⟩⟩⟩
      · exact ⟨c0, 0, ⟨.inr ⟨by omega, c0, l', f', hr, .inr (.inr ⟨he, hR, rfl, rfl⟩)⟩⟩⟩
    · exact ⟨.zero, _, ⟨.inr ⟨by omega, c0, l', f', hr, .inl ⟨he, rfl, rfl⟩⟩⟩⟩

/-! ## What was laid is read -/
theorem rIf_lay {b : Bool} {most n : Nat} {r : List UInt8} (hm : n ≤ most) (hs : n < 18446744073709551616) (h0 : b = false → n = 0) : rIf b (rnum most (opt b (vlay n) ++ r) 0) (opt b (vlay n) ++ r) 0 = (n, r, 0) := by
  cases b with
  | true => exact rnum_lay most n r hm hs
  | false => rw [h0 rfl]; rfl
theorem rIfU_lay {b : Bool} {most : Nat} {n : Int} {r : List UInt8} (hn : 0 ≤ n) (hm : n.toNat ≤ most) (hs : n.toNat < 18446744073709551616) (h0 : b = false → n = 0) : rIf b (rnum most (opt b (layU n) ++ r) 0) (opt b (layU n) ++ r) 0 = (n.toNat, r, 0) :=
  rIf_lay hm hs fun h => by rw [h0 h]; rfl
theorem rdec_lay {hi lo sc : Int} {r : List UInt8} (h1 : I64 hi) (h2 : U64 lo) (h3 : 0 ≤ sc ∧ sc ≤ 18) : rdec (layD hi lo sc ++ r) 0 = ((hi, lo.toNat, sc.toNat), r, 0) := by
  have e : (UInt8.ofNat sc.toNat).toNat = sc.toNat := byte_of _ (by omega)
  have e1 : rbyte 18 (layD hi lo sc ++ r) 0 = (sc.toNat, vlay (zig hi) ++ (layU lo ++ r), 0) := by
    unfold layD
    rw [List.append_assoc, List.append_assoc]
    exact (rbyte_lay 18 _ _ (by omega)).trans (by rw [e]; rfl)
  exact rdec_of e1 (rint_lay hi _ h1.1 h1.2) (rnum_lay _ _ _ (by have := h2.2; omega) (by have := h2.2; omega))
theorem letB_iff {b : UInt8} (h : letB b = true) : 65 ≤ b.toNat ∧ b.toNat ≤ 90 := by
  unfold letB at h
  simpa using h
theorem nameB_iff {l : List UInt8} (h : nameB l = true) : ∃ a b c, l = [a, b, c] ∧ letB a = true ∧ letB b = true ∧ letB c = true := by
  unfold nameB at h
  simp only [Bool.and_eq_true, decide_eq_true_eq] at h
  obtain ⟨h1, h2⟩ := h
  match l, h1 with
  | [a, b, c], _ => exact ⟨a, b, c, rfl, by simpa using h2⟩
theorem rnam_lay {l r : List UInt8} (h : nameB l = true) : rnam (l ++ r) 0 = (l, r, 0) := by
  obtain ⟨a, b, c, rfl, ha, hb, hc⟩ := nameB_iff h
  have ha := letB_iff ha
  have hb := letB_iff hb
  have hc := letB_iff hc
  have := rnam_of (rbyte_lay 90 a (b :: c :: r) ha.2) (rbyte_lay 90 b (c :: r) hb.2) (rbyte_lay 90 c r hc.2)
  simpa using this
theorem rIfX_lay {b : Bool} {l r : List UInt8} (h1 : b = true → nameB l = true) (h0 : b = false → l = []) : rIfX b (opt b l ++ r) 0 = (l, r, 0) := by
  cases b with
  | true => exact rnam_lay (h1 rfl)
  | false => rw [h0 rfl]; rfl
theorem numB_iff {n : Int} (h : numB n = true) : 1 ≤ n ∧ n ≤ 72057594037927935 := by
  unfold numB at h
  simpa using h
theorem scB_iff {n : Int} (h : scB n = true) : 0 ≤ n ∧ n ≤ 18 := by
  unfold scB at h
  simpa using h
/-- what a command that may be has -/
structure RightD (c : CmdD) : Prop where
  k : fo c.k ≠ 0
  s : mayB (wth (fo c.k) 1) (numB c.s) (c.s == 0) = true
  q : mayB (wth (fo c.k) 2) (numB c.q) (c.q == 0) = true
  a : mayB (wth (fo c.k) 4) true (c.a == 0) = true
  b : mayB (wth (fo c.k) 8) true (c.b == 0) = true
  d : mayB (wth (fo c.k) 16) (scB c.sc) (zeroD c) = true
  x : mayB (wth (fo c.k) 32) (nameB c.x) (c.x == []) = true
  y : mayB (wth (fo c.k) 64) (nameB c.y) (c.y == []) = true
theorem rightB_iff {c : CmdD} (h : rightB c = true) : RightD c := by
  unfold rightB at h
  simp only [Bool.and_eq_true, bne_iff_ne, ne_eq] at h
  obtain ⟨⟨⟨⟨⟨⟨⟨h0, h1⟩, h2⟩, h3⟩, h4⟩, h5⟩, h6⟩, h7⟩ := h
  exact ⟨h0, h1, h2, h3, h4, h5, h6, h7⟩
theorem mayB_t {b r z : Bool} (h : mayB b r z = true) (hb : b = true) : r = true := by subst hb; exact h
theorem mayB_f {b r z : Bool} (h : mayB b r z = true) (hb : b = false) : z = true := by subst hb; exact h
/-- a command that may be is laid, and read again -/
theorem read_lay {c : CmdD} (ho : c.ok) (h : rightB c = true) : Nonempty (Read (encL c) c [] 0) := by
  have R := rightB_iff h
  have hk : 1 ≤ c.k ∧ c.k ≤ 11 := by have := fo_kinds R.k; omega
  have e0 : (UInt8.ofNat c.k.toNat).toNat = c.k.toNat := byte_of _ (by omega)
  have ek : ((c.k.toNat : Nat) : Int) = c.k := by omega
  have hs : 0 ≤ c.s ∧ c.s ≤ 72057594037927935 := by
    cases hb : wth (fo c.k) 1
    · have := mayB_f R.s hb; simp at this; omega
    · have := numB_iff (mayB_t R.s hb); omega
  have hq : 0 ≤ c.q ∧ c.q ≤ 72057594037927935 := by
    cases hb : wth (fo c.k) 2
    · have := mayB_f R.q hb; simp at this; omega
    · have := numB_iff (mayB_t R.q hb); omega
  have ha := ho.a
  have hb := ho.b
  have hlo := ho.lo
  unfold U64 at ha hb hlo
  have hD : rIfD (wth (fo c.k) 16) (opt (wth (fo c.k) 16) (layD c.hi c.lo c.sc) ++ (opt (wth (fo c.k) 32) c.x ++ opt (wth (fo c.k) 64) c.y)) 0 = ((c.hi, c.lo.toNat, c.sc.toNat), opt (wth (fo c.k) 32) c.x ++ opt (wth (fo c.k) 64) c.y, 0) := by
    cases hd : wth (fo c.k) 16
    · have := mayB_f R.d hd
      unfold zeroD at this
      simp at this
      obtain ⟨h1, h2, h3⟩ := this
      rw [h1, h2, h3]; rfl
    · exact rdec_lay ho.hi ho.lo (scB_iff (mayB_t R.d hd))
  have hsc : ((c.sc.toNat : Nat) : Int) = c.sc := by
    cases hd : wth (fo c.k) 16
    · have := mayB_f R.d hd
      unfold zeroD at this
      simp at this
      omega
    · have := scB_iff (mayB_t R.d hd); omega
  refine ⟨⟨c.k.toNat, _, 0, by rw [encL_eq, rbyte_lay 11 _ _ (by omega), e0], c.s.toNat, _, 0, by rw [ek]; exact rIfU_lay hs.1 (by omega) (by omega) (fun hf => by have := mayB_f R.s hf; simpa using this),
    c.q.toNat, _, 0, by rw [ek]; exact rIfU_lay hq.1 (by omega) (by omega) (fun hf => by have := mayB_f R.q hf; simpa using this),
    c.a.toNat, _, 0, by rw [ek]; exact rIfU_lay ha.1 (by omega) (by omega) (fun hf => by have := mayB_f R.a hf; simpa using this),
    c.b.toNat, _, 0, by rw [ek]; exact rIfU_lay hb.1 (by omega) (by omega) (fun hf => by have := mayB_f R.b hf; simpa using this),
    c.hi, c.lo.toNat, c.sc.toNat, _, 0, by rw [ek]; exact hD, c.x, _, 0, by rw [ek]; exact rIfX_lay (fun ht => mayB_t R.x ht) (fun hf => by have := mayB_f R.x hf; simpa using this),
    c.y, by rw [ek]; have := rIfX_lay (r := []) (l := c.y) (fun ht => mayB_t R.y ht) (fun hf => by have := mayB_f R.y hf; simpa using this); rwa [List.append_nil] at this, ?_⟩⟩
  rw [ek, hsc, show ((c.s.toNat : Nat) : Int) = c.s by omega, show ((c.q.toNat : Nat) : Int) = c.q by omega, show ((c.a.toNat : Nat) : Int) = c.a by omega, show ((c.b.toNat : Nat) : Int) = c.b by omega, show ((c.lo.toNat : Nat) : Int) = c.lo by omega]
theorem zig_len {n : Int} (h : I64 n) : (vlay (zig n)).length ≤ 10 := vlay_length _ (zig_lt n h.1 h.2)
theorem layD_len {hi lo sc : Int} (h1 : I64 hi) (h2 : U64 lo) : (layD hi lo sc).length ≤ 21 := by
  unfold layD
  have := zig_len h1
  have := layU_len h2
  simp only [List.length_append, List.length_cons, List.length_nil]
  omega
theorem opt_len (b : Bool) (x : List UInt8) : (opt b x).length ≤ x.length := by cases b <;> simp [opt]
/-- its bytes are few -/
theorem encL_len {c : CmdD} (ho : c.ok) (h : rightB c = true) : (encL c).length ≤ 128 := by
  have R := rightB_iff h
  have hx : (opt (wth (fo c.k) 32) c.x).length ≤ 3 := by
    cases hb : wth (fo c.k) 32
    · simp [opt]
    · obtain ⟨_, _, _, e, _⟩ := nameB_iff (mayB_t R.x hb); rw [e]; simp [opt]
  have hy : (opt (wth (fo c.k) 64) c.y).length ≤ 3 := by
    cases hb : wth (fo c.k) 64
    · simp [opt]
    · obtain ⟨_, _, _, e, _⟩ := nameB_iff (mayB_t R.y hb); rw [e]; simp [opt]
  have h1 := Nat.le_trans (opt_len (wth (fo c.k) 1) (layU c.s)) (layU_len ho.s)
  have h2 := Nat.le_trans (opt_len (wth (fo c.k) 2) (layU c.q)) (layU_len ho.q)
  have h3 := Nat.le_trans (opt_len (wth (fo c.k) 4) (layU c.a)) (layU_len ho.a)
  have h4 := Nat.le_trans (opt_len (wth (fo c.k) 8) (layU c.b)) (layU_len ho.b)
  have h5 := Nat.le_trans (opt_len (wth (fo c.k) 16) (layD c.hi c.lo c.sc)) (layD_len ho.hi ho.lo)
  rw [encL_eq]
  simp only [List.length_cons, List.length_append]
  omega
/-! ## What was read is laid so -/
theorem rIf_lt {b : Bool} {most : Nat} {l : List UInt8} {f n f' : Nat} {l' : List UInt8} (h : rIf b (rnum most l f) l f = (n, l', f')) : n < 18446744073709551616 := by
  cases b with
  | true =>
    have h' : rnum most l f = (n, l', f') := h
    have := rnum_lt most l f
    rwa [h'] at this
  | false =>
    have h' : (0, l, f) = (n, l', f') := h
    simp only [Prod.mk.injEq] at h'
    rw [← h'.1]; decide
theorem rIfD_ok {b : Bool} {hi : Int} {lo sc f f' : Nat} {l l' : List UInt8} (h : rIfD b l f = ((hi, lo, sc), l', f')) : I64 hi ∧ lo < 18446744073709551616 ∧ sc < 256 := by
  cases b with
  | true =>
    have h' : rdec l f = ((hi, lo, sc), l', f') := h
    unfold rdec at h'
    simp only [Prod.mk.injEq] at h'
    obtain ⟨⟨rfl, rfl, rfl⟩, _⟩ := h'
    exact ⟨rint_range _ _, rnum_lt _ _ _, rbyte_lt _ _ _⟩
  | false =>
    have h' : (((0 : Int), (0 : Nat), (0 : Nat)), l, f) = ((hi, lo, sc), l', f') := h
    simp only [Prod.mk.injEq] at h'
    obtain ⟨⟨rfl, rfl, rfl⟩, _⟩ := h'
    exact ⟨⟨by decide, by decide⟩, by decide, by decide⟩
theorem rIfX_ok {b : Bool} {x : List UInt8} {f f' : Nat} {l l' : List UInt8} (h : rIfX b l f = (x, l', f')) : x.length ≤ 3 := by
  cases b with
  | true =>
    have h' : rnam l f = (x, l', f') := h
    unfold rnam at h'
    simp only [Prod.mk.injEq] at h'
    rw [← h'.1]; simp
  | false =>
    have h' : (([] : List UInt8), l, f) = (x, l', f') := h
    simp only [Prod.mk.injEq] at h'
    rw [← h'.1]; simp
/-- what is read is within its bounds -/
theorem Read.ok {l l' : List UInt8} {c : CmdD} {f' : Nat} (h : Read l c l' f') : c.ok := by
  obtain ⟨n0, l0, f0, h0, n1, l1, f1, h1, n2, l2, f2, h2, n3, l3, f3, h3, n4, l4, f4, h4, hi, lo, sc, l5, f5, h5, x, l6, f6, h6, y, h7, rfl⟩ := h
  have b0 := rbyte_lt 11 l 0
  rw [h0] at b0
  have b1 := rIf_lt h1
  have b2 := rIf_lt h2
  have b3 := rIf_lt h3
  have b4 := rIf_lt h4
  obtain ⟨b5, b6, b7⟩ := rIfD_ok h5
  have b8 := rIfX_ok h6
  have b9 := rIfX_ok h7
  have b0 : n0 < 256 := b0
  exact ⟨⟨by simp only; omega, by simp only; omega⟩, ⟨by simp only; omega, by simp only; omega⟩, ⟨by simp only; omega, by simp only; omega⟩, ⟨by simp only; omega, by simp only; omega⟩, ⟨by simp only; omega, by simp only; omega⟩, b5, ⟨by simp only; omega, by simp only; omega⟩, ⟨by simp only; omega, by simp only; omega⟩, by simp only; omega, by simp only; omega⟩
/-- what is read is one -/
theorem Read.one {l l1 l2 : List UInt8} {c1 c2 : CmdD} {f1 f2 : Nat} (h : Read l c1 l1 f1) (g : Read l c2 l2 f2) : c1 = c2 ∧ l1 = l2 ∧ f1 = f2 := by
  obtain ⟨n0, l0, f0, h0, n1, l1', f1', h1, n2, l2', f2', h2, n3, l3, f3, h3, n4, l4, f4, h4, hi, lo, sc, l5, f5, h5, x, l6, f6, h6, y, h7, rfl⟩ := h
  obtain ⟨m0, k0, g0, i0, m1, k1, g1, i1, m2, k2, g2, i2, m3, k3, g3, i3, m4, k4, g4, i4, hi', lo', sc', k5, g5, i5, x', k6, g6, i6, y', i7, rfl⟩ := g
  have e0 := h0.symm.trans i0; simp only [Prod.mk.injEq] at e0; obtain ⟨rfl, rfl, rfl⟩ := e0
  have e1 := h1.symm.trans i1; simp only [Prod.mk.injEq] at e1; obtain ⟨rfl, rfl, rfl⟩ := e1
  have e2 := h2.symm.trans i2; simp only [Prod.mk.injEq] at e2; obtain ⟨rfl, rfl, rfl⟩ := e2
  have e3 := h3.symm.trans i3; simp only [Prod.mk.injEq] at e3; obtain ⟨rfl, rfl, rfl⟩ := e3
  have e4 := h4.symm.trans i4; simp only [Prod.mk.injEq] at e4; obtain ⟨rfl, rfl, rfl⟩ := e4
  have e5 := h5.symm.trans i5; simp only [Prod.mk.injEq] at e5; obtain ⟨⟨rfl, rfl, rfl⟩, rfl, rfl⟩ := e5
  have e6 := h6.symm.trans i6; simp only [Prod.mk.injEq] at e6; obtain ⟨rfl, rfl, rfl⟩ := e6
  have e7 := h7.symm.trans i7; simp only [Prod.mk.injEq] at e7; obtain ⟨rfl, rfl, rfl⟩ := e7
  exact ⟨rfl, rfl, rfl⟩
theorem Decoded.one {l : List UInt8} {c1 c2 : CmdD} {e1 e2 : Nat} (h : Decoded l c1 e1) (g : Decoded l c2 e2) : c1 = c2 ∧ e1 = e2 := by
  rcases h.is with ⟨h1, h2, h3⟩ | ⟨h1, a, b, d, ⟨hr⟩, h2⟩ <;> rcases g.is with ⟨g1, g2, g3⟩ | ⟨g1, a', b', d', ⟨gr⟩, g2⟩
  · exact ⟨h2.trans g2.symm, h3.trans g3.symm⟩
  · omega
  · omega
  · obtain ⟨rfl, rfl, rfl⟩ := hr.one gr
    rcases h2 with ⟨p, q, r⟩ | ⟨p, q, r, t⟩ | ⟨p, q, r, t⟩ <;> rcases g2 with ⟨p', q', r'⟩ | ⟨p', q', r', t'⟩ | ⟨p', q', r', t'⟩
    all_goals first
      | exact ⟨q.trans q'.symm, r.trans r'.symm⟩
      | exact ⟨r.trans r'.symm, t.trans t'.symm⟩
      | exact absurd p' p
      | exact absurd p p'
      | (rw [q] at q'; cases q')
/-- a command that may be comes back -/
theorem decoded_lay {c : CmdD} (ho : c.ok) (h : rightB c = true) : Decoded (encL c) c 0 :=
  ⟨.inr ⟨encL_len ho h, c, [], 0, read_lay ho h, .inr (.inr ⟨rfl, h, rfl, rfl⟩)⟩⟩
end Go.Proofs.YtlkknncndgamdaaDoor

namespace Go.Proofs.YtlkknncndgamdaaDoor.Sep
open Go.RowKit
open Go.Proofs.YtlkknncndgamdaaDoor.Mem (Dist Blk Chg below0)

theorem flatB (l : List UInt8) : flat encB l = u8s l := by
  induction l with
  | nil => rfl
  | cons x l ih => rw [flat_cons, ih]; rfl

/-! ## A slice that reads as bytes -/
def Sl8 (w : World) (v : Value) (l : List UInt8) : Prop := ∃ A c, v = .slice A l.length c ∧ Bs (fun _ => True) w A c l
section
variable {u w w0 : World} {v : Value} {l : List UInt8} {X : Ass} {B : Nat → Prop} {os : List Ass} {rs : List RowT}
theorem Sl8.below (h : Sl8 u v l) (hb : Below u.heap.size u w) : Sl8 w v l := by
  obtain ⟨A, c, e, h⟩ := h
  exact ⟨A, c, e, h.old hb⟩
theorem Sl8.rd (h : Sl8 w v l) : SlRd w 1 v l.length (flat encB l) := by
  obtain ⟨A, c, rfl, h⟩ := h
  refine ⟨by rw [flatB, u8s_length, Nat.mul_one], A, c, rfl, ?_⟩
  rcases Nat.eq_zero_or_pos l.length with h0 | h0
  · cases A with
    | none => exact .inl ⟨rfl, h0⟩
    | some a =>
      refine .inr ⟨a, rfl, fun j x hx => ?_⟩
      rw [flatB] at hx
      have := (List.getElem?_eq_some_iff.1 hx).1
      rw [u8s_length] at this
      omega
  · obtain ⟨g, o, rfl, _, hc⟩ := h.2.2 h0
    refine .inr ⟨_, rfl, fun j x hx => ?_⟩
    rw [flatB] at hx
    obtain ⟨b, hb, rfl⟩ := u8s_get hx
    rw [Addr.add_lit]
    exact hc j b hb
theorem Sl8.cells (h : Sl8 w v l) : v.cells = #[v] := by
  obtain ⟨A, c, rfl, _⟩ := h
  rfl
theorem own_vec {base : Nat} (h : Own 5 w base v l) : ∃ rs, Vec 5 1 encB v l rs ∧ RowsOf w rs ∧ Dist rs ∧ ∀ x ∈ rs, At v x.1 ∧ base ≤ x.1 := by
  obtain ⟨h1, h2⟩ := h
  rcases h2 with ⟨hv, hn⟩ | ⟨g, cap, cur, hv, hb, hg, hnc, hm, hs, ht⟩
  · exact ⟨[], .inl ⟨hv, List.eq_nil_of_length_eq_zero hn, rfl⟩, trivial, trivial, fun x hx => by cases hx⟩
  · refine ⟨[(g, 5, cur)], .inr ⟨g, cap, cur, hv, hnc, hm, hs, by rw [flatB]; exact ht, rfl⟩, ⟨hg, trivial⟩, ⟨(fun _ h => by cases h), trivial⟩, fun x hx => ?_⟩
    have : x = (g, 5, cur) := by simpa using hx
    subst this
    exact ⟨by rw [hv]; rfl, hb⟩
theorem vec_own (h : Vec 5 1 encB v l rs) (hr : RowsOf w rs) : Own 5 w 0 v l := by
  refine ⟨by rw [u8s_length, Nat.mul_one], ?_⟩
  rcases h with ⟨h1, h2, _⟩ | ⟨g, c, cs, h1, h2, h3, h4, h5, h6⟩
  · exact .inl ⟨h1, by rw [h2]; rfl⟩
  · subst h6
    exact .inr ⟨g, c, cs, h1, Nat.zero_le _, hr.1, h2, h3, h4, by rw [← flatB]; exact h5⟩
theorem vec_sl8 (h : Vec 5 1 encB v l rs) (hr : RowsOf w rs) : Sl8 w v l := by
  obtain ⟨A, c, e, hb⟩ := (vec_own h hr).form
  exact ⟨A, c, e, hb.weaken fun _ _ _ => trivial⟩
theorem Hp.sl8 (h : Hp B w0 w os) (i : Nat) (hi : os[i]? = some (Vec 5 1 encB v l)) : Sl8 w v l := by
  obtain ⟨rs, h1, h2⟩ := h.thing i hi
  exact vec_sl8 h1 h2
def Rd8 (X : Ass) (v : Value) (l : List UInt8) : Prop := ∀ rs w, X rs → RowsOf w rs → Sl8 w v l
theorem Rd8.rd (h : Rd8 X v l) : Rd X 1 encB v l := fun rs w h1 h2 => (h rs w h1 h2).rd
theorem rd8_vec : Rd8 (Vec 5 1 encB v l) v l := fun _ _ h1 h2 => vec_sl8 h1 h2
theorem Rd8.drop {A : Option Addr} {c k : Nat} (h : Rd8 X (.slice A l.length c) l) (hk : k ≤ l.length) : Rd8 X (.slice (if c = k then A else A.map (·.add k)) (l.drop k).length (c - k)) (l.drop k) := fun rs w h1 h2 => by
  obtain ⟨A', c', e, hb⟩ := h rs w h1 h2
  simp only [Value.slice.injEq] at e
  obtain ⟨rfl, _, rfl⟩ := e
  exact ⟨_, _, rfl, hb.drop hk⟩
theorem sub_drop {A : Option Addr} {n c k : Nat} (hl : l.length - k = n) (hn : l.length = n + k) : subv 1 (.slice A l.length c) k l.length = .slice (if c = k then A else A.map (·.add k)) n (c - k) := by
  show Value.slice (if c = k then A else A.map (·.add (k * 1))) (l.length - k) (c - k) = _
  rw [Nat.mul_one, hl]
theorem Hp.rd8 (h : Hp B w0 w os) (i : Nat) (hi : os[i]? = some X) (hu : Rd8 X v l) : Sl8 w v l := by
  obtain ⟨rs, h1, h2⟩ := h.thing i hi
  exact hu rs w h1 h2
end

/-! ## Calls that answer new bytes -/
section
variable {P : Program} {F : FuncId} {args : Array Value} {l : List UInt8} {X : Ass} {u : World}
theorem chg_new {w w' : World} {rs rs' : List RowT} (hr : RowsOf w rs) (hd : Dist rs) (hb : Below w.heap.size w w') (h1 : RowsOf w' rs') (h2 : Dist rs') (h3 : ∀ x ∈ rs', w.heap.size ≤ x.1) : Chg w w' rs (rs ++ rs') := by
  refine ⟨Mod.of_below hb _, rows_iff.2 fun x hx => ?_, Mem.dist_app hd h2 fun x hx y hy e => ?_, fun x hx hlt => ?_⟩
  · rcases List.mem_append.1 hx with h | h
    · exact (hr.mem x h).below hb (hr.mem x h).lt
    · exact h1.mem x h
  · have := (hr.mem x hx).lt
    have := h3 y hy
    omega
  · rcases List.mem_append.1 hx with h | h
    · exact ⟨x, h, rfl⟩
    · have := h3 x h
      omega
theorem does_own (h : ∀ w, Calls P F args w fun e w' => ∃ v', e = .returned v' ∧ Own 5 w' w.heap.size v' l ∧ Below w.heap.size w w') : Does P F args [] (fun v : Value => v) (fun v => [Vec 5 1 encB v l]) := fun w rs h1 h2 h3 => by
  unfold Parts at h1
  subst h1
  refine (h w).mono ?_
  rintro e w' ⟨v, he, ho, hb⟩
  obtain ⟨rs', hv, hr, hd, hx⟩ := own_vec ho
  exact ⟨v, he, rs', Parts.one hv, by simpa using chg_new (rs := []) trivial trivial hb hr hd fun x h => (hx x h).2⟩
theorem does_ownX (h : ∀ w rs, X rs → RowsOf w rs → Calls P F args w fun e w' => ∃ v', e = .returned v' ∧ Own 5 w' w.heap.size v' l ∧ Below w.heap.size w w') : Does P F args [X] (fun v : Value => v) (fun v => [X, Vec 5 1 encB v l]) := fun w rs h1 h2 h3 => by
  have hX := h1.one'
  refine (h w rs hX h2).mono ?_
  rintro e w' ⟨v, he, ho, hb⟩
  obtain ⟨rs', hv, hr, hd, hx⟩ := own_vec ho
  exact ⟨v, he, rs ++ rs', ⟨rs, rs', rfl, hX, Parts.one hv⟩, chg_new h2 h3 hb hr hd fun x h => (hx x h).2⟩
theorem does_ownU (h : ∀ w, Below u.heap.size u w → Calls P F args w fun e w' => ∃ v', e = .returned v' ∧ Own 5 w' w.heap.size v' l ∧ Below w.heap.size w w') : DoesU u P F args [] (fun v : Value => v) (fun v => [Vec 5 1 encB v l]) := fun w rs hU _ h1 h2 h3 => by
  unfold Parts at h1
  subst h1
  refine (h w hU).mono ?_
  rintro e w' ⟨v, he, ho, hb⟩
  obtain ⟨rs', hv, hr, hd, hx⟩ := own_vec ho
  exact ⟨v, he, rs', Parts.one hv, by simpa using chg_new (rs := []) trivial trivial hb hr hd fun x h => (hx x h).2⟩
end
theorem clone8U (u : World) {v : Value} {l : List UInt8} (h : Sl8 u v l) (hl : l.length ≤ 140737488355328) : DoesU u Tryd.prog 45 #[v] [] (fun v : Value => v) (fun v => [Vec 5 1 encB v l]) :=
  does_ownU fun w hU => by
    obtain ⟨A, c, rfl, hb⟩ := h.below hU
    exact clone_any w A c l hb hl

/-! ## A writer -/
def WtT (g : Nat) (l : List UInt8) : Ass := fun rs => ∃ v, Parts [cell g 73 #[v], Vec 5 1 encB v l] rs
theorem wt_wtr {w : World} {rs : List RowT} {g : Nat} {l : List UInt8} (h : WtT g l rs) (hr : RowsOf w rs) : ∃ v rv, rs = (g, 73, #[v]) :: rv ∧ Vec 5 1 encB v l rv ∧ Wtr w g v l := by
  obtain ⟨v, a, b, rfl, h1, h2⟩ := h
  unfold cell at h1
  subst h1
  have h3 := h2.one'
  exact ⟨v, b, rfl, h3, hr.1, vec_own h3 hr.2⟩
theorem does_wt {F : FuncId} {args : Array Value} {g : Nat} {l m : List UInt8} (h : ∀ w v, Wtr w g v l → Calls Tryd.prog F args w fun e w' => ∃ v', e = .returned (.tuple #[]) ∧ Wtr w' g v' m ∧ Mod (Foot g v) w w' ∧ ∀ k, At v' k → At v k ∨ w.heap.size ≤ k) : Does Tryd.prog F args [WtT g l] (fun _ : Unit => .tuple #[]) (fun _ => [WtT g m]) := fun w rs h1 h2 h3 => by
  obtain ⟨v, rv, rfl, hv, hw⟩ := wt_wtr h1.one' h2
  refine (h w v hw).mono ?_
  rintro e w' ⟨v', he, hw', hm, ha⟩
  obtain ⟨rs', hv', hr', hd', hx⟩ := own_vec hw'.2
  have hblk : ∀ k, Foot g v k → k < w.heap.size → Blk ((g, 73, #[v]) :: rv) k := by
    rintro k (rfl | hk) _
    · exact ⟨_, List.mem_cons_self, rfl⟩
    · rcases hv with ⟨e1, _, _⟩ | ⟨g', c, cs, e1, _, _, _, _, e6⟩
      · subst e1; exact absurd hk At.none
      · subst e1; subst e6
        exact ⟨(g', 5, cs), by simp, (At.iff.1 hk).symm⟩
  refine ⟨(), he, (g, 73, #[v']) :: rs', Parts.one ⟨v', [(g, 73, #[v'])], rs', rfl, rfl, Parts.one hv'⟩, hm.weaken fun k hk hf => hblk k hf hk, ⟨hw'.1, hr'⟩, ⟨fun y hy e => hw'.2.ne_row hw'.1 (by decide) ((show y.1 = g from e) ▸ (hx y hy).1), hd'⟩, fun x hxm hlt => ?_⟩
  rcases List.mem_cons.1 hxm with rfl | hxm
  · exact ⟨_, List.mem_cons_self, rfl⟩
  · rcases ha _ (hx x hxm).1 with h | h
    · exact hblk _ (.inr h) hlt
    · omega
theorem wt_new : Does Tryd.prog 27 #[] [] (fun g : Nat => .pointer (some ⟨g, 0, none⟩)) (fun g => [WtT g []]) := fun w rs h1 _ _ => by
  unfold Parts at h1
  subst h1
  refine (newWriter_any w).mono ?_
  rintro e w' ⟨p, he, hp, hw, hb⟩
  obtain ⟨rs', hv', hr', hd', hx⟩ := own_vec hw.2
  refine ⟨p, he, (p, 73, #[.slice none 0 0]) :: rs', Parts.one ⟨_, [(p, 73, #[.slice none 0 0])], rs', rfl, rfl, Parts.one hv'⟩, ?_⟩
  have h0 : ∀ y ∈ rs', False := fun y hy => At.none (hx y hy).1
  refine ⟨Mod.of_below hb _, ⟨hw.1, hr'⟩, ⟨fun y hy => (h0 y hy).elim, hd'⟩, fun x hxm hlt => ?_⟩
  rcases List.mem_cons.1 hxm with rfl | hxm
  · omega
  · exact (h0 x hxm).elim
theorem wt_byte (g : Nat) (l : List UInt8) (n : Int) (hn : 0 ≤ n ∧ n < 256) (r : List UInt8) (hr : l ++ [UInt8.ofNat n.toNat] = r) (hl : l.length + 1 ≤ 140737488355328) : Does Tryd.prog 28 #[.pointer (some ⟨g, 0, none⟩), .int .u8 n] [WtT g l] (fun _ : Unit => .tuple #[]) (fun _ => [WtT g r]) := by
  subst hr
  have e : n = ((UInt8.ofNat n.toNat).toNat : Int) := by rw [byte_of _ (by omega)]; omega
  generalize UInt8.ofNat n.toNat = b at e ⊢
  subst e
  exact does_wt fun w v hw => writerByte_any w g v l b hw hl
theorem wt_num (g : Nat) (l : List UInt8) (n : Int) (hn : U64 n) (r : List UInt8) (hr : l ++ layU n = r) (hl : l.length + 10 ≤ 140737488355328) : Does Tryd.prog 29 #[.pointer (some ⟨g, 0, none⟩), .int .u64 n] [WtT g l] (fun _ : Unit => .tuple #[]) (fun _ => [WtT g r]) := by
  subst hr
  have e : n = (n.toNat : Int) := by have := hn.1; omega
  have h2 : n.toNat < 18446744073709551616 := by have := hn.2; omega
  unfold layU
  generalize n.toNat = m at e h2 ⊢
  subst e
  exact does_wt fun w v hw => writerNum_any w g v l m hw h2 hl
theorem wt_int (g : Nat) (l : List UInt8) (n : Int) (hn : I64 n) (r : List UInt8) (hr : l ++ vlay (zig n) = r) (hl : l.length + 10 ≤ 140737488355328) : Does Tryd.prog 44 #[.pointer (some ⟨g, 0, none⟩), .int .i64 n] [WtT g l] (fun _ : Unit => .tuple #[]) (fun _ => [WtT g r]) := by
  subst hr
  exact does_wt fun w v hw => writerInt_any w g v l n hw hn.1 hn.2 hl
theorem wt_bytes (g : Nat) (l : List UInt8) (hl : l.length ≤ 140737488355328) : Does Tryd.prog 32 #[.pointer (some ⟨g, 0, none⟩)] [WtT g l] (fun v : Value => v) (fun v => [WtT g l, Vec 5 1 encB v l]) :=
  does_ownX fun w rs h1 h2 => by
    obtain ⟨v, rv, rfl, hv, hw⟩ := wt_wtr h1 h2
    exact writerBytes_any w g v l hw hl
/-! ## What the reference lays -/
theorem r1_num (n : Int) (hn : U64 n) : Does Tryd.prog 33 #[.int .u64 n] [] (fun v : Value => v) (fun v => [Vec 5 1 encB v (layU n)]) := by
  have e : n = (n.toNat : Int) := by have := hn.1; omega
  have h2 : n.toNat < 18446744073709551616 := by have := hn.2; omega
  unfold layU
  generalize n.toNat = m at e h2 ⊢
  subst e
  exact does_own fun w => refNum_any w m h2
theorem r1_int (n : Int) (hn : I64 n) : Does Tryd.prog 46 #[.int .i64 n] [] (fun v : Value => v) (fun v => [Vec 5 1 encB v (vlay (zig n))]) :=
  does_own fun w => refInt_any w n hn.1 hn.2
/-! ## The reference's reader -/
def RrT (B : Value) (b : List UInt8) (g : Nat) (l : List UInt8) (f : Nat) : Ass := fun rs => ∃ j : Nat, j ≤ b.length ∧ l = b.drop j ∧ rs = [(g, 80, #[B, .int .i64 (j : Int), .int .i64 (f : Int)])]
section
variable {u : World} {B : Value} {b l l' : List UInt8} {g f f' : Nat} {F : FuncId} {args : Array Value} {val : Value}
theorem does_rr (hB : Sl8 u B b) (hl : b.length ≤ 140737488355328) (h : ∀ w A c, B = .slice A b.length c → RRd (fun k => k < u.heap.size) w g A c b l f → Calls Tryd.prog F args w fun e w' => e = .returned val ∧ RRd (fun k => k < u.heap.size) w' g A c b l' f' ∧ Mod (One g) w w') : DoesU u Tryd.prog F args [RrT B b g l f] (fun _ : Unit => val) (fun _ => [RrT B b g l' f']) := fun w rs hU hS h1 h2 h3 => by
  obtain ⟨j, hj, hlj, rfl⟩ := h1.one'
  obtain ⟨A, c, rfl, hb⟩ := hB
  have hg : u.heap.size ≤ g := hS _ List.mem_cons_self
  have hb2 : Bs (fun k => k < u.heap.size) w A c b := (hb.weaken (T := fun k => k < u.heap.size) fun k hk _ => hk).below hU fun _ hk => hk
  refine (h w A c rfl ⟨j, hj, hlj, h2.1, hb2, hl, fun k hk e => by unfold One at e; omega⟩).mono ?_
  rintro e w' ⟨he, ⟨j', hj', hl', hr', _⟩, hm⟩
  refine ⟨(), he, [(g, 80, #[.slice A b.length c, .int .i64 (j' : Int), .int .i64 (f' : Int)])], Parts.one ⟨j', hj', hl', rfl⟩, hm.weaken fun k _ e => ⟨_, List.mem_cons_self, e.symm⟩, ⟨hr', trivial⟩, ⟨(fun _ h => by cases h), trivial⟩, fun x hx _ => ?_⟩
  have : x = (g, 80, #[.slice A b.length c, .int .i64 (j' : Int), .int .i64 (f' : Int)]) := by simpa using hx
  subst this
  exact ⟨_, List.mem_cons_self, rfl⟩
theorem rr_byte (hB : Sl8 u B b) (hl : b.length ≤ 140737488355328) (most : Nat) (hm : most < 256) (R : Nat × List UInt8 × Nat) (h : rbyte most l f = R) : DoesU u Tryd.prog 47 #[.pointer (some ⟨g, 0, none⟩), .int .u8 (most : Int)] [RrT B b g l f] (fun _ : Unit => .int .u8 (R.1 : Int)) (fun _ => [RrT B b g R.2.1 R.2.2]) := by
  subst h
  exact does_rr hB hl fun w A c _ hr => refByte_any w g c f most A b l hr hm
theorem rr_num (hB : Sl8 u B b) (hl : b.length ≤ 140737488355328) (most : Nat) (hm : most < 18446744073709551616) (R : Nat × List UInt8 × Nat) (h : rnum most l f = R) : DoesU u Tryd.prog 48 #[.pointer (some ⟨g, 0, none⟩), .int .u64 (most : Int)] [RrT B b g l f] (fun _ : Unit => .int .u64 (R.1 : Int)) (fun _ => [RrT B b g R.2.1 R.2.2]) := by
  subst h
  exact does_rr hB hl fun w A c _ hr => refRNum_any w g c f most A b l hr hm
theorem rr_int (hB : Sl8 u B b) (hl : b.length ≤ 140737488355328) (R : Int × List UInt8 × Nat) (h : rint l f = R) : DoesU u Tryd.prog 57 #[.pointer (some ⟨g, 0, none⟩)] [RrT B b g l f] (fun _ : Unit => .int .i64 R.1) (fun _ => [RrT B b g R.2.1 R.2.2]) := by
  subst h
  exact does_rr hB hl fun w A c _ hr => refRInt_any w g c f A b l hr
theorem rr_end (hB : Sl8 u B b) (hl : b.length ≤ 140737488355328) (r : Nat) (h : rend l f = r) : DoesU u Tryd.prog 51 #[.pointer (some ⟨g, 0, none⟩)] [RrT B b g l f] (fun _ : Unit => .int .i64 (r : Int)) (fun _ => [RrT B b g l f]) := by
  subst h
  refine does_rr hB hl fun w A c _ hr => (refEnd_any w g c f A b l hr).mono ?_
  rintro e w' ⟨he, hb⟩
  exact ⟨he, hr.mod (Mod.of_below hb Nil) (fun h => h.elim) (fun _ _ h => h), Mod.of_below hb _⟩
end
/-! ## The program's reader -/
def RdT (g : Nat) (l : List UInt8) (f : Nat) : Ass := fun rs => ∃ (X : Ass) (A : Option Addr) (c : Nat), Rd8 X (.slice A l.length c) l ∧ l.length ≤ 140737488355328 ∧ Parts [cell g 86 #[.slice A l.length c, .int .i64 (f : Int)], X] rs
theorem RdT.open_ {g f : Nat} {l : List UInt8} : ∀ rs, RdT g l f rs → ∃ x : { x : Ass × Option Addr × Nat // Rd8 x.1 (.slice x.2.1 l.length x.2.2) l ∧ l.length ≤ 140737488355328 }, Parts [cell g 86 #[.slice x.1.2.1 l.length x.1.2.2, .int .i64 (f : Int)], x.1.1] rs :=
  fun _ ⟨X, A, c, h1, h2, h3⟩ => ⟨⟨(X, A, c), h1, h2⟩, h3⟩
theorem RdT.mk_ {g f : Nat} {l : List UInt8} {X : Ass} {A : Option Addr} {n c : Nat} (hn : l.length = n) (h1 : Rd8 X (.slice A l.length c) l) (h2 : l.length ≤ 140737488355328) : ∀ rs, Parts [cell g 86 #[.slice A n c, .int .i64 (f : Int)], X] rs → RdT g l f rs :=
  fun _ h3 => by subst hn; exact ⟨X, A, c, h1, h2, h3⟩
end Go.Proofs.YtlkknncndgamdaaDoor.Sep
