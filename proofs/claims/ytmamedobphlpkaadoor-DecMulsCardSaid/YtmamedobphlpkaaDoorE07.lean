/-
  AddW · Digits
-/
import Derived.Test.YtmamedobphlpkaaDoorE06
import Derived.WalkKit
set_option linter.unusedSimpArgs false
set_option linter.unusedVariables false

namespace Go.Proofs.YtmamedobphlpkaaDoor
open Go.RowKit

theorem add_carry {p n : Int} (hp : 0 ≤ p ∧ p < 18446744073709551616) (hn : 0 ≤ n ∧ n < 18446744073709551616) :
    ∃ s k : Int, (p + n) % 18446744073709551616 = s ∧ (p + n) / 18446744073709551616 = k ∧ k * 18446744073709551616 + s = p + n ∧ (0 ≤ s ∧ s < 18446744073709551616) ∧ (0 ≤ k ∧ k < 18446744073709551616) :=
  ⟨_, _, rfl, rfl, by omega, by omega, by omega⟩

set_option maxRecDepth 100000 in
set_option maxHeartbeats 4000000 in
theorem add_to_words (w : World) (g : Nat) (a b c e n : Int) (ha : 0 ≤ a ∧ a < 18446744073709551616) (hb : 0 ≤ b ∧ b < 18446744073709551616) (hc : 0 ≤ c ∧ c < 18446744073709551616) (he : 0 ≤ e ∧ e < 18446744073709551616) (hn : 0 ≤ n ∧ n < 18446744073709551616) (hfit : a + b * 18446744073709551616 + c * 340282366920938463463374607431768211456 + e * 6277101735386680763835789423207666416102355444464034512896 + n < 115792089237316195423570985008687907853269984665640564039457584007913129639936) (hR : Row w g 82 #[.int .u64 a, .int .u64 b, .int .u64 c, .int .u64 e]) :
    Calls Tryd.prog 90 #[.pointer (some ⟨g, 0, none⟩), .int .u64 n] w fun x w' =>
      ∃ s0 s1 s2 s3 : Int, x = .returned (.tuple #[]) ∧ Row w' g 82 #[.int .u64 s0, .int .u64 s1, .int .u64 s2, .int .u64 s3] ∧ Mod (One g) w w' ∧ (0 ≤ s0 ∧ s0 < 18446744073709551616) ∧ (0 ≤ s1 ∧ s1 < 18446744073709551616) ∧ (0 ≤ s2 ∧ s2 < 18446744073709551616) ∧ (0 ≤ s3 ∧ s3 < 18446744073709551616) ∧
        s0 + s1 * 18446744073709551616 + s2 * 340282366920938463463374607431768211456 + s3 * 6277101735386680763835789423207666416102355444464034512896 = a + b * 18446744073709551616 + c * 340282366920938463463374607431768211456 + e * 6277101735386680763835789423207666416102355444464034512896 + n := by
  obtain ⟨s0, c0, e0, f0, g0, b0, k0⟩ := add_carry ha hn
  obtain ⟨s1, c1, e1, f1, g1, b1, k1⟩ := add_carry hb k0
  obtain ⟨s2, c2, e2, f2, g2, b2, k2⟩ := add_carry hc k1
  obtain ⟨s3, c3, e3, f3, g3, b3, k3⟩ := add_carry he k2
  have A0 := fun w => add64 a n 0 ha.1 hn.1 (Int.le_refl 0) (by decide) w
  have A1 := fun w => add64 b c0 0 hb.1 k0.1 (Int.le_refl 0) (by decide) w
  have A2 := fun w => add64 c c1 0 hc.1 k1.1 (Int.le_refl 0) (by decide) w
  have A3 := fun w => add64 e c2 0 he.1 k2.1 (Int.le_refl 0) (by decide) w
  rw [Int.add_zero, e0, f0] at A0
  rw [Int.add_zero, e1, f1] at A1
  rw [Int.add_zero, e2, f2] at A2
  rw [Int.add_zero, e3, f3] at A3
  have FIN : Hid ((0 ≤ s0 ∧ s0 < 18446744073709551616) ∧ (0 ≤ s1 ∧ s1 < 18446744073709551616) ∧ (0 ≤ s2 ∧ s2 < 18446744073709551616) ∧ (0 ≤ s3 ∧ s3 < 18446744073709551616) ∧
        s0 + s1 * 18446744073709551616 + s2 * 340282366920938463463374607431768211456 + s3 * 6277101735386680763835789423207666416102355444464034512896 = a + b * 18446744073709551616 + c * 340282366920938463463374607431768211456 + e * 6277101735386680763835789423207666416102355444464034512896 + n) := hid ⟨b0, b1, b2, b3, by omega⟩
  have D0 := hid A0
  have D1 := hid A1
  have D2 := hid A2
  have D3 := hid A3
  clear A0 A1 A2 A3 e0 f0 g0 b0 k0 e1 f1 g1 b1 k1 e2 f2 g2 b2 k2 e3 f3 g3 b3 k3 ha hb hc he hn hfit
  go_enter Tryd.func90, Tryd.ntmps90
  go_wp2_with fail
  go_loopw [1, 5] (fun o i wr => Mod (One g) w wr ∧ ((i = .int .i64 0 ∧ o = .int .u64 n ∧ Row wr g 82 #[.int .u64 a, .int .u64 b, .int .u64 c, .int .u64 e]) ∨ (i = .int .i64 1 ∧ o = .int .u64 c0 ∧ Row wr g 82 #[.int .u64 s0, .int .u64 b, .int .u64 c, .int .u64 e]) ∨ (i = .int .i64 2 ∧ o = .int .u64 c1 ∧ Row wr g 82 #[.int .u64 s0, .int .u64 s1, .int .u64 c, .int .u64 e]) ∨ (i = .int .i64 3 ∧ o = .int .u64 c2 ∧ Row wr g 82 #[.int .u64 s0, .int .u64 s1, .int .u64 s2, .int .u64 e]) ∨ (i = .int .i64 4 ∧ o = .int .u64 c3 ∧ Row wr g 82 #[.int .u64 s0, .int .u64 s1, .int .u64 s2, .int .u64 s3]))) (fun _ i _ => 4 - (intOf i).toNat)
  case atStart => exact ⟨Mod.refl _ _, .inl ⟨rfl, rfl, hR⟩⟩
  case round =>
    clear hR
    obtain ⟨hM, hcase⟩ := hrel
    rcases hcase with ⟨rfl, rfl, hR⟩ | ⟨rfl, rfl, hR⟩ | ⟨rfl, rfl, hR⟩ | ⟨rfl, rfl, hR⟩ | ⟨rfl, rfl, hR⟩
    · have hD := D0.out
      have q0x := hR.cell 0
      have q2x := hR.frozen 0
      have hR6 := hR.set 0 (.int .u64 s0)
      have hM6 := hM.setCell (p := ⟨g, 0, none⟩) (fun _ => rfl) (.int .u64 s0)
      simp at q0x q2x
      try simp only [List.setIfInBounds_toArray, List.set_cons_zero, List.set_cons_succ] at hR6
      clear hR hM
      go_wp2_with fail
      refine wp_region_noPanic ?_
      refine wp_region_held_drew (S := fun _ => True) (by kernel_rfl) (trivial) (fun hHeld => ?_)
      refine wpAnyH_take (i := 0) (oi := { dst := some 9, op := Op.move (Operand.tmp 0), type := 124, pos := "size.go:159", after := #[], guard := none }) (v := ?_) rfl (by kernel_rfl) (by kernel_rfl) (by kernel_rfl) (fun _ _ _ h => h) (Or.inl ⟨by rfl, ?_⟩) hHeld ?_
      rotate_left
      · intro w' hSw; (try dsimp only at hSw); go_simp <;> with_reducible rfl
      try simp only [Act.put, List.setIfInBounds_toArray, List.set_cons_zero, List.set_cons_succ]
      refine wpAnyH_take (i := 1) (oi := { dst := some 10, op := Op.move (Operand.tmp 4), type := 3, pos := "size.go:159", after := #[], guard := none }) (v := ?_) rfl (by kernel_rfl) (by kernel_rfl) (by kernel_rfl) (fun _ _ _ h => h) (Or.inl ⟨by rfl, ?_⟩) hHeld ?_
      rotate_left
      · intro w' hSw; (try dsimp only at hSw); go_simp <;> with_reducible rfl
      try simp only [Act.put, List.setIfInBounds_toArray, List.set_cons_zero, List.set_cons_succ]
      refine wpAnyH_take (i := 2) (oi := { dst := some 11, op := Op.move (Operand.tmp 0), type := 124, pos := "size.go:159", after := #[], guard := none }) (v := ?_) rfl (by kernel_rfl) (by kernel_rfl) (by kernel_rfl) (fun _ _ _ h => h) (Or.inl ⟨by rfl, ?_⟩) hHeld ?_
      rotate_left
      · intro w' hSw; (try dsimp only at hSw); go_simp <;> with_reducible rfl
      try simp only [Act.put, List.setIfInBounds_toArray, List.set_cons_zero, List.set_cons_succ]
      refine wpAnyH_take (i := 3) (oi := { dst := some 12, op := Op.move (Operand.tmp 4), type := 3, pos := "size.go:159", after := #[], guard := none }) (v := ?_) rfl (by kernel_rfl) (by kernel_rfl) (by kernel_rfl) (fun _ _ _ h => h) (Or.inl ⟨by rfl, ?_⟩) hHeld ?_
      rotate_left
      · intro w' hSw; (try dsimp only at hSw); go_simp <;> with_reducible rfl
      try simp only [Act.put, List.setIfInBounds_toArray, List.set_cons_zero, List.set_cons_succ]
      refine wpAnyH_take (i := 4) (oi := { dst := some 13, op := Op.nilCheck (Operand.tmp 11), type := 0, pos := "size.go:159", after := #[{ on := 2, ground := Ground.data }], guard := none }) (v := ?_) rfl (by kernel_rfl) (by kernel_rfl) (by kernel_rfl) (fun _ _ _ h => h) (Or.inl ⟨by rfl, ?_⟩) hHeld ?_
      rotate_left
      · intro w' hSw; (try dsimp only at hSw); go_simp <;> with_reducible rfl
      try simp only [Act.put, List.setIfInBounds_toArray, List.set_cons_zero, List.set_cons_succ]
      refine wpAnyH_take (i := 5) (oi := { dst := some 14, op := Op.indexAddr 82 (Operand.tmp 13) (Operand.tmp 12), type := 0, pos := "size.go:159", after := #[{ on := 4, ground := Ground.data }, { on := 3, ground := Ground.data }], guard := none }) (v := ?_) rfl (by kernel_rfl) (by kernel_rfl) (by kernel_rfl) (fun _ _ _ h => h) (Or.inl ⟨by rfl, ?_⟩) hHeld ?_
      rotate_left
      · intro w' hSw; (try dsimp only at hSw); go_simp <;> with_reducible rfl
      try simp only [Act.put, List.setIfInBounds_toArray, List.set_cons_zero, List.set_cons_succ]
      refine wpAnyH_take (i := 7) (oi := { dst := some 16, op := Op.move (Operand.tmp 1), type := 22, pos := "size.go:159", after := #[], guard := none }) (v := ?_) rfl (by kernel_rfl) (by kernel_rfl) (by kernel_rfl) (fun _ _ _ h => h) (Or.inl ⟨by rfl, ?_⟩) hHeld ?_
      rotate_left
      · intro w' hSw; (try dsimp only at hSw); go_simp <;> with_reducible rfl
      try simp only [Act.put, List.setIfInBounds_toArray, List.set_cons_zero, List.set_cons_succ]
      refine wpAnyH_take (i := 12) (oi := { dst := some 20, op := Op.nilCheck (Operand.tmp 9), type := 0, pos := "size.go:159", after := #[{ on := 0, ground := Ground.data }], guard := none }) (v := ?_) rfl (by kernel_rfl) (by kernel_rfl) (by kernel_rfl) (fun _ _ _ h => h) (Or.inl ⟨by rfl, ?_⟩) hHeld ?_
      rotate_left
      · intro w' hSw; (try dsimp only at hSw); go_simp <;> with_reducible rfl
      try simp only [Act.put, List.setIfInBounds_toArray, List.set_cons_zero, List.set_cons_succ]
      refine wpAnyH_ready (rs := [6]) (by kernel_rfl) (by simp) ?_
      refine AllReadyH.cons (o := { dst := some 15, op := Op.load 22 (Operand.tmp 14), type := 22, pos := "size.go:159", after := #[{ on := 5, ground := Ground.data }], guard := none }) rfl (fun K hK => ?_) AllReadyH.nil
      go_simp
      refine hK.out _ _ (trivial) (fun hHeld => ?_)
      clear hK K
      try simp only [Act.put, List.setIfInBounds_toArray, List.set_cons_zero, List.set_cons_succ]
      refine wpAnyH_ready (rs := [8]) (by kernel_rfl) (by simp) ?_
      refine AllReadyH.cons (o := { dst := some 17, op := Op.call { callee := Callee.value (Operand.func 57), args := #[Operand.tmp 15, Operand.tmp 16, Operand.const (Value.int IntKind.u64 0)], argTypes := #[22, 22, 22] }, type := 75, pos := "size.go:159", after := #[{ on := 6, ground := Ground.data }, { on := 7, ground := Ground.data }], guard := none }) rfl (fun K hK => ?_) AllReadyH.nil
      go_simp
      refine hK.out _ _ (trivial) (fun hHeld => ?_)
      clear hK K
      try simp only [Act.put, List.setIfInBounds_toArray, List.set_cons_zero, List.set_cons_succ]
      refine wpAnyH_take (i := 9) (oi := { dst := some 8, op := Op.move (Operand.tmp 17), type := 75, pos := "size.go:159", after := #[{ on := 8, ground := Ground.data }], guard := none }) (v := ?_) rfl (by kernel_rfl) (by kernel_rfl) (by kernel_rfl) (fun _ _ _ h => h) (Or.inl ⟨by rfl, ?_⟩) hHeld ?_
      rotate_left
      · intro w' hSw; (try dsimp only at hSw); go_simp <;> with_reducible rfl
      try simp only [Act.put, List.setIfInBounds_toArray, List.set_cons_zero, List.set_cons_succ]
      refine wpAnyH_take (i := 10) (oi := { dst := some 18, op := Op.extract (Operand.tmp 8) 0, type := 22, pos := "size.go:159", after := #[{ on := 9, ground := Ground.data }], guard := none }) (v := ?_) rfl (by kernel_rfl) (by kernel_rfl) (by kernel_rfl) (fun _ _ _ h => h) (Or.inl ⟨by rfl, ?_⟩) hHeld ?_
      rotate_left
      · intro w' hSw; (try dsimp only at hSw); go_simp <;> with_reducible rfl
      try simp only [Act.put, List.setIfInBounds_toArray, List.set_cons_zero, List.set_cons_succ]
      refine wpAnyH_take (i := 11) (oi := { dst := some 19, op := Op.extract (Operand.tmp 8) 1, type := 22, pos := "size.go:159", after := #[{ on := 9, ground := Ground.data }, { on := 14, ground := Ground.gcOnly Departure.lateStores }], guard := none }) (v := ?_) rfl (by kernel_rfl) (by kernel_rfl) (by kernel_rfl) (fun _ _ _ h => h) (Or.inl ⟨by rfl, ?_⟩) hHeld ?_
      rotate_left
      · intro w' hSw; (try dsimp only at hSw); go_simp <;> with_reducible rfl
      try simp only [Act.put, List.setIfInBounds_toArray, List.set_cons_zero, List.set_cons_succ]
      refine wpAnyH_take (i := 13) (oi := { dst := some 21, op := Op.indexAddr 82 (Operand.tmp 20) (Operand.tmp 10), type := 0, pos := "size.go:159", after := #[{ on := 12, ground := Ground.data }, { on := 1, ground := Ground.data }, { on := 0, ground := Ground.phase }, { on := 1, ground := Ground.phase }, { on := 2, ground := Ground.phase }, { on := 3, ground := Ground.phase }, { on := 4, ground := Ground.phase }, { on := 5, ground := Ground.phase }, { on := 6, ground := Ground.phase }, { on := 7, ground := Ground.phase }, { on := 8, ground := Ground.phase }, { on := 9, ground := Ground.phase }, { on := 10, ground := Ground.phase }, { on := 11, ground := Ground.textOnly Departure.lateStores }], guard := none }) (v := ?_) rfl (by kernel_rfl) (by kernel_rfl) (by kernel_rfl) (fun _ _ _ h => h) (Or.inl ⟨by rfl, ?_⟩) hHeld ?_
      rotate_left
      · intro w' hSw; (try dsimp only at hSw); go_simp <;> with_reducible rfl
      try simp only [Act.put, List.setIfInBounds_toArray, List.set_cons_zero, List.set_cons_succ]
      refine wpAnyH_ready (rs := [14]) (by kernel_rfl) (by simp) ?_
      refine AllReadyH.cons (o := { dst := none, op := Op.store 22 (Operand.tmp 21) (Operand.tmp 18), type := 0, pos := "size.go:159", after := #[{ on := 13, ground := Ground.data }, { on := 10, ground := Ground.data }, { on := 8, ground := Ground.chain }, { on := 0, ground := Ground.phase }, { on := 1, ground := Ground.phase }, { on := 2, ground := Ground.phase }, { on := 3, ground := Ground.phase }, { on := 4, ground := Ground.phase }, { on := 5, ground := Ground.phase }, { on := 6, ground := Ground.phase }, { on := 7, ground := Ground.phase }, { on := 8, ground := Ground.phase }, { on := 9, ground := Ground.phase }, { on := 10, ground := Ground.phase }, { on := 11, ground := Ground.textOnly Departure.lateStores }], guard := none }) rfl (fun K hK => ?_) AllReadyH.nil
      go_simp
      refine hK.out _ _ (trivial) (fun hHeld => ?_)
      clear hK K
      try simp only [Act.put, List.setIfInBounds_toArray, List.set_cons_zero, List.set_cons_succ]
      refine wpAnyH_take (i := 15) (oi := { dst := some 1, op := Op.assign (Operand.tmp 19), type := 22, pos := "size.go:159", after := #[{ on := 11, ground := Ground.data }, { on := 14, ground := Ground.chain }, { on := 0, ground := Ground.phase }, { on := 1, ground := Ground.phase }, { on := 2, ground := Ground.phase }, { on := 3, ground := Ground.phase }, { on := 4, ground := Ground.phase }, { on := 5, ground := Ground.phase }, { on := 6, ground := Ground.phase }, { on := 7, ground := Ground.phase }, { on := 8, ground := Ground.phase }, { on := 9, ground := Ground.phase }, { on := 10, ground := Ground.phase }, { on := 11, ground := Ground.phase }, { on := 12, ground := Ground.phase }, { on := 13, ground := Ground.phase }, { on := 14, ground := Ground.phase }], guard := none }) (v := ?_) rfl (by kernel_rfl) (by kernel_rfl) (by kernel_rfl) (fun _ _ _ h => h) (Or.inl ⟨by rfl, ?_⟩) hHeld ?_
      rotate_left
      · intro w' hSw; (try dsimp only at hSw); go_simp <;> with_reducible rfl
      try simp only [Act.put, List.setIfInBounds_toArray, List.set_cons_zero, List.set_cons_succ]
      refine wpAnyH_done (by kernel_rfl) ?_ _
      refine NoPanic.normal ?_
      go_wp2_with fail
      go_roundw
      case rel => exact ⟨⟨hM6.os, hM6.tape, hM6.output, hM6.size, hM6.block⟩, .inr (.inl ⟨rfl, rfl, hR6⟩)⟩
      case measure => simp [intOf]
    · have hD := D1.out
      have q0x := hR.cell 1
      have q2x := hR.frozen 1
      have hR6 := hR.set 1 (.int .u64 s1)
      have hM6 := hM.setCell (p := ⟨g, 1, none⟩) (fun _ => rfl) (.int .u64 s1)
      simp at q0x q2x
      try simp only [List.setIfInBounds_toArray, List.set_cons_zero, List.set_cons_succ] at hR6
      clear hR hM
      go_wp2_with fail
      refine wp_region_noPanic ?_
      refine wp_region_held_drew (S := fun _ => True) (by kernel_rfl) (trivial) (fun hHeld => ?_)
      refine wpAnyH_take (i := 0) (oi := { dst := some 9, op := Op.move (Operand.tmp 0), type := 124, pos := "size.go:159", after := #[], guard := none }) (v := ?_) rfl (by kernel_rfl) (by kernel_rfl) (by kernel_rfl) (fun _ _ _ h => h) (Or.inl ⟨by rfl, ?_⟩) hHeld ?_
      rotate_left
      · intro w' hSw; (try dsimp only at hSw); go_simp <;> with_reducible rfl
      try simp only [Act.put, List.setIfInBounds_toArray, List.set_cons_zero, List.set_cons_succ]
      refine wpAnyH_take (i := 1) (oi := { dst := some 10, op := Op.move (Operand.tmp 4), type := 3, pos := "size.go:159", after := #[], guard := none }) (v := ?_) rfl (by kernel_rfl) (by kernel_rfl) (by kernel_rfl) (fun _ _ _ h => h) (Or.inl ⟨by rfl, ?_⟩) hHeld ?_
      rotate_left
      · intro w' hSw; (try dsimp only at hSw); go_simp <;> with_reducible rfl
      try simp only [Act.put, List.setIfInBounds_toArray, List.set_cons_zero, List.set_cons_succ]
      refine wpAnyH_take (i := 2) (oi := { dst := some 11, op := Op.move (Operand.tmp 0), type := 124, pos := "size.go:159", after := #[], guard := none }) (v := ?_) rfl (by kernel_rfl) (by kernel_rfl) (by kernel_rfl) (fun _ _ _ h => h) (Or.inl ⟨by rfl, ?_⟩) hHeld ?_
      rotate_left
      · intro w' hSw; (try dsimp only at hSw); go_simp <;> with_reducible rfl
      try simp only [Act.put, List.setIfInBounds_toArray, List.set_cons_zero, List.set_cons_succ]
      refine wpAnyH_take (i := 3) (oi := { dst := some 12, op := Op.move (Operand.tmp 4), type := 3, pos := "size.go:159", after := #[], guard := none }) (v := ?_) rfl (by kernel_rfl) (by kernel_rfl) (by kernel_rfl) (fun _ _ _ h => h) (Or.inl ⟨by rfl, ?_⟩) hHeld ?_
      rotate_left
      · intro w' hSw; (try dsimp only at hSw); go_simp <;> with_reducible rfl
      try simp only [Act.put, List.setIfInBounds_toArray, List.set_cons_zero, List.set_cons_succ]
      refine wpAnyH_take (i := 4) (oi := { dst := some 13, op := Op.nilCheck (Operand.tmp 11), type := 0, pos := "size.go:159", after := #[{ on := 2, ground := Ground.data }], guard := none }) (v := ?_) rfl (by kernel_rfl) (by kernel_rfl) (by kernel_rfl) (fun _ _ _ h => h) (Or.inl ⟨by rfl, ?_⟩) hHeld ?_
      rotate_left
      · intro w' hSw; (try dsimp only at hSw); go_simp <;> with_reducible rfl
      try simp only [Act.put, List.setIfInBounds_toArray, List.set_cons_zero, List.set_cons_succ]
      refine wpAnyH_take (i := 5) (oi := { dst := some 14, op := Op.indexAddr 82 (Operand.tmp 13) (Operand.tmp 12), type := 0, pos := "size.go:159", after := #[{ on := 4, ground := Ground.data }, { on := 3, ground := Ground.data }], guard := none }) (v := ?_) rfl (by kernel_rfl) (by kernel_rfl) (by kernel_rfl) (fun _ _ _ h => h) (Or.inl ⟨by rfl, ?_⟩) hHeld ?_
      rotate_left
      · intro w' hSw; (try dsimp only at hSw); go_simp <;> with_reducible rfl
      try simp only [Act.put, List.setIfInBounds_toArray, List.set_cons_zero, List.set_cons_succ]
      refine wpAnyH_take (i := 7) (oi := { dst := some 16, op := Op.move (Operand.tmp 1), type := 22, pos := "size.go:159", after := #[], guard := none }) (v := ?_) rfl (by kernel_rfl) (by kernel_rfl) (by kernel_rfl) (fun _ _ _ h => h) (Or.inl ⟨by rfl, ?_⟩) hHeld ?_
      rotate_left
      · intro w' hSw; (try dsimp only at hSw); go_simp <;> with_reducible rfl
      try simp only [Act.put, List.setIfInBounds_toArray, List.set_cons_zero, List.set_cons_succ]
      refine wpAnyH_take (i := 12) (oi := { dst := some 20, op := Op.nilCheck (Operand.tmp 9), type := 0, pos := "size.go:159", after := #[{ on := 0, ground := Ground.data }], guard := none }) (v := ?_) rfl (by kernel_rfl) (by kernel_rfl) (by kernel_rfl) (fun _ _ _ h => h) (Or.inl ⟨by rfl, ?_⟩) hHeld ?_
      rotate_left
      · intro w' hSw; (try dsimp only at hSw); go_simp <;> with_reducible rfl
      try simp only [Act.put, List.setIfInBounds_toArray, List.set_cons_zero, List.set_cons_succ]
      refine wpAnyH_ready (rs := [6]) (by kernel_rfl) (by simp) ?_
      refine AllReadyH.cons (o := { dst := some 15, op := Op.load 22 (Operand.tmp 14), type := 22, pos := "size.go:159", after := #[{ on := 5, ground := Ground.data }], guard := none }) rfl (fun K hK => ?_) AllReadyH.nil
      go_simp
      refine hK.out _ _ (trivial) (fun hHeld => ?_)
      clear hK K
      try simp only [Act.put, List.setIfInBounds_toArray, List.set_cons_zero, List.set_cons_succ]
      refine wpAnyH_ready (rs := [8]) (by kernel_rfl) (by simp) ?_
      refine AllReadyH.cons (o := { dst := some 17, op := Op.call { callee := Callee.value (Operand.func 57), args := #[Operand.tmp 15, Operand.tmp 16, Operand.const (Value.int IntKind.u64 0)], argTypes := #[22, 22, 22] }, type := 75, pos := "size.go:159", after := #[{ on := 6, ground := Ground.data }, { on := 7, ground := Ground.data }], guard := none }) rfl (fun K hK => ?_) AllReadyH.nil
      go_simp
      refine hK.out _ _ (trivial) (fun hHeld => ?_)
      clear hK K
      try simp only [Act.put, List.setIfInBounds_toArray, List.set_cons_zero, List.set_cons_succ]
      refine wpAnyH_take (i := 9) (oi := { dst := some 8, op := Op.move (Operand.tmp 17), type := 75, pos := "size.go:159", after := #[{ on := 8, ground := Ground.data }], guard := none }) (v := ?_) rfl (by kernel_rfl) (by kernel_rfl) (by kernel_rfl) (fun _ _ _ h => h) (Or.inl ⟨by rfl, ?_⟩) hHeld ?_
      rotate_left
      · intro w' hSw; (try dsimp only at hSw); go_simp <;> with_reducible rfl
      try simp only [Act.put, List.setIfInBounds_toArray, List.set_cons_zero, List.set_cons_succ]
      refine wpAnyH_take (i := 10) (oi := { dst := some 18, op := Op.extract (Operand.tmp 8) 0, type := 22, pos := "size.go:159", after := #[{ on := 9, ground := Ground.data }], guard := none }) (v := ?_) rfl (by kernel_rfl) (by kernel_rfl) (by kernel_rfl) (fun _ _ _ h => h) (Or.inl ⟨by rfl, ?_⟩) hHeld ?_
      rotate_left
      · intro w' hSw; (try dsimp only at hSw); go_simp <;> with_reducible rfl
      try simp only [Act.put, List.setIfInBounds_toArray, List.set_cons_zero, List.set_cons_succ]
      refine wpAnyH_take (i := 11) (oi := { dst := some 19, op := Op.extract (Operand.tmp 8) 1, type := 22, pos := "size.go:159", after := #[{ on := 9, ground := Ground.data }, { on := 14, ground := Ground.gcOnly Departure.lateStores }], guard := none }) (v := ?_) rfl (by kernel_rfl) (by kernel_rfl) (by kernel_rfl) (fun _ _ _ h => h) (Or.inl ⟨by rfl, ?_⟩) hHeld ?_
      rotate_left
      · intro w' hSw; (try dsimp only at hSw); go_simp <;> with_reducible rfl
      try simp only [Act.put, List.setIfInBounds_toArray, List.set_cons_zero, List.set_cons_succ]
      refine wpAnyH_take (i := 13) (oi := { dst := some 21, op := Op.indexAddr 82 (Operand.tmp 20) (Operand.tmp 10), type := 0, pos := "size.go:159", after := #[{ on := 12, ground := Ground.data }, { on := 1, ground := Ground.data }, { on := 0, ground := Ground.phase }, { on := 1, ground := Ground.phase }, { on := 2, ground := Ground.phase }, { on := 3, ground := Ground.phase }, { on := 4, ground := Ground.phase }, { on := 5, ground := Ground.phase }, { on := 6, ground := Ground.phase }, { on := 7, ground := Ground.phase }, { on := 8, ground := Ground.phase }, { on := 9, ground := Ground.phase }, { on := 10, ground := Ground.phase }, { on := 11, ground := Ground.textOnly Departure.lateStores }], guard := none }) (v := ?_) rfl (by kernel_rfl) (by kernel_rfl) (by kernel_rfl) (fun _ _ _ h => h) (Or.inl ⟨by rfl, ?_⟩) hHeld ?_
      rotate_left
      · intro w' hSw; (try dsimp only at hSw); go_simp <;> with_reducible rfl
      try simp only [Act.put, List.setIfInBounds_toArray, List.set_cons_zero, List.set_cons_succ]
      refine wpAnyH_ready (rs := [14]) (by kernel_rfl) (by simp) ?_
      refine AllReadyH.cons (o := { dst := none, op := Op.store 22 (Operand.tmp 21) (Operand.tmp 18), type := 0, pos := "size.go:159", after := #[{ on := 13, ground := Ground.data }, { on := 10, ground := Ground.data }, { on := 8, ground := Ground.chain }, { on := 0, ground := Ground.phase }, { on := 1, ground := Ground.phase }, { on := 2, ground := Ground.phase }, { on := 3, ground := Ground.phase }, { on := 4, ground := Ground.phase }, { on := 5, ground := Ground.phase }, { on := 6, ground := Ground.phase }, { on := 7, ground := Ground.phase }, { on := 8, ground := Ground.phase }, { on := 9, ground := Ground.phase }, { on := 10, ground := Ground.phase }, { on := 11, ground := Ground.textOnly Departure.lateStores }], guard := none }) rfl (fun K hK => ?_) AllReadyH.nil
      go_simp
      refine hK.out _ _ (trivial) (fun hHeld => ?_)
      clear hK K
      try simp only [Act.put, List.setIfInBounds_toArray, List.set_cons_zero, List.set_cons_succ]
      refine wpAnyH_take (i := 15) (oi := { dst := some 1, op := Op.assign (Operand.tmp 19), type := 22, pos := "size.go:159", after := #[{ on := 11, ground := Ground.data }, { on := 14, ground := Ground.chain }, { on := 0, ground := Ground.phase }, { on := 1, ground := Ground.phase }, { on := 2, ground := Ground.phase }, { on := 3, ground := Ground.phase }, { on := 4, ground := Ground.phase }, { on := 5, ground := Ground.phase }, { on := 6, ground := Ground.phase }, { on := 7, ground := Ground.phase }, { on := 8, ground := Ground.phase }, { on := 9, ground := Ground.phase }, { on := 10, ground := Ground.phase }, { on := 11, ground := Ground.phase }, { on := 12, ground := Ground.phase }, { on := 13, ground := Ground.phase }, { on := 14, ground := Ground.phase }], guard := none }) (v := ?_) rfl (by kernel_rfl) (by kernel_rfl) (by kernel_rfl) (fun _ _ _ h => h) (Or.inl ⟨by rfl, ?_⟩) hHeld ?_
      rotate_left
      · intro w' hSw; (try dsimp only at hSw); go_simp <;> with_reducible rfl
      try simp only [Act.put, List.setIfInBounds_toArray, List.set_cons_zero, List.set_cons_succ]
      refine wpAnyH_done (by kernel_rfl) ?_ _
      refine NoPanic.normal ?_
      go_wp2_with fail
      go_roundw
      case rel => exact ⟨⟨hM6.os, hM6.tape, hM6.output, hM6.size, hM6.block⟩, .inr (.inr (.inl ⟨rfl, rfl, hR6⟩))⟩
      case measure => simp [intOf]
    · have hD := D2.out
      have q0x := hR.cell 2
      have q2x := hR.frozen 2
      have hR6 := hR.set 2 (.int .u64 s2)
      have hM6 := hM.setCell (p := ⟨g, 2, none⟩) (fun _ => rfl) (.int .u64 s2)
      simp at q0x q2x
      try simp only [List.setIfInBounds_toArray, List.set_cons_zero, List.set_cons_succ] at hR6
      clear hR hM
      go_wp2_with fail
      refine wp_region_noPanic ?_
      refine wp_region_held_drew (S := fun _ => True) (by kernel_rfl) (trivial) (fun hHeld => ?_)
      refine wpAnyH_take (i := 0) (oi := { dst := some 9, op := Op.move (Operand.tmp 0), type := 124, pos := "size.go:159", after := #[], guard := none }) (v := ?_) rfl (by kernel_rfl) (by kernel_rfl) (by kernel_rfl) (fun _ _ _ h => h) (Or.inl ⟨by rfl, ?_⟩) hHeld ?_
      rotate_left
      · intro w' hSw; (try dsimp only at hSw); go_simp <;> with_reducible rfl
      try simp only [Act.put, List.setIfInBounds_toArray, List.set_cons_zero, List.set_cons_succ]
      refine wpAnyH_take (i := 1) (oi := { dst := some 10, op := Op.move (Operand.tmp 4), type := 3, pos := "size.go:159", after := #[], guard := none }) (v := ?_) rfl (by kernel_rfl) (by kernel_rfl) (by kernel_rfl) (fun _ _ _ h => h) (Or.inl ⟨by rfl, ?_⟩) hHeld ?_
      rotate_left
      · intro w' hSw; (try dsimp only at hSw); go_simp <;> with_reducible rfl
      try simp only [Act.put, List.setIfInBounds_toArray, List.set_cons_zero, List.set_cons_succ]
      refine wpAnyH_take (i := 2) (oi := { dst := some 11, op := Op.move (Operand.tmp 0), type := 124, pos := "size.go:159", after := #[], guard := none }) (v := ?_) rfl (by kernel_rfl) (by kernel_rfl) (by kernel_rfl) (fun _ _ _ h => h) (Or.inl ⟨by rfl, ?_⟩) hHeld ?_
      rotate_left
      · intro w' hSw; (try dsimp only at hSw); go_simp <;> with_reducible rfl
      try simp only [Act.put, List.setIfInBounds_toArray, List.set_cons_zero, List.set_cons_succ]
      refine wpAnyH_take (i := 3) (oi := { dst := some 12, op := Op.move (Operand.tmp 4), type := 3, pos := "size.go:159", after := #[], guard := none }) (v := ?_) rfl (by kernel_rfl) (by kernel_rfl) (by kernel_rfl) (fun _ _ _ h => h) (Or.inl ⟨by rfl, ?_⟩) hHeld ?_
      rotate_left
      · intro w' hSw; (try dsimp only at hSw); go_simp <;> with_reducible rfl
      try simp only [Act.put, List.setIfInBounds_toArray, List.set_cons_zero, List.set_cons_succ]
      refine wpAnyH_take (i := 4) (oi := { dst := some 13, op := Op.nilCheck (Operand.tmp 11), type := 0, pos := "size.go:159", after := #[{ on := 2, ground := Ground.data }], guard := none }) (v := ?_) rfl (by kernel_rfl) (by kernel_rfl) (by kernel_rfl) (fun _ _ _ h => h) (Or.inl ⟨by rfl, ?_⟩) hHeld ?_
      rotate_left
      · intro w' hSw; (try dsimp only at hSw); go_simp <;> with_reducible rfl
      try simp only [Act.put, List.setIfInBounds_toArray, List.set_cons_zero, List.set_cons_succ]
      refine wpAnyH_take (i := 5) (oi := { dst := some 14, op := Op.indexAddr 82 (Operand.tmp 13) (Operand.tmp 12), type := 0, pos := "size.go:159", after := #[{ on := 4, ground := Ground.data }, { on := 3, ground := Ground.data }], guard := none }) (v := ?_) rfl (by kernel_rfl) (by kernel_rfl) (by kernel_rfl) (fun _ _ _ h => h) (Or.inl ⟨by rfl, ?_⟩) hHeld ?_
      rotate_left
      · intro w' hSw; (try dsimp only at hSw); go_simp <;> with_reducible rfl
      try simp only [Act.put, List.setIfInBounds_toArray, List.set_cons_zero, List.set_cons_succ]
      refine wpAnyH_take (i := 7) (oi := { dst := some 16, op := Op.move (Operand.tmp 1), type := 22, pos := "size.go:159", after := #[], guard := none }) (v := ?_) rfl (by kernel_rfl) (by kernel_rfl) (by kernel_rfl) (fun _ _ _ h => h) (Or.inl ⟨by rfl, ?_⟩) hHeld ?_
      rotate_left
      · intro w' hSw; (try dsimp only at hSw); go_simp <;> with_reducible rfl
      try simp only [Act.put, List.setIfInBounds_toArray, List.set_cons_zero, List.set_cons_succ]
      refine wpAnyH_take (i := 12) (oi := { dst := some 20, op := Op.nilCheck (Operand.tmp 9), type := 0, pos := "size.go:159", after := #[{ on := 0, ground := Ground.data }], guard := none }) (v := ?_) rfl (by kernel_rfl) (by kernel_rfl) (by kernel_rfl) (fun _ _ _ h => h) (Or.inl ⟨by rfl, ?_⟩) hHeld ?_
      rotate_left
      · intro w' hSw; (try dsimp only at hSw); go_simp <;> with_reducible rfl
      try simp only [Act.put, List.setIfInBounds_toArray, List.set_cons_zero, List.set_cons_succ]
      refine wpAnyH_ready (rs := [6]) (by kernel_rfl) (by simp) ?_
      refine AllReadyH.cons (o := { dst := some 15, op := Op.load 22 (Operand.tmp 14), type := 22, pos := "size.go:159", after := #[{ on := 5, ground := Ground.data }], guard := none }) rfl (fun K hK => ?_) AllReadyH.nil
      go_simp
      refine hK.out _ _ (trivial) (fun hHeld => ?_)
      clear hK K
      try simp only [Act.put, List.setIfInBounds_toArray, List.set_cons_zero, List.set_cons_succ]
      refine wpAnyH_ready (rs := [8]) (by kernel_rfl) (by simp) ?_
      refine AllReadyH.cons (o := { dst := some 17, op := Op.call { callee := Callee.value (Operand.func 57), args := #[Operand.tmp 15, Operand.tmp 16, Operand.const (Value.int IntKind.u64 0)], argTypes := #[22, 22, 22] }, type := 75, pos := "size.go:159", after := #[{ on := 6, ground := Ground.data }, { on := 7, ground := Ground.data }], guard := none }) rfl (fun K hK => ?_) AllReadyH.nil
      go_simp
      refine hK.out _ _ (trivial) (fun hHeld => ?_)
      clear hK K
      try simp only [Act.put, List.setIfInBounds_toArray, List.set_cons_zero, List.set_cons_succ]
      refine wpAnyH_take (i := 9) (oi := { dst := some 8, op := Op.move (Operand.tmp 17), type := 75, pos := "size.go:159", after := #[{ on := 8, ground := Ground.data }], guard := none }) (v := ?_) rfl (by kernel_rfl) (by kernel_rfl) (by kernel_rfl) (fun _ _ _ h => h) (Or.inl ⟨by rfl, ?_⟩) hHeld ?_
      rotate_left
      · intro w' hSw; (try dsimp only at hSw); go_simp <;> with_reducible rfl
      try simp only [Act.put, List.setIfInBounds_toArray, List.set_cons_zero, List.set_cons_succ]
      refine wpAnyH_take (i := 10) (oi := { dst := some 18, op := Op.extract (Operand.tmp 8) 0, type := 22, pos := "size.go:159", after := #[{ on := 9, ground := Ground.data }], guard := none }) (v := ?_) rfl (by kernel_rfl) (by kernel_rfl) (by kernel_rfl) (fun _ _ _ h => h) (Or.inl ⟨by rfl, ?_⟩) hHeld ?_
      rotate_left
      · intro w' hSw; (try dsimp only at hSw); go_simp <;> with_reducible rfl
      try simp only [Act.put, List.setIfInBounds_toArray, List.set_cons_zero, List.set_cons_succ]
      refine wpAnyH_take (i := 11) (oi := { dst := some 19, op := Op.extract (Operand.tmp 8) 1, type := 22, pos := "size.go:159", after := #[{ on := 9, ground := Ground.data }, { on := 14, ground := Ground.gcOnly Departure.lateStores }], guard := none }) (v := ?_) rfl (by kernel_rfl) (by kernel_rfl) (by kernel_rfl) (fun _ _ _ h => h) (Or.inl ⟨by rfl, ?_⟩) hHeld ?_
      rotate_left
      · intro w' hSw; (try dsimp only at hSw); go_simp <;> with_reducible rfl
      try simp only [Act.put, List.setIfInBounds_toArray, List.set_cons_zero, List.set_cons_succ]
      refine wpAnyH_take (i := 13) (oi := { dst := some 21, op := Op.indexAddr 82 (Operand.tmp 20) (Operand.tmp 10), type := 0, pos := "size.go:159", after := #[{ on := 12, ground := Ground.data }, { on := 1, ground := Ground.data }, { on := 0, ground := Ground.phase }, { on := 1, ground := Ground.phase }, { on := 2, ground := Ground.phase }, { on := 3, ground := Ground.phase }, { on := 4, ground := Ground.phase }, { on := 5, ground := Ground.phase }, { on := 6, ground := Ground.phase }, { on := 7, ground := Ground.phase }, { on := 8, ground := Ground.phase }, { on := 9, ground := Ground.phase }, { on := 10, ground := Ground.phase }, { on := 11, ground := Ground.textOnly Departure.lateStores }], guard := none }) (v := ?_) rfl (by kernel_rfl) (by kernel_rfl) (by kernel_rfl) (fun _ _ _ h => h) (Or.inl ⟨by rfl, ?_⟩) hHeld ?_
      rotate_left
      · intro w' hSw; (try dsimp only at hSw); go_simp <;> with_reducible rfl
      try simp only [Act.put, List.setIfInBounds_toArray, List.set_cons_zero, List.set_cons_succ]
      refine wpAnyH_ready (rs := [14]) (by kernel_rfl) (by simp) ?_
      refine AllReadyH.cons (o := { dst := none, op := Op.store 22 (Operand.tmp 21) (Operand.tmp 18), type := 0, pos := "size.go:159", after := #[{ on := 13, ground := Ground.data }, { on := 10, ground := Ground.data }, { on := 8, ground := Ground.chain }, { on := 0, ground := Ground.phase }, { on := 1, ground := Ground.phase }, { on := 2, ground := Ground.phase }, { on := 3, ground := Ground.phase }, { on := 4, ground := Ground.phase }, { on := 5, ground := Ground.phase }, { on := 6, ground := Ground.phase }, { on := 7, ground := Ground.phase }, { on := 8, ground := Ground.phase }, { on := 9, ground := Ground.phase }, { on := 10, ground := Ground.phase }, { on := 11, ground := Ground.textOnly Departure.lateStores }], guard := none }) rfl (fun K hK => ?_) AllReadyH.nil
      go_simp
      refine hK.out _ _ (trivial) (fun hHeld => ?_)
      clear hK K
      try simp only [Act.put, List.setIfInBounds_toArray, List.set_cons_zero, List.set_cons_succ]
      refine wpAnyH_take (i := 15) (oi := { dst := some 1, op := Op.assign (Operand.tmp 19), type := 22, pos := "size.go:159", after := #[{ on := 11, ground := Ground.data }, { on := 14, ground := Ground.chain }, { on := 0, ground := Ground.phase }, { on := 1, ground := Ground.phase }, { on := 2, ground := Ground.phase }, { on := 3, ground := Ground.phase }, { on := 4, ground := Ground.phase }, { on := 5, ground := Ground.phase }, { on := 6, ground := Ground.phase }, { on := 7, ground := Ground.phase }, { on := 8, ground := Ground.phase }, { on := 9, ground := Ground.phase }, { on := 10, ground := Ground.phase }, { on := 11, ground := Ground.phase }, { on := 12, ground := Ground.phase }, { on := 13, ground := Ground.phase }, { on := 14, ground := Ground.phase }], guard := none }) (v := ?_) rfl (by kernel_rfl) (by kernel_rfl) (by kernel_rfl) (fun _ _ _ h => h) (Or.inl ⟨by rfl, ?_⟩) hHeld ?_
      rotate_left
      · intro w' hSw; (try dsimp only at hSw); go_simp <;> with_reducible rfl
      try simp only [Act.put, List.setIfInBounds_toArray, List.set_cons_zero, List.set_cons_succ]
      refine wpAnyH_done (by kernel_rfl) ?_ _
      refine NoPanic.normal ?_
      go_wp2_with fail
      go_roundw
      case rel => exact ⟨⟨hM6.os, hM6.tape, hM6.output, hM6.size, hM6.block⟩, .inr (.inr (.inr (.inl ⟨rfl, rfl, hR6⟩)))⟩
      case measure => simp [intOf]
    · have hD := D3.out
      have q0x := hR.cell 3
      have q2x := hR.frozen 3
      have hR6 := hR.set 3 (.int .u64 s3)
      have hM6 := hM.setCell (p := ⟨g, 3, none⟩) (fun _ => rfl) (.int .u64 s3)
      simp at q0x q2x
      try simp only [List.setIfInBounds_toArray, List.set_cons_zero, List.set_cons_succ] at hR6
      clear hR hM
      go_wp2_with fail
      refine wp_region_noPanic ?_
      refine wp_region_held_drew (S := fun _ => True) (by kernel_rfl) (trivial) (fun hHeld => ?_)
      refine wpAnyH_take (i := 0) (oi := { dst := some 9, op := Op.move (Operand.tmp 0), type := 124, pos := "size.go:159", after := #[], guard := none }) (v := ?_) rfl (by kernel_rfl) (by kernel_rfl) (by kernel_rfl) (fun _ _ _ h => h) (Or.inl ⟨by rfl, ?_⟩) hHeld ?_
      rotate_left
      · intro w' hSw; (try dsimp only at hSw); go_simp <;> with_reducible rfl
      try simp only [Act.put, List.setIfInBounds_toArray, List.set_cons_zero, List.set_cons_succ]
      refine wpAnyH_take (i := 1) (oi := { dst := some 10, op := Op.move (Operand.tmp 4), type := 3, pos := "size.go:159", after := #[], guard := none }) (v := ?_) rfl (by kernel_rfl) (by kernel_rfl) (by kernel_rfl) (fun _ _ _ h => h) (Or.inl ⟨by rfl, ?_⟩) hHeld ?_
      rotate_left
      · intro w' hSw; (try dsimp only at hSw); go_simp <;> with_reducible rfl
      try simp only [Act.put, List.setIfInBounds_toArray, List.set_cons_zero, List.set_cons_succ]
      refine wpAnyH_take (i := 2) (oi := { dst := some 11, op := Op.move (Operand.tmp 0), type := 124, pos := "size.go:159", after := #[], guard := none }) (v := ?_) rfl (by kernel_rfl) (by kernel_rfl) (by kernel_rfl) (fun _ _ _ h => h) (Or.inl ⟨by rfl, ?_⟩) hHeld ?_
      rotate_left
      · intro w' hSw; (try dsimp only at hSw); go_simp <;> with_reducible rfl
      try simp only [Act.put, List.setIfInBounds_toArray, List.set_cons_zero, List.set_cons_succ]
      refine wpAnyH_take (i := 3) (oi := { dst := some 12, op := Op.move (Operand.tmp 4), type := 3, pos := "size.go:159", after := #[], guard := none }) (v := ?_) rfl (by kernel_rfl) (by kernel_rfl) (by kernel_rfl) (fun _ _ _ h => h) (Or.inl ⟨by rfl, ?_⟩) hHeld ?_
      rotate_left
      · intro w' hSw; (try dsimp only at hSw); go_simp <;> with_reducible rfl
      try simp only [Act.put, List.setIfInBounds_toArray, List.set_cons_zero, List.set_cons_succ]
      refine wpAnyH_take (i := 4) (oi := { dst := some 13, op := Op.nilCheck (Operand.tmp 11), type := 0, pos := "size.go:159", after := #[{ on := 2, ground := Ground.data }], guard := none }) (v := ?_) rfl (by kernel_rfl) (by kernel_rfl) (by kernel_rfl) (fun _ _ _ h => h) (Or.inl ⟨by rfl, ?_⟩) hHeld ?_
      rotate_left
      · intro w' hSw; (try dsimp only at hSw); go_simp <;> with_reducible rfl
      try simp only [Act.put, List.setIfInBounds_toArray, List.set_cons_zero, List.set_cons_succ]
      refine wpAnyH_take (i := 5) (oi := { dst := some 14, op := Op.indexAddr 82 (Operand.tmp 13) (Operand.tmp 12), type := 0, pos := "size.go:159", after := #[{ on := 4, ground := Ground.data }, { on := 3, ground := Ground.data }], guard := none }) (v := ?_) rfl (by kernel_rfl) (by kernel_rfl) (by kernel_rfl) (fun _ _ _ h => h) (Or.inl ⟨by rfl, ?_⟩) hHeld ?_
      rotate_left
      · intro w' hSw; (try dsimp only at hSw); go_simp <;> with_reducible rfl
      try simp only [Act.put, List.setIfInBounds_toArray, List.set_cons_zero, List.set_cons_succ]
      refine wpAnyH_take (i := 7) (oi := { dst := some 16, op := Op.move (Operand.tmp 1), type := 22, pos := "size.go:159", after := #[], guard := none }) (v := ?_) rfl (by kernel_rfl) (by kernel_rfl) (by kernel_rfl) (fun _ _ _ h => h) (Or.inl ⟨by rfl, ?_⟩) hHeld ?_
      rotate_left
      · intro w' hSw; (try dsimp only at hSw); go_simp <;> with_reducible rfl
      try simp only [Act.put, List.setIfInBounds_toArray, List.set_cons_zero, List.set_cons_succ]
      refine wpAnyH_take (i := 12) (oi := { dst := some 20, op := Op.nilCheck (Operand.tmp 9), type := 0, pos := "size.go:159", after := #[{ on := 0, ground := Ground.data }], guard := none }) (v := ?_) rfl (by kernel_rfl) (by kernel_rfl) (by kernel_rfl) (fun _ _ _ h => h) (Or.inl ⟨by rfl, ?_⟩) hHeld ?_
      rotate_left
      · intro w' hSw; (try dsimp only at hSw); go_simp <;> with_reducible rfl
      try simp only [Act.put, List.setIfInBounds_toArray, List.set_cons_zero, List.set_cons_succ]
      refine wpAnyH_ready (rs := [6]) (by kernel_rfl) (by simp) ?_
      refine AllReadyH.cons (o := { dst := some 15, op := Op.load 22 (Operand.tmp 14), type := 22, pos := "size.go:159", after := #[{ on := 5, ground := Ground.data }], guard := none }) rfl (fun K hK => ?_) AllReadyH.nil
      go_simp
      refine hK.out _ _ (trivial) (fun hHeld => ?_)
      clear hK K
      try simp only [Act.put, List.setIfInBounds_toArray, List.set_cons_zero, List.set_cons_succ]
      refine wpAnyH_ready (rs := [8]) (by kernel_rfl) (by simp) ?_
      refine AllReadyH.cons (o := { dst := some 17, op := Op.call { callee := Callee.value (Operand.func 57), args := #[Operand.tmp 15, Operand.tmp 16, Operand.const (Value.int IntKind.u64 0)], argTypes := #[22, 22, 22] }, type := 75, pos := "size.go:159", after := #[{ on := 6, ground := Ground.data }, { on := 7, ground := Ground.data }], guard := none }) rfl (fun K hK => ?_) AllReadyH.nil
      go_simp
      refine hK.out _ _ (trivial) (fun hHeld => ?_)
      clear hK K
      try simp only [Act.put, List.setIfInBounds_toArray, List.set_cons_zero, List.set_cons_succ]
      refine wpAnyH_take (i := 9) (oi := { dst := some 8, op := Op.move (Operand.tmp 17), type := 75, pos := "size.go:159", after := #[{ on := 8, ground := Ground.data }], guard := none }) (v := ?_) rfl (by kernel_rfl) (by kernel_rfl) (by kernel_rfl) (fun _ _ _ h => h) (Or.inl ⟨by rfl, ?_⟩) hHeld ?_
      rotate_left
      · intro w' hSw; (try dsimp only at hSw); go_simp <;> with_reducible rfl
      try simp only [Act.put, List.setIfInBounds_toArray, List.set_cons_zero, List.set_cons_succ]
      refine wpAnyH_take (i := 10) (oi := { dst := some 18, op := Op.extract (Operand.tmp 8) 0, type := 22, pos := "size.go:159", after := #[{ on := 9, ground := Ground.data }], guard := none }) (v := ?_) rfl (by kernel_rfl) (by kernel_rfl) (by kernel_rfl) (fun _ _ _ h => h) (Or.inl ⟨by rfl, ?_⟩) hHeld ?_
      rotate_left
      · intro w' hSw; (try dsimp only at hSw); go_simp <;> with_reducible rfl
      try simp only [Act.put, List.setIfInBounds_toArray, List.set_cons_zero, List.set_cons_succ]
      refine wpAnyH_take (i := 11) (oi := { dst := some 19, op := Op.extract (Operand.tmp 8) 1, type := 22, pos := "size.go:159", after := #[{ on := 9, ground := Ground.data }, { on := 14, ground := Ground.gcOnly Departure.lateStores }], guard := none }) (v := ?_) rfl (by kernel_rfl) (by kernel_rfl) (by kernel_rfl) (fun _ _ _ h => h) (Or.inl ⟨by rfl, ?_⟩) hHeld ?_
      rotate_left
      · intro w' hSw; (try dsimp only at hSw); go_simp <;> with_reducible rfl
      try simp only [Act.put, List.setIfInBounds_toArray, List.set_cons_zero, List.set_cons_succ]
      refine wpAnyH_take (i := 13) (oi := { dst := some 21, op := Op.indexAddr 82 (Operand.tmp 20) (Operand.tmp 10), type := 0, pos := "size.go:159", after := #[{ on := 12, ground := Ground.data }, { on := 1, ground := Ground.data }, { on := 0, ground := Ground.phase }, { on := 1, ground := Ground.phase }, { on := 2, ground := Ground.phase }, { on := 3, ground := Ground.phase }, { on := 4, ground := Ground.phase }, { on := 5, ground := Ground.phase }, { on := 6, ground := Ground.phase }, { on := 7, ground := Ground.phase }, { on := 8, ground := Ground.phase }, { on := 9, ground := Ground.phase }, { on := 10, ground := Ground.phase }, { on := 11, ground := Ground.textOnly Departure.lateStores }], guard := none }) (v := ?_) rfl (by kernel_rfl) (by kernel_rfl) (by kernel_rfl) (fun _ _ _ h => h) (Or.inl ⟨by rfl, ?_⟩) hHeld ?_
      rotate_left
      · intro w' hSw; (try dsimp only at hSw); go_simp <;> with_reducible rfl
      try simp only [Act.put, List.setIfInBounds_toArray, List.set_cons_zero, List.set_cons_succ]
      refine wpAnyH_ready (rs := [14]) (by kernel_rfl) (by simp) ?_
      refine AllReadyH.cons (o := { dst := none, op := Op.store 22 (Operand.tmp 21) (Operand.tmp 18), type := 0, pos := "size.go:159", after := #[{ on := 13, ground := Ground.data }, { on := 10, ground := Ground.data }, { on := 8, ground := Ground.chain }, { on := 0, ground := Ground.phase }, { on := 1, ground := Ground.phase }, { on := 2, ground := Ground.phase }, { on := 3, ground := Ground.phase }, { on := 4, ground := Ground.phase }, { on := 5, ground := Ground.phase }, { on := 6, ground := Ground.phase }, { on := 7, ground := Ground.phase }, { on := 8, ground := Ground.phase }, { on := 9, ground := Ground.phase }, { on := 10, ground := Ground.phase }, { on := 11, ground := Ground.textOnly Departure.lateStores }], guard := none }) rfl (fun K hK => ?_) AllReadyH.nil
      go_simp
      refine hK.out _ _ (trivial) (fun hHeld => ?_)
      clear hK K
      try simp only [Act.put, List.setIfInBounds_toArray, List.set_cons_zero, List.set_cons_succ]
      refine wpAnyH_take (i := 15) (oi := { dst := some 1, op := Op.assign (Operand.tmp 19), type := 22, pos := "size.go:159", after := #[{ on := 11, ground := Ground.data }, { on := 14, ground := Ground.chain }, { on := 0, ground := Ground.phase }, { on := 1, ground := Ground.phase }, { on := 2, ground := Ground.phase }, { on := 3, ground := Ground.phase }, { on := 4, ground := Ground.phase }, { on := 5, ground := Ground.phase }, { on := 6, ground := Ground.phase }, { on := 7, ground := Ground.phase }, { on := 8, ground := Ground.phase }, { on := 9, ground := Ground.phase }, { on := 10, ground := Ground.phase }, { on := 11, ground := Ground.phase }, { on := 12, ground := Ground.phase }, { on := 13, ground := Ground.phase }, { on := 14, ground := Ground.phase }], guard := none }) (v := ?_) rfl (by kernel_rfl) (by kernel_rfl) (by kernel_rfl) (fun _ _ _ h => h) (Or.inl ⟨by rfl, ?_⟩) hHeld ?_
      rotate_left
      · intro w' hSw; (try dsimp only at hSw); go_simp <;> with_reducible rfl
      try simp only [Act.put, List.setIfInBounds_toArray, List.set_cons_zero, List.set_cons_succ]
      refine wpAnyH_done (by kernel_rfl) ?_ _
      refine NoPanic.normal ?_
      go_wp2_with fail
      go_roundw
      case rel => exact ⟨⟨hM6.os, hM6.tape, hM6.output, hM6.size, hM6.block⟩, .inr (.inr (.inr (.inr (⟨rfl, rfl, hR6⟩))))⟩
      case measure => simp [intOf]
    · go_wp2_with fail
      go_end0
      exact ⟨s0, s1, s2, s3, rfl, hR, hM, FIN.out⟩
end Go.Proofs.YtmamedobphlpkaaDoor

namespace Go.Proofs.YtmamedobphlpkaaDoor
open Go.RowKit

/-- the base's i-th power -/
def BP (i : Nat) : Nat := 4294967296 ^ i
theorem BP_zero : BP 0 = 1 := rfl
theorem BP_succ (i : Nat) : BP (i + 1) = BP i * 4294967296 := Nat.pow_succ ..
theorem BP_pos (i : Nat) : 0 < BP i := Nat.pow_pos (by decide)
theorem BP_add (i j : Nat) : BP (i + j) = BP i * BP j := Nat.pow_add ..
theorem BP_le {i j : Nat} (h : i ≤ j) : BP i ≤ BP j := Nat.pow_le_pow_right (by decide) h
theorem BP_dvd {i j : Nat} (h : i ≤ j) : ∃ k, BP j = BP i * k := ⟨BP (j - i), by rw [← BP_add]; congr 1; omega⟩

/-- the i-th digit -/
def dg (n i : Nat) : Nat := n / BP i % 4294967296
theorem dg_lt (n i : Nat) : dg n i < 4294967296 := Nat.mod_lt _ (by decide)
theorem dg_zero (i : Nat) : dg 0 i = 0 := by unfold dg; simp
theorem dg_high {n i : Nat} (h : n < BP i) : dg n i = 0 := by unfold dg; rw [Nat.div_eq_of_lt h]
theorem dg_high' {n i j : Nat} (h : n < BP j) (hj : j ≤ i) : dg n i = 0 := dg_high (Nat.lt_of_lt_of_le h (BP_le hj))
theorem div_succ (n i : Nat) : n / BP (i + 1) = n / BP i / 4294967296 := by rw [BP_succ, Nat.div_div_eq_div_mul]
theorem mod_succ (n i : Nat) : n % BP (i + 1) = n % BP i + BP i * dg n i := by unfold dg; rw [BP_succ, Nat.mod_mul]
/-- what is ahead of a digit, and it -/
theorem div_dg (n i : Nat) : n / BP i = n / BP (i + 1) * 4294967296 + dg n i := by
  rw [div_succ]; unfold dg; omega
theorem dg_ext {m n : Nat} (hm : m < BP 16) (hn : n < BP 16) (h : ∀ i, i < 16 → dg m i = dg n i) : m = n := by
  have key : ∀ k, k ≤ 16 → m % BP k = n % BP k := by
    intro k
    induction k with
    | zero => intro _; simp [BP_zero, Nat.mod_one]
    | succ k ih =>
      intro hk
      rw [mod_succ, mod_succ, ih (by omega), h k (by omega)]
  have := key 16 (Nat.le_refl _)
  rwa [Nat.mod_eq_of_lt hm, Nat.mod_eq_of_lt hn] at this

/-! ## Sums -/
theorem add_step {P ra rb qa qb x y c s : Nat} (hP : 0 < P) (hx : x = qa % 4294967296) (hy : y = qb % 4294967296) (hc : c = (ra + rb) / P) (hs : s = x + y + c) :
    s % 4294967296 = ((qa * P + ra) + (qb * P + rb)) / P % 4294967296 ∧ s / 4294967296 = ((ra + P * x) + (rb + P * y)) / (P * 4294967296) := by
  have e1 : ((qa * P + ra) + (qb * P + rb)) / P = qa + qb + c := by
    rw [show (qa * P + ra) + (qb * P + rb) = (ra + rb) + (qa + qb) * P by rw [Nat.add_mul]; omega, Nat.add_mul_div_right _ _ hP, hc]; omega
  have e2 : ((ra + P * x) + (rb + P * y)) / (P * 4294967296) = (c + (x + y)) / 4294967296 := by
    rw [← Nat.div_div_eq_div_mul, show (ra + P * x) + (rb + P * y) = (ra + rb) + P * (x + y) by rw [Nat.mul_add]; omega, Nat.add_mul_div_left _ _ hP, hc]
  rw [e1, e2]
  omega
/-- the carry into a place -/
def carry (a b i : Nat) : Nat := (a % BP i + b % BP i) / BP i
theorem carry_zero (a b : Nat) : carry a b 0 = 0 := by unfold carry; simp [BP_zero, Nat.mod_one]
theorem carry_le (a b i : Nat) : carry a b i ≤ 1 := by
  unfold carry
  have h1 := Nat.mod_lt a (BP_pos i)
  have h2 := Nat.mod_lt b (BP_pos i)
  have : (a % BP i + b % BP i) / BP i < 2 := Nat.div_lt_of_lt_mul (by omega)
  omega
theorem add_dg (a b i : Nat) : (dg a i + dg b i + carry a b i) % 4294967296 = dg (a + b) i ∧ (dg a i + dg b i + carry a b i) / 4294967296 = carry a b (i + 1) := by
  have h := add_step (P := BP i) (ra := a % BP i) (rb := b % BP i) (qa := a / BP i) (qb := b / BP i) (x := dg a i) (y := dg b i) (c := carry a b i) (BP_pos i) rfl rfl rfl rfl
  refine ⟨h.1.trans ?_, h.2.trans ?_⟩
  · unfold dg
    rw [Nat.div_add_mod' a, Nat.div_add_mod' b]
  · unfold carry
    rw [← BP_succ, mod_succ, mod_succ]

/-! ## Differences -/
/-- what is borrowed into a place -/
def borrow (a b i : Nat) : Nat := if a % BP i < b % BP i then 1 else 0
theorem borrow_zero (a b : Nat) : borrow a b 0 = 0 := by unfold borrow; simp [BP_zero, Nat.mod_one]
theorem borrow_le (a b i : Nat) : borrow a b i ≤ 1 := by unfold borrow; split <;> omega
theorem lex_lt {P ra rb x y : Nat} (ha : ra < P) (hb : rb < P) : ra + P * x < rb + P * y ↔ x < y ∨ x = y ∧ ra < rb := by
  constructor
  · intro h
    rcases Nat.lt_trichotomy x y with h1 | h1 | h1
    · exact .inl h1
    · subst h1; exact .inr ⟨rfl, by omega⟩
    · have : P * (y + 1) ≤ P * x := Nat.mul_le_mul_left _ h1
      rw [Nat.mul_add] at this
      omega
  · rintro (h1 | ⟨rfl, h1⟩)
    · have : P * (x + 1) ≤ P * y := Nat.mul_le_mul_left _ h1
      rw [Nat.mul_add] at this
      omega
    · omega
theorem sub_dg {a b : Nat} (h : b ≤ a) (i : Nat) : (dg a i + 4294967296 - dg b i - borrow a b i) % 4294967296 = dg (a - b) i ∧ 1 - (dg a i + 4294967296 - dg b i - borrow a b i) / 4294967296 = borrow a b (i + 1) := by
  have hP := BP_pos i
  have ha := Nat.mod_lt a hP
  have hb := Nat.mod_lt b hP
  have xa := dg_lt a i
  have xb := dg_lt b i
  constructor
  · have ea := Nat.div_add_mod a (BP i)
    have eb := Nat.div_add_mod b (BP i)
    have hq : b / BP i ≤ a / BP i := Nat.div_le_div_right h
    have e : (a - b) / BP i = a / BP i - b / BP i - borrow a b i := by
      unfold borrow
      split
      · rename_i hlt
        have hq' : b / BP i < a / BP i := by
          rcases Nat.lt_or_ge (b / BP i) (a / BP i) with h1 | h1
          · exact h1
          · have : a / BP i = b / BP i := Nat.le_antisymm h1 hq
            rw [this] at ea
            omega
        have e1 : BP i * (a / BP i) = BP i * (a / BP i - b / BP i - 1) + BP i * (b / BP i) + BP i := by
          rw [← Nat.mul_add, ← Nat.mul_succ]
          congr 1
          omega
        rw [show a - b = (BP i + a % BP i - b % BP i) + BP i * (a / BP i - b / BP i - 1) by omega, Nat.add_mul_div_left _ _ hP, Nat.div_eq_of_lt (by omega)]
        omega
      · rename_i hlt
        have e1 : BP i * (a / BP i) = BP i * (a / BP i - b / BP i) + BP i * (b / BP i) := by
          rw [← Nat.mul_add]
          congr 1
          omega
        rw [show a - b = (a % BP i - b % BP i) + BP i * (a / BP i - b / BP i) by omega, Nat.add_mul_div_left _ _ hP, Nat.div_eq_of_lt (by omega)]
        omega
    have hbo := borrow_le a b i
    have hle : b / BP i + borrow a b i ≤ a / BP i := by
      unfold borrow
      split
      · rename_i hlt
        rcases Nat.lt_or_ge (b / BP i) (a / BP i) with h1 | h1
        · exact h1
        · have : a / BP i = b / BP i := Nat.le_antisymm h1 hq
          rw [this] at ea
          omega
      · exact hq
    unfold dg
    rw [e]
    omega
  · have hl := lex_lt (x := dg a i) (y := dg b i) ha hb
    have hbo := borrow_le a b i
    have e2 : borrow a b (i + 1) = if dg a i < dg b i ∨ dg a i = dg b i ∧ a % BP i < b % BP i then 1 else 0 := by
      unfold borrow
      rw [mod_succ, mod_succ]
      simp only [hl]
    rw [e2]
    have hb1 : borrow a b i = 1 ↔ a % BP i < b % BP i := by unfold borrow; split <;> simp [*]
    split
    · rename_i hh
      rcases hh with h1 | ⟨h1, h2⟩
      · omega
      · have := hb1.2 h2; omega
    · rename_i hh
      have : dg b i ≤ dg a i := by omega
      rcases Nat.lt_or_ge (a % BP i) (b % BP i) with h2 | h2
      · have : dg a i ≠ dg b i := fun e => hh (.inr ⟨e, h2⟩)
        omega
      · have h3 : borrow a b i = 0 := by unfold borrow; rw [if_neg (by omega)]
        omega

/-! ## A digit written -/
/-- the number with the digit at place j another -/
def put (n j v : Nat) : Nat := n - dg n j * BP j + v * BP j
theorem dg_mul_le (n j : Nat) : dg n j * BP j ≤ n := by
  have h := Nat.div_add_mod n (BP j)
  have h1 : dg n j ≤ n / BP j := Nat.mod_le _ _
  have := Nat.mul_le_mul_right (BP j) h1
  rw [Nat.mul_comm (n / BP j)] at this
  omega
theorem put_split (n j v : Nat) : put n j v = n / BP (j + 1) * BP (j + 1) + v * BP j + n % BP j := by
  unfold put
  have h := Nat.div_add_mod n (BP j)
  have h2 := div_dg n j
  have h3 : BP j * (n / BP j) = n / BP (j + 1) * BP (j + 1) + dg n j * BP j := by
    rw [h2, Nat.mul_add, BP_succ, Nat.mul_comm (BP j) (dg n j), Nat.mul_comm (n / _) (BP j * _), Nat.mul_assoc, Nat.mul_comm 4294967296]
  omega
theorem put_div {n j v : Nat} (hv : v < 4294967296) : put n j v / BP j = n / BP (j + 1) * 4294967296 + v := by
  rw [put_split, BP_succ, ← Nat.mul_assoc, Nat.mul_right_comm, ← Nat.add_mul, Nat.add_comm, Nat.add_mul_div_right _ _ (BP_pos j), Nat.div_eq_of_lt (Nat.mod_lt _ (BP_pos j)), Nat.zero_add]
theorem put_mod {n j v : Nat} (i : Nat) (hi : i ≤ j) : put n j v % BP i = n % BP i := by
  obtain ⟨k, hk⟩ := BP_dvd hi
  have h1 : BP j = k * BP i := by rw [hk, Nat.mul_comm]
  have : ∀ u, (u * BP j + n) % BP i = n % BP i := fun u => by rw [h1, ← Nat.mul_assoc, Nat.add_comm, Nat.add_mul_mod_self_right]
  have h2 : put n j v + dg n j * BP j = v * BP j + n := by unfold put; have := dg_mul_le n j; omega
  have h3 := this v
  rw [← h2, h1, ← Nat.mul_assoc, Nat.add_mul_mod_self_right] at h3
  exact h3
theorem dg_put {n j v : Nat} (hv : v < 4294967296) (i : Nat) : dg (put n j v) i = if i = j then v else dg n i := by
  split
  · rename_i h
    subst h
    unfold dg
    rw [put_div hv]
    omega
  · rename_i h
    rcases Nat.lt_or_ge i j with h1 | h1
    · have e := put_mod (n := n) (v := v) (i + 1) h1
      have e0 := put_mod (n := n) (v := v) i (Nat.le_of_lt h1)
      rw [mod_succ, mod_succ, e0] at e
      exact Nat.eq_of_mul_eq_mul_left (BP_pos i) (by omega)
    · have e : put n j v / BP (j + 1) = n / BP (j + 1) := by rw [div_succ, put_div hv]; omega
      obtain ⟨k, rfl⟩ : ∃ k, i = (j + 1) + k := ⟨i - (j + 1), by omega⟩
      unfold dg
      rw [BP_add, ← Nat.div_div_eq_div_mul, ← Nat.div_div_eq_div_mul, e]
theorem put_lt {n j v : Nat} (hn : n < BP 16) (hj : j < 16) (hv : v < 4294967296) : put n j v < BP 16 := by
  have h1 : n / BP (j + 1) * BP (j + 1) + BP (j + 1) ≤ BP 16 := by
    obtain ⟨k, hk⟩ := BP_dvd (show j + 1 ≤ 16 by omega)
    have : n / BP (j + 1) < k := Nat.div_lt_of_lt_mul (by rw [← hk]; exact hn)
    have := Nat.mul_le_mul_right (BP (j + 1)) this
    rw [Nat.succ_mul] at this
    rw [hk, Nat.mul_comm _ k]
    omega
  have h2 : v * BP j + BP j ≤ BP (j + 1) := by
    rw [BP_succ, Nat.mul_comm (BP j), ← Nat.succ_mul]
    exact Nat.mul_le_mul_right _ hv
  have h3 := Nat.mod_lt n (BP_pos j)
  rw [put_split]
  omega

/-! ## Products -/
/-- one step of a row: the digit at i + k, and what is carried -/
theorem mul_step {n b i k x c s : Nat} (hs : s = dg n (i + k) + x * dg b k + c) :
    put n (i + k) (s % 4294967296) + s / 4294967296 * BP (i + (k + 1)) = n + c * BP (i + k) + x * BP i * (b % BP (k + 1)) - x * BP i * (b % BP k) := by
  have h0 := dg_mul_le n (i + k)
  have e : s % 4294967296 * BP (i + k) + s / 4294967296 * BP (i + (k + 1)) = s * BP (i + k) := by
    rw [← Nat.add_assoc, BP_succ, Nat.mul_comm (BP (i + k)), ← Nat.mul_assoc, ← Nat.add_mul]
    congr 1
    omega
  have e2 : s * BP (i + k) = dg n (i + k) * BP (i + k) + x * BP i * (BP k * dg b k) + c * BP (i + k) := by
    rw [hs, Nat.add_mul, Nat.add_mul, BP_add i k]
    congr 2
    rw [Nat.mul_assoc, Nat.mul_assoc]
    congr 1
    rw [Nat.mul_left_comm, Nat.mul_comm (dg b k)]
  rw [mod_succ, Nat.mul_add]
  unfold put
  omega
/-- the product of two digits, and two more -/
theorem digit_room {x y u v : Nat} (hx : x < 4294967296) (hy : y < 4294967296) (hu : u < 4294967296) (hv : v < 4294967296) : u + x * y + v < 18446744073709551616 ∧ x * y < 18446744073709551616 := by
  have h : x * y ≤ 4294967295 * 4294967295 := Nat.mul_le_mul (by omega) (by omega)
  omega

/-! ## Comparisons -/
theorem cmp_step {a b i : Nat} (h : a / BP (i + 1) = b / BP (i + 1)) : (dg a i = dg b i → a / BP i = b / BP i) ∧ (dg a i < dg b i → a < b) ∧ (dg b i < dg a i → b < a) := by
  have ea := div_dg a i
  have eb := div_dg b i
  rw [h] at ea
  refine ⟨fun e => by rw [ea, eb, e], fun hlt => ?_, fun hlt => ?_⟩
  · rcases Nat.lt_or_ge a b with h1 | h1
    · exact h1
    · have := Nat.div_le_div_right (c := BP i) h1
      omega
  · rcases Nat.lt_or_ge b a with h1 | h1
    · exact h1
    · have := Nat.div_le_div_right (c := BP i) h1
      omega

/-! ## Quotients, bit by bit -/
theorem BP_two (j : Nat) : BP j = 2 ^ (32 * j) := by
  unfold BP
  rw [show (4294967296 : Nat) = 2 ^ 32 by decide, ← Nat.pow_mul]
theorem bit_low (m : Nat) {l : Nat} (hl : l < 32) : m % 4294967296 / 2 ^ l % 2 = m / 2 ^ l % 2 := by
  have e : (4294967296 : Nat) = 2 ^ l * (2 * 2 ^ (31 - l)) := by
    rw [show (2 : Nat) * 2 ^ (31 - l) = 2 ^ (31 - l + 1) by rw [Nat.pow_succ, Nat.mul_comm], ← Nat.pow_add, show l + (31 - l + 1) = 32 by omega]
  rw [e, Nat.mod_mul_right_div_self, Nat.mod_mul_right_mod]
/-- the i-th bit is one of a digit's -/
theorem dg_bit (a i : Nat) : dg a (i / 32) / 2 ^ (i % 32) % 2 = a / 2 ^ i % 2 := by
  unfold dg
  rw [bit_low _ (Nat.mod_lt _ (by decide)), BP_two, Nat.div_div_eq_div_mul, ← Nat.pow_add, Nat.div_add_mod]
theorem put_more {n j v : Nat} : put n j (dg n j + v) = n + v * BP j := by
  unfold put
  have := dg_mul_le n j
  rw [Nat.add_mul]
  omega
/-- a digit of a number whose lower bits are none has room for one of them -/
theorem dg_room (Q i : Nat) : dg (Q * 2 ^ (i + 1)) (i / 32) + 2 ^ (i % 32) < 4294967296 := by
  obtain ⟨l, hl⟩ : ∃ l, l = i % 32 := ⟨_, rfl⟩
  have h32 : l < 32 := by omega
  have e1 : Q * 2 ^ (i + 1) = Q * 2 ^ (l + 1) * BP (i / 32) := by
    rw [BP_two, Nat.mul_assoc, ← Nat.pow_add]
    congr 2
    omega
  have e2 : (4294967296 : Nat) = 2 ^ (l + 1) * 2 ^ (31 - l) := by
    rw [← Nat.pow_add, show l + 1 + (31 - l) = 32 by omega]
  unfold dg
  rw [← hl, e1, Nat.mul_div_cancel _ (BP_pos _), e2, Nat.mul_comm Q, Nat.mul_mod_mul_left]
  have h1 : Q % 2 ^ (31 - l) < 2 ^ (31 - l) := Nat.mod_lt _ (Nat.pow_pos (by decide))
  have h2 := Nat.mul_le_mul_left (2 ^ (l + 1)) (Nat.succ_le_of_lt h1)
  rw [Nat.mul_succ] at h2
  have h3 : (2 : Nat) ^ (l + 1) = 2 ^ l * 2 := Nat.pow_succ ..
  have h4 : 0 < (2 : Nat) ^ l := Nat.pow_pos (by decide)
  omega
theorem half_step (a i : Nat) : a / 2 ^ i = 2 * (a / 2 ^ (i + 1)) + a / 2 ^ i % 2 := by
  have : a / 2 ^ (i + 1) = a / 2 ^ i / 2 := by rw [Nat.pow_succ, Nat.div_div_eq_div_mul]
  omega
/-- a round where the divisor goes in -/
theorem div_in {a b i r : Nat} (hb : 0 < b) (hr : r = 2 * (a / 2 ^ (i + 1) % b) + a / 2 ^ i % 2) (h : b ≤ r) : r - b = a / 2 ^ i % b ∧ a / 2 ^ (i + 1) / b * 2 ^ (i + 1) + 2 ^ i = a / 2 ^ i / b * 2 ^ i := by
  have hs := half_step a i
  have h1 := Nat.div_add_mod (a / 2 ^ (i + 1)) b
  have h2 := Nat.mod_lt (a / 2 ^ (i + 1)) hb
  obtain ⟨Q, hQ⟩ : ∃ Q, Q = a / 2 ^ (i + 1) / b := ⟨_, rfl⟩
  obtain ⟨m, hm⟩ : ∃ m, m = a / 2 ^ (i + 1) % b := ⟨_, rfl⟩
  rw [← hQ] at h1 ⊢
  rw [← hm] at h1 h2 hr
  have e : a / 2 ^ i = (r - b) + b * (2 * Q + 1) := by
    rw [Nat.mul_add, Nat.mul_left_comm]
    omega
  rw [e, Nat.add_mul_mod_self_left, Nat.add_mul_div_left _ _ hb, Nat.mod_eq_of_lt (show r - b < b by omega), Nat.div_eq_of_lt (show r - b < b by omega)]
  refine ⟨rfl, ?_⟩
  rw [Nat.pow_succ, Nat.zero_add, Nat.add_mul, Nat.one_mul, Nat.mul_comm (2 ^ i) 2, ← Nat.mul_assoc, Nat.mul_comm Q 2]
/-- a round where it doesn't -/
theorem div_out {a b i r : Nat} (hb : 0 < b) (hr : r = 2 * (a / 2 ^ (i + 1) % b) + a / 2 ^ i % 2) (h : r < b) : r = a / 2 ^ i % b ∧ a / 2 ^ (i + 1) / b * 2 ^ (i + 1) = a / 2 ^ i / b * 2 ^ i := by
  have hs := half_step a i
  have h1 := Nat.div_add_mod (a / 2 ^ (i + 1)) b
  obtain ⟨Q, hQ⟩ : ∃ Q, Q = a / 2 ^ (i + 1) / b := ⟨_, rfl⟩
  obtain ⟨m, hm⟩ : ∃ m, m = a / 2 ^ (i + 1) % b := ⟨_, rfl⟩
  rw [← hQ] at h1 ⊢
  rw [← hm] at h1 hr
  have e : a / 2 ^ i = r + b * (2 * Q) := by
    rw [Nat.mul_left_comm]
    omega
  rw [e, Nat.add_mul_mod_self_left, Nat.add_mul_div_left _ _ hb, Nat.mod_eq_of_lt h, Nat.div_eq_of_lt h]
  refine ⟨rfl, ?_⟩
  rw [Nat.pow_succ, Nat.zero_add, Nat.mul_comm (2 ^ i) 2, ← Nat.mul_assoc, Nat.mul_comm Q 2]
end Go.Proofs.YtmamedobphlpkaaDoor
