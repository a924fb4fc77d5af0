/-
  RefE · RefF · RefG
-/
import Derived.Test.YtfalllekhcocgaaDoorA12
set_option linter.unusedSimpArgs false
set_option linter.unusedVariables false

namespace Go.Proofs.YtfalllekhcocgaaDoor
open Go.RowKit

theorem lt_four {n : Nat} (hn : n < BP 16) (h : ∀ j, 4 ≤ j → j < 16 → dg n j = 0) : n < BP 4 := by
  have key : ∀ k, k ≤ 12 → n % BP (4 + k) = n % BP 4 := by
    intro k
    induction k with
    | zero => intro _; rfl
    | succ k ih =>
      intro hk
      rw [← Nat.add_assoc, mod_succ, h (4 + k) (by omega) (by omega), ih (by omega)]
      omega
  have h1 := key 12 (Nat.le_refl _)
  rw [Nat.mod_eq_of_lt hn] at h1
  rw [h1]
  exact Nat.mod_lt _ (BP_pos 4)

theorem not_word (n : Nat) (h : n < 18446744073709551616) : bits .xor .u64 (if IntKind.u64.signed = true then -1 else IntKind.u64.max) (n : Int) = ((18446744073709551615 - n : Nat) : Int) := by
  show IntKind.u64.wrap ((BitVec.ofInt 64 (if IntKind.u64.signed = true then -1 else IntKind.u64.max) ^^^ BitVec.ofInt 64 (n : Int)).toNat : Int) = _
  rw [show BitVec.ofInt 64 (if IntKind.u64.signed = true then -1 else IntKind.u64.max) = BitVec.allOnes 64 by decide, BitVec.allOnes_xor, BitVec.ofInt_natCast, BitVec.toNat_not, BitVec.toNat_ofNat, Nat.mod_eq_of_lt (by omega), IntKind.wrap_u64]
  omega

theorem rof_any (w : World) (x : Int) (hx : Fits x) : Calls Tryd.prog 56 #[WV x] w fun e w' => e = .returned (BigZ x) ∧ Below w.heap.size w w' := by
  obtain ⟨hi, lo, e1, hxw, h1, h2⟩ := WV_of hx
  rw [e1]
  obtain ⟨y, rfl⟩ := Int.eq_ofNat_of_zero_le h2.1
  unfold BigZ
  by_cases hn : hi < 0
  · obtain ⟨X, hX⟩ : ∃ X : Nat, hi + 18446744073709551616 = (X : Int) := ⟨(hi + 18446744073709551616).toNat, by omega⟩
    rw [show decide (x < 0) = true by rw [decide_eq_true_iff]; omega]
    have hd : decide (hi < 0) = true := by rw [decide_eq_true_iff]; exact hn
    have wx : IntKind.u64.wrap hi = (X : Int) := by rw [IntKind.wrap_u64]; omega
    have nX := not_word X (by omega)
    have nY := not_word y (by omega)
    by_cases hy : y = 0
    · have h := of_negB w hi X y (18446744073709551615 - y) (18446744073709551615 - X) (18446744073709551616 - X) 0 hd wx nX (by rw [IntKind.wrap_u64]; omega) nY (by rw [IntKind.wrap_u64]; omega) (by simp) (by omega) (by omega)
      rw [show x.natAbs = (18446744073709551616 - X) * 18446744073709551616 + 0 by omega]
      exact h
    · have h := of_negA w hi X y (18446744073709551615 - y) (18446744073709551615 - X) (18446744073709551616 - y) hd wx nX nY (by rw [IntKind.wrap_u64]; omega) (by simp; omega) (by omega) (by omega)
      rw [show x.natAbs = (18446744073709551615 - X) * 18446744073709551616 + (18446744073709551616 - y) by omega]
      exact h
  · obtain ⟨h, rfl⟩ := Int.eq_ofNat_of_zero_le (show 0 ≤ hi by omega)
    rw [show decide (x < 0) = false by rw [decide_eq_false_iff_not]; omega, show x.natAbs = h * 18446744073709551616 + y by omega]
    exact of_pos w h y (by omega) (by omega)

set_option maxRecDepth 100000 in
set_option maxHeartbeats 2000000 in
theorem wide_big (w : World) (b : Bool) (n : Nat) (hn : n < BP 16) (h4 : BP 4 ≤ n) : Calls Tryd.prog 86 #[BigV b n] w fun e w' => e = .returned (.tuple #[.agg #[.int .i64 0, .int .u64 0], .bool false]) ∧ Below w.heap.size w w' := by
  have hA := (Row.new w 76 (bigs b n)).alloc (.cells #[.int .i64 0, .int .u64 0] 24)
  have hU := ((Up.refl w).alloc (.cells (bigs b n) 76)).alloc (.cells #[.int .i64 0, .int .u64 0] 24)
  have HN := hid hn
  have H4 := hid h4
  clear hn h4
  unfold BigV
  go_enter Tryd.func86, Tryd.ntmps86
  go_wp2_with fail
  go_loop [4] (fun i => ∃ k : Nat, 4 ≤ k ∧ k ≤ 16 ∧ i = .int .i64 (k : Int) ∧ ∀ j, 4 ≤ j → j < k → dg n j = 0) (fun i => 16 - (intOf i).toNat)
  case atStart => exact ⟨4, by omega, by omega, rfl, fun j h1 h2 => by omega⟩
  case round =>
    obtain ⟨k, hk4, hk, rfl, hz⟩ := hrel
    by_cases hlt : k < 16
    · have ca := hA.cell (1 + k)
      rw [Nat.add_comm 1 k, bigs_get _ _ hlt] at ca
      have ca' := ca
      rw [Nat.add_comm k 1] at ca'
      obtain ⟨x, hx⟩ : ∃ x, x = dg n k := ⟨_, rfl⟩
      rw [← hx] at ca ca'
      have HX := hid hx
      have HZ := hid hz
      clear hx hz
      by_cases h0 : x = 0
      · have b1 : ((x : Int) != 0) = false := by simp [h0]
        have H0 := hid h0
        clear h0
        go_wp2
        go_round
        case rel => exact ⟨k + 1, by omega, by omega, by go_num, fun j h1 h2 => by
          by_cases hj : j = k
          · rw [hj, ← HX.out, H0.out]
          · exact HZ.out j h1 (by omega)⟩
        case measure => simp [intOf]; omega
      · have b1 : ((x : Int) != 0) = true := by simp; omega
        clear h0
        go_wp2
        simp [bodyPost, results, Tryd.results86, go_sem]
        exact hU.below
    · exfalso
      have : n < BP 4 := lt_four HN.out (fun j h1 h2 => hz j h1 (by omega))
      have := H4.out
      omega

set_option maxRecDepth 100000 in
set_option maxHeartbeats 2000000 in
theorem wide_P1 (w : World) (n h l : Nat) (hn : n < BP 4) (hh : (dg n 2 : Int) + (dg n 3 : Int) * 4294967296 = (h : Int)) (hl : (dg n 0 : Int) + (dg n 1 : Int) * 4294967296 = (l : Int)) (wh : IntKind.i64.wrap (h : Int) = (h : Int)) (HT : Hid (h < 9223372036854775808)) : Calls Tryd.prog 86 #[BigV false n] w fun e w' => e = .returned (.tuple #[.agg #[.int .i64 (h : Int), .int .u64 (l : Int)], .bool true]) ∧ Below w.heap.size w w' := by
  have hA := (Row.new w 76 (bigs false n)).alloc (.cells #[.int .i64 0, .int .u64 0] 24)
  have hU := ((Up.refl w).alloc (.cells (bigs false n) 76)).alloc (.cells #[.int .i64 0, .int .u64 0] 24)
  have hz : ∀ j, 4 ≤ j → dg n j = 0 := fun j hj => dg_high' hn hj
  have cb : ((w.alloc (.cells (bigs false n) 76)).alloc (.cells #[.int .i64 0, .int .u64 0] 24)).cell? ⟨w.heap.size, 0, none⟩ = some (.bool false) := by rw [hA.cell, bigs_get0]
  have c0 := hA.cell (0 + 1)
  have c1 := hA.cell (1 + 1)
  have c2 := hA.cell (2 + 1)
  have c3 := hA.cell (3 + 1)
  rw [bigs_get _ _ (by decide)] at c0 c1 c2 c3
  obtain ⟨d0, e0⟩ : ∃ d, d = dg n 0 := ⟨_, rfl⟩
  obtain ⟨d1, e1⟩ : ∃ d, d = dg n 1 := ⟨_, rfl⟩
  obtain ⟨d2, e2⟩ : ∃ d, d = dg n 2 := ⟨_, rfl⟩
  obtain ⟨d3, e3⟩ : ∃ d, d = dg n 3 := ⟨_, rfl⟩
  have l0 := dg_lt n 0
  have l1 := dg_lt n 1
  have l2 := dg_lt n 2
  have l3 := dg_lt n 3
  rw [← e0] at c0 l0 hl
  rw [← e1] at c1 l1 hl
  rw [← e2] at c2 l2 hh
  rw [← e3] at c3 l3 hh
  have HZ := hid hz
  clear hz e0 e1 e2 e3 hn
  unfold BigV
  go_enter Tryd.func86, Tryd.ntmps86
  go_wp2_with fail
  go_loop [4] (fun i => ∃ k : Nat, 4 ≤ k ∧ k ≤ 16 ∧ i = .int .i64 (k : Int)) (fun i => 16 - (intOf i).toNat)
  case atStart => exact ⟨4, by omega, by omega, rfl⟩
  case round =>
    obtain ⟨k, hk4, hk, rfl⟩ := hrel
    by_cases hlt : k < 16
    · have ca := hA.cell (1 + k)
      rw [Nat.add_comm 1 k, bigs_get _ _ hlt, HZ.out k hk4] at ca
      have ca' := ca
      rw [Nat.add_comm k 1] at ca'
      clear c0 c1 c2 c3 cb
      go_wp2
      go_round
      case rel => exact ⟨k + 1, by omega, by omega, by go_num⟩
      case measure => simp [intOf]; omega
    · obtain rfl : k = 16 := by omega
      go_wp2
      all_goals first
        | (exfalso; have := HT.out; simp at *; omega)
        | (simp [bodyPost, results, Tryd.results86, go_sem]; exact ⟨by have := HT.out; omega, (((Up.refl w).alloc _).alloc _).below⟩)

set_option maxRecDepth 100000 in
set_option maxHeartbeats 2000000 in
theorem wide_P2 (w : World) (n h l : Nat) (hn : n < BP 4) (hh : (dg n 2 : Int) + (dg n 3 : Int) * 4294967296 = (h : Int)) (hl : (dg n 0 : Int) + (dg n 1 : Int) * 4294967296 = (l : Int)) (p : Int) (wh : IntKind.i64.wrap (h : Int) = p) (HT : Hid (¬ h < 9223372036854775808)) : Calls Tryd.prog 86 #[BigV false n] w fun e w' => e = .returned (.tuple #[.agg #[.int .i64 p, .int .u64 (l : Int)], .bool false]) ∧ Below w.heap.size w w' := by
  have hA := (Row.new w 76 (bigs false n)).alloc (.cells #[.int .i64 0, .int .u64 0] 24)
  have hU := ((Up.refl w).alloc (.cells (bigs false n) 76)).alloc (.cells #[.int .i64 0, .int .u64 0] 24)
  have hz : ∀ j, 4 ≤ j → dg n j = 0 := fun j hj => dg_high' hn hj
  have cb : ((w.alloc (.cells (bigs false n) 76)).alloc (.cells #[.int .i64 0, .int .u64 0] 24)).cell? ⟨w.heap.size, 0, none⟩ = some (.bool false) := by rw [hA.cell, bigs_get0]
  have c0 := hA.cell (0 + 1)
  have c1 := hA.cell (1 + 1)
  have c2 := hA.cell (2 + 1)
  have c3 := hA.cell (3 + 1)
  rw [bigs_get _ _ (by decide)] at c0 c1 c2 c3
  obtain ⟨d0, e0⟩ : ∃ d, d = dg n 0 := ⟨_, rfl⟩
  obtain ⟨d1, e1⟩ : ∃ d, d = dg n 1 := ⟨_, rfl⟩
  obtain ⟨d2, e2⟩ : ∃ d, d = dg n 2 := ⟨_, rfl⟩
  obtain ⟨d3, e3⟩ : ∃ d, d = dg n 3 := ⟨_, rfl⟩
  have l0 := dg_lt n 0
  have l1 := dg_lt n 1
  have l2 := dg_lt n 2
  have l3 := dg_lt n 3
  rw [← e0] at c0 l0 hl
  rw [← e1] at c1 l1 hl
  rw [← e2] at c2 l2 hh
  rw [← e3] at c3 l3 hh
  have HZ := hid hz
  clear hz e0 e1 e2 e3 hn
  unfold BigV
  go_enter Tryd.func86, Tryd.ntmps86
  go_wp2_with fail
  go_loop [4] (fun i => ∃ k : Nat, 4 ≤ k ∧ k ≤ 16 ∧ i = .int .i64 (k : Int)) (fun i => 16 - (intOf i).toNat)
  case atStart => exact ⟨4, by omega, by omega, rfl⟩
  case round =>
    obtain ⟨k, hk4, hk, rfl⟩ := hrel
    by_cases hlt : k < 16
    · have ca := hA.cell (1 + k)
      rw [Nat.add_comm 1 k, bigs_get _ _ hlt, HZ.out k hk4] at ca
      have ca' := ca
      rw [Nat.add_comm k 1] at ca'
      clear c0 c1 c2 c3 cb
      go_wp2
      go_round
      case rel => exact ⟨k + 1, by omega, by omega, by go_num⟩
      case measure => simp [intOf]; omega
    · obtain rfl : k = 16 := by omega
      go_wp2
      all_goals first
        | (exfalso; have := HT.out; simp at *; omega)
        | (simp [bodyPost, results, Tryd.results86, go_sem]; exact ⟨by have := HT.out; omega, (((Up.refl w).alloc _).alloc _).below⟩)

set_option maxRecDepth 100000 in
set_option maxHeartbeats 2000000 in
theorem wide_N0 (w : World) (n h l : Nat) (hn : n < BP 4) (hh : (dg n 2 : Int) + (dg n 3 : Int) * 4294967296 = (h : Int)) (hl : (dg n 0 : Int) + (dg n 1 : Int) * 4294967296 = (l : Int)) (HT : Hid (9223372036854775808 < h)) : Calls Tryd.prog 86 #[BigV true n] w fun e w' => e = .returned (.tuple #[.agg #[.int .i64 0, .int .u64 0], .bool false]) ∧ Below w.heap.size w w' := by
  have hA := (Row.new w 76 (bigs true n)).alloc (.cells #[.int .i64 0, .int .u64 0] 24)
  have hU := ((Up.refl w).alloc (.cells (bigs true n) 76)).alloc (.cells #[.int .i64 0, .int .u64 0] 24)
  have hz : ∀ j, 4 ≤ j → dg n j = 0 := fun j hj => dg_high' hn hj
  have cb : ((w.alloc (.cells (bigs true n) 76)).alloc (.cells #[.int .i64 0, .int .u64 0] 24)).cell? ⟨w.heap.size, 0, none⟩ = some (.bool true) := by rw [hA.cell, bigs_get0]
  have c0 := hA.cell (0 + 1)
  have c1 := hA.cell (1 + 1)
  have c2 := hA.cell (2 + 1)
  have c3 := hA.cell (3 + 1)
  rw [bigs_get _ _ (by decide)] at c0 c1 c2 c3
  obtain ⟨d0, e0⟩ : ∃ d, d = dg n 0 := ⟨_, rfl⟩
  obtain ⟨d1, e1⟩ : ∃ d, d = dg n 1 := ⟨_, rfl⟩
  obtain ⟨d2, e2⟩ : ∃ d, d = dg n 2 := ⟨_, rfl⟩
  obtain ⟨d3, e3⟩ : ∃ d, d = dg n 3 := ⟨_, rfl⟩
  have l0 := dg_lt n 0
  have l1 := dg_lt n 1
  have l2 := dg_lt n 2
  have l3 := dg_lt n 3
  rw [← e0] at c0 l0 hl
  rw [← e1] at c1 l1 hl
  rw [← e2] at c2 l2 hh
  rw [← e3] at c3 l3 hh
  have HZ := hid hz
  clear hz e0 e1 e2 e3 hn
  unfold BigV
  go_enter Tryd.func86, Tryd.ntmps86
  go_wp2_with fail
  go_loop [4] (fun i => ∃ k : Nat, 4 ≤ k ∧ k ≤ 16 ∧ i = .int .i64 (k : Int)) (fun i => 16 - (intOf i).toNat)
  case atStart => exact ⟨4, by omega, by omega, rfl⟩
  case round =>
    obtain ⟨k, hk4, hk, rfl⟩ := hrel
    by_cases hlt : k < 16
    · have ca := hA.cell (1 + k)
      rw [Nat.add_comm 1 k, bigs_get _ _ hlt, HZ.out k hk4] at ca
      have ca' := ca
      rw [Nat.add_comm k 1] at ca'
      clear c0 c1 c2 c3 cb
      go_wp2
      go_round
      case rel => exact ⟨k + 1, by omega, by omega, by go_num⟩
      case measure => simp [intOf]; omega
    · obtain rfl : k = 16 := by omega
      go_wp2
      all_goals first
        | (exfalso; have := HT.out; simp at *; omega)
        | (simp [bodyPost, results, Tryd.results86, go_sem]; exact (((Up.refl w).alloc _).alloc _).below)

set_option maxRecDepth 100000 in
set_option maxHeartbeats 2000000 in
theorem wide_N3 (w : World) (n h l : Nat) (hn : n < BP 4) (hh : (dg n 2 : Int) + (dg n 3 : Int) * 4294967296 = (h : Int)) (hl : (dg n 0 : Int) + (dg n 1 : Int) * 4294967296 = (l : Int)) (HT : Hid (h ≤ 9223372036854775808)) (HQ : Hid (h = 9223372036854775808)) (HR : Hid (0 < l)) : Calls Tryd.prog 86 #[BigV true n] w fun e w' => e = .returned (.tuple #[.agg #[.int .i64 0, .int .u64 0], .bool false]) ∧ Below w.heap.size w w' := by
  have hA := (Row.new w 76 (bigs true n)).alloc (.cells #[.int .i64 0, .int .u64 0] 24)
  have hU := ((Up.refl w).alloc (.cells (bigs true n) 76)).alloc (.cells #[.int .i64 0, .int .u64 0] 24)
  have hz : ∀ j, 4 ≤ j → dg n j = 0 := fun j hj => dg_high' hn hj
  have cb : ((w.alloc (.cells (bigs true n) 76)).alloc (.cells #[.int .i64 0, .int .u64 0] 24)).cell? ⟨w.heap.size, 0, none⟩ = some (.bool true) := by rw [hA.cell, bigs_get0]
  have c0 := hA.cell (0 + 1)
  have c1 := hA.cell (1 + 1)
  have c2 := hA.cell (2 + 1)
  have c3 := hA.cell (3 + 1)
  rw [bigs_get _ _ (by decide)] at c0 c1 c2 c3
  obtain ⟨d0, e0⟩ : ∃ d, d = dg n 0 := ⟨_, rfl⟩
  obtain ⟨d1, e1⟩ : ∃ d, d = dg n 1 := ⟨_, rfl⟩
  obtain ⟨d2, e2⟩ : ∃ d, d = dg n 2 := ⟨_, rfl⟩
  obtain ⟨d3, e3⟩ : ∃ d, d = dg n 3 := ⟨_, rfl⟩
  have l0 := dg_lt n 0
  have l1 := dg_lt n 1
  have l2 := dg_lt n 2
  have l3 := dg_lt n 3
  rw [← e0] at c0 l0 hl
  rw [← e1] at c1 l1 hl
  rw [← e2] at c2 l2 hh
  rw [← e3] at c3 l3 hh
  have HZ := hid hz
  clear hz e0 e1 e2 e3 hn
  unfold BigV
  go_enter Tryd.func86, Tryd.ntmps86
  go_wp2_with fail
  go_loop [4] (fun i => ∃ k : Nat, 4 ≤ k ∧ k ≤ 16 ∧ i = .int .i64 (k : Int)) (fun i => 16 - (intOf i).toNat)
  case atStart => exact ⟨4, by omega, by omega, rfl⟩
  case round =>
    obtain ⟨k, hk4, hk, rfl⟩ := hrel
    by_cases hlt : k < 16
    · have ca := hA.cell (1 + k)
      rw [Nat.add_comm 1 k, bigs_get _ _ hlt, HZ.out k hk4] at ca
      have ca' := ca
      rw [Nat.add_comm k 1] at ca'
      clear c0 c1 c2 c3 cb
      go_wp2
      go_round
      case rel => exact ⟨k + 1, by omega, by omega, by go_num⟩
      case measure => simp [intOf]; omega
    · obtain rfl : k = 16 := by omega
      go_wp2
      all_goals first
        | (exfalso; have := HT.out; have := HQ.out; have := HR.out; simp at *; omega)
        | (simp [bodyPost, results, Tryd.results86, go_sem]; exact (((Up.refl w).alloc _).alloc _).below)

set_option maxRecDepth 100000 in
set_option maxHeartbeats 2000000 in
theorem wide_N4a (w : World) (n h l : Nat) (hn : n < BP 4) (hh : (dg n 2 : Int) + (dg n 3 : Int) * 4294967296 = (h : Int)) (hl : (dg n 0 : Int) + (dg n 1 : Int) * 4294967296 = (l : Int)) (HT : Hid (h ≤ 9223372036854775808)) (HQ : Hid (h ≠ 9223372036854775808)) (H L p q : Int) (nh : bits .xor .u64 (if IntKind.u64.signed = true then -1 else IntKind.u64.max) (h : Int) = H) (nl : bits .xor .u64 (if IntKind.u64.signed = true then -1 else IntKind.u64.max) (l : Int) = L) (wl : IntKind.u64.wrap (L + 1) = q) (hz : (q == 0) = false) (wp : IntKind.i64.wrap H = p) : Calls Tryd.prog 86 #[BigV true n] w fun e w' => e = .returned (.tuple #[.agg #[.int .i64 p, .int .u64 q], .bool true]) ∧ Below w.heap.size w w' := by
  have hA := (Row.new w 76 (bigs true n)).alloc (.cells #[.int .i64 0, .int .u64 0] 24)
  have hU := ((Up.refl w).alloc (.cells (bigs true n) 76)).alloc (.cells #[.int .i64 0, .int .u64 0] 24)
  have hz : ∀ j, 4 ≤ j → dg n j = 0 := fun j hj => dg_high' hn hj
  have cb : ((w.alloc (.cells (bigs true n) 76)).alloc (.cells #[.int .i64 0, .int .u64 0] 24)).cell? ⟨w.heap.size, 0, none⟩ = some (.bool true) := by rw [hA.cell, bigs_get0]
  have c0 := hA.cell (0 + 1)
  have c1 := hA.cell (1 + 1)
  have c2 := hA.cell (2 + 1)
  have c3 := hA.cell (3 + 1)
  rw [bigs_get _ _ (by decide)] at c0 c1 c2 c3
  obtain ⟨d0, e0⟩ : ∃ d, d = dg n 0 := ⟨_, rfl⟩
  obtain ⟨d1, e1⟩ : ∃ d, d = dg n 1 := ⟨_, rfl⟩
  obtain ⟨d2, e2⟩ : ∃ d, d = dg n 2 := ⟨_, rfl⟩
  obtain ⟨d3, e3⟩ : ∃ d, d = dg n 3 := ⟨_, rfl⟩
  have l0 := dg_lt n 0
  have l1 := dg_lt n 1
  have l2 := dg_lt n 2
  have l3 := dg_lt n 3
  rw [← e0] at c0 l0 hl
  rw [← e1] at c1 l1 hl
  rw [← e2] at c2 l2 hh
  rw [← e3] at c3 l3 hh
  have HZ := hid hz
  clear hz e0 e1 e2 e3 hn
  unfold BigV
  go_enter Tryd.func86, Tryd.ntmps86
  go_wp2_with fail
  go_loop [4] (fun i => ∃ k : Nat, 4 ≤ k ∧ k ≤ 16 ∧ i = .int .i64 (k : Int)) (fun i => 16 - (intOf i).toNat)
  case atStart => exact ⟨4, by omega, by omega, rfl⟩
  case round =>
    obtain ⟨k, hk4, hk, rfl⟩ := hrel
    by_cases hlt : k < 16
    · have ca := hA.cell (1 + k)
      rw [Nat.add_comm 1 k, bigs_get _ _ hlt, HZ.out k hk4] at ca
      have ca' := ca
      rw [Nat.add_comm k 1] at ca'
      clear c0 c1 c2 c3 cb
      go_wp2
      go_round
      case rel => exact ⟨k + 1, by omega, by omega, by go_num⟩
      case measure => simp [intOf]; omega
    · obtain rfl : k = 16 := by omega
      go_wp2
      all_goals first
        | (exfalso; have := HT.out; have := HQ.out; simp at *; omega)
        | (simp [bodyPost, results, Tryd.results86, go_sem]; exact (((Up.refl w).alloc _).alloc _).below)

set_option maxRecDepth 100000 in
set_option maxHeartbeats 2000000 in
theorem wide_N4b (w : World) (n h l : Nat) (hn : n < BP 4) (hh : (dg n 2 : Int) + (dg n 3 : Int) * 4294967296 = (h : Int)) (hl : (dg n 0 : Int) + (dg n 1 : Int) * 4294967296 = (l : Int)) (HT : Hid (h ≤ 9223372036854775808)) (HQ : Hid (h ≠ 9223372036854775808)) (H L p q : Int) (nh : bits .xor .u64 (if IntKind.u64.signed = true then -1 else IntKind.u64.max) (h : Int) = H) (nl : bits .xor .u64 (if IntKind.u64.signed = true then -1 else IntKind.u64.max) (l : Int) = L) (wl : IntKind.u64.wrap (L + 1) = q) (hz : (q == 0) = true) (H2 : Int) (wH : IntKind.u64.wrap (H + 1) = H2) (wp : IntKind.i64.wrap H2 = p) : Calls Tryd.prog 86 #[BigV true n] w fun e w' => e = .returned (.tuple #[.agg #[.int .i64 p, .int .u64 q], .bool true]) ∧ Below w.heap.size w w' := by
  have hA := (Row.new w 76 (bigs true n)).alloc (.cells #[.int .i64 0, .int .u64 0] 24)
  have hU := ((Up.refl w).alloc (.cells (bigs true n) 76)).alloc (.cells #[.int .i64 0, .int .u64 0] 24)
  have hz : ∀ j, 4 ≤ j → dg n j = 0 := fun j hj => dg_high' hn hj
  have cb : ((w.alloc (.cells (bigs true n) 76)).alloc (.cells #[.int .i64 0, .int .u64 0] 24)).cell? ⟨w.heap.size, 0, none⟩ = some (.bool true) := by rw [hA.cell, bigs_get0]
  have c0 := hA.cell (0 + 1)
  have c1 := hA.cell (1 + 1)
  have c2 := hA.cell (2 + 1)
  have c3 := hA.cell (3 + 1)
  rw [bigs_get _ _ (by decide)] at c0 c1 c2 c3
  obtain ⟨d0, e0⟩ : ∃ d, d = dg n 0 := ⟨_, rfl⟩
  obtain ⟨d1, e1⟩ : ∃ d, d = dg n 1 := ⟨_, rfl⟩
  obtain ⟨d2, e2⟩ : ∃ d, d = dg n 2 := ⟨_, rfl⟩
  obtain ⟨d3, e3⟩ : ∃ d, d = dg n 3 := ⟨_, rfl⟩
  have l0 := dg_lt n 0
  have l1 := dg_lt n 1
  have l2 := dg_lt n 2
  have l3 := dg_lt n 3
  rw [← e0] at c0 l0 hl
  rw [← e1] at c1 l1 hl
  rw [← e2] at c2 l2 hh
  rw [← e3] at c3 l3 hh
  have HZ := hid hz
  clear hz e0 e1 e2 e3 hn
  unfold BigV
  go_enter Tryd.func86, Tryd.ntmps86
  go_wp2_with fail
  go_loop [4] (fun i => ∃ k : Nat, 4 ≤ k ∧ k ≤ 16 ∧ i = .int .i64 (k : Int)) (fun i => 16 - (intOf i).toNat)
  case atStart => exact ⟨4, by omega, by omega, rfl⟩
  case round =>
    obtain ⟨k, hk4, hk, rfl⟩ := hrel
    by_cases hlt : k < 16
    · have ca := hA.cell (1 + k)
      rw [Nat.add_comm 1 k, bigs_get _ _ hlt, HZ.out k hk4] at ca
      have ca' := ca
      rw [Nat.add_comm k 1] at ca'
      clear c0 c1 c2 c3 cb
      go_wp2
      go_round
      case rel => exact ⟨k + 1, by omega, by omega, by go_num⟩
      case measure => simp [intOf]; omega
    · obtain rfl : k = 16 := by omega
      go_wp2
      all_goals first
        | (exfalso; have := HT.out; have := HQ.out; simp at *; omega)
        | (simp [bodyPost, results, Tryd.results86, go_sem]; exact (((Up.refl w).alloc _).alloc _).below)

set_option maxRecDepth 100000 in
set_option maxHeartbeats 2000000 in
theorem wide_N5b (w : World) (n h l : Nat) (hn : n < BP 4) (hh : (dg n 2 : Int) + (dg n 3 : Int) * 4294967296 = (h : Int)) (hl : (dg n 0 : Int) + (dg n 1 : Int) * 4294967296 = (l : Int)) (HT : Hid (h ≤ 9223372036854775808)) (HQ : Hid (h = 9223372036854775808)) (HR : Hid (l = 0)) (H L p q : Int) (nh : bits .xor .u64 (if IntKind.u64.signed = true then -1 else IntKind.u64.max) (h : Int) = H) (nl : bits .xor .u64 (if IntKind.u64.signed = true then -1 else IntKind.u64.max) (l : Int) = L) (wl : IntKind.u64.wrap (L + 1) = q) (hz : (q == 0) = true) (H2 : Int) (wH : IntKind.u64.wrap (H + 1) = H2) (wp : IntKind.i64.wrap H2 = p) (HP : Hid (wrap64 (IntKind.u64.wrap (bits .xor .u64 IntKind.u64.max 9223372036854775808 + 1)) = p)) : Calls Tryd.prog 86 #[BigV true n] w fun e w' => e = .returned (.tuple #[.agg #[.int .i64 p, .int .u64 q], .bool true]) ∧ Below w.heap.size w w' := by
  have hA := (Row.new w 76 (bigs true n)).alloc (.cells #[.int .i64 0, .int .u64 0] 24)
  have hU := ((Up.refl w).alloc (.cells (bigs true n) 76)).alloc (.cells #[.int .i64 0, .int .u64 0] 24)
  have hz : ∀ j, 4 ≤ j → dg n j = 0 := fun j hj => dg_high' hn hj
  have cb : ((w.alloc (.cells (bigs true n) 76)).alloc (.cells #[.int .i64 0, .int .u64 0] 24)).cell? ⟨w.heap.size, 0, none⟩ = some (.bool true) := by rw [hA.cell, bigs_get0]
  have c0 := hA.cell (0 + 1)
  have c1 := hA.cell (1 + 1)
  have c2 := hA.cell (2 + 1)
  have c3 := hA.cell (3 + 1)
  rw [bigs_get _ _ (by decide)] at c0 c1 c2 c3
  obtain ⟨d0, e0⟩ : ∃ d, d = dg n 0 := ⟨_, rfl⟩
  obtain ⟨d1, e1⟩ : ∃ d, d = dg n 1 := ⟨_, rfl⟩
  obtain ⟨d2, e2⟩ : ∃ d, d = dg n 2 := ⟨_, rfl⟩
  obtain ⟨d3, e3⟩ : ∃ d, d = dg n 3 := ⟨_, rfl⟩
  have l0 := dg_lt n 0
  have l1 := dg_lt n 1
  have l2 := dg_lt n 2
  have l3 := dg_lt n 3
  rw [← e0] at c0 l0 hl
  rw [← e1] at c1 l1 hl
  rw [← e2] at c2 l2 hh
  rw [← e3] at c3 l3 hh
  have HZ := hid hz
  clear hz e0 e1 e2 e3 hn
  unfold BigV
  go_enter Tryd.func86, Tryd.ntmps86
  go_wp2_with fail
  go_loop [4] (fun i => ∃ k : Nat, 4 ≤ k ∧ k ≤ 16 ∧ i = .int .i64 (k : Int)) (fun i => 16 - (intOf i).toNat)
  case atStart => exact ⟨4, by omega, by omega, rfl⟩
  case round =>
    obtain ⟨k, hk4, hk, rfl⟩ := hrel
    by_cases hlt : k < 16
    · have ca := hA.cell (1 + k)
      rw [Nat.add_comm 1 k, bigs_get _ _ hlt, HZ.out k hk4] at ca
      have ca' := ca
      rw [Nat.add_comm k 1] at ca'
      clear c0 c1 c2 c3 cb
      go_wp2
      go_round
      case rel => exact ⟨k + 1, by omega, by omega, by go_num⟩
      case measure => simp [intOf]; omega
    · obtain rfl : k = 16 := by omega
      go_wp2
      all_goals first
        | (exfalso; have := HT.out; have := HQ.out; have := HR.out; simp at *; omega)
        | (simp [bodyPost, results, Tryd.results86, go_sem]; exact ⟨HP.out, (((Up.refl w).alloc _).alloc _).below⟩)
end Go.Proofs.YtfalllekhcocgaaDoor

namespace Go.Proofs.YtfalllekhcocgaaDoor
open Go.RowKit

/-- what Wide answers -/
theorem rWide_any (w : World) (z : Int) (hz : z.natAbs < BP 16) : Calls Tryd.prog 86 #[BigZ z] w fun e w' =>
    (∃ p q : Int, e = .returned (.tuple #[.agg #[.int .i64 p, .int .u64 q], .bool (decide (Fits z))]) ∧ (Fits z → WV z = .agg #[.int .i64 p, .int .u64 q])) ∧ Below w.heap.size w w' := by
  have b4 : BP 4 = 340282366920938463463374607431768211456 := by decide
  have fin : ∀ (b : Bool) (p q : Int), decide (Fits z) = b → (Fits z → WV z = .agg #[.int .i64 p, .int .u64 q]) →
      (Calls Tryd.prog 86 #[BigZ z] w fun e w' => e = .returned (.tuple #[.agg #[.int .i64 p, .int .u64 q], .bool b]) ∧ Below w.heap.size w w') →
      Calls Tryd.prog 86 #[BigZ z] w fun e w' => (∃ p q : Int, e = .returned (.tuple #[.agg #[.int .i64 p, .int .u64 q], .bool (decide (Fits z))]) ∧ (Fits z → WV z = .agg #[.int .i64 p, .int .u64 q])) ∧ Below w.heap.size w w' := by
    intro b p q hb hw h
    rw [hb]
    exact h.mono fun e w' ⟨h1, h2⟩ => ⟨⟨p, q, h1, hw⟩, h2⟩
  obtain ⟨n, hn⟩ : ∃ n, n = z.natAbs := ⟨_, rfl⟩
  rw [← hn] at hz
  by_cases h4 : BP 4 ≤ n
  · have hf : ¬ Fits z := by unfold Fits; rw [b4] at h4; omega
    refine fin false 0 0 (decide_eq_false hf) (fun h => absurd h hf) ?_
    unfold BigZ
    rw [← hn]
    exact wide_big w _ n hz h4
  · have hn4 : n < BP 4 := by omega
    have hfour := dg_four (n / 18446744073709551616) (n % 18446744073709551616) (by rw [b4] at hn4; omega) (Nat.mod_lt _ (by decide))
    rw [show n / 18446744073709551616 * 18446744073709551616 + n % 18446744073709551616 = n by omega] at hfour
    obtain ⟨h, hh⟩ : ∃ h, h = n / 18446744073709551616 := ⟨_, rfl⟩
    obtain ⟨l, hl⟩ : ∃ l, l = n % 18446744073709551616 := ⟨_, rfl⟩
    rw [← hh, ← hl] at hfour
    have e1 : (dg n 2 : Int) + (dg n 3 : Int) * 4294967296 = (h : Int) := by rw [hfour.2.2.1, hfour.2.2.2]; omega
    have e2 : (dg n 0 : Int) + (dg n 1 : Int) * 4294967296 = (l : Int) := by rw [hfour.1, hfour.2.1]; omega
    have hhb : h < 18446744073709551616 := by rw [b4] at hn4; omega
    have hlb : l < 18446744073709551616 := by omega
    have wv : ∀ p q : Int, z / 18446744073709551616 = p → z % 18446744073709551616 = q → WV z = .agg #[.int .i64 p, .int .u64 q] := fun p q h1 h2 => by unfold WV; rw [h1, h2]
    by_cases hs : z < 0
    · have hB : BigZ z = BigV true n := by unfold BigZ; rw [decide_eq_true hs, ← hn]
      by_cases c1 : 9223372036854775808 < h
      · have hf : ¬ Fits z := by unfold Fits; omega
        refine fin false 0 0 (decide_eq_false hf) (fun h => absurd h hf) ?_
        rw [hB]
        exact wide_N0 w n h l hn4 e1 e2 (hid c1)
      · have nh := not_word h hhb
        have nl := not_word l hlb
        by_cases c2 : h = 9223372036854775808
        · by_cases c3 : 0 < l
          · have hf : ¬ Fits z := by unfold Fits; omega
            refine fin false 0 0 (decide_eq_false hf) (fun h => absurd h hf) ?_
            rw [hB]
            exact wide_N3 w n h l hn4 e1 e2 (hid (by omega)) (hid c2) (hid c3)
          · have hf : Fits z := by unfold Fits; omega
            refine fin true (-9223372036854775808) 0 (decide_eq_true hf) (fun _ => wv _ _ (by omega) (by omega)) ?_
            rw [hB]
            exact wide_N5b w n h l hn4 e1 e2 (hid (by omega)) (hid c2) (hid (by omega)) _ _ _ _ nh nl (by rw [IntKind.wrap_u64]; omega) (by simp) 9223372036854775808 (by rw [IntKind.wrap_u64]; omega) (by kernel_rfl) (hid (by kernel_rfl))
        · have hf : Fits z := by unfold Fits; omega
          by_cases c3 : l = 0
          · refine fin true (-(h : Int)) 0 (decide_eq_true hf) (fun _ => wv _ _ (by omega) (by omega)) ?_
            rw [hB]
            exact wide_N4b w n h l hn4 e1 e2 (hid (by omega)) (hid c2) _ _ _ _ nh nl (by rw [IntKind.wrap_u64]; omega) (by simp) ((18446744073709551616 - (h : Int)) % 18446744073709551616) (by rw [IntKind.wrap_u64]; omega) (by rw [IntKind.wrap_i64]; omega)
          · refine fin true (-(h : Int) - 1) (18446744073709551616 - (l : Int)) (decide_eq_true hf) (fun _ => wv _ _ (by omega) (by omega)) ?_
            rw [hB]
            exact wide_N4a w n h l hn4 e1 e2 (hid (by omega)) (hid c2) _ _ _ _ nh nl (by rw [IntKind.wrap_u64]; omega) (by simp; omega) (by rw [IntKind.wrap_i64]; omega)
    · have hB : BigZ z = BigV false n := by unfold BigZ; rw [decide_eq_false hs, ← hn]
      by_cases c1 : h < 9223372036854775808
      · have hf : Fits z := by unfold Fits; omega
        refine fin true h l (decide_eq_true hf) (fun _ => wv _ _ (by omega) (by omega)) ?_
        rw [hB]
        exact wide_P1 w n h l hn4 e1 e2 (by rw [IntKind.wrap_i64]; omega) (hid c1)
      · have hf : ¬ Fits z := by unfold Fits; omega
        refine fin false ((h : Int) - 18446744073709551616) l (decide_eq_false hf) (fun h => absurd h hf) ?_
        rw [hB]
        exact wide_P2 w n h l hn4 e1 e2 ((h : Int) - 18446744073709551616) (by rw [IntKind.wrap_i64]; omega) (hid c1)

theorem rWide_fit (w : World) (z : Int) (hf : Fits z) : Calls Tryd.prog 86 #[BigZ z] w fun e w' => e = .returned (.tuple #[WV z, .bool true]) ∧ Below w.heap.size w w' := by
  have hz : z.natAbs < BP 16 := by
    have b : BP 4 ≤ BP 16 := BP_le (by decide)
    have b4 : BP 4 = 340282366920938463463374607431768211456 := by decide
    rw [b4] at b
    unfold Fits at hf
    omega
  refine (rWide_any w z hz).mono ?_
  rintro e w' ⟨⟨p, q, h1, h2⟩, h3⟩
  exact ⟨by rw [h1, h2 hf, decide_eq_true hf], h3⟩
theorem rWide_no (w : World) (z : Int) (hz : z.natAbs < BP 16) (hf : ¬ Fits z) : Calls Tryd.prog 86 #[BigZ z] w fun e w' => (∃ p q : Int, e = .returned (.tuple #[.agg #[.int .i64 p, .int .u64 q], .bool false])) ∧ Below w.heap.size w w' := by
  refine (rWide_any w z hz).mono ?_
  rintro e w' ⟨⟨p, q, h1, h2⟩, h3⟩
  exact ⟨⟨p, q, by rw [h1, decide_eq_false hf]⟩, h3⟩

set_option maxRecDepth 100000 in
set_option maxHeartbeats 2000000 in
theorem rwide_fit (w : World) (z : Int) (hf : Fits z) : Calls Tryd.prog 54 #[BigZ z] w fun e w' => e = .returned (.tuple #[WV z, .int .i64 0]) ∧ Below w.heap.size w w' := by
  have hC := fun w => rWide_fit w z hf
  obtain ⟨p, q, e1, _, _, _⟩ := WV_of hf
  rw [e1] at hC ⊢
  clear hf e1
  have HC := hid hC
  clear hC
  obtain ⟨C, hCC⟩ : ∃ C, C = bigs (decide (z < 0)) z.natAbs := ⟨_, rfl⟩
  have hsz : C.size = 17 := by rw [hCC]; exact bigs_size _ _
  have HB : Hid (BigZ z = .agg C) := hid (by rw [hCC]; rfl)
  have hA := (Row.new w 76 C).alloc (.cells #[.int .i64 0, .int .u64 0] 24)
  have hR := Row.new (w.alloc (.cells C 76)) 24 #[.int .i64 0, .int .u64 0]
  have hU := ((Up.refl w).alloc (.cells C 76)).alloc (.cells #[.int .i64 0, .int .u64 0] 24)
  simp only [alloc_size] at hR
  rw [HB.out]
  have HS := hid hsz
  clear hCC hsz
  go_enter Tryd.func54, Tryd.ntmps54
  go_upto_region 1 with fail
  obtain ⟨V, hV⟩ : ∃ V, V = (w.alloc (.cells C 76)).alloc (.cells #[.int .i64 0, .int .u64 0] 24) := ⟨_, rfl⟩
  rw [← hV] at hA hR hU ⊢
  clear hV
  go_wp2_with (refine wpList_load_row rfl 76 _ rfl (w.heap.size) rfl 76 C (0, 0) _ hA Tryd.underlying76 rfl (size_Bn HS.out) ?_)
  rw [← HB.out]
  refine Calls.mono (HC.out _) ?_; rintro e w1 ⟨rfl, hb⟩
  have zb := hb.size
  have hR1 := hR.mod (Mod.of_below hb Nil) (fun hf => hf)
  have hU1 := hU.trans hb
  have zz := hU1.size
  have hlt := hR1.lt
  clear hb
  have hA0 := hR1.alloc (.cells #[.int .i64 p, .int .u64 q] 24)
  have c00 := hA0.cell 0
  have f00 := hA0.frozen 0
  have c01 := hA0.cell 1
  have f01 := hA0.frozen 1
  have hA1 := (hR1.set 0 (.int .i64 p)).alloc (.cells #[.int .i64 p, .int .u64 q] 24)
  have c10 := hA1.cell 0
  have f10 := hA1.frozen 0
  have c11 := hA1.cell 1
  have f11 := hA1.frozen 1
  have hA2 := ((hR1.set 0 (.int .i64 p)).set 1 (.int .u64 q)).alloc (.cells #[.int .i64 p, .int .u64 q] 24)
  have c20 := hA2.cell 0
  have f20 := hA2.frozen 0
  have c21 := hA2.cell 1
  have f21 := hA2.frozen 1
  simp only [List.setIfInBounds_toArray, List.set_cons_zero, List.set_cons_succ, List.getElem?_toArray, List.getElem?_cons_zero, List.getElem?_cons_succ] at c00 c01 c10 c11 c20 c21
  clear hA0 hA1 hA2
  go_wp2_with fail
  simp [bodyPost, results, Tryd.results54, go_sem, c20, c21]
  exact (((hU1.setCell (by omega) _).setCell (by omega) _).alloc _).below

set_option maxRecDepth 100000 in
set_option maxHeartbeats 2000000 in
theorem rwide_no (w : World) (z : Int) (hz : z.natAbs < BP 16) (hf : ¬ Fits z) : Calls Tryd.prog 54 #[BigZ z] w fun e w' => e = .returned (.tuple #[.agg #[.int .i64 0, .int .u64 0], .int .i64 20]) ∧ Below w.heap.size w w' := by
  have hC := fun w => rWide_no w z hz hf
  clear hf hz
  have HC := hid hC
  clear hC
  obtain ⟨C, hCC⟩ : ∃ C, C = bigs (decide (z < 0)) z.natAbs := ⟨_, rfl⟩
  have hsz : C.size = 17 := by rw [hCC]; exact bigs_size _ _
  have HB : Hid (BigZ z = .agg C) := hid (by rw [hCC]; rfl)
  have hA := (Row.new w 76 C).alloc (.cells #[.int .i64 0, .int .u64 0] 24)
  have hR := Row.new (w.alloc (.cells C 76)) 24 #[.int .i64 0, .int .u64 0]
  have hU := ((Up.refl w).alloc (.cells C 76)).alloc (.cells #[.int .i64 0, .int .u64 0] 24)
  simp only [alloc_size] at hR
  rw [HB.out]
  have HS := hid hsz
  clear hCC hsz
  go_enter Tryd.func54, Tryd.ntmps54
  go_upto_region 1 with fail
  obtain ⟨V, hV⟩ : ∃ V, V = (w.alloc (.cells C 76)).alloc (.cells #[.int .i64 0, .int .u64 0] 24) := ⟨_, rfl⟩
  rw [← hV] at hA hR hU ⊢
  clear hV
  go_wp2_with (refine wpList_load_row rfl 76 _ rfl (w.heap.size) rfl 76 C (0, 0) _ hA Tryd.underlying76 rfl (size_Bn HS.out) ?_)
  rw [← HB.out]
  refine Calls.mono (HC.out _) ?_; rintro e w1 ⟨⟨p, q, rfl⟩, hb⟩
  have zb := hb.size
  have hR1 := hR.mod (Mod.of_below hb Nil) (fun hf => hf)
  have hU1 := hU.trans hb
  have zz := hU1.size
  have hlt := hR1.lt
  clear hb
  have hA0 := hR1.alloc (.cells #[.int .i64 p, .int .u64 q] 24)
  have c00 := hA0.cell 0
  have f00 := hA0.frozen 0
  have c01 := hA0.cell 1
  have f01 := hA0.frozen 1
  have hA1 := (hR1.set 0 (.int .i64 0)).alloc (.cells #[.int .i64 p, .int .u64 q] 24)
  have c10 := hA1.cell 0
  have f10 := hA1.frozen 0
  have c11 := hA1.cell 1
  have f11 := hA1.frozen 1
  have hA2 := ((hR1.set 0 (.int .i64 0)).set 1 (.int .u64 0)).alloc (.cells #[.int .i64 p, .int .u64 q] 24)
  have c20 := hA2.cell 0
  have f20 := hA2.frozen 0
  have c21 := hA2.cell 1
  have f21 := hA2.frozen 1
  simp only [List.setIfInBounds_toArray, List.set_cons_zero, List.set_cons_succ, List.getElem?_toArray, List.getElem?_cons_zero, List.getElem?_cons_succ] at c00 c01 c10 c11 c20 c21
  clear hA0 hA1 hA2
  go_wp2_with fail
  simp [bodyPost, results, Tryd.results54, go_sem, c20, c21]
  exact (((hU1.setCell (by omega) _).setCell (by omega) _).alloc _).below

theorem rwide_any (w : World) (z : Int) (hz : z.natAbs < BP 16) : Calls Tryd.prog 54 #[BigZ z] w fun e w' => e = .returned (resV z) ∧ Below w.heap.size w w' := by
  by_cases hf : Fits z
  · rw [resV_fit hf]; exact rwide_fit w z hf
  · rw [resV_over hf]; exact rwide_no w z hz hf
end Go.Proofs.YtfalllekhcocgaaDoor

namespace Go.Proofs.YtfalllekhcocgaaDoor
open Go.RowKit

theorem digs_letters (n : Nat) : digs n = #[.int .u64 (dg n 0 : Int), .int .u64 (dg n 1 : Int), .int .u64 (dg n 2 : Int), .int .u64 (dg n 3 : Int), .int .u64 (dg n 4 : Int), .int .u64 (dg n 5 : Int), .int .u64 (dg n 6 : Int), .int .u64 (dg n 7 : Int), .int .u64 (dg n 8 : Int), .int .u64 (dg n 9 : Int), .int .u64 (dg n 10 : Int), .int .u64 (dg n 11 : Int), .int .u64 (dg n 12 : Int), .int .u64 (dg n 13 : Int), .int .u64 (dg n 14 : Int), .int .u64 (dg n 15 : Int)] := by
  unfold digs
  simp [List.range_succ]
theorem build_letters (b : Bool) (c0 c1 c2 c3 c4 c5 c6 c7 c8 c9 c10 c11 c12 c13 c14 c15 : Int) (W : World) :
    (Instr.build 76 #[(0, .bool b), (1, .agg #[.int .u64 c0, .int .u64 c1, .int .u64 c2, .int .u64 c3, .int .u64 c4, .int .u64 c5, .int .u64 c6, .int .u64 c7, .int .u64 c8, .int .u64 c9, .int .u64 c10, .int .u64 c11, .int .u64 c12, .int .u64 c13, .int .u64 c14, .int .u64 c15])]).run Tryd.prog W =
      .ok (.agg #[.bool b, .int .u64 c0, .int .u64 c1, .int .u64 c2, .int .u64 c3, .int .u64 c4, .int .u64 c5, .int .u64 c6, .int .u64 c7, .int .u64 c8, .int .u64 c9, .int .u64 c10, .int .u64 c11, .int .u64 c12, .int .u64 c13, .int .u64 c14, .int .u64 c15]) W := by kernel_rfl
theorem run_build_big (b : Bool) (n : Nat) (W : World) : (Instr.build 76 #[(0, .bool b), (1, .agg (digs n))]).run Tryd.prog W = .ok (.agg (bigs b n)) W := by
  unfold bigs
  rw [digs_letters]
  exact build_letters ..
theorem exec_build_big {o : Oper} {a : Act} (x y : Operand) (ho : o.op = .build 76 #[(0, x), (1, y)]) (b : Bool) (n : Nat) (hx : a.eval x = .bool b) (hy : a.eval y = .agg (digs n)) (W : World) :
    (execOp a.eval o).run Tryd.prog W = .ok (.value (.agg (bigs b n))) W := by
  unfold execOp
  simp only [ho, Sem.run_bind, Sem.run_pure, List.map_toArray, List.map_cons, List.map_nil, hx, hy, run_build_big, Result.andThen_ok]
end Go.Proofs.YtfalllekhcocgaaDoor
