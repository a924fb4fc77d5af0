/-
  RefP
-/
import Derived.Test.YtmamedobphlpkaaDoorR03

namespace Go.Proofs.YtmamedobphlpkaaDoor
open Go.RowKit

theorem digs_1 : digs 1 = #[.int .u64 1, .int .u64 0, .int .u64 0, .int .u64 0, .int .u64 0, .int .u64 0, .int .u64 0, .int .u64 0, .int .u64 0, .int .u64 0, .int .u64 0, .int .u64 0, .int .u64 0, .int .u64 0, .int .u64 0, .int .u64 0] := by kernel_rfl
theorem digs_10 : digs 10 = #[.int .u64 10, .int .u64 0, .int .u64 0, .int .u64 0, .int .u64 0, .int .u64 0, .int .u64 0, .int .u64 0, .int .u64 0, .int .u64 0, .int .u64 0, .int .u64 0, .int .u64 0, .int .u64 0, .int .u64 0, .int .u64 0] := by kernel_rfl
theorem ten_small {k : Nat} (h : k ≤ 77) : 10 ^ k < BP 8 := by
  have h1 : 10 ^ k ≤ 10 ^ 77 := Nat.pow_le_pow_right (by decide) h
  have h2 : (10 : Nat) ^ 77 < BP 8 := by decide
  omega

set_option maxRecDepth 100000 in
set_option maxHeartbeats 2000000 in
theorem rten_any (w : World) (n : Int) (hn : -9223372036854775808 ≤ n ∧ n ≤ 77) : Calls Tryd.prog 70 #[.int .i64 n] w fun e w' => e = .returned (DV (10 ^ n.toNat)) ∧ Below w.heap.size w w' := by
  have hA := ((Row.new w 53 (digs 0)).alloc (.cells (digs 1) 53)).alloc (.cells (digs 10) 53)
  have hB := (Row.new (w.alloc (.cells (digs 0) 53)) 53 (digs 1)).alloc (.cells (digs 10) 53)
  have hC := Row.new ((w.alloc (.cells (digs 0) 53)).alloc (.cells (digs 1) 53)) 53 (digs 10)
  have hU := (((Up.refl w).alloc (.cells (digs 0) 53)).alloc (.cells (digs 1) 53)).alloc (.cells (digs 10) 53)
  simp only [alloc_size] at hB hC
  unfold DV
  obtain ⟨R, hR⟩ : ∃ R, R = 10 ^ n.toNat := ⟨_, rfl⟩
  rw [← hR]
  have HR := hid hR
  have HN := hid hn
  clear hn hR
  go_enter Tryd.func70, Tryd.ntmps70
  go_wp2_with fail
  obtain ⟨V, hV⟩ : ∃ V, V = ((w.alloc (.cells (digs 0) 53)).alloc (.cells (digs 1) 53)).alloc (.cells (digs 10) 53) := ⟨_, rfl⟩
  rw [digs_0, digs_1, digs_10] at hV
  rw [← hV]
  rw [← digs_0, ← digs_1, ← digs_10] at hV
  rw [← hV] at hA hB hC hU
  clear hV
  go_loopw [5] (fun i wr => ∃ j p : Nat, i = .int .i64 (j : Int) ∧ j ≤ n.toNat ∧ p = 10 ^ j ∧ Row wr w.heap.size 53 (digs 0) ∧ Row wr (w.heap.size + 1) 53 (digs p) ∧ Row wr (w.heap.size + 1 + 1) 53 (digs 10) ∧ Up w.heap.size w wr) (fun i _ => 77 - (intOf i).toNat)
  case atStart => exact ⟨0, 1, rfl, Nat.zero_le _, rfl, hA, hB, hC, hU⟩
  case round =>
    clear hA hB hC hU
    obtain ⟨j, p, rfl, hj, hp, hA, hB, hC, hU⟩ := hrel
    have hn := HN.out
    by_cases hlt : (j : Int) < n
    · have hm := fun w => rmul_any w p 10 (by rw [hp]; exact ten_small (by omega)) (by decide)
      rw [hp, ← Nat.pow_succ, ← hp] at hm
      obtain ⟨q, hq⟩ : ∃ q, q = 10 ^ (j + 1) := ⟨_, rfl⟩
      rw [show 10 ^ (j + 1) = q from hq.symm] at hm
      unfold DV at hm
      obtain ⟨E1, hE1⟩ : ∃ X, X = digs p := ⟨_, rfl⟩
      obtain ⟨E2, hE2⟩ : ∃ X, X = digs 10 := ⟨_, rfl⟩
      obtain ⟨E3, hE3⟩ : ∃ X, X = digs q := ⟨_, rfl⟩
      rw [← hE1, ← hE2, ← hE3] at hm
      rw [← hE1] at hB
      rw [← hE2] at hC
      have HE1 := hid hE1
      have HE2 := hid hE2
      have HE3 := hid hE3
      have HM := hid hm
      have HQ := hid hq
      clear hm hE1 hE2 hE3 hq hp
      go_wp2_with (first | (refine wpList_load_row rfl 53 (.tmp 3) rfl (w.heap.size + 1) rfl 53 E1 (0, 0) _ hB Tryd.underlying53 rfl (size_De HE1) ?_) | (refine wpList_load_row rfl 53 (.tmp 4) rfl (w.heap.size + 1 + 1) rfl 53 E2 (0, 0) _ hC Tryd.underlying53 rfl (size_De HE2) ?_))
      refine Calls.mono (HM.out _) ?_; rintro e w1 ⟨rfl, hb⟩
      replace hA := hA.mod (Mod.of_below hb Nil) (fun hf => hf)
      replace hB := hB.mod (Mod.of_below hb Nil) (fun hf => hf)
      replace hC := hC.mod (Mod.of_below hb Nil) (fun hf => hf)
      replace hU := hU.trans hb
      clear hb
      go_wp2_with (refine wpList_store_row rfl 53 _ _ rfl (w.heap.size + 1) E3 rfl rfl 53 E1 hB (size_De HE3) (by rw [sizeE HE1, sizeE HE3]) (oneE HE3) ?_)
      go_roundw
      case rel => exact ⟨j + 1, q, by go_num, by omega, HQ.out, hA.farRow (by omega) _, by rw [← HE3.out]; exact hB.putRow _, by rw [← HE2.out]; exact hC.farRow (by omega) _, hU.setRow (by omega) _⟩
      case measure => simp [intOf]; omega
    · have hjn : p = R := by rw [hp, HR.out]; congr 1; omega
      subst hjn
      clear hn hj hp
      go_wp2_with (first | (refine wpList_load_row rfl 53 _ rfl (w.heap.size + 1) rfl 53 (digs p) (0, 0) _ hB Tryd.underlying53 rfl (size_Dn p) ?_) | (refine wpList_store_row rfl 53 _ _ rfl (w.heap.size) (digs p) rfl rfl 53 (digs 0) hA (size_Dn p) (by rw [digs_size, digs_size]) (digs_one p) ?_))
      exact bodyPost_ret (v := .agg (digs p)) (results_cell_row Tryd.results70 _ _ (w.heap.size) 53 (digs p) (0, 0) _ rfl (hA.putRow _) Tryd.underlying53 rfl (size_Dn p)) rfl ⟨rfl, (hU.setRow (by omega) _).below⟩
end Go.Proofs.YtmamedobphlpkaaDoor
