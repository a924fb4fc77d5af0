/-
  The reference's rounding by a power of ten.
-/
import Derived.Test.YtfalllekhcocgaaDoorRefP
namespace Go.Proofs.YtfalllekhcocgaaDoor
open Go.RowKit

theorem neg_bigr (k : Nat) : BigV (!decide (k = 0)) k = BigZ (-(k : Int)) := by
  unfold BigZ
  rw [show (-(k : Int)).natAbs = k by omega]
  congr 1
  by_cases h : k = 0
  · subst h; simp
  · rw [decide_eq_false h, decide_eq_true (show -(k : Int) < 0 by omega)]; rfl
theorem pos_bigr (k : Nat) : BigV false k = BigZ (k : Int) := by
  unfold BigZ
  rw [show ((k : Int)).natAbs = k by omega, decide_eq_false (show ¬ (k : Int) < 0 by omega)]

set_option maxRecDepth 100000 in
set_option maxHeartbeats 4000000 in
theorem round_U1_f (w : World) (n q r d : Nat) (k : Int) (hn : n < BP 14) (hk : 0 < k ∧ k ≤ 77) (hd : d = 10 ^ k.toNat) (hq : q = n / d) (hr : r = n % d) (hc : cmpN (r + r) d = 1) :
    Calls Tryd.prog 66 #[BigV false n, .int .i64 k] w fun e w' => e = .returned (BigV false (q + 1)) ∧ Below w.heap.size w w' := by
  have hd0 : 0 < d := by rw [hd]; exact Nat.pow_pos (by decide)
  have hd8 : d < BP 8 := by rw [hd]; exact ten_small (by omega)
  have h14 : BP 15 = BP 14 * 4294967296 := BP_succ 14
  have h15 : BP 16 = BP 15 * 4294967296 := BP_succ 15
  have h8 : BP 8 ≤ BP 14 := BP_le (by decide)
  have hqn : q ≤ n := by rw [hq]; exact Nat.div_le_self _ _
  have hrd : r < d := by rw [hr]; exact Nat.mod_lt _ hd0
  have QT := fun w => rten_any w k (by omega)
  rw [← hd] at QT
  have QD := fun w => rdiv_any w n d (by omega) (by omega) hd0
  rw [← hq, ← hr] at QD
  have QA := fun w => radd_any w r r (by omega)
  have QC := fun w => rcmp_any w (r + r) d (by omega) (by omega)
  rw [hc] at QC
  have QU := fun w => radd_any w q 1 (by omega)
  have QZ := fun w => rzero_any w (q + 1) (by omega)
  obtain ⟨u, hu⟩ : ∃ u, u = q + 1 := ⟨_, rfl⟩
  rw [← hu] at QU QZ ⊢
  obtain ⟨z, hz⟩ : ∃ z, z = decide (u = 0) := ⟨_, rfl⟩
  rw [← hz] at QZ
  unfold BigV
  unfold DV at QT QD QA QC QZ QU
  have lq : dg q 0 < 4294967296 := dg_lt q 0
  obtain ⟨q0, hq0⟩ : ∃ x, x = dg q 0 := ⟨_, rfl⟩
  rw [← hq0] at lq
  obtain ⟨A, hA⟩ : ∃ X, X = bigs false n := ⟨_, rfl⟩
  obtain ⟨E0, hE0⟩ : ∃ X, X = digs n := ⟨_, rfl⟩
  obtain ⟨E5, hE5⟩ : ∃ X, X = digs d := ⟨_, rfl⟩
  obtain ⟨E6, hE6⟩ : ∃ X, X = digs q := ⟨_, rfl⟩
  obtain ⟨E7, hE7⟩ : ∃ X, X = digs r := ⟨_, rfl⟩
  obtain ⟨E8, hE8⟩ : ∃ X, X = digs (r + r) := ⟨_, rfl⟩
  obtain ⟨E9, hE9⟩ : ∃ X, X = digs u := ⟨_, rfl⟩
  obtain ⟨C, hC⟩ : ∃ X, X = bigs false u := ⟨_, rfl⟩
  obtain ⟨EU, hEU⟩ : ∃ X, X = digs 1 := ⟨_, rfl⟩
  rw [← hE5] at QT
  rw [← hE0, ← hE5, ← hE6, ← hE7] at QD
  rw [← hE7, ← hE8] at QA
  rw [← hE8, ← hE5] at QC
  rw [← hE9] at QZ
  rw [← hE6, ← hEU, ← hE9] at QU
  rw [← hC, ← hA]
  have HA := hid hA
  have HE0 := hid hE0
  have HE5 := hid hE5
  have HE6 := hid hE6
  have HE7 := hid hE7
  have HE8 := hid hE8
  have HE9 := hid hE9
  have HC := hid hC
  have HEU := hid hEU
  have HQT := hid QT
  have HQD := hid QD
  have HQA := hid QA
  have HQC := hid QC
  have HQZ := hid QZ
  have HQU := hid QU
  have HQ0 := hid hq0
  have HK := hid hk
  clear QT QD QA QC QZ QU hA hE0 hE5 hE6 hE7 hE8 hE9 hC hEU hq0 hd0 hd8 h14 h15 h8 hqn hrd hn hd hq hr hc hu hz
  have r2 := (Row.new w 76 A).alloc (.cells (bigs false 0) 76)
  have rr := Row.new (w.alloc (.cells A 76)) 76 (bigs false 0)
  have hU := ((Up.refl w).alloc (.cells A 76)).alloc (.cells (bigs false 0) 76)
  simp only [alloc_size] at rr
  have hk1 : ¬ k ≤ 0 := by omega
  have hk2 : (0 : Int) < k := by omega
  go_enter Tryd.func66, Tryd.ntmps66
  go_upto_region 3 with fail
  obtain ⟨V, hV⟩ : ∃ V, V = (w.alloc (.cells A 76)).alloc (.cells (bigs false 0) 76) := ⟨_, rfl⟩
  rw [bigs_0] at hV
  rw [← hV]
  rw [← bigs_0] at hV
  rw [← hV] at r2 rr hU
  clear hV hk1 hk2 hk
  go_wp2_with fail
  refine Calls.mono (HQT.out _) ?_; rintro e w1 ⟨rfl, hb⟩
  have z1 := hb.size
  have l1 := rr.lt
  replace r2 := (r2).mod (Mod.of_below hb Nil) (fun hf => hf)
  replace rr := (rr).mod (Mod.of_below hb Nil) (fun hf => hf)
  replace hU := hU.trans hb
  clear hb
  have n5 := Row.new w1 74 #[.int .u64 0, .int .u64 0, .int .u64 0, .int .u64 0, .int .u64 0, .int .u64 0, .int .u64 0, .int .u64 0, .int .u64 0, .int .u64 0, .int .u64 0, .int .u64 0, .int .u64 0, .int .u64 0, .int .u64 0, .int .u64 0]
  have r5 := n5.putRow E5
  replace r2 := (r2.alloc (.cells #[.int .u64 0, .int .u64 0, .int .u64 0, .int .u64 0, .int .u64 0, .int .u64 0, .int .u64 0, .int .u64 0, .int .u64 0, .int .u64 0, .int .u64 0, .int .u64 0, .int .u64 0, .int .u64 0, .int .u64 0, .int .u64 0] 74)).farRow (g' := w1.heap.size) (by omega) E5
  replace rr := (rr.alloc (.cells #[.int .u64 0, .int .u64 0, .int .u64 0, .int .u64 0, .int .u64 0, .int .u64 0, .int .u64 0, .int .u64 0, .int .u64 0, .int .u64 0, .int .u64 0, .int .u64 0, .int .u64 0, .int .u64 0, .int .u64 0, .int .u64 0] 74)).farRow (g' := w1.heap.size) (by omega) E5
  replace hU := (hU.alloc (.cells #[.int .u64 0, .int .u64 0, .int .u64 0, .int .u64 0, .int .u64 0, .int .u64 0, .int .u64 0, .int .u64 0, .int .u64 0, .int .u64 0, .int .u64 0, .int .u64 0, .int .u64 0, .int .u64 0, .int .u64 0, .int .u64 0] 74)).setRow (p := w1.heap.size) (by omega) E5
  go_upto_region 4 with (refine wpList_store_row rfl 74 _ _ rfl (w1.heap.size) E5 rfl rfl 74 #[.int .u64 0, .int .u64 0, .int .u64 0, .int .u64 0, .int .u64 0, .int .u64 0, .int .u64 0, .int .u64 0, .int .u64 0, .int .u64 0, .int .u64 0, .int .u64 0, .int .u64 0, .int .u64 0, .int .u64 0, .int .u64 0] n5 (size_De HE5) (sizeE HE5).symm (oneE HE5) ?_)
  obtain ⟨V1, hV1⟩ : ∃ V1, V1 = (w1.alloc (.cells #[.int .u64 0, .int .u64 0, .int .u64 0, .int .u64 0, .int .u64 0, .int .u64 0, .int .u64 0, .int .u64 0, .int .u64 0, .int .u64 0, .int .u64 0, .int .u64 0, .int .u64 0, .int .u64 0, .int .u64 0, .int .u64 0] 74)).setRow w1.heap.size E5 := ⟨_, rfl⟩
  rw [← hV1] at r2 rr r5 hU ⊢
  have zv1 : V1.heap.size = w1.heap.size + 1 := by rw [hV1, setRow_size, alloc_size]
  clear hV1 n5
  obtain ⟨g5, hg5⟩ : ∃ g, g = w1.heap.size := ⟨_, rfl⟩
  rw [← hg5] at r5 z1 zv1 ⊢
  clear hg5
  go_wp2_with (first | (refine wpList_load_E rfl HA HE0 (.tmp 21) rfl (w.heap.size) rfl 76 r2 ?_) | (refine wpList_load_row rfl 74 (.tmp 5) rfl (g5) rfl 74 E5 (0, 0) _ r5 Tryd.underlying74 rfl (size_De HE5) ?_))
  refine Calls.mono (HQD.out _) ?_; rintro e w4 ⟨rfl, hb⟩
  have z4 := hb.size
  replace r2 := (r2).mod (Mod.of_below hb Nil) (fun hf => hf)
  replace rr := (rr).mod (Mod.of_below hb Nil) (fun hf => hf)
  replace r5 := (r5).mod (Mod.of_below hb Nil) (fun hf => hf)
  replace hU := hU.trans hb
  clear hb
  have n6 := (Row.new w4 74 #[.int .u64 0, .int .u64 0, .int .u64 0, .int .u64 0, .int .u64 0, .int .u64 0, .int .u64 0, .int .u64 0, .int .u64 0, .int .u64 0, .int .u64 0, .int .u64 0, .int .u64 0, .int .u64 0, .int .u64 0, .int .u64 0]).alloc (.cells #[.int .u64 0, .int .u64 0, .int .u64 0, .int .u64 0, .int .u64 0, .int .u64 0, .int .u64 0, .int .u64 0, .int .u64 0, .int .u64 0, .int .u64 0, .int .u64 0, .int .u64 0, .int .u64 0, .int .u64 0, .int .u64 0] 74)
  have n7 := Row.new (w4.alloc (.cells #[.int .u64 0, .int .u64 0, .int .u64 0, .int .u64 0, .int .u64 0, .int .u64 0, .int .u64 0, .int .u64 0, .int .u64 0, .int .u64 0, .int .u64 0, .int .u64 0, .int .u64 0, .int .u64 0, .int .u64 0, .int .u64 0] 74)) 74 #[.int .u64 0, .int .u64 0, .int .u64 0, .int .u64 0, .int .u64 0, .int .u64 0, .int .u64 0, .int .u64 0, .int .u64 0, .int .u64 0, .int .u64 0, .int .u64 0, .int .u64 0, .int .u64 0, .int .u64 0, .int .u64 0]
  simp only [alloc_size] at n7
  have r6 := (n6.putRow E6).farRow (g' := w4.heap.size + 1) (by omega) E7
  have m7 := n7.farRow (g' := w4.heap.size) (by omega) E6
  have r7 := m7.putRow E7
  replace r2 := ((r2.alloc (.cells #[.int .u64 0, .int .u64 0, .int .u64 0, .int .u64 0, .int .u64 0, .int .u64 0, .int .u64 0, .int .u64 0, .int .u64 0, .int .u64 0, .int .u64 0, .int .u64 0, .int .u64 0, .int .u64 0, .int .u64 0, .int .u64 0] 74)).alloc (.cells #[.int .u64 0, .int .u64 0, .int .u64 0, .int .u64 0, .int .u64 0, .int .u64 0, .int .u64 0, .int .u64 0, .int .u64 0, .int .u64 0, .int .u64 0, .int .u64 0, .int .u64 0, .int .u64 0, .int .u64 0, .int .u64 0] 74)).farRow (g' := w4.heap.size) (by omega) E6 |>.farRow (g' := w4.heap.size + 1) (by omega) E7
  replace rr := ((rr.alloc (.cells #[.int .u64 0, .int .u64 0, .int .u64 0, .int .u64 0, .int .u64 0, .int .u64 0, .int .u64 0, .int .u64 0, .int .u64 0, .int .u64 0, .int .u64 0, .int .u64 0, .int .u64 0, .int .u64 0, .int .u64 0, .int .u64 0] 74)).alloc (.cells #[.int .u64 0, .int .u64 0, .int .u64 0, .int .u64 0, .int .u64 0, .int .u64 0, .int .u64 0, .int .u64 0, .int .u64 0, .int .u64 0, .int .u64 0, .int .u64 0, .int .u64 0, .int .u64 0, .int .u64 0, .int .u64 0] 74)).farRow (g' := w4.heap.size) (by omega) E6 |>.farRow (g' := w4.heap.size + 1) (by omega) E7
  replace r5 := ((r5.alloc (.cells #[.int .u64 0, .int .u64 0, .int .u64 0, .int .u64 0, .int .u64 0, .int .u64 0, .int .u64 0, .int .u64 0, .int .u64 0, .int .u64 0, .int .u64 0, .int .u64 0, .int .u64 0, .int .u64 0, .int .u64 0, .int .u64 0] 74)).alloc (.cells #[.int .u64 0, .int .u64 0, .int .u64 0, .int .u64 0, .int .u64 0, .int .u64 0, .int .u64 0, .int .u64 0, .int .u64 0, .int .u64 0, .int .u64 0, .int .u64 0, .int .u64 0, .int .u64 0, .int .u64 0, .int .u64 0] 74)).farRow (g' := w4.heap.size) (by omega) E6 |>.farRow (g' := w4.heap.size + 1) (by omega) E7
  replace hU := (((hU.alloc (.cells #[.int .u64 0, .int .u64 0, .int .u64 0, .int .u64 0, .int .u64 0, .int .u64 0, .int .u64 0, .int .u64 0, .int .u64 0, .int .u64 0, .int .u64 0, .int .u64 0, .int .u64 0, .int .u64 0, .int .u64 0, .int .u64 0] 74)).alloc (.cells #[.int .u64 0, .int .u64 0, .int .u64 0, .int .u64 0, .int .u64 0, .int .u64 0, .int .u64 0, .int .u64 0, .int .u64 0, .int .u64 0, .int .u64 0, .int .u64 0, .int .u64 0, .int .u64 0, .int .u64 0, .int .u64 0] 74)).setRow (p := w4.heap.size) (by omega) E6).setRow (p := w4.heap.size + 1) (by omega) E7
  go_upto_region 5 with (first | (refine wpList_store_row rfl 74 (.tmp 6) (.tmp 25) rfl (w4.heap.size) E6 rfl rfl 74 #[.int .u64 0, .int .u64 0, .int .u64 0, .int .u64 0, .int .u64 0, .int .u64 0, .int .u64 0, .int .u64 0, .int .u64 0, .int .u64 0, .int .u64 0, .int .u64 0, .int .u64 0, .int .u64 0, .int .u64 0, .int .u64 0] n6 (size_De HE6) (sizeE HE6).symm (oneE HE6) ?_) | (refine wpList_store_row rfl 74 (.tmp 7) (.tmp 26) rfl (w4.heap.size + 1) E7 rfl rfl 74 #[.int .u64 0, .int .u64 0, .int .u64 0, .int .u64 0, .int .u64 0, .int .u64 0, .int .u64 0, .int .u64 0, .int .u64 0, .int .u64 0, .int .u64 0, .int .u64 0, .int .u64 0, .int .u64 0, .int .u64 0, .int .u64 0] m7 (size_De HE7) (sizeE HE7).symm (oneE HE7) ?_))
  obtain ⟨V4, hV4⟩ : ∃ V4, V4 = (((w4.alloc (.cells #[.int .u64 0, .int .u64 0, .int .u64 0, .int .u64 0, .int .u64 0, .int .u64 0, .int .u64 0, .int .u64 0, .int .u64 0, .int .u64 0, .int .u64 0, .int .u64 0, .int .u64 0, .int .u64 0, .int .u64 0, .int .u64 0] 74)).alloc (.cells #[.int .u64 0, .int .u64 0, .int .u64 0, .int .u64 0, .int .u64 0, .int .u64 0, .int .u64 0, .int .u64 0, .int .u64 0, .int .u64 0, .int .u64 0, .int .u64 0, .int .u64 0, .int .u64 0, .int .u64 0, .int .u64 0] 74)).setRow w4.heap.size E6).setRow (w4.heap.size + 1) E7 := ⟨_, rfl⟩
  rw [← hV4] at r2 rr r5 r6 r7 hU ⊢
  have zv4 : V4.heap.size = w4.heap.size + 1 + 1 := by rw [hV4, setRow_size, setRow_size, alloc_size, alloc_size]
  clear hV4 n6 n7 m7
  obtain ⟨g6, hg6⟩ : ∃ g, g = w4.heap.size := ⟨_, rfl⟩
  rw [← hg6] at r6 r7 z4 zv4 ⊢
  clear hg6
  have r8 : Row (V4.alloc (.cells #[.int .u64 1, .int .u64 0, .int .u64 0, .int .u64 0, .int .u64 0, .int .u64 0, .int .u64 0, .int .u64 0, .int .u64 0, .int .u64 0, .int .u64 0, .int .u64 0, .int .u64 0, .int .u64 0, .int .u64 0, .int .u64 0] 74)) V4.heap.size 74 #[.int .u64 1, .int .u64 0, .int .u64 0, .int .u64 0, .int .u64 0, .int .u64 0, .int .u64 0, .int .u64 0, .int .u64 0, .int .u64 0, .int .u64 0, .int .u64 0, .int .u64 0, .int .u64 0, .int .u64 0, .int .u64 0] := Row.new V4 74 #[.int .u64 1, .int .u64 0, .int .u64 0, .int .u64 0, .int .u64 0, .int .u64 0, .int .u64 0, .int .u64 0, .int .u64 0, .int .u64 0, .int .u64 0, .int .u64 0, .int .u64 0, .int .u64 0, .int .u64 0, .int .u64 0]
  replace r2 := r2.alloc (.cells #[.int .u64 1, .int .u64 0, .int .u64 0, .int .u64 0, .int .u64 0, .int .u64 0, .int .u64 0, .int .u64 0, .int .u64 0, .int .u64 0, .int .u64 0, .int .u64 0, .int .u64 0, .int .u64 0, .int .u64 0, .int .u64 0] 74)
  replace rr := rr.alloc (.cells #[.int .u64 1, .int .u64 0, .int .u64 0, .int .u64 0, .int .u64 0, .int .u64 0, .int .u64 0, .int .u64 0, .int .u64 0, .int .u64 0, .int .u64 0, .int .u64 0, .int .u64 0, .int .u64 0, .int .u64 0, .int .u64 0] 74)
  replace r5 := r5.alloc (.cells #[.int .u64 1, .int .u64 0, .int .u64 0, .int .u64 0, .int .u64 0, .int .u64 0, .int .u64 0, .int .u64 0, .int .u64 0, .int .u64 0, .int .u64 0, .int .u64 0, .int .u64 0, .int .u64 0, .int .u64 0, .int .u64 0] 74)
  replace r6 := r6.alloc (.cells #[.int .u64 1, .int .u64 0, .int .u64 0, .int .u64 0, .int .u64 0, .int .u64 0, .int .u64 0, .int .u64 0, .int .u64 0, .int .u64 0, .int .u64 0, .int .u64 0, .int .u64 0, .int .u64 0, .int .u64 0, .int .u64 0] 74)
  replace r7 := r7.alloc (.cells #[.int .u64 1, .int .u64 0, .int .u64 0, .int .u64 0, .int .u64 0, .int .u64 0, .int .u64 0, .int .u64 0, .int .u64 0, .int .u64 0, .int .u64 0, .int .u64 0, .int .u64 0, .int .u64 0, .int .u64 0, .int .u64 0] 74)
  replace hU := hU.alloc (.cells #[.int .u64 1, .int .u64 0, .int .u64 0, .int .u64 0, .int .u64 0, .int .u64 0, .int .u64 0, .int .u64 0, .int .u64 0, .int .u64 0, .int .u64 0, .int .u64 0, .int .u64 0, .int .u64 0, .int .u64 0, .int .u64 0] 74)
  go_upto_region 7 with fail
  obtain ⟨V5, hV5⟩ : ∃ V5, V5 = V4.alloc (.cells #[.int .u64 1, .int .u64 0, .int .u64 0, .int .u64 0, .int .u64 0, .int .u64 0, .int .u64 0, .int .u64 0, .int .u64 0, .int .u64 0, .int .u64 0, .int .u64 0, .int .u64 0, .int .u64 0, .int .u64 0, .int .u64 0] 74) := ⟨_, rfl⟩
  rw [← hV5] at r2 rr r5 r6 r7 r8 hU ⊢
  clear hV5
  rw [zv4] at r8
  clear zv4
  rw [← digs_1, ← HEU.out] at r8
  have MK : ∀ W, Row W (w.heap.size) 76 A → Row W (w.heap.size + 1) 76 (bigs false 0) → Row W (g5) 74 E5 → Row W (g6) 74 E6 → Row W (g6 + 1) 74 E7 → Row W (g6 + 1 + 1) 74 EU → Up w.heap.size w W → Row W (w.heap.size) 76 A ∧ Row W (w.heap.size + 1) 76 (bigs false 0) ∧ Row W (g5) 74 E5 ∧ Row W (g6) 74 E6 ∧ Row W (g6 + 1) 74 E7 ∧ Row W (g6 + 1 + 1) 74 EU ∧ Up w.heap.size w W ∧ W.cell? ⟨w.heap.size, 0, none⟩ = some (.bool false) := fun W k0 k1 k2 k3 k4 k5 k6 => ⟨k0, k1, k2, k3, k4, k5, k6, by rw [k0.cell, zeroC HA]⟩
  have MK := hid MK
  refine wp_region_noPanic ?_
  refine wp_region_held_drew (S := fun W => Row W (w.heap.size) 76 A ∧ Row W (w.heap.size + 1) 76 (bigs false 0) ∧ Row W (g5) 74 E5 ∧ Row W (g6) 74 E6 ∧ Row W (g6 + 1) 74 E7 ∧ Row W (g6 + 1 + 1) 74 EU ∧ Up w.heap.size w W ∧ W.cell? ⟨w.heap.size, 0, none⟩ = some (.bool false)) (by kernel_rfl) (MK.out _ r2.drew rr.drew r5.drew r6.drew r7.drew r8.drew hU.drew) (fun hHeld => ?_)
  refine wpAnyH_take (i := 0) (oi := { dst := some 28, op := Op.load 74 (Operand.tmp 7), type := 74, pos := "ref.go:221", after := #[], guard := none }) (v := .agg E7) rfl (by kernel_rfl) (by kernel_rfl) (by kernel_rfl) (fun _ _ _ h => h) (Or.inl ⟨by rfl, fun W hW => exec_load_row 74 _ rfl (g6 + 1) rfl 74 E7 _ Tryd.underlying74 rfl (size_De HE7) W hW.2.2.2.2.1⟩) hHeld ?_
  try simp only [Act.put, List.setIfInBounds_toArray, List.set_cons_zero, List.set_cons_succ]
  refine wpAnyH_take (i := 1) (oi := { dst := some 29, op := Op.load 74 (Operand.tmp 7), type := 74, pos := "ref.go:221", after := #[], guard := none }) (v := .agg E7) rfl (by kernel_rfl) (by kernel_rfl) (by kernel_rfl) (fun _ _ _ h => h) (Or.inl ⟨by rfl, fun W hW => exec_load_row 74 _ rfl (g6 + 1) rfl 74 E7 _ Tryd.underlying74 rfl (size_De HE7) W hW.2.2.2.2.1⟩) hHeld ?_
  try simp only [Act.put, List.setIfInBounds_toArray, List.set_cons_zero, List.set_cons_succ]
  refine wpAnyH_take (i := 3) (oi := { dst := some 31, op := Op.load 74 (Operand.tmp 5), type := 74, pos := "ref.go:221", after := #[], guard := none }) (v := .agg E5) rfl (by kernel_rfl) (by kernel_rfl) (by kernel_rfl) (fun _ _ _ h => h) (Or.inl ⟨by rfl, fun W hW => exec_load_row 74 _ rfl (g5) rfl 74 E5 _ Tryd.underlying74 rfl (size_De HE5) W hW.2.2.1⟩) hHeld ?_
  try simp only [Act.put, List.setIfInBounds_toArray, List.set_cons_zero, List.set_cons_succ]
  refine wpAnyH_ready (rs := [2]) (by kernel_rfl) (by simp) ?_
  refine AllReadyH.cons (o := { dst := some 30, op := Op.call { callee := Callee.value (Operand.func 87), args := #[Operand.tmp 28, Operand.tmp 29], argTypes := #[74, 74] }, type := 74, pos := "ref.go:221", after := #[{ on := 0, ground := Ground.data }, { on := 1, ground := Ground.data }], guard := none }) rfl (fun K hK => ?_) AllReadyH.nil
  go_simp
  refine Calls.mono (HQA.out _) ?_; rintro e w5 ⟨rfl, hb⟩
  refine hK.out _ _ (MK.out _ ((hHeld.1).mod (Mod.of_below hb Nil) (fun hf => hf)) ((hHeld.2.1).mod (Mod.of_below hb Nil) (fun hf => hf)) ((hHeld.2.2.1).mod (Mod.of_below hb Nil) (fun hf => hf)) ((hHeld.2.2.2.1).mod (Mod.of_below hb Nil) (fun hf => hf)) ((hHeld.2.2.2.2.1).mod (Mod.of_below hb Nil) (fun hf => hf)) ((hHeld.2.2.2.2.2.1).mod (Mod.of_below hb Nil) (fun hf => hf)) ((hHeld.2.2.2.2.2.2.1).trans hb)) (fun hHeld => ?_)
  clear hK K
  try simp only [Act.put, List.setIfInBounds_toArray, List.set_cons_zero, List.set_cons_succ]
  refine wpAnyH_ready (rs := [4]) (by kernel_rfl) (by simp) ?_
  refine AllReadyH.cons (o := { dst := some 32, op := Op.call { callee := Callee.value (Operand.func 88), args := #[Operand.tmp 30, Operand.tmp 31], argTypes := #[74, 74] }, type := 3, pos := "ref.go:221", after := #[{ on := 2, ground := Ground.data }, { on := 3, ground := Ground.data }, { on := 2, ground := Ground.chain }], guard := none }) rfl (fun K hK => ?_) AllReadyH.nil
  go_simp
  refine Calls.mono (HQC.out _) ?_; rintro e w6 ⟨rfl, hb⟩
  refine hK.out _ _ (MK.out _ ((hHeld.1).mod (Mod.of_below hb Nil) (fun hf => hf)) ((hHeld.2.1).mod (Mod.of_below hb Nil) (fun hf => hf)) ((hHeld.2.2.1).mod (Mod.of_below hb Nil) (fun hf => hf)) ((hHeld.2.2.2.1).mod (Mod.of_below hb Nil) (fun hf => hf)) ((hHeld.2.2.2.2.1).mod (Mod.of_below hb Nil) (fun hf => hf)) ((hHeld.2.2.2.2.2.1).mod (Mod.of_below hb Nil) (fun hf => hf)) ((hHeld.2.2.2.2.2.2.1).trans hb)) (fun hHeld => ?_)
  clear hK K
  try simp only [Act.put, List.setIfInBounds_toArray, List.set_cons_zero, List.set_cons_succ]
  refine wpAnyH_take (i := 5) (oi := { dst := some 9, op := Op.assign (Operand.tmp 32), type := 3, pos := "ref.go:221", after := #[{ on := 4, ground := Ground.data }, { on := 4, ground := Ground.chain }, { on := 0, ground := Ground.phase }, { on := 1, ground := Ground.phase }, { on := 2, ground := Ground.phase }, { on := 3, ground := Ground.phase }, { on := 4, ground := Ground.phase }], guard := none }) (v := ?_) rfl (by kernel_rfl) (by kernel_rfl) (by kernel_rfl) (fun _ _ _ h => h) (Or.inl ⟨by rfl, ?_⟩) hHeld ?_
  rotate_left
  · intro w' hSw; (try dsimp only at hSw); go_simp <;> with_reducible rfl
  try simp only [Act.put, List.setIfInBounds_toArray, List.set_cons_zero, List.set_cons_succ]
  refine wpAnyH_done (by kernel_rfl) ?_ _
  refine NoPanic.normal ?_
  replace r2 := hHeld.1
  replace rr := hHeld.2.1
  replace r5 := hHeld.2.2.1
  replace r6 := hHeld.2.2.2.1
  replace r7 := hHeld.2.2.2.2.1
  replace r8 := hHeld.2.2.2.2.2.1
  replace hU := hHeld.2.2.2.2.2.2.1
  clear MK hHeld r5 r7
  have c6 := r6.cell 0
  rw [HE6.out, digs_get _ (by decide), ← HQ0.out] at c6
  go_upto_region 9 with fail
  clear c6
  go_wp2_with (first | (refine wpList_load_row rfl 74 (.tmp 6) rfl (g6) rfl 74 E6 (0, 0) _ r6 Tryd.underlying74 rfl (size_De HE6) ?_) | (refine wpList_load_row rfl 74 (.tmp 8) rfl (g6 + 1 + 1) rfl 74 EU (0, 0) _ r8 Tryd.underlying74 rfl (size_De HEU) ?_))
  refine Calls.mono (HQU.out _) ?_; rintro e w7 ⟨rfl, hb⟩
  replace r2 := (r2).mod (Mod.of_below hb Nil) (fun hf => hf)
  replace rr := (rr).mod (Mod.of_below hb Nil) (fun hf => hf)
  replace r6 := (r6).mod (Mod.of_below hb Nil) (fun hf => hf)
  replace hU := hU.trans hb
  clear hb r8
  go_upto_region 10 with (refine wpList_store_row rfl 74 (.tmp 6) _ rfl (g6) E9 rfl rfl 74 E6 r6 (size_De HE9) (by rw [sizeE HE6, sizeE HE9]) (oneE HE9) ?_)
  obtain ⟨V7, hV7⟩ : ∃ V7, V7 = w7.setRow g6 E9 := ⟨_, rfl⟩
  replace r2 := r2.farRow (g' := g6) (by omega) E9
  replace rr := rr.farRow (g' := g6) (by omega) E9
  replace r6 := r6.putRow E9
  replace hU := hU.setRow (p := g6) (by omega) E9
  rw [← hV7] at r2 rr r6 hU ⊢
  clear hV7
  have MK : ∀ W, Row W (w.heap.size) 76 A → Row W (g6) 74 E9 → (∃ cs : Array Value, Row W (w.heap.size + 1) 76 cs ∧ cs.size = 17) → Up w.heap.size w W → Row W (w.heap.size) 76 A ∧ Row W (g6) 74 E9 ∧ (∃ cs : Array Value, Row W (w.heap.size + 1) 76 cs ∧ cs.size = 17) ∧ Up w.heap.size w W ∧ W.cell? ⟨w.heap.size, 0, none⟩ = some (.bool false) := fun W k0 k1 k2 k3 => ⟨k0, k1, k2, k3, by rw [k0.cell, zeroC HA]⟩
  have MK := hid MK
  refine wp_region_noPanic ?_
  refine wp_region_held_drew (S := fun W => Row W (w.heap.size) 76 A ∧ Row W (g6) 74 E9 ∧ (∃ cs : Array Value, Row W (w.heap.size + 1) 76 cs ∧ cs.size = 17) ∧ Up w.heap.size w W ∧ W.cell? ⟨w.heap.size, 0, none⟩ = some (.bool false)) (by kernel_rfl) (MK.out _ r2.drew r6.drew ⟨_, rr.drew, bigs_size _ _⟩ hU.drew) (fun hHeld => ?_)
  refine wpAnyH_take (i := 0) (oi := { dst := some 48, op := Op.fieldAddr 76 (Operand.tmp 2) 0, type := 0, pos := "ref.go:225", after := #[], guard := none }) (v := ?_) rfl (by kernel_rfl) (by kernel_rfl) (by kernel_rfl) (fun _ _ _ h => h) (Or.inl ⟨by rfl, ?_⟩) hHeld ?_
  rotate_left
  · intro w' hSw; (try dsimp only at hSw); go_simp <;> with_reducible rfl
  try simp only [Act.put, List.setIfInBounds_toArray, List.set_cons_zero, List.set_cons_succ]
  refine wpAnyH_take (i := 1) (oi := { dst := some 49, op := Op.load 4 (Operand.tmp 48), type := 4, pos := "ref.go:225", after := #[{ on := 0, ground := Ground.data }], guard := none }) (v := ?_) rfl (by kernel_rfl) (by kernel_rfl) (by kernel_rfl) (fun _ _ _ h => h) (Or.inl ⟨by rfl, ?_⟩) hHeld ?_
  rotate_left
  · intro w' hSw; (try dsimp only at hSw); go_simp <;> with_reducible rfl
  try simp only [Act.put, List.setIfInBounds_toArray, List.set_cons_zero, List.set_cons_succ]
  refine wpAnyH_take (i := 2) (oi := { dst := some 50, op := Op.move (Operand.tmp 49), type := 4, pos := "ref.go:225", after := #[{ on := 1, ground := Ground.data }], guard := none }) (v := ?_) rfl (by kernel_rfl) (by kernel_rfl) (by kernel_rfl) (fun _ _ _ h => h) (Or.inl ⟨by rfl, ?_⟩) hHeld ?_
  rotate_left
  · intro w' hSw; (try dsimp only at hSw); go_simp <;> with_reducible rfl
  try simp only [Act.put, List.setIfInBounds_toArray, List.set_cons_zero, List.set_cons_succ]
  refine wpAnyH_take (i := 3) (oi := { dst := some 51, op := Op.load 74 (Operand.tmp 6), type := 74, pos := "ref.go:225", after := #[{ on := 2, ground := Ground.guard }], guard := some (2, true) }) (v := undef) rfl (by kernel_rfl) (by kernel_rfl) (by kernel_rfl) (fun _ _ _ h => h) (Or.inr ⟨by rfl, rfl⟩) hHeld ?_
  try simp only [Act.put, List.setIfInBounds_toArray, List.set_cons_zero, List.set_cons_succ]
  refine wpAnyH_take (i := 4) (oi := { dst := some 52, op := Op.call { callee := Callee.value (Operand.func 64), args := #[Operand.tmp 51], argTypes := #[74] }, type := 4, pos := "ref.go:225", after := #[{ on := 3, ground := Ground.data }, { on := 2, ground := Ground.chain }, { on := 2, ground := Ground.guard }], guard := some (2, true) }) (v := undef) rfl (by kernel_rfl) (by kernel_rfl) (by kernel_rfl) (fun _ _ _ h => h) (Or.inr ⟨by rfl, rfl⟩) hHeld ?_
  try simp only [Act.put, List.setIfInBounds_toArray, List.set_cons_zero, List.set_cons_succ]
  refine wpAnyH_take (i := 5) (oi := { dst := some 53, op := Op.unOp UnOp.not 4 (Operand.tmp 52), type := 4, pos := "ref.go:225", after := #[{ on := 4, ground := Ground.data }, { on := 2, ground := Ground.guard }], guard := some (2, true) }) (v := undef) rfl (by kernel_rfl) (by kernel_rfl) (by kernel_rfl) (fun _ _ _ h => h) (Or.inr ⟨by rfl, rfl⟩) hHeld ?_
  try simp only [Act.put, List.setIfInBounds_toArray, List.set_cons_zero, List.set_cons_succ]
  refine wpAnyH_take (i := 6) (oi := { dst := some 54, op := Op.pick (Operand.tmp 50) (Operand.tmp 53) (Operand.const (Value.bool false)), type := 4, pos := "ref.go:225", after := #[{ on := 2, ground := Ground.data }, { on := 5, ground := Ground.data }], guard := none }) (v := ?_) rfl (by kernel_rfl) (by kernel_rfl) (by kernel_rfl) (fun _ _ _ h => h) (Or.inl ⟨by rfl, ?_⟩) hHeld ?_
  rotate_left
  · intro w' hSw; (try dsimp only at hSw); go_simp <;> with_reducible rfl
  try simp only [Act.put, List.setIfInBounds_toArray, List.set_cons_zero, List.set_cons_succ]
  refine wpAnyH_take (i := 7) (oi := { dst := some 55, op := Op.load 74 (Operand.tmp 6), type := 74, pos := "ref.go:225", after := #[], guard := none }) (v := .agg E9) rfl (by kernel_rfl) (by kernel_rfl) (by kernel_rfl) (fun _ _ _ h => h) (Or.inl ⟨by rfl, fun W hW => exec_load_row 74 _ rfl (g6) rfl 74 E9 _ Tryd.underlying74 rfl (size_De HE9) W hW.2.1⟩) hHeld ?_
  try simp only [Act.put, List.setIfInBounds_toArray, List.set_cons_zero, List.set_cons_succ]
  refine wpAnyH_take (i := 8) (oi := { dst := some 56, op := Op.build 76 #[(0, Operand.tmp 54), (1, Operand.tmp 55)], type := 76, pos := "ref.go:225", after := #[{ on := 6, ground := Ground.data }, { on := 7, ground := Ground.data }], guard := none }) (v := .agg C) rfl (by kernel_rfl) (by kernel_rfl) (by kernel_rfl) (fun _ _ _ h => h) (Or.inl ⟨by rfl, fun W hW => exec_build_C HC HE9 _ _ rfl rfl rfl⟩) hHeld ?_
  try simp only [Act.put, List.setIfInBounds_toArray, List.set_cons_zero, List.set_cons_succ]
  obtain ⟨cs, hcs, hcz⟩ := hHeld.2.2.1
  refine wpAnyH_ready (rs := [9]) (by kernel_rfl) (by simp) ?_
  refine AllReadyH.cons (o := { dst := none, op := Op.store 76 (Operand.tmp 4) (Operand.tmp 56), type := 0, pos := "ref.go:225", after := #[{ on := 8, ground := Ground.data }, { on := 4, ground := Ground.chain }, { on := 0, ground := Ground.phase }, { on := 1, ground := Ground.phase }, { on := 2, ground := Ground.phase }, { on := 3, ground := Ground.phase }, { on := 4, ground := Ground.phase }, { on := 5, ground := Ground.phase }, { on := 6, ground := Ground.phase }, { on := 7, ground := Ground.phase }, { on := 8, ground := Ground.phase }], guard := none }) rfl (fun K hK => ?_) AllReadyH.nil
  refine (if_pos (by rfl)).mpr ?_
  refine wp_store_row 76 _ _ rfl (w.heap.size + 1) C rfl rfl 76 cs hcs (size_Bn (sizeC HC)) (by rw [hcz, sizeC HC]) (oneC HC) ?_
  refine hK.out _ _ (MK.out _ ((hHeld.1).farRow (by omega) C) ((hHeld.2.1).farRow (by omega) C) (⟨C, hcs.putRow C, sizeC HC⟩) ((hHeld.2.2.2.1).setRow (by omega) C)) (fun hHeld => ?_)
  clear hK K
  try simp only [Act.put, List.setIfInBounds_toArray, List.set_cons_zero, List.set_cons_succ]
  refine wpAnyH_done (by kernel_rfl) ?_ _
  refine NoPanic.normal ?_
  go_wp2_with fail
  exact bodyPost_ret (v := .agg C) (results_cell_row Tryd.results66 _ _ (w.heap.size + 1) 76 C (0, 0) _ rfl (hcs.putRow _) Tryd.underlying76 rfl (size_Bn (sizeC HC))) rfl ⟨rfl, hHeld.2.2.2.1.below⟩

set_option maxRecDepth 100000 in
set_option maxHeartbeats 4000000 in
theorem round_U1_t (w : World) (n q r d : Nat) (k : Int) (hn : n < BP 14) (hk : 0 < k ∧ k ≤ 77) (hd : d = 10 ^ k.toNat) (hq : q = n / d) (hr : r = n % d) (hc : cmpN (r + r) d = 1) :
    Calls Tryd.prog 66 #[BigV true n, .int .i64 k] w fun e w' => e = .returned (BigV (!decide (q + 1 = 0)) (q + 1)) ∧ Below w.heap.size w w' := by
  have hd0 : 0 < d := by rw [hd]; exact Nat.pow_pos (by decide)
  have hd8 : d < BP 8 := by rw [hd]; exact ten_small (by omega)
  have h14 : BP 15 = BP 14 * 4294967296 := BP_succ 14
  have h15 : BP 16 = BP 15 * 4294967296 := BP_succ 15
  have h8 : BP 8 ≤ BP 14 := BP_le (by decide)
  have hqn : q ≤ n := by rw [hq]; exact Nat.div_le_self _ _
  have hrd : r < d := by rw [hr]; exact Nat.mod_lt _ hd0
  have QT := fun w => rten_any w k (by omega)
  rw [← hd] at QT
  have QD := fun w => rdiv_any w n d (by omega) (by omega) hd0
  rw [← hq, ← hr] at QD
  have QA := fun w => radd_any w r r (by omega)
  have QC := fun w => rcmp_any w (r + r) d (by omega) (by omega)
  rw [hc] at QC
  have QU := fun w => radd_any w q 1 (by omega)
  have QZ := fun w => rzero_any w (q + 1) (by omega)
  obtain ⟨u, hu⟩ : ∃ u, u = q + 1 := ⟨_, rfl⟩
  rw [← hu] at QU QZ ⊢
  obtain ⟨z, hz⟩ : ∃ z, z = decide (u = 0) := ⟨_, rfl⟩
  rw [← hz] at QZ
  rw [← hz]
  unfold BigV
  unfold DV at QT QD QA QC QZ QU
  have lq : dg q 0 < 4294967296 := dg_lt q 0
  obtain ⟨q0, hq0⟩ : ∃ x, x = dg q 0 := ⟨_, rfl⟩
  rw [← hq0] at lq
  obtain ⟨A, hA⟩ : ∃ X, X = bigs true n := ⟨_, rfl⟩
  obtain ⟨E0, hE0⟩ : ∃ X, X = digs n := ⟨_, rfl⟩
  obtain ⟨E5, hE5⟩ : ∃ X, X = digs d := ⟨_, rfl⟩
  obtain ⟨E6, hE6⟩ : ∃ X, X = digs q := ⟨_, rfl⟩
  obtain ⟨E7, hE7⟩ : ∃ X, X = digs r := ⟨_, rfl⟩
  obtain ⟨E8, hE8⟩ : ∃ X, X = digs (r + r) := ⟨_, rfl⟩
  obtain ⟨E9, hE9⟩ : ∃ X, X = digs u := ⟨_, rfl⟩
  obtain ⟨C, hC⟩ : ∃ X, X = bigs (!z) u := ⟨_, rfl⟩
  obtain ⟨EU, hEU⟩ : ∃ X, X = digs 1 := ⟨_, rfl⟩
  rw [← hE5] at QT
  rw [← hE0, ← hE5, ← hE6, ← hE7] at QD
  rw [← hE7, ← hE8] at QA
  rw [← hE8, ← hE5] at QC
  rw [← hE9] at QZ
  rw [← hE6, ← hEU, ← hE9] at QU
  rw [← hC, ← hA]
  have HA := hid hA
  have HE0 := hid hE0
  have HE5 := hid hE5
  have HE6 := hid hE6
  have HE7 := hid hE7
  have HE8 := hid hE8
  have HE9 := hid hE9
  have HC := hid hC
  have HEU := hid hEU
  have HQT := hid QT
  have HQD := hid QD
  have HQA := hid QA
  have HQC := hid QC
  have HQZ := hid QZ
  have HQU := hid QU
  have HQ0 := hid hq0
  have HK := hid hk
  clear QT QD QA QC QZ QU hA hE0 hE5 hE6 hE7 hE8 hE9 hC hEU hq0 hd0 hd8 h14 h15 h8 hqn hrd hn hd hq hr hc hu hz
  have r2 := (Row.new w 76 A).alloc (.cells (bigs false 0) 76)
  have rr := Row.new (w.alloc (.cells A 76)) 76 (bigs false 0)
  have hU := ((Up.refl w).alloc (.cells A 76)).alloc (.cells (bigs false 0) 76)
  simp only [alloc_size] at rr
  have hk1 : ¬ k ≤ 0 := by omega
  have hk2 : (0 : Int) < k := by omega
  go_enter Tryd.func66, Tryd.ntmps66
  go_upto_region 3 with fail
  obtain ⟨V, hV⟩ : ∃ V, V = (w.alloc (.cells A 76)).alloc (.cells (bigs false 0) 76) := ⟨_, rfl⟩
  rw [bigs_0] at hV
  rw [← hV]
  rw [← bigs_0] at hV
  rw [← hV] at r2 rr hU
  clear hV hk1 hk2 hk
  go_wp2_with fail
  refine Calls.mono (HQT.out _) ?_; rintro e w1 ⟨rfl, hb⟩
  have z1 := hb.size
  have l1 := rr.lt
  replace r2 := (r2).mod (Mod.of_below hb Nil) (fun hf => hf)
  replace rr := (rr).mod (Mod.of_below hb Nil) (fun hf => hf)
  replace hU := hU.trans hb
  clear hb
  have n5 := Row.new w1 74 #[.int .u64 0, .int .u64 0, .int .u64 0, .int .u64 0, .int .u64 0, .int .u64 0, .int .u64 0, .int .u64 0, .int .u64 0, .int .u64 0, .int .u64 0, .int .u64 0, .int .u64 0, .int .u64 0, .int .u64 0, .int .u64 0]
  have r5 := n5.putRow E5
  replace r2 := (r2.alloc (.cells #[.int .u64 0, .int .u64 0, .int .u64 0, .int .u64 0, .int .u64 0, .int .u64 0, .int .u64 0, .int .u64 0, .int .u64 0, .int .u64 0, .int .u64 0, .int .u64 0, .int .u64 0, .int .u64 0, .int .u64 0, .int .u64 0] 74)).farRow (g' := w1.heap.size) (by omega) E5
  replace rr := (rr.alloc (.cells #[.int .u64 0, .int .u64 0, .int .u64 0, .int .u64 0, .int .u64 0, .int .u64 0, .int .u64 0, .int .u64 0, .int .u64 0, .int .u64 0, .int .u64 0, .int .u64 0, .int .u64 0, .int .u64 0, .int .u64 0, .int .u64 0] 74)).farRow (g' := w1.heap.size) (by omega) E5
  replace hU := (hU.alloc (.cells #[.int .u64 0, .int .u64 0, .int .u64 0, .int .u64 0, .int .u64 0, .int .u64 0, .int .u64 0, .int .u64 0, .int .u64 0, .int .u64 0, .int .u64 0, .int .u64 0, .int .u64 0, .int .u64 0, .int .u64 0, .int .u64 0] 74)).setRow (p := w1.heap.size) (by omega) E5
  go_upto_region 4 with (refine wpList_store_row rfl 74 _ _ rfl (w1.heap.size) E5 rfl rfl 74 #[.int .u64 0, .int .u64 0, .int .u64 0, .int .u64 0, .int .u64 0, .int .u64 0, .int .u64 0, .int .u64 0, .int .u64 0, .int .u64 0, .int .u64 0, .int .u64 0, .int .u64 0, .int .u64 0, .int .u64 0, .int .u64 0] n5 (size_De HE5) (sizeE HE5).symm (oneE HE5) ?_)
  obtain ⟨V1, hV1⟩ : ∃ V1, V1 = (w1.alloc (.cells #[.int .u64 0, .int .u64 0, .int .u64 0, .int .u64 0, .int .u64 0, .int .u64 0, .int .u64 0, .int .u64 0, .int .u64 0, .int .u64 0, .int .u64 0, .int .u64 0, .int .u64 0, .int .u64 0, .int .u64 0, .int .u64 0] 74)).setRow w1.heap.size E5 := ⟨_, rfl⟩
  rw [← hV1] at r2 rr r5 hU ⊢
  have zv1 : V1.heap.size = w1.heap.size + 1 := by rw [hV1, setRow_size, alloc_size]
  clear hV1 n5
  obtain ⟨g5, hg5⟩ : ∃ g, g = w1.heap.size := ⟨_, rfl⟩
  rw [← hg5] at r5 z1 zv1 ⊢
  clear hg5
  go_wp2_with (first | (refine wpList_load_E rfl HA HE0 (.tmp 21) rfl (w.heap.size) rfl 76 r2 ?_) | (refine wpList_load_row rfl 74 (.tmp 5) rfl (g5) rfl 74 E5 (0, 0) _ r5 Tryd.underlying74 rfl (size_De HE5) ?_))
  refine Calls.mono (HQD.out _) ?_; rintro e w4 ⟨rfl, hb⟩
  have z4 := hb.size
  replace r2 := (r2).mod (Mod.of_below hb Nil) (fun hf => hf)
  replace rr := (rr).mod (Mod.of_below hb Nil) (fun hf => hf)
  replace r5 := (r5).mod (Mod.of_below hb Nil) (fun hf => hf)
  replace hU := hU.trans hb
  clear hb
  have n6 := (Row.new w4 74 #[.int .u64 0, .int .u64 0, .int .u64 0, .int .u64 0, .int .u64 0, .int .u64 0, .int .u64 0, .int .u64 0, .int .u64 0, .int .u64 0, .int .u64 0, .int .u64 0, .int .u64 0, .int .u64 0, .int .u64 0, .int .u64 0]).alloc (.cells #[.int .u64 0, .int .u64 0, .int .u64 0, .int .u64 0, .int .u64 0, .int .u64 0, .int .u64 0, .int .u64 0, .int .u64 0, .int .u64 0, .int .u64 0, .int .u64 0, .int .u64 0, .int .u64 0, .int .u64 0, .int .u64 0] 74)
  have n7 := Row.new (w4.alloc (.cells #[.int .u64 0, .int .u64 0, .int .u64 0, .int .u64 0, .int .u64 0, .int .u64 0, .int .u64 0, .int .u64 0, .int .u64 0, .int .u64 0, .int .u64 0, .int .u64 0, .int .u64 0, .int .u64 0, .int .u64 0, .int .u64 0] 74)) 74 #[.int .u64 0, .int .u64 0, .int .u64 0, .int .u64 0, .int .u64 0, .int .u64 0, .int .u64 0, .int .u64 0, .int .u64 0, .int .u64 0, .int .u64 0, .int .u64 0, .int .u64 0, .int .u64 0, .int .u64 0, .int .u64 0]
  simp only [alloc_size] at n7
  have r6 := (n6.putRow E6).farRow (g' := w4.heap.size + 1) (by omega) E7
  have m7 := n7.farRow (g' := w4.heap.size) (by omega) E6
  have r7 := m7.putRow E7
  replace r2 := ((r2.alloc (.cells #[.int .u64 0, .int .u64 0, .int .u64 0, .int .u64 0, .int .u64 0, .int .u64 0, .int .u64 0, .int .u64 0, .int .u64 0, .int .u64 0, .int .u64 0, .int .u64 0, .int .u64 0, .int .u64 0, .int .u64 0, .int .u64 0] 74)).alloc (.cells #[.int .u64 0, .int .u64 0, .int .u64 0, .int .u64 0, .int .u64 0, .int .u64 0, .int .u64 0, .int .u64 0, .int .u64 0, .int .u64 0, .int .u64 0, .int .u64 0, .int .u64 0, .int .u64 0, .int .u64 0, .int .u64 0] 74)).farRow (g' := w4.heap.size) (by omega) E6 |>.farRow (g' := w4.heap.size + 1) (by omega) E7
  replace rr := ((rr.alloc (.cells #[.int .u64 0, .int .u64 0, .int .u64 0, .int .u64 0, .int .u64 0, .int .u64 0, .int .u64 0, .int .u64 0, .int .u64 0, .int .u64 0, .int .u64 0, .int .u64 0, .int .u64 0, .int .u64 0, .int .u64 0, .int .u64 0] 74)).alloc (.cells #[.int .u64 0, .int .u64 0, .int .u64 0, .int .u64 0, .int .u64 0, .int .u64 0, .int .u64 0, .int .u64 0, .int .u64 0, .int .u64 0, .int .u64 0, .int .u64 0, .int .u64 0, .int .u64 0, .int .u64 0, .int .u64 0] 74)).farRow (g' := w4.heap.size) (by omega) E6 |>.farRow (g' := w4.heap.size + 1) (by omega) E7
  replace r5 := ((r5.alloc (.cells #[.int .u64 0, .int .u64 0, .int .u64 0, .int .u64 0, .int .u64 0, .int .u64 0, .int .u64 0, .int .u64 0, .int .u64 0, .int .u64 0, .int .u64 0, .int .u64 0, .int .u64 0, .int .u64 0, .int .u64 0, .int .u64 0] 74)).alloc (.cells #[.int .u64 0, .int .u64 0, .int .u64 0, .int .u64 0, .int .u64 0, .int .u64 0, .int .u64 0, .int .u64 0, .int .u64 0, .int .u64 0, .int .u64 0, .int .u64 0, .int .u64 0, .int .u64 0, .int .u64 0, .int .u64 0] 74)).farRow (g' := w4.heap.size) (by omega) E6 |>.farRow (g' := w4.heap.size + 1) (by omega) E7
  replace hU := (((hU.alloc (.cells #[.int .u64 0, .int .u64 0, .int .u64 0, .int .u64 0, .int .u64 0, .int .u64 0, .int .u64 0, .int .u64 0, .int .u64 0, .int .u64 0, .int .u64 0, .int .u64 0, .int .u64 0, .int .u64 0, .int .u64 0, .int .u64 0] 74)).alloc (.cells #[.int .u64 0, .int .u64 0, .int .u64 0, .int .u64 0, .int .u64 0, .int .u64 0, .int .u64 0, .int .u64 0, .int .u64 0, .int .u64 0, .int .u64 0, .int .u64 0, .int .u64 0, .int .u64 0, .int .u64 0, .int .u64 0] 74)).setRow (p := w4.heap.size) (by omega) E6).setRow (p := w4.heap.size + 1) (by omega) E7
  go_upto_region 5 with (first | (refine wpList_store_row rfl 74 (.tmp 6) (.tmp 25) rfl (w4.heap.size) E6 rfl rfl 74 #[.int .u64 0, .int .u64 0, .int .u64 0, .int .u64 0, .int .u64 0, .int .u64 0, .int .u64 0, .int .u64 0, .int .u64 0, .int .u64 0, .int .u64 0, .int .u64 0, .int .u64 0, .int .u64 0, .int .u64 0, .int .u64 0] n6 (size_De HE6) (sizeE HE6).symm (oneE HE6) ?_) | (refine wpList_store_row rfl 74 (.tmp 7) (.tmp 26) rfl (w4.heap.size + 1) E7 rfl rfl 74 #[.int .u64 0, .int .u64 0, .int .u64 0, .int .u64 0, .int .u64 0, .int .u64 0, .int .u64 0, .int .u64 0, .int .u64 0, .int .u64 0, .int .u64 0, .int .u64 0, .int .u64 0, .int .u64 0, .int .u64 0, .int .u64 0] m7 (size_De HE7) (sizeE HE7).symm (oneE HE7) ?_))
  obtain ⟨V4, hV4⟩ : ∃ V4, V4 = (((w4.alloc (.cells #[.int .u64 0, .int .u64 0, .int .u64 0, .int .u64 0, .int .u64 0, .int .u64 0, .int .u64 0, .int .u64 0, .int .u64 0, .int .u64 0, .int .u64 0, .int .u64 0, .int .u64 0, .int .u64 0, .int .u64 0, .int .u64 0] 74)).alloc (.cells #[.int .u64 0, .int .u64 0, .int .u64 0, .int .u64 0, .int .u64 0, .int .u64 0, .int .u64 0, .int .u64 0, .int .u64 0, .int .u64 0, .int .u64 0, .int .u64 0, .int .u64 0, .int .u64 0, .int .u64 0, .int .u64 0] 74)).setRow w4.heap.size E6).setRow (w4.heap.size + 1) E7 := ⟨_, rfl⟩
  rw [← hV4] at r2 rr r5 r6 r7 hU ⊢
  have zv4 : V4.heap.size = w4.heap.size + 1 + 1 := by rw [hV4, setRow_size, setRow_size, alloc_size, alloc_size]
  clear hV4 n6 n7 m7
  obtain ⟨g6, hg6⟩ : ∃ g, g = w4.heap.size := ⟨_, rfl⟩
  rw [← hg6] at r6 r7 z4 zv4 ⊢
  clear hg6
  have r8 : Row (V4.alloc (.cells #[.int .u64 1, .int .u64 0, .int .u64 0, .int .u64 0, .int .u64 0, .int .u64 0, .int .u64 0, .int .u64 0, .int .u64 0, .int .u64 0, .int .u64 0, .int .u64 0, .int .u64 0, .int .u64 0, .int .u64 0, .int .u64 0] 74)) V4.heap.size 74 #[.int .u64 1, .int .u64 0, .int .u64 0, .int .u64 0, .int .u64 0, .int .u64 0, .int .u64 0, .int .u64 0, .int .u64 0, .int .u64 0, .int .u64 0, .int .u64 0, .int .u64 0, .int .u64 0, .int .u64 0, .int .u64 0] := Row.new V4 74 #[.int .u64 1, .int .u64 0, .int .u64 0, .int .u64 0, .int .u64 0, .int .u64 0, .int .u64 0, .int .u64 0, .int .u64 0, .int .u64 0, .int .u64 0, .int .u64 0, .int .u64 0, .int .u64 0, .int .u64 0, .int .u64 0]
  replace r2 := r2.alloc (.cells #[.int .u64 1, .int .u64 0, .int .u64 0, .int .u64 0, .int .u64 0, .int .u64 0, .int .u64 0, .int .u64 0, .int .u64 0, .int .u64 0, .int .u64 0, .int .u64 0, .int .u64 0, .int .u64 0, .int .u64 0, .int .u64 0] 74)
  replace rr := rr.alloc (.cells #[.int .u64 1, .int .u64 0, .int .u64 0, .int .u64 0, .int .u64 0, .int .u64 0, .int .u64 0, .int .u64 0, .int .u64 0, .int .u64 0, .int .u64 0, .int .u64 0, .int .u64 0, .int .u64 0, .int .u64 0, .int .u64 0] 74)
  replace r5 := r5.alloc (.cells #[.int .u64 1, .int .u64 0, .int .u64 0, .int .u64 0, .int .u64 0, .int .u64 0, .int .u64 0, .int .u64 0, .int .u64 0, .int .u64 0, .int .u64 0, .int .u64 0, .int .u64 0, .int .u64 0, .int .u64 0, .int .u64 0] 74)
  replace r6 := r6.alloc (.cells #[.int .u64 1, .int .u64 0, .int .u64 0, .int .u64 0, .int .u64 0, .int .u64 0, .int .u64 0, .int .u64 0, .int .u64 0, .int .u64 0, .int .u64 0, .int .u64 0, .int .u64 0, .int .u64 0, .int .u64 0, .int .u64 0] 74)
  replace r7 := r7.alloc (.cells #[.int .u64 1, .int .u64 0, .int .u64 0, .int .u64 0, .int .u64 0, .int .u64 0, .int .u64 0, .int .u64 0, .int .u64 0, .int .u64 0, .int .u64 0, .int .u64 0, .int .u64 0, .int .u64 0, .int .u64 0, .int .u64 0] 74)
  replace hU := hU.alloc (.cells #[.int .u64 1, .int .u64 0, .int .u64 0, .int .u64 0, .int .u64 0, .int .u64 0, .int .u64 0, .int .u64 0, .int .u64 0, .int .u64 0, .int .u64 0, .int .u64 0, .int .u64 0, .int .u64 0, .int .u64 0, .int .u64 0] 74)
  go_upto_region 7 with fail
  obtain ⟨V5, hV5⟩ : ∃ V5, V5 = V4.alloc (.cells #[.int .u64 1, .int .u64 0, .int .u64 0, .int .u64 0, .int .u64 0, .int .u64 0, .int .u64 0, .int .u64 0, .int .u64 0, .int .u64 0, .int .u64 0, .int .u64 0, .int .u64 0, .int .u64 0, .int .u64 0, .int .u64 0] 74) := ⟨_, rfl⟩
  rw [← hV5] at r2 rr r5 r6 r7 r8 hU ⊢
  clear hV5
  rw [zv4] at r8
  clear zv4
  rw [← digs_1, ← HEU.out] at r8
  have MK : ∀ W, Row W (w.heap.size) 76 A → Row W (w.heap.size + 1) 76 (bigs false 0) → Row W (g5) 74 E5 → Row W (g6) 74 E6 → Row W (g6 + 1) 74 E7 → Row W (g6 + 1 + 1) 74 EU → Up w.heap.size w W → Row W (w.heap.size) 76 A ∧ Row W (w.heap.size + 1) 76 (bigs false 0) ∧ Row W (g5) 74 E5 ∧ Row W (g6) 74 E6 ∧ Row W (g6 + 1) 74 E7 ∧ Row W (g6 + 1 + 1) 74 EU ∧ Up w.heap.size w W ∧ W.cell? ⟨w.heap.size, 0, none⟩ = some (.bool true) := fun W k0 k1 k2 k3 k4 k5 k6 => ⟨k0, k1, k2, k3, k4, k5, k6, by rw [k0.cell, zeroC HA]⟩
  have MK := hid MK
  refine wp_region_noPanic ?_
  refine wp_region_held_drew (S := fun W => Row W (w.heap.size) 76 A ∧ Row W (w.heap.size + 1) 76 (bigs false 0) ∧ Row W (g5) 74 E5 ∧ Row W (g6) 74 E6 ∧ Row W (g6 + 1) 74 E7 ∧ Row W (g6 + 1 + 1) 74 EU ∧ Up w.heap.size w W ∧ W.cell? ⟨w.heap.size, 0, none⟩ = some (.bool true)) (by kernel_rfl) (MK.out _ r2.drew rr.drew r5.drew r6.drew r7.drew r8.drew hU.drew) (fun hHeld => ?_)
  refine wpAnyH_take (i := 0) (oi := { dst := some 28, op := Op.load 74 (Operand.tmp 7), type := 74, pos := "ref.go:221", after := #[], guard := none }) (v := .agg E7) rfl (by kernel_rfl) (by kernel_rfl) (by kernel_rfl) (fun _ _ _ h => h) (Or.inl ⟨by rfl, fun W hW => exec_load_row 74 _ rfl (g6 + 1) rfl 74 E7 _ Tryd.underlying74 rfl (size_De HE7) W hW.2.2.2.2.1⟩) hHeld ?_
  try simp only [Act.put, List.setIfInBounds_toArray, List.set_cons_zero, List.set_cons_succ]
  refine wpAnyH_take (i := 1) (oi := { dst := some 29, op := Op.load 74 (Operand.tmp 7), type := 74, pos := "ref.go:221", after := #[], guard := none }) (v := .agg E7) rfl (by kernel_rfl) (by kernel_rfl) (by kernel_rfl) (fun _ _ _ h => h) (Or.inl ⟨by rfl, fun W hW => exec_load_row 74 _ rfl (g6 + 1) rfl 74 E7 _ Tryd.underlying74 rfl (size_De HE7) W hW.2.2.2.2.1⟩) hHeld ?_
  try simp only [Act.put, List.setIfInBounds_toArray, List.set_cons_zero, List.set_cons_succ]
  refine wpAnyH_take (i := 3) (oi := { dst := some 31, op := Op.load 74 (Operand.tmp 5), type := 74, pos := "ref.go:221", after := #[], guard := none }) (v := .agg E5) rfl (by kernel_rfl) (by kernel_rfl) (by kernel_rfl) (fun _ _ _ h => h) (Or.inl ⟨by rfl, fun W hW => exec_load_row 74 _ rfl (g5) rfl 74 E5 _ Tryd.underlying74 rfl (size_De HE5) W hW.2.2.1⟩) hHeld ?_
  try simp only [Act.put, List.setIfInBounds_toArray, List.set_cons_zero, List.set_cons_succ]
  refine wpAnyH_ready (rs := [2]) (by kernel_rfl) (by simp) ?_
  refine AllReadyH.cons (o := { dst := some 30, op := Op.call { callee := Callee.value (Operand.func 87), args := #[Operand.tmp 28, Operand.tmp 29], argTypes := #[74, 74] }, type := 74, pos := "ref.go:221", after := #[{ on := 0, ground := Ground.data }, { on := 1, ground := Ground.data }], guard := none }) rfl (fun K hK => ?_) AllReadyH.nil
  go_simp
  refine Calls.mono (HQA.out _) ?_; rintro e w5 ⟨rfl, hb⟩
  refine hK.out _ _ (MK.out _ ((hHeld.1).mod (Mod.of_below hb Nil) (fun hf => hf)) ((hHeld.2.1).mod (Mod.of_below hb Nil) (fun hf => hf)) ((hHeld.2.2.1).mod (Mod.of_below hb Nil) (fun hf => hf)) ((hHeld.2.2.2.1).mod (Mod.of_below hb Nil) (fun hf => hf)) ((hHeld.2.2.2.2.1).mod (Mod.of_below hb Nil) (fun hf => hf)) ((hHeld.2.2.2.2.2.1).mod (Mod.of_below hb Nil) (fun hf => hf)) ((hHeld.2.2.2.2.2.2.1).trans hb)) (fun hHeld => ?_)
  clear hK K
  try simp only [Act.put, List.setIfInBounds_toArray, List.set_cons_zero, List.set_cons_succ]
  refine wpAnyH_ready (rs := [4]) (by kernel_rfl) (by simp) ?_
  refine AllReadyH.cons (o := { dst := some 32, op := Op.call { callee := Callee.value (Operand.func 88), args := #[Operand.tmp 30, Operand.tmp 31], argTypes := #[74, 74] }, type := 3, pos := "ref.go:221", after := #[{ on := 2, ground := Ground.data }, { on := 3, ground := Ground.data }, { on := 2, ground := Ground.chain }], guard := none }) rfl (fun K hK => ?_) AllReadyH.nil
  go_simp
  refine Calls.mono (HQC.out _) ?_; rintro e w6 ⟨rfl, hb⟩
  refine hK.out _ _ (MK.out _ ((hHeld.1).mod (Mod.of_below hb Nil) (fun hf => hf)) ((hHeld.2.1).mod (Mod.of_below hb Nil) (fun hf => hf)) ((hHeld.2.2.1).mod (Mod.of_below hb Nil) (fun hf => hf)) ((hHeld.2.2.2.1).mod (Mod.of_below hb Nil) (fun hf => hf)) ((hHeld.2.2.2.2.1).mod (Mod.of_below hb Nil) (fun hf => hf)) ((hHeld.2.2.2.2.2.1).mod (Mod.of_below hb Nil) (fun hf => hf)) ((hHeld.2.2.2.2.2.2.1).trans hb)) (fun hHeld => ?_)
  clear hK K
  try simp only [Act.put, List.setIfInBounds_toArray, List.set_cons_zero, List.set_cons_succ]
  refine wpAnyH_take (i := 5) (oi := { dst := some 9, op := Op.assign (Operand.tmp 32), type := 3, pos := "ref.go:221", after := #[{ on := 4, ground := Ground.data }, { on := 4, ground := Ground.chain }, { on := 0, ground := Ground.phase }, { on := 1, ground := Ground.phase }, { on := 2, ground := Ground.phase }, { on := 3, ground := Ground.phase }, { on := 4, ground := Ground.phase }], guard := none }) (v := ?_) rfl (by kernel_rfl) (by kernel_rfl) (by kernel_rfl) (fun _ _ _ h => h) (Or.inl ⟨by rfl, ?_⟩) hHeld ?_
  rotate_left
  · intro w' hSw; (try dsimp only at hSw); go_simp <;> with_reducible rfl
  try simp only [Act.put, List.setIfInBounds_toArray, List.set_cons_zero, List.set_cons_succ]
  refine wpAnyH_done (by kernel_rfl) ?_ _
  refine NoPanic.normal ?_
  replace r2 := hHeld.1
  replace rr := hHeld.2.1
  replace r5 := hHeld.2.2.1
  replace r6 := hHeld.2.2.2.1
  replace r7 := hHeld.2.2.2.2.1
  replace r8 := hHeld.2.2.2.2.2.1
  replace hU := hHeld.2.2.2.2.2.2.1
  clear MK hHeld r5 r7
  have c6 := r6.cell 0
  rw [HE6.out, digs_get _ (by decide), ← HQ0.out] at c6
  go_upto_region 9 with fail
  clear c6
  go_wp2_with (first | (refine wpList_load_row rfl 74 (.tmp 6) rfl (g6) rfl 74 E6 (0, 0) _ r6 Tryd.underlying74 rfl (size_De HE6) ?_) | (refine wpList_load_row rfl 74 (.tmp 8) rfl (g6 + 1 + 1) rfl 74 EU (0, 0) _ r8 Tryd.underlying74 rfl (size_De HEU) ?_))
  refine Calls.mono (HQU.out _) ?_; rintro e w7 ⟨rfl, hb⟩
  replace r2 := (r2).mod (Mod.of_below hb Nil) (fun hf => hf)
  replace rr := (rr).mod (Mod.of_below hb Nil) (fun hf => hf)
  replace r6 := (r6).mod (Mod.of_below hb Nil) (fun hf => hf)
  replace hU := hU.trans hb
  clear hb r8
  go_upto_region 10 with (refine wpList_store_row rfl 74 (.tmp 6) _ rfl (g6) E9 rfl rfl 74 E6 r6 (size_De HE9) (by rw [sizeE HE6, sizeE HE9]) (oneE HE9) ?_)
  obtain ⟨V7, hV7⟩ : ∃ V7, V7 = w7.setRow g6 E9 := ⟨_, rfl⟩
  replace r2 := r2.farRow (g' := g6) (by omega) E9
  replace rr := rr.farRow (g' := g6) (by omega) E9
  replace r6 := r6.putRow E9
  replace hU := hU.setRow (p := g6) (by omega) E9
  rw [← hV7] at r2 rr r6 hU ⊢
  clear hV7
  have MK : ∀ W, Row W (w.heap.size) 76 A → Row W (g6) 74 E9 → (∃ cs : Array Value, Row W (w.heap.size + 1) 76 cs ∧ cs.size = 17) → Up w.heap.size w W → Row W (w.heap.size) 76 A ∧ Row W (g6) 74 E9 ∧ (∃ cs : Array Value, Row W (w.heap.size + 1) 76 cs ∧ cs.size = 17) ∧ Up w.heap.size w W ∧ W.cell? ⟨w.heap.size, 0, none⟩ = some (.bool true) := fun W k0 k1 k2 k3 => ⟨k0, k1, k2, k3, by rw [k0.cell, zeroC HA]⟩
  have MK := hid MK
  refine wp_region_noPanic ?_
  refine wp_region_held_drew (S := fun W => Row W (w.heap.size) 76 A ∧ Row W (g6) 74 E9 ∧ (∃ cs : Array Value, Row W (w.heap.size + 1) 76 cs ∧ cs.size = 17) ∧ Up w.heap.size w W ∧ W.cell? ⟨w.heap.size, 0, none⟩ = some (.bool true)) (by kernel_rfl) (MK.out _ r2.drew r6.drew ⟨_, rr.drew, bigs_size _ _⟩ hU.drew) (fun hHeld => ?_)
  refine wpAnyH_take (i := 0) (oi := { dst := some 48, op := Op.fieldAddr 76 (Operand.tmp 2) 0, type := 0, pos := "ref.go:225", after := #[], guard := none }) (v := ?_) rfl (by kernel_rfl) (by kernel_rfl) (by kernel_rfl) (fun _ _ _ h => h) (Or.inl ⟨by rfl, ?_⟩) hHeld ?_
  rotate_left
  · intro w' hSw; (try dsimp only at hSw); go_simp <;> with_reducible rfl
  try simp only [Act.put, List.setIfInBounds_toArray, List.set_cons_zero, List.set_cons_succ]
  refine wpAnyH_take (i := 1) (oi := { dst := some 49, op := Op.load 4 (Operand.tmp 48), type := 4, pos := "ref.go:225", after := #[{ on := 0, ground := Ground.data }], guard := none }) (v := ?_) rfl (by kernel_rfl) (by kernel_rfl) (by kernel_rfl) (fun _ _ _ h => h) (Or.inl ⟨by rfl, ?_⟩) hHeld ?_
  rotate_left
  · intro w' hSw; (try dsimp only at hSw); go_simp <;> with_reducible rfl
  try simp only [Act.put, List.setIfInBounds_toArray, List.set_cons_zero, List.set_cons_succ]
  refine wpAnyH_take (i := 2) (oi := { dst := some 50, op := Op.move (Operand.tmp 49), type := 4, pos := "ref.go:225", after := #[{ on := 1, ground := Ground.data }], guard := none }) (v := ?_) rfl (by kernel_rfl) (by kernel_rfl) (by kernel_rfl) (fun _ _ _ h => h) (Or.inl ⟨by rfl, ?_⟩) hHeld ?_
  rotate_left
  · intro w' hSw; (try dsimp only at hSw); go_simp <;> with_reducible rfl
  try simp only [Act.put, List.setIfInBounds_toArray, List.set_cons_zero, List.set_cons_succ]
  refine wpAnyH_take (i := 3) (oi := { dst := some 51, op := Op.load 74 (Operand.tmp 6), type := 74, pos := "ref.go:225", after := #[{ on := 2, ground := Ground.guard }], guard := some (2, true) }) (v := .agg E9) rfl (by kernel_rfl) (by kernel_rfl) (by kernel_rfl) (fun _ _ _ h => h) (Or.inl ⟨by rfl, fun W hW => exec_load_row 74 _ rfl (g6) rfl 74 E9 _ Tryd.underlying74 rfl (size_De HE9) W hW.2.1⟩) hHeld ?_
  try simp only [Act.put, List.setIfInBounds_toArray, List.set_cons_zero, List.set_cons_succ]
  refine wpAnyH_take (i := 7) (oi := { dst := some 55, op := Op.load 74 (Operand.tmp 6), type := 74, pos := "ref.go:225", after := #[], guard := none }) (v := .agg E9) rfl (by kernel_rfl) (by kernel_rfl) (by kernel_rfl) (fun _ _ _ h => h) (Or.inl ⟨by rfl, fun W hW => exec_load_row 74 _ rfl (g6) rfl 74 E9 _ Tryd.underlying74 rfl (size_De HE9) W hW.2.1⟩) hHeld ?_
  try simp only [Act.put, List.setIfInBounds_toArray, List.set_cons_zero, List.set_cons_succ]
  refine wpAnyH_ready (rs := [4]) (by kernel_rfl) (by simp) ?_
  refine AllReadyH.cons (o := { dst := some 52, op := Op.call { callee := Callee.value (Operand.func 64), args := #[Operand.tmp 51], argTypes := #[74] }, type := 4, pos := "ref.go:225", after := #[{ on := 3, ground := Ground.data }, { on := 2, ground := Ground.chain }, { on := 2, ground := Ground.guard }], guard := some (2, true) }) rfl (fun K hK => ?_) AllReadyH.nil
  go_simp
  refine Calls.mono (HQZ.out _) ?_; rintro e w8 ⟨rfl, hb⟩
  refine hK.out _ _ (MK.out _ ((hHeld.1).mod (Mod.of_below hb Nil) (fun hf => hf)) ((hHeld.2.1).mod (Mod.of_below hb Nil) (fun hf => hf)) ((by obtain ⟨cs, h1, h2⟩ := hHeld.2.2.1; exact ⟨cs, (h1).mod (Mod.of_below hb Nil) (fun hf => hf), h2⟩)) ((hHeld.2.2.2.1).trans hb)) (fun hHeld => ?_)
  clear hK K
  try simp only [Act.put, List.setIfInBounds_toArray, List.set_cons_zero, List.set_cons_succ]
  refine wpAnyH_take (i := 5) (oi := { dst := some 53, op := Op.unOp UnOp.not 4 (Operand.tmp 52), type := 4, pos := "ref.go:225", after := #[{ on := 4, ground := Ground.data }, { on := 2, ground := Ground.guard }], guard := some (2, true) }) (v := ?_) rfl (by kernel_rfl) (by kernel_rfl) (by kernel_rfl) (fun _ _ _ h => h) (Or.inl ⟨by rfl, ?_⟩) hHeld ?_
  rotate_left
  · intro w' hSw; (try dsimp only at hSw); go_simp <;> with_reducible rfl
  try simp only [Act.put, List.setIfInBounds_toArray, List.set_cons_zero, List.set_cons_succ]
  refine wpAnyH_take (i := 6) (oi := { dst := some 54, op := Op.pick (Operand.tmp 50) (Operand.tmp 53) (Operand.const (Value.bool false)), type := 4, pos := "ref.go:225", after := #[{ on := 2, ground := Ground.data }, { on := 5, ground := Ground.data }], guard := none }) (v := ?_) rfl (by kernel_rfl) (by kernel_rfl) (by kernel_rfl) (fun _ _ _ h => h) (Or.inl ⟨by rfl, ?_⟩) hHeld ?_
  rotate_left
  · intro w' hSw; (try dsimp only at hSw); go_simp <;> with_reducible rfl
  try simp only [Act.put, List.setIfInBounds_toArray, List.set_cons_zero, List.set_cons_succ]
  refine wpAnyH_take (i := 8) (oi := { dst := some 56, op := Op.build 76 #[(0, Operand.tmp 54), (1, Operand.tmp 55)], type := 76, pos := "ref.go:225", after := #[{ on := 6, ground := Ground.data }, { on := 7, ground := Ground.data }], guard := none }) (v := .agg C) rfl (by kernel_rfl) (by kernel_rfl) (by kernel_rfl) (fun _ _ _ h => h) (Or.inl ⟨by rfl, fun W hW => exec_build_C HC HE9 _ _ rfl rfl rfl⟩) hHeld ?_
  try simp only [Act.put, List.setIfInBounds_toArray, List.set_cons_zero, List.set_cons_succ]
  obtain ⟨cs, hcs, hcz⟩ := hHeld.2.2.1
  refine wpAnyH_ready (rs := [9]) (by kernel_rfl) (by simp) ?_
  refine AllReadyH.cons (o := { dst := none, op := Op.store 76 (Operand.tmp 4) (Operand.tmp 56), type := 0, pos := "ref.go:225", after := #[{ on := 8, ground := Ground.data }, { on := 4, ground := Ground.chain }, { on := 0, ground := Ground.phase }, { on := 1, ground := Ground.phase }, { on := 2, ground := Ground.phase }, { on := 3, ground := Ground.phase }, { on := 4, ground := Ground.phase }, { on := 5, ground := Ground.phase }, { on := 6, ground := Ground.phase }, { on := 7, ground := Ground.phase }, { on := 8, ground := Ground.phase }], guard := none }) rfl (fun K hK => ?_) AllReadyH.nil
  refine (if_pos (by rfl)).mpr ?_
  refine wp_store_row 76 _ _ rfl (w.heap.size + 1) C rfl rfl 76 cs hcs (size_Bn (sizeC HC)) (by rw [hcz, sizeC HC]) (oneC HC) ?_
  refine hK.out _ _ (MK.out _ ((hHeld.1).farRow (by omega) C) ((hHeld.2.1).farRow (by omega) C) (⟨C, hcs.putRow C, sizeC HC⟩) ((hHeld.2.2.2.1).setRow (by omega) C)) (fun hHeld => ?_)
  clear hK K
  try simp only [Act.put, List.setIfInBounds_toArray, List.set_cons_zero, List.set_cons_succ]
  refine wpAnyH_done (by kernel_rfl) ?_ _
  refine NoPanic.normal ?_
  go_wp2_with fail
  exact bodyPost_ret (v := .agg C) (results_cell_row Tryd.results66 _ _ (w.heap.size + 1) 76 C (0, 0) _ rfl (hcs.putRow _) Tryd.underlying76 rfl (size_Bn (sizeC HC))) rfl ⟨rfl, hHeld.2.2.2.1.below⟩

set_option maxRecDepth 100000 in
set_option maxHeartbeats 4000000 in
theorem round_U2_f (w : World) (n q r d : Nat) (k : Int) (hn : n < BP 14) (hk : 0 < k ∧ k ≤ 77) (hd : d = 10 ^ k.toNat) (hq : q = n / d) (hr : r = n % d) (hc : cmpN (r + r) d = 0) (hp : dg q 0 % 2 = 1) :
    Calls Tryd.prog 66 #[BigV false n, .int .i64 k] w fun e w' => e = .returned (BigV false (q + 1)) ∧ Below w.heap.size w w' := by
  have hd0 : 0 < d := by rw [hd]; exact Nat.pow_pos (by decide)
  have hd8 : d < BP 8 := by rw [hd]; exact ten_small (by omega)
  have h14 : BP 15 = BP 14 * 4294967296 := BP_succ 14
  have h15 : BP 16 = BP 15 * 4294967296 := BP_succ 15
  have h8 : BP 8 ≤ BP 14 := BP_le (by decide)
  have hqn : q ≤ n := by rw [hq]; exact Nat.div_le_self _ _
  have hrd : r < d := by rw [hr]; exact Nat.mod_lt _ hd0
  have QT := fun w => rten_any w k (by omega)
  rw [← hd] at QT
  have QD := fun w => rdiv_any w n d (by omega) (by omega) hd0
  rw [← hq, ← hr] at QD
  have QA := fun w => radd_any w r r (by omega)
  have QC := fun w => rcmp_any w (r + r) d (by omega) (by omega)
  rw [hc] at QC
  have QU := fun w => radd_any w q 1 (by omega)
  have QZ := fun w => rzero_any w (q + 1) (by omega)
  obtain ⟨u, hu⟩ : ∃ u, u = q + 1 := ⟨_, rfl⟩
  rw [← hu] at QU QZ ⊢
  obtain ⟨z, hz⟩ : ∃ z, z = decide (u = 0) := ⟨_, rfl⟩
  rw [← hz] at QZ
  unfold BigV
  unfold DV at QT QD QA QC QZ QU
  have lq : dg q 0 < 4294967296 := dg_lt q 0
  obtain ⟨q0, hq0⟩ : ∃ x, x = dg q 0 := ⟨_, rfl⟩
  rw [← hq0] at lq hp
  obtain ⟨A, hA⟩ : ∃ X, X = bigs false n := ⟨_, rfl⟩
  obtain ⟨E0, hE0⟩ : ∃ X, X = digs n := ⟨_, rfl⟩
  obtain ⟨E5, hE5⟩ : ∃ X, X = digs d := ⟨_, rfl⟩
  obtain ⟨E6, hE6⟩ : ∃ X, X = digs q := ⟨_, rfl⟩
  obtain ⟨E7, hE7⟩ : ∃ X, X = digs r := ⟨_, rfl⟩
  obtain ⟨E8, hE8⟩ : ∃ X, X = digs (r + r) := ⟨_, rfl⟩
  obtain ⟨E9, hE9⟩ : ∃ X, X = digs u := ⟨_, rfl⟩
  obtain ⟨C, hC⟩ : ∃ X, X = bigs false u := ⟨_, rfl⟩
  obtain ⟨EU, hEU⟩ : ∃ X, X = digs 1 := ⟨_, rfl⟩
  rw [← hE5] at QT
  rw [← hE0, ← hE5, ← hE6, ← hE7] at QD
  rw [← hE7, ← hE8] at QA
  rw [← hE8, ← hE5] at QC
  rw [← hE9] at QZ
  rw [← hE6, ← hEU, ← hE9] at QU
  rw [← hC, ← hA]
  have HA := hid hA
  have HE0 := hid hE0
  have HE5 := hid hE5
  have HE6 := hid hE6
  have HE7 := hid hE7
  have HE8 := hid hE8
  have HE9 := hid hE9
  have HC := hid hC
  have HEU := hid hEU
  have HQT := hid QT
  have HQD := hid QD
  have HQA := hid QA
  have HQC := hid QC
  have HQZ := hid QZ
  have HQU := hid QU
  have HQ0 := hid hq0
  have HK := hid hk
  have HP := hid hp
  clear QT QD QA QC QZ QU hA hE0 hE5 hE6 hE7 hE8 hE9 hC hEU hq0 hd0 hd8 h14 h15 h8 hqn hrd hn hd hq hr hc hu hz hp
  have r2 := (Row.new w 76 A).alloc (.cells (bigs false 0) 76)
  have rr := Row.new (w.alloc (.cells A 76)) 76 (bigs false 0)
  have hU := ((Up.refl w).alloc (.cells A 76)).alloc (.cells (bigs false 0) 76)
  simp only [alloc_size] at rr
  have hk1 : ¬ k ≤ 0 := by omega
  have hk2 : (0 : Int) < k := by omega
  go_enter Tryd.func66, Tryd.ntmps66
  go_upto_region 3 with fail
  obtain ⟨V, hV⟩ : ∃ V, V = (w.alloc (.cells A 76)).alloc (.cells (bigs false 0) 76) := ⟨_, rfl⟩
  rw [bigs_0] at hV
  rw [← hV]
  rw [← bigs_0] at hV
  rw [← hV] at r2 rr hU
  clear hV hk1 hk2 hk
  go_wp2_with fail
  refine Calls.mono (HQT.out _) ?_; rintro e w1 ⟨rfl, hb⟩
  have z1 := hb.size
  have l1 := rr.lt
  replace r2 := (r2).mod (Mod.of_below hb Nil) (fun hf => hf)
  replace rr := (rr).mod (Mod.of_below hb Nil) (fun hf => hf)
  replace hU := hU.trans hb
  clear hb
  have n5 := Row.new w1 74 #[.int .u64 0, .int .u64 0, .int .u64 0, .int .u64 0, .int .u64 0, .int .u64 0, .int .u64 0, .int .u64 0, .int .u64 0, .int .u64 0, .int .u64 0, .int .u64 0, .int .u64 0, .int .u64 0, .int .u64 0, .int .u64 0]
  have r5 := n5.putRow E5
  replace r2 := (r2.alloc (.cells #[.int .u64 0, .int .u64 0, .int .u64 0, .int .u64 0, .int .u64 0, .int .u64 0, .int .u64 0, .int .u64 0, .int .u64 0, .int .u64 0, .int .u64 0, .int .u64 0, .int .u64 0, .int .u64 0, .int .u64 0, .int .u64 0] 74)).farRow (g' := w1.heap.size) (by omega) E5
  replace rr := (rr.alloc (.cells #[.int .u64 0, .int .u64 0, .int .u64 0, .int .u64 0, .int .u64 0, .int .u64 0, .int .u64 0, .int .u64 0, .int .u64 0, .int .u64 0, .int .u64 0, .int .u64 0, .int .u64 0, .int .u64 0, .int .u64 0, .int .u64 0] 74)).farRow (g' := w1.heap.size) (by omega) E5
  replace hU := (hU.alloc (.cells #[.int .u64 0, .int .u64 0, .int .u64 0, .int .u64 0, .int .u64 0, .int .u64 0, .int .u64 0, .int .u64 0, .int .u64 0, .int .u64 0, .int .u64 0, .int .u64 0, .int .u64 0, .int .u64 0, .int .u64 0, .int .u64 0] 74)).setRow (p := w1.heap.size) (by omega) E5
  go_upto_region 4 with (refine wpList_store_row rfl 74 _ _ rfl (w1.heap.size) E5 rfl rfl 74 #[.int .u64 0, .int .u64 0, .int .u64 0, .int .u64 0, .int .u64 0, .int .u64 0, .int .u64 0, .int .u64 0, .int .u64 0, .int .u64 0, .int .u64 0, .int .u64 0, .int .u64 0, .int .u64 0, .int .u64 0, .int .u64 0] n5 (size_De HE5) (sizeE HE5).symm (oneE HE5) ?_)
  obtain ⟨V1, hV1⟩ : ∃ V1, V1 = (w1.alloc (.cells #[.int .u64 0, .int .u64 0, .int .u64 0, .int .u64 0, .int .u64 0, .int .u64 0, .int .u64 0, .int .u64 0, .int .u64 0, .int .u64 0, .int .u64 0, .int .u64 0, .int .u64 0, .int .u64 0, .int .u64 0, .int .u64 0] 74)).setRow w1.heap.size E5 := ⟨_, rfl⟩
  rw [← hV1] at r2 rr r5 hU ⊢
  have zv1 : V1.heap.size = w1.heap.size + 1 := by rw [hV1, setRow_size, alloc_size]
  clear hV1 n5
  obtain ⟨g5, hg5⟩ : ∃ g, g = w1.heap.size := ⟨_, rfl⟩
  rw [← hg5] at r5 z1 zv1 ⊢
  clear hg5
  go_wp2_with (first | (refine wpList_load_E rfl HA HE0 (.tmp 21) rfl (w.heap.size) rfl 76 r2 ?_) | (refine wpList_load_row rfl 74 (.tmp 5) rfl (g5) rfl 74 E5 (0, 0) _ r5 Tryd.underlying74 rfl (size_De HE5) ?_))
  refine Calls.mono (HQD.out _) ?_; rintro e w4 ⟨rfl, hb⟩
  have z4 := hb.size
  replace r2 := (r2).mod (Mod.of_below hb Nil) (fun hf => hf)
  replace rr := (rr).mod (Mod.of_below hb Nil) (fun hf => hf)
  replace r5 := (r5).mod (Mod.of_below hb Nil) (fun hf => hf)
  replace hU := hU.trans hb
  clear hb
  have n6 := (Row.new w4 74 #[.int .u64 0, .int .u64 0, .int .u64 0, .int .u64 0, .int .u64 0, .int .u64 0, .int .u64 0, .int .u64 0, .int .u64 0, .int .u64 0, .int .u64 0, .int .u64 0, .int .u64 0, .int .u64 0, .int .u64 0, .int .u64 0]).alloc (.cells #[.int .u64 0, .int .u64 0, .int .u64 0, .int .u64 0, .int .u64 0, .int .u64 0, .int .u64 0, .int .u64 0, .int .u64 0, .int .u64 0, .int .u64 0, .int .u64 0, .int .u64 0, .int .u64 0, .int .u64 0, .int .u64 0] 74)
  have n7 := Row.new (w4.alloc (.cells #[.int .u64 0, .int .u64 0, .int .u64 0, .int .u64 0, .int .u64 0, .int .u64 0, .int .u64 0, .int .u64 0, .int .u64 0, .int .u64 0, .int .u64 0, .int .u64 0, .int .u64 0, .int .u64 0, .int .u64 0, .int .u64 0] 74)) 74 #[.int .u64 0, .int .u64 0, .int .u64 0, .int .u64 0, .int .u64 0, .int .u64 0, .int .u64 0, .int .u64 0, .int .u64 0, .int .u64 0, .int .u64 0, .int .u64 0, .int .u64 0, .int .u64 0, .int .u64 0, .int .u64 0]
  simp only [alloc_size] at n7
  have r6 := (n6.putRow E6).farRow (g' := w4.heap.size + 1) (by omega) E7
  have m7 := n7.farRow (g' := w4.heap.size) (by omega) E6
  have r7 := m7.putRow E7
  replace r2 := ((r2.alloc (.cells #[.int .u64 0, .int .u64 0, .int .u64 0, .int .u64 0, .int .u64 0, .int .u64 0, .int .u64 0, .int .u64 0, .int .u64 0, .int .u64 0, .int .u64 0, .int .u64 0, .int .u64 0, .int .u64 0, .int .u64 0, .int .u64 0] 74)).alloc (.cells #[.int .u64 0, .int .u64 0, .int .u64 0, .int .u64 0, .int .u64 0, .int .u64 0, .int .u64 0, .int .u64 0, .int .u64 0, .int .u64 0, .int .u64 0, .int .u64 0, .int .u64 0, .int .u64 0, .int .u64 0, .int .u64 0] 74)).farRow (g' := w4.heap.size) (by omega) E6 |>.farRow (g' := w4.heap.size + 1) (by omega) E7
  replace rr := ((rr.alloc (.cells #[.int .u64 0, .int .u64 0, .int .u64 0, .int .u64 0, .int .u64 0, .int .u64 0, .int .u64 0, .int .u64 0, .int .u64 0, .int .u64 0, .int .u64 0, .int .u64 0, .int .u64 0, .int .u64 0, .int .u64 0, .int .u64 0] 74)).alloc (.cells #[.int .u64 0, .int .u64 0, .int .u64 0, .int .u64 0, .int .u64 0, .int .u64 0, .int .u64 0, .int .u64 0, .int .u64 0, .int .u64 0, .int .u64 0, .int .u64 0, .int .u64 0, .int .u64 0, .int .u64 0, .int .u64 0] 74)).farRow (g' := w4.heap.size) (by omega) E6 |>.farRow (g' := w4.heap.size + 1) (by omega) E7
  replace r5 := ((r5.alloc (.cells #[.int .u64 0, .int .u64 0, .int .u64 0, .int .u64 0, .int .u64 0, .int .u64 0, .int .u64 0, .int .u64 0, .int .u64 0, .int .u64 0, .int .u64 0, .int .u64 0, .int .u64 0, .int .u64 0, .int .u64 0, .int .u64 0] 74)).alloc (.cells #[.int .u64 0, .int .u64 0, .int .u64 0, .int .u64 0, .int .u64 0, .int .u64 0, .int .u64 0, .int .u64 0, .int .u64 0, .int .u64 0, .int .u64 0, .int .u64 0, .int .u64 0, .int .u64 0, .int .u64 0, .int .u64 0] 74)).farRow (g' := w4.heap.size) (by omega) E6 |>.farRow (g' := w4.heap.size + 1) (by omega) E7
  replace hU := (((hU.alloc (.cells #[.int .u64 0, .int .u64 0, .int .u64 0, .int .u64 0, .int .u64 0, .int .u64 0, .int .u64 0, .int .u64 0, .int .u64 0, .int .u64 0, .int .u64 0, .int .u64 0, .int .u64 0, .int .u64 0, .int .u64 0, .int .u64 0] 74)).alloc (.cells #[.int .u64 0, .int .u64 0, .int .u64 0, .int .u64 0, .int .u64 0, .int .u64 0, .int .u64 0, .int .u64 0, .int .u64 0, .int .u64 0, .int .u64 0, .int .u64 0, .int .u64 0, .int .u64 0, .int .u64 0, .int .u64 0] 74)).setRow (p := w4.heap.size) (by omega) E6).setRow (p := w4.heap.size + 1) (by omega) E7
  go_upto_region 5 with (first | (refine wpList_store_row rfl 74 (.tmp 6) (.tmp 25) rfl (w4.heap.size) E6 rfl rfl 74 #[.int .u64 0, .int .u64 0, .int .u64 0, .int .u64 0, .int .u64 0, .int .u64 0, .int .u64 0, .int .u64 0, .int .u64 0, .int .u64 0, .int .u64 0, .int .u64 0, .int .u64 0, .int .u64 0, .int .u64 0, .int .u64 0] n6 (size_De HE6) (sizeE HE6).symm (oneE HE6) ?_) | (refine wpList_store_row rfl 74 (.tmp 7) (.tmp 26) rfl (w4.heap.size + 1) E7 rfl rfl 74 #[.int .u64 0, .int .u64 0, .int .u64 0, .int .u64 0, .int .u64 0, .int .u64 0, .int .u64 0, .int .u64 0, .int .u64 0, .int .u64 0, .int .u64 0, .int .u64 0, .int .u64 0, .int .u64 0, .int .u64 0, .int .u64 0] m7 (size_De HE7) (sizeE HE7).symm (oneE HE7) ?_))
  obtain ⟨V4, hV4⟩ : ∃ V4, V4 = (((w4.alloc (.cells #[.int .u64 0, .int .u64 0, .int .u64 0, .int .u64 0, .int .u64 0, .int .u64 0, .int .u64 0, .int .u64 0, .int .u64 0, .int .u64 0, .int .u64 0, .int .u64 0, .int .u64 0, .int .u64 0, .int .u64 0, .int .u64 0] 74)).alloc (.cells #[.int .u64 0, .int .u64 0, .int .u64 0, .int .u64 0, .int .u64 0, .int .u64 0, .int .u64 0, .int .u64 0, .int .u64 0, .int .u64 0, .int .u64 0, .int .u64 0, .int .u64 0, .int .u64 0, .int .u64 0, .int .u64 0] 74)).setRow w4.heap.size E6).setRow (w4.heap.size + 1) E7 := ⟨_, rfl⟩
  rw [← hV4] at r2 rr r5 r6 r7 hU ⊢
  have zv4 : V4.heap.size = w4.heap.size + 1 + 1 := by rw [hV4, setRow_size, setRow_size, alloc_size, alloc_size]
  clear hV4 n6 n7 m7
  obtain ⟨g6, hg6⟩ : ∃ g, g = w4.heap.size := ⟨_, rfl⟩
  rw [← hg6] at r6 r7 z4 zv4 ⊢
  clear hg6
  have r8 : Row (V4.alloc (.cells #[.int .u64 1, .int .u64 0, .int .u64 0, .int .u64 0, .int .u64 0, .int .u64 0, .int .u64 0, .int .u64 0, .int .u64 0, .int .u64 0, .int .u64 0, .int .u64 0, .int .u64 0, .int .u64 0, .int .u64 0, .int .u64 0] 74)) V4.heap.size 74 #[.int .u64 1, .int .u64 0, .int .u64 0, .int .u64 0, .int .u64 0, .int .u64 0, .int .u64 0, .int .u64 0, .int .u64 0, .int .u64 0, .int .u64 0, .int .u64 0, .int .u64 0, .int .u64 0, .int .u64 0, .int .u64 0] := Row.new V4 74 #[.int .u64 1, .int .u64 0, .int .u64 0, .int .u64 0, .int .u64 0, .int .u64 0, .int .u64 0, .int .u64 0, .int .u64 0, .int .u64 0, .int .u64 0, .int .u64 0, .int .u64 0, .int .u64 0, .int .u64 0, .int .u64 0]
  replace r2 := r2.alloc (.cells #[.int .u64 1, .int .u64 0, .int .u64 0, .int .u64 0, .int .u64 0, .int .u64 0, .int .u64 0, .int .u64 0, .int .u64 0, .int .u64 0, .int .u64 0, .int .u64 0, .int .u64 0, .int .u64 0, .int .u64 0, .int .u64 0] 74)
  replace rr := rr.alloc (.cells #[.int .u64 1, .int .u64 0, .int .u64 0, .int .u64 0, .int .u64 0, .int .u64 0, .int .u64 0, .int .u64 0, .int .u64 0, .int .u64 0, .int .u64 0, .int .u64 0, .int .u64 0, .int .u64 0, .int .u64 0, .int .u64 0] 74)
  replace r5 := r5.alloc (.cells #[.int .u64 1, .int .u64 0, .int .u64 0, .int .u64 0, .int .u64 0, .int .u64 0, .int .u64 0, .int .u64 0, .int .u64 0, .int .u64 0, .int .u64 0, .int .u64 0, .int .u64 0, .int .u64 0, .int .u64 0, .int .u64 0] 74)
  replace r6 := r6.alloc (.cells #[.int .u64 1, .int .u64 0, .int .u64 0, .int .u64 0, .int .u64 0, .int .u64 0, .int .u64 0, .int .u64 0, .int .u64 0, .int .u64 0, .int .u64 0, .int .u64 0, .int .u64 0, .int .u64 0, .int .u64 0, .int .u64 0] 74)
  replace r7 := r7.alloc (.cells #[.int .u64 1, .int .u64 0, .int .u64 0, .int .u64 0, .int .u64 0, .int .u64 0, .int .u64 0, .int .u64 0, .int .u64 0, .int .u64 0, .int .u64 0, .int .u64 0, .int .u64 0, .int .u64 0, .int .u64 0, .int .u64 0] 74)
  replace hU := hU.alloc (.cells #[.int .u64 1, .int .u64 0, .int .u64 0, .int .u64 0, .int .u64 0, .int .u64 0, .int .u64 0, .int .u64 0, .int .u64 0, .int .u64 0, .int .u64 0, .int .u64 0, .int .u64 0, .int .u64 0, .int .u64 0, .int .u64 0] 74)
  go_upto_region 7 with fail
  obtain ⟨V5, hV5⟩ : ∃ V5, V5 = V4.alloc (.cells #[.int .u64 1, .int .u64 0, .int .u64 0, .int .u64 0, .int .u64 0, .int .u64 0, .int .u64 0, .int .u64 0, .int .u64 0, .int .u64 0, .int .u64 0, .int .u64 0, .int .u64 0, .int .u64 0, .int .u64 0, .int .u64 0] 74) := ⟨_, rfl⟩
  rw [← hV5] at r2 rr r5 r6 r7 r8 hU ⊢
  clear hV5
  rw [zv4] at r8
  clear zv4
  rw [← digs_1, ← HEU.out] at r8
  have MK : ∀ W, Row W (w.heap.size) 76 A → Row W (w.heap.size + 1) 76 (bigs false 0) → Row W (g5) 74 E5 → Row W (g6) 74 E6 → Row W (g6 + 1) 74 E7 → Row W (g6 + 1 + 1) 74 EU → Up w.heap.size w W → Row W (w.heap.size) 76 A ∧ Row W (w.heap.size + 1) 76 (bigs false 0) ∧ Row W (g5) 74 E5 ∧ Row W (g6) 74 E6 ∧ Row W (g6 + 1) 74 E7 ∧ Row W (g6 + 1 + 1) 74 EU ∧ Up w.heap.size w W ∧ W.cell? ⟨w.heap.size, 0, none⟩ = some (.bool false) := fun W k0 k1 k2 k3 k4 k5 k6 => ⟨k0, k1, k2, k3, k4, k5, k6, by rw [k0.cell, zeroC HA]⟩
  have MK := hid MK
  refine wp_region_noPanic ?_
  refine wp_region_held_drew (S := fun W => Row W (w.heap.size) 76 A ∧ Row W (w.heap.size + 1) 76 (bigs false 0) ∧ Row W (g5) 74 E5 ∧ Row W (g6) 74 E6 ∧ Row W (g6 + 1) 74 E7 ∧ Row W (g6 + 1 + 1) 74 EU ∧ Up w.heap.size w W ∧ W.cell? ⟨w.heap.size, 0, none⟩ = some (.bool false)) (by kernel_rfl) (MK.out _ r2.drew rr.drew r5.drew r6.drew r7.drew r8.drew hU.drew) (fun hHeld => ?_)
  refine wpAnyH_take (i := 0) (oi := { dst := some 28, op := Op.load 74 (Operand.tmp 7), type := 74, pos := "ref.go:221", after := #[], guard := none }) (v := .agg E7) rfl (by kernel_rfl) (by kernel_rfl) (by kernel_rfl) (fun _ _ _ h => h) (Or.inl ⟨by rfl, fun W hW => exec_load_row 74 _ rfl (g6 + 1) rfl 74 E7 _ Tryd.underlying74 rfl (size_De HE7) W hW.2.2.2.2.1⟩) hHeld ?_
  try simp only [Act.put, List.setIfInBounds_toArray, List.set_cons_zero, List.set_cons_succ]
  refine wpAnyH_take (i := 1) (oi := { dst := some 29, op := Op.load 74 (Operand.tmp 7), type := 74, pos := "ref.go:221", after := #[], guard := none }) (v := .agg E7) rfl (by kernel_rfl) (by kernel_rfl) (by kernel_rfl) (fun _ _ _ h => h) (Or.inl ⟨by rfl, fun W hW => exec_load_row 74 _ rfl (g6 + 1) rfl 74 E7 _ Tryd.underlying74 rfl (size_De HE7) W hW.2.2.2.2.1⟩) hHeld ?_
  try simp only [Act.put, List.setIfInBounds_toArray, List.set_cons_zero, List.set_cons_succ]
  refine wpAnyH_take (i := 3) (oi := { dst := some 31, op := Op.load 74 (Operand.tmp 5), type := 74, pos := "ref.go:221", after := #[], guard := none }) (v := .agg E5) rfl (by kernel_rfl) (by kernel_rfl) (by kernel_rfl) (fun _ _ _ h => h) (Or.inl ⟨by rfl, fun W hW => exec_load_row 74 _ rfl (g5) rfl 74 E5 _ Tryd.underlying74 rfl (size_De HE5) W hW.2.2.1⟩) hHeld ?_
  try simp only [Act.put, List.setIfInBounds_toArray, List.set_cons_zero, List.set_cons_succ]
  refine wpAnyH_ready (rs := [2]) (by kernel_rfl) (by simp) ?_
  refine AllReadyH.cons (o := { dst := some 30, op := Op.call { callee := Callee.value (Operand.func 87), args := #[Operand.tmp 28, Operand.tmp 29], argTypes := #[74, 74] }, type := 74, pos := "ref.go:221", after := #[{ on := 0, ground := Ground.data }, { on := 1, ground := Ground.data }], guard := none }) rfl (fun K hK => ?_) AllReadyH.nil
  go_simp
  refine Calls.mono (HQA.out _) ?_; rintro e w5 ⟨rfl, hb⟩
  refine hK.out _ _ (MK.out _ ((hHeld.1).mod (Mod.of_below hb Nil) (fun hf => hf)) ((hHeld.2.1).mod (Mod.of_below hb Nil) (fun hf => hf)) ((hHeld.2.2.1).mod (Mod.of_below hb Nil) (fun hf => hf)) ((hHeld.2.2.2.1).mod (Mod.of_below hb Nil) (fun hf => hf)) ((hHeld.2.2.2.2.1).mod (Mod.of_below hb Nil) (fun hf => hf)) ((hHeld.2.2.2.2.2.1).mod (Mod.of_below hb Nil) (fun hf => hf)) ((hHeld.2.2.2.2.2.2.1).trans hb)) (fun hHeld => ?_)
  clear hK K
  try simp only [Act.put, List.setIfInBounds_toArray, List.set_cons_zero, List.set_cons_succ]
  refine wpAnyH_ready (rs := [4]) (by kernel_rfl) (by simp) ?_
  refine AllReadyH.cons (o := { dst := some 32, op := Op.call { callee := Callee.value (Operand.func 88), args := #[Operand.tmp 30, Operand.tmp 31], argTypes := #[74, 74] }, type := 3, pos := "ref.go:221", after := #[{ on := 2, ground := Ground.data }, { on := 3, ground := Ground.data }, { on := 2, ground := Ground.chain }], guard := none }) rfl (fun K hK => ?_) AllReadyH.nil
  go_simp
  refine Calls.mono (HQC.out _) ?_; rintro e w6 ⟨rfl, hb⟩
  refine hK.out _ _ (MK.out _ ((hHeld.1).mod (Mod.of_below hb Nil) (fun hf => hf)) ((hHeld.2.1).mod (Mod.of_below hb Nil) (fun hf => hf)) ((hHeld.2.2.1).mod (Mod.of_below hb Nil) (fun hf => hf)) ((hHeld.2.2.2.1).mod (Mod.of_below hb Nil) (fun hf => hf)) ((hHeld.2.2.2.2.1).mod (Mod.of_below hb Nil) (fun hf => hf)) ((hHeld.2.2.2.2.2.1).mod (Mod.of_below hb Nil) (fun hf => hf)) ((hHeld.2.2.2.2.2.2.1).trans hb)) (fun hHeld => ?_)
  clear hK K
  try simp only [Act.put, List.setIfInBounds_toArray, List.set_cons_zero, List.set_cons_succ]
  refine wpAnyH_take (i := 5) (oi := { dst := some 9, op := Op.assign (Operand.tmp 32), type := 3, pos := "ref.go:221", after := #[{ on := 4, ground := Ground.data }, { on := 4, ground := Ground.chain }, { on := 0, ground := Ground.phase }, { on := 1, ground := Ground.phase }, { on := 2, ground := Ground.phase }, { on := 3, ground := Ground.phase }, { on := 4, ground := Ground.phase }], guard := none }) (v := ?_) rfl (by kernel_rfl) (by kernel_rfl) (by kernel_rfl) (fun _ _ _ h => h) (Or.inl ⟨by rfl, ?_⟩) hHeld ?_
  rotate_left
  · intro w' hSw; (try dsimp only at hSw); go_simp <;> with_reducible rfl
  try simp only [Act.put, List.setIfInBounds_toArray, List.set_cons_zero, List.set_cons_succ]
  refine wpAnyH_done (by kernel_rfl) ?_ _
  refine NoPanic.normal ?_
  replace r2 := hHeld.1
  replace rr := hHeld.2.1
  replace r5 := hHeld.2.2.1
  replace r6 := hHeld.2.2.2.1
  replace r7 := hHeld.2.2.2.2.1
  replace r8 := hHeld.2.2.2.2.2.1
  replace hU := hHeld.2.2.2.2.2.2.1
  clear MK hHeld r5 r7
  have c6 := r6.cell 0
  rw [HE6.out, digs_get _ (by decide), ← HQ0.out] at c6
  have hp1 : ((q0 : Int) % 2 == 1) = true := by have := HP.out; simp; omega
  go_upto_region 9 with fail
  clear c6 hp1
  go_wp2_with (first | (refine wpList_load_row rfl 74 (.tmp 6) rfl (g6) rfl 74 E6 (0, 0) _ r6 Tryd.underlying74 rfl (size_De HE6) ?_) | (refine wpList_load_row rfl 74 (.tmp 8) rfl (g6 + 1 + 1) rfl 74 EU (0, 0) _ r8 Tryd.underlying74 rfl (size_De HEU) ?_))
  refine Calls.mono (HQU.out _) ?_; rintro e w7 ⟨rfl, hb⟩
  replace r2 := (r2).mod (Mod.of_below hb Nil) (fun hf => hf)
  replace rr := (rr).mod (Mod.of_below hb Nil) (fun hf => hf)
  replace r6 := (r6).mod (Mod.of_below hb Nil) (fun hf => hf)
  replace hU := hU.trans hb
  clear hb r8
  go_upto_region 10 with (refine wpList_store_row rfl 74 (.tmp 6) _ rfl (g6) E9 rfl rfl 74 E6 r6 (size_De HE9) (by rw [sizeE HE6, sizeE HE9]) (oneE HE9) ?_)
  obtain ⟨V7, hV7⟩ : ∃ V7, V7 = w7.setRow g6 E9 := ⟨_, rfl⟩
  replace r2 := r2.farRow (g' := g6) (by omega) E9
  replace rr := rr.farRow (g' := g6) (by omega) E9
  replace r6 := r6.putRow E9
  replace hU := hU.setRow (p := g6) (by omega) E9
  rw [← hV7] at r2 rr r6 hU ⊢
  clear hV7
  have MK : ∀ W, Row W (w.heap.size) 76 A → Row W (g6) 74 E9 → (∃ cs : Array Value, Row W (w.heap.size + 1) 76 cs ∧ cs.size = 17) → Up w.heap.size w W → Row W (w.heap.size) 76 A ∧ Row W (g6) 74 E9 ∧ (∃ cs : Array Value, Row W (w.heap.size + 1) 76 cs ∧ cs.size = 17) ∧ Up w.heap.size w W ∧ W.cell? ⟨w.heap.size, 0, none⟩ = some (.bool false) := fun W k0 k1 k2 k3 => ⟨k0, k1, k2, k3, by rw [k0.cell, zeroC HA]⟩
  have MK := hid MK
  refine wp_region_noPanic ?_
  refine wp_region_held_drew (S := fun W => Row W (w.heap.size) 76 A ∧ Row W (g6) 74 E9 ∧ (∃ cs : Array Value, Row W (w.heap.size + 1) 76 cs ∧ cs.size = 17) ∧ Up w.heap.size w W ∧ W.cell? ⟨w.heap.size, 0, none⟩ = some (.bool false)) (by kernel_rfl) (MK.out _ r2.drew r6.drew ⟨_, rr.drew, bigs_size _ _⟩ hU.drew) (fun hHeld => ?_)
  refine wpAnyH_take (i := 0) (oi := { dst := some 48, op := Op.fieldAddr 76 (Operand.tmp 2) 0, type := 0, pos := "ref.go:225", after := #[], guard := none }) (v := ?_) rfl (by kernel_rfl) (by kernel_rfl) (by kernel_rfl) (fun _ _ _ h => h) (Or.inl ⟨by rfl, ?_⟩) hHeld ?_
  rotate_left
  · intro w' hSw; (try dsimp only at hSw); go_simp <;> with_reducible rfl
  try simp only [Act.put, List.setIfInBounds_toArray, List.set_cons_zero, List.set_cons_succ]
  refine wpAnyH_take (i := 1) (oi := { dst := some 49, op := Op.load 4 (Operand.tmp 48), type := 4, pos := "ref.go:225", after := #[{ on := 0, ground := Ground.data }], guard := none }) (v := ?_) rfl (by kernel_rfl) (by kernel_rfl) (by kernel_rfl) (fun _ _ _ h => h) (Or.inl ⟨by rfl, ?_⟩) hHeld ?_
  rotate_left
  · intro w' hSw; (try dsimp only at hSw); go_simp <;> with_reducible rfl
  try simp only [Act.put, List.setIfInBounds_toArray, List.set_cons_zero, List.set_cons_succ]
  refine wpAnyH_take (i := 2) (oi := { dst := some 50, op := Op.move (Operand.tmp 49), type := 4, pos := "ref.go:225", after := #[{ on := 1, ground := Ground.data }], guard := none }) (v := ?_) rfl (by kernel_rfl) (by kernel_rfl) (by kernel_rfl) (fun _ _ _ h => h) (Or.inl ⟨by rfl, ?_⟩) hHeld ?_
  rotate_left
  · intro w' hSw; (try dsimp only at hSw); go_simp <;> with_reducible rfl
  try simp only [Act.put, List.setIfInBounds_toArray, List.set_cons_zero, List.set_cons_succ]
  refine wpAnyH_take (i := 3) (oi := { dst := some 51, op := Op.load 74 (Operand.tmp 6), type := 74, pos := "ref.go:225", after := #[{ on := 2, ground := Ground.guard }], guard := some (2, true) }) (v := undef) rfl (by kernel_rfl) (by kernel_rfl) (by kernel_rfl) (fun _ _ _ h => h) (Or.inr ⟨by rfl, rfl⟩) hHeld ?_
  try simp only [Act.put, List.setIfInBounds_toArray, List.set_cons_zero, List.set_cons_succ]
  refine wpAnyH_take (i := 4) (oi := { dst := some 52, op := Op.call { callee := Callee.value (Operand.func 64), args := #[Operand.tmp 51], argTypes := #[74] }, type := 4, pos := "ref.go:225", after := #[{ on := 3, ground := Ground.data }, { on := 2, ground := Ground.chain }, { on := 2, ground := Ground.guard }], guard := some (2, true) }) (v := undef) rfl (by kernel_rfl) (by kernel_rfl) (by kernel_rfl) (fun _ _ _ h => h) (Or.inr ⟨by rfl, rfl⟩) hHeld ?_
  try simp only [Act.put, List.setIfInBounds_toArray, List.set_cons_zero, List.set_cons_succ]
  refine wpAnyH_take (i := 5) (oi := { dst := some 53, op := Op.unOp UnOp.not 4 (Operand.tmp 52), type := 4, pos := "ref.go:225", after := #[{ on := 4, ground := Ground.data }, { on := 2, ground := Ground.guard }], guard := some (2, true) }) (v := undef) rfl (by kernel_rfl) (by kernel_rfl) (by kernel_rfl) (fun _ _ _ h => h) (Or.inr ⟨by rfl, rfl⟩) hHeld ?_
  try simp only [Act.put, List.setIfInBounds_toArray, List.set_cons_zero, List.set_cons_succ]
  refine wpAnyH_take (i := 6) (oi := { dst := some 54, op := Op.pick (Operand.tmp 50) (Operand.tmp 53) (Operand.const (Value.bool false)), type := 4, pos := "ref.go:225", after := #[{ on := 2, ground := Ground.data }, { on := 5, ground := Ground.data }], guard := none }) (v := ?_) rfl (by kernel_rfl) (by kernel_rfl) (by kernel_rfl) (fun _ _ _ h => h) (Or.inl ⟨by rfl, ?_⟩) hHeld ?_
  rotate_left
  · intro w' hSw; (try dsimp only at hSw); go_simp <;> with_reducible rfl
  try simp only [Act.put, List.setIfInBounds_toArray, List.set_cons_zero, List.set_cons_succ]
  refine wpAnyH_take (i := 7) (oi := { dst := some 55, op := Op.load 74 (Operand.tmp 6), type := 74, pos := "ref.go:225", after := #[], guard := none }) (v := .agg E9) rfl (by kernel_rfl) (by kernel_rfl) (by kernel_rfl) (fun _ _ _ h => h) (Or.inl ⟨by rfl, fun W hW => exec_load_row 74 _ rfl (g6) rfl 74 E9 _ Tryd.underlying74 rfl (size_De HE9) W hW.2.1⟩) hHeld ?_
  try simp only [Act.put, List.setIfInBounds_toArray, List.set_cons_zero, List.set_cons_succ]
  refine wpAnyH_take (i := 8) (oi := { dst := some 56, op := Op.build 76 #[(0, Operand.tmp 54), (1, Operand.tmp 55)], type := 76, pos := "ref.go:225", after := #[{ on := 6, ground := Ground.data }, { on := 7, ground := Ground.data }], guard := none }) (v := .agg C) rfl (by kernel_rfl) (by kernel_rfl) (by kernel_rfl) (fun _ _ _ h => h) (Or.inl ⟨by rfl, fun W hW => exec_build_C HC HE9 _ _ rfl rfl rfl⟩) hHeld ?_
  try simp only [Act.put, List.setIfInBounds_toArray, List.set_cons_zero, List.set_cons_succ]
  obtain ⟨cs, hcs, hcz⟩ := hHeld.2.2.1
  refine wpAnyH_ready (rs := [9]) (by kernel_rfl) (by simp) ?_
  refine AllReadyH.cons (o := { dst := none, op := Op.store 76 (Operand.tmp 4) (Operand.tmp 56), type := 0, pos := "ref.go:225", after := #[{ on := 8, ground := Ground.data }, { on := 4, ground := Ground.chain }, { on := 0, ground := Ground.phase }, { on := 1, ground := Ground.phase }, { on := 2, ground := Ground.phase }, { on := 3, ground := Ground.phase }, { on := 4, ground := Ground.phase }, { on := 5, ground := Ground.phase }, { on := 6, ground := Ground.phase }, { on := 7, ground := Ground.phase }, { on := 8, ground := Ground.phase }], guard := none }) rfl (fun K hK => ?_) AllReadyH.nil
  refine (if_pos (by rfl)).mpr ?_
  refine wp_store_row 76 _ _ rfl (w.heap.size + 1) C rfl rfl 76 cs hcs (size_Bn (sizeC HC)) (by rw [hcz, sizeC HC]) (oneC HC) ?_
  refine hK.out _ _ (MK.out _ ((hHeld.1).farRow (by omega) C) ((hHeld.2.1).farRow (by omega) C) (⟨C, hcs.putRow C, sizeC HC⟩) ((hHeld.2.2.2.1).setRow (by omega) C)) (fun hHeld => ?_)
  clear hK K
  try simp only [Act.put, List.setIfInBounds_toArray, List.set_cons_zero, List.set_cons_succ]
  refine wpAnyH_done (by kernel_rfl) ?_ _
  refine NoPanic.normal ?_
  go_wp2_with fail
  exact bodyPost_ret (v := .agg C) (results_cell_row Tryd.results66 _ _ (w.heap.size + 1) 76 C (0, 0) _ rfl (hcs.putRow _) Tryd.underlying76 rfl (size_Bn (sizeC HC))) rfl ⟨rfl, hHeld.2.2.2.1.below⟩

set_option maxRecDepth 100000 in
set_option maxHeartbeats 4000000 in
theorem round_U2_t (w : World) (n q r d : Nat) (k : Int) (hn : n < BP 14) (hk : 0 < k ∧ k ≤ 77) (hd : d = 10 ^ k.toNat) (hq : q = n / d) (hr : r = n % d) (hc : cmpN (r + r) d = 0) (hp : dg q 0 % 2 = 1) :
    Calls Tryd.prog 66 #[BigV true n, .int .i64 k] w fun e w' => e = .returned (BigV (!decide (q + 1 = 0)) (q + 1)) ∧ Below w.heap.size w w' := by
  have hd0 : 0 < d := by rw [hd]; exact Nat.pow_pos (by decide)
  have hd8 : d < BP 8 := by rw [hd]; exact ten_small (by omega)
  have h14 : BP 15 = BP 14 * 4294967296 := BP_succ 14
  have h15 : BP 16 = BP 15 * 4294967296 := BP_succ 15
  have h8 : BP 8 ≤ BP 14 := BP_le (by decide)
  have hqn : q ≤ n := by rw [hq]; exact Nat.div_le_self _ _
  have hrd : r < d := by rw [hr]; exact Nat.mod_lt _ hd0
  have QT := fun w => rten_any w k (by omega)
  rw [← hd] at QT
  have QD := fun w => rdiv_any w n d (by omega) (by omega) hd0
  rw [← hq, ← hr] at QD
  have QA := fun w => radd_any w r r (by omega)
  have QC := fun w => rcmp_any w (r + r) d (by omega) (by omega)
  rw [hc] at QC
  have QU := fun w => radd_any w q 1 (by omega)
  have QZ := fun w => rzero_any w (q + 1) (by omega)
  obtain ⟨u, hu⟩ : ∃ u, u = q + 1 := ⟨_, rfl⟩
  rw [← hu] at QU QZ ⊢
  obtain ⟨z, hz⟩ : ∃ z, z = decide (u = 0) := ⟨_, rfl⟩
  rw [← hz] at QZ
  rw [← hz]
  unfold BigV
  unfold DV at QT QD QA QC QZ QU
  have lq : dg q 0 < 4294967296 := dg_lt q 0
  obtain ⟨q0, hq0⟩ : ∃ x, x = dg q 0 := ⟨_, rfl⟩
  rw [← hq0] at lq hp
  obtain ⟨A, hA⟩ : ∃ X, X = bigs true n := ⟨_, rfl⟩
  obtain ⟨E0, hE0⟩ : ∃ X, X = digs n := ⟨_, rfl⟩
  obtain ⟨E5, hE5⟩ : ∃ X, X = digs d := ⟨_, rfl⟩
  obtain ⟨E6, hE6⟩ : ∃ X, X = digs q := ⟨_, rfl⟩
  obtain ⟨E7, hE7⟩ : ∃ X, X = digs r := ⟨_, rfl⟩
  obtain ⟨E8, hE8⟩ : ∃ X, X = digs (r + r) := ⟨_, rfl⟩
  obtain ⟨E9, hE9⟩ : ∃ X, X = digs u := ⟨_, rfl⟩
  obtain ⟨C, hC⟩ : ∃ X, X = bigs (!z) u := ⟨_, rfl⟩
  obtain ⟨EU, hEU⟩ : ∃ X, X = digs 1 := ⟨_, rfl⟩
  rw [← hE5] at QT
  rw [← hE0, ← hE5, ← hE6, ← hE7] at QD
  rw [← hE7, ← hE8] at QA
  rw [← hE8, ← hE5] at QC
  rw [← hE9] at QZ
  rw [← hE6, ← hEU, ← hE9] at QU
  rw [← hC, ← hA]
  have HA := hid hA
  have HE0 := hid hE0
  have HE5 := hid hE5
  have HE6 := hid hE6
  have HE7 := hid hE7
  have HE8 := hid hE8
  have HE9 := hid hE9
  have HC := hid hC
  have HEU := hid hEU
  have HQT := hid QT
  have HQD := hid QD
  have HQA := hid QA
  have HQC := hid QC
  have HQZ := hid QZ
  have HQU := hid QU
  have HQ0 := hid hq0
  have HK := hid hk
  have HP := hid hp
  clear QT QD QA QC QZ QU hA hE0 hE5 hE6 hE7 hE8 hE9 hC hEU hq0 hd0 hd8 h14 h15 h8 hqn hrd hn hd hq hr hc hu hz hp
  have r2 := (Row.new w 76 A).alloc (.cells (bigs false 0) 76)
  have rr := Row.new (w.alloc (.cells A 76)) 76 (bigs false 0)
  have hU := ((Up.refl w).alloc (.cells A 76)).alloc (.cells (bigs false 0) 76)
  simp only [alloc_size] at rr
  have hk1 : ¬ k ≤ 0 := by omega
  have hk2 : (0 : Int) < k := by omega
  go_enter Tryd.func66, Tryd.ntmps66
  go_upto_region 3 with fail
  obtain ⟨V, hV⟩ : ∃ V, V = (w.alloc (.cells A 76)).alloc (.cells (bigs false 0) 76) := ⟨_, rfl⟩
  rw [bigs_0] at hV
  rw [← hV]
  rw [← bigs_0] at hV
  rw [← hV] at r2 rr hU
  clear hV hk1 hk2 hk
  go_wp2_with fail
  refine Calls.mono (HQT.out _) ?_; rintro e w1 ⟨rfl, hb⟩
  have z1 := hb.size
  have l1 := rr.lt
  replace r2 := (r2).mod (Mod.of_below hb Nil) (fun hf => hf)
  replace rr := (rr).mod (Mod.of_below hb Nil) (fun hf => hf)
  replace hU := hU.trans hb
  clear hb
  have n5 := Row.new w1 74 #[.int .u64 0, .int .u64 0, .int .u64 0, .int .u64 0, .int .u64 0, .int .u64 0, .int .u64 0, .int .u64 0, .int .u64 0, .int .u64 0, .int .u64 0, .int .u64 0, .int .u64 0, .int .u64 0, .int .u64 0, .int .u64 0]
  have r5 := n5.putRow E5
  replace r2 := (r2.alloc (.cells #[.int .u64 0, .int .u64 0, .int .u64 0, .int .u64 0, .int .u64 0, .int .u64 0, .int .u64 0, .int .u64 0, .int .u64 0, .int .u64 0, .int .u64 0, .int .u64 0, .int .u64 0, .int .u64 0, .int .u64 0, .int .u64 0] 74)).farRow (g' := w1.heap.size) (by omega) E5
  replace rr := (rr.alloc (.cells #[.int .u64 0, .int .u64 0, .int .u64 0, .int .u64 0, .int .u64 0, .int .u64 0, .int .u64 0, .int .u64 0, .int .u64 0, .int .u64 0, .int .u64 0, .int .u64 0, .int .u64 0, .int .u64 0, .int .u64 0, .int .u64 0] 74)).farRow (g' := w1.heap.size) (by omega) E5
  replace hU := (hU.alloc (.cells #[.int .u64 0, .int .u64 0, .int .u64 0, .int .u64 0, .int .u64 0, .int .u64 0, .int .u64 0, .int .u64 0, .int .u64 0, .int .u64 0, .int .u64 0, .int .u64 0, .int .u64 0, .int .u64 0, .int .u64 0, .int .u64 0] 74)).setRow (p := w1.heap.size) (by omega) E5
  go_upto_region 4 with (refine wpList_store_row rfl 74 _ _ rfl (w1.heap.size) E5 rfl rfl 74 #[.int .u64 0, .int .u64 0, .int .u64 0, .int .u64 0, .int .u64 0, .int .u64 0, .int .u64 0, .int .u64 0, .int .u64 0, .int .u64 0, .int .u64 0, .int .u64 0, .int .u64 0, .int .u64 0, .int .u64 0, .int .u64 0] n5 (size_De HE5) (sizeE HE5).symm (oneE HE5) ?_)
  obtain ⟨V1, hV1⟩ : ∃ V1, V1 = (w1.alloc (.cells #[.int .u64 0, .int .u64 0, .int .u64 0, .int .u64 0, .int .u64 0, .int .u64 0, .int .u64 0, .int .u64 0, .int .u64 0, .int .u64 0, .int .u64 0, .int .u64 0, .int .u64 0, .int .u64 0, .int .u64 0, .int .u64 0] 74)).setRow w1.heap.size E5 := ⟨_, rfl⟩
  rw [← hV1] at r2 rr r5 hU ⊢
  have zv1 : V1.heap.size = w1.heap.size + 1 := by rw [hV1, setRow_size, alloc_size]
  clear hV1 n5
  obtain ⟨g5, hg5⟩ : ∃ g, g = w1.heap.size := ⟨_, rfl⟩
  rw [← hg5] at r5 z1 zv1 ⊢
  clear hg5
  go_wp2_with (first | (refine wpList_load_E rfl HA HE0 (.tmp 21) rfl (w.heap.size) rfl 76 r2 ?_) | (refine wpList_load_row rfl 74 (.tmp 5) rfl (g5) rfl 74 E5 (0, 0) _ r5 Tryd.underlying74 rfl (size_De HE5) ?_))
  refine Calls.mono (HQD.out _) ?_; rintro e w4 ⟨rfl, hb⟩
  have z4 := hb.size
  replace r2 := (r2).mod (Mod.of_below hb Nil) (fun hf => hf)
  replace rr := (rr).mod (Mod.of_below hb Nil) (fun hf => hf)
  replace r5 := (r5).mod (Mod.of_below hb Nil) (fun hf => hf)
  replace hU := hU.trans hb
  clear hb
  have n6 := (Row.new w4 74 #[.int .u64 0, .int .u64 0, .int .u64 0, .int .u64 0, .int .u64 0, .int .u64 0, .int .u64 0, .int .u64 0, .int .u64 0, .int .u64 0, .int .u64 0, .int .u64 0, .int .u64 0, .int .u64 0, .int .u64 0, .int .u64 0]).alloc (.cells #[.int .u64 0, .int .u64 0, .int .u64 0, .int .u64 0, .int .u64 0, .int .u64 0, .int .u64 0, .int .u64 0, .int .u64 0, .int .u64 0, .int .u64 0, .int .u64 0, .int .u64 0, .int .u64 0, .int .u64 0, .int .u64 0] 74)
  have n7 := Row.new (w4.alloc (.cells #[.int .u64 0, .int .u64 0, .int .u64 0, .int .u64 0, .int .u64 0, .int .u64 0, .int .u64 0, .int .u64 0, .int .u64 0, .int .u64 0, .int .u64 0, .int .u64 0, .int .u64 0, .int .u64 0, .int .u64 0, .int .u64 0] 74)) 74 #[.int .u64 0, .int .u64 0, .int .u64 0, .int .u64 0, .int .u64 0, .int .u64 0, .int .u64 0, .int .u64 0, .int .u64 0, .int .u64 0, .int .u64 0, .int .u64 0, .int .u64 0, .int .u64 0, .int .u64 0, .int .u64 0]
  simp only [alloc_size] at n7
  have r6 := (n6.putRow E6).farRow (g' := w4.heap.size + 1) (by omega) E7
  have m7 := n7.farRow (g' := w4.heap.size) (by omega) E6
  have r7 := m7.putRow E7
  replace r2 := ((r2.alloc (.cells #[.int .u64 0, .int .u64 0, .int .u64 0, .int .u64 0, .int .u64 0, .int .u64 0, .int .u64 0, .int .u64 0, .int .u64 0, .int .u64 0, .int .u64 0, .int .u64 0, .int .u64 0, .int .u64 0, .int .u64 0, .int .u64 0] 74)).alloc (.cells #[.int .u64 0, .int .u64 0, .int .u64 0, .int .u64 0, .int .u64 0, .int .u64 0, .int .u64 0, .int .u64 0, .int .u64 0, .int .u64 0, .int .u64 0, .int .u64 0, .int .u64 0, .int .u64 0, .int .u64 0, .int .u64 0] 74)).farRow (g' := w4.heap.size) (by omega) E6 |>.farRow (g' := w4.heap.size + 1) (by omega) E7
  replace rr := ((rr.alloc (.cells #[.int .u64 0, .int .u64 0, .int .u64 0, .int .u64 0, .int .u64 0, .int .u64 0, .int .u64 0, .int .u64 0, .int .u64 0, .int .u64 0, .int .u64 0, .int .u64 0, .int .u64 0, .int .u64 0, .int .u64 0, .int .u64 0] 74)).alloc (.cells #[.int .u64 0, .int .u64 0, .int .u64 0, .int .u64 0, .int .u64 0, .int .u64 0, .int .u64 0, .int .u64 0, .int .u64 0, .int .u64 0, .int .u64 0, .int .u64 0, .int .u64 0, .int .u64 0, .int .u64 0, .int .u64 0] 74)).farRow (g' := w4.heap.size) (by omega) E6 |>.farRow (g' := w4.heap.size + 1) (by omega) E7
  replace r5 := ((r5.alloc (.cells #[.int .u64 0, .int .u64 0, .int .u64 0, .int .u64 0, .int .u64 0, .int .u64 0, .int .u64 0, .int .u64 0, .int .u64 0, .int .u64 0, .int .u64 0, .int .u64 0, .int .u64 0, .int .u64 0, .int .u64 0, .int .u64 0] 74)).alloc (.cells #[.int .u64 0, .int .u64 0, .int .u64 0, .int .u64 0, .int .u64 0, .int .u64 0, .int .u64 0, .int .u64 0, .int .u64 0, .int .u64 0, .int .u64 0, .int .u64 0, .int .u64 0, .int .u64 0, .int .u64 0, .int .u64 0] 74)).farRow (g' := w4.heap.size) (by omega) E6 |>.farRow (g' := w4.heap.size + 1) (by omega) E7
  replace hU := (((hU.alloc (.cells #[.int .u64 0, .int .u64 0, .int .u64 0, .int .u64 0, .int .u64 0, .int .u64 0, .int .u64 0, .int .u64 0, .int .u64 0, .int .u64 0, .int .u64 0, .int .u64 0, .int .u64 0, .int .u64 0, .int .u64 0, .int .u64 0] 74)).alloc (.cells #[.int .u64 0, .int .u64 0, .int .u64 0, .int .u64 0, .int .u64 0, .int .u64 0, .int .u64 0, .int .u64 0, .int .u64 0, .int .u64 0, .int .u64 0, .int .u64 0, .int .u64 0, .int .u64 0, .int .u64 0, .int .u64 0] 74)).setRow (p := w4.heap.size) (by omega) E6).setRow (p := w4.heap.size + 1) (by omega) E7
  go_upto_region 5 with (first | (refine wpList_store_row rfl 74 (.tmp 6) (.tmp 25) rfl (w4.heap.size) E6 rfl rfl 74 #[.int .u64 0, .int .u64 0, .int .u64 0, .int .u64 0, .int .u64 0, .int .u64 0, .int .u64 0, .int .u64 0, .int .u64 0, .int .u64 0, .int .u64 0, .int .u64 0, .int .u64 0, .int .u64 0, .int .u64 0, .int .u64 0] n6 (size_De HE6) (sizeE HE6).symm (oneE HE6) ?_) | (refine wpList_store_row rfl 74 (.tmp 7) (.tmp 26) rfl (w4.heap.size + 1) E7 rfl rfl 74 #[.int .u64 0, .int .u64 0, .int .u64 0, .int .u64 0, .int .u64 0, .int .u64 0, .int .u64 0, .int .u64 0, .int .u64 0, .int .u64 0, .int .u64 0, .int .u64 0, .int .u64 0, .int .u64 0, .int .u64 0, .int .u64 0] m7 (size_De HE7) (sizeE HE7).symm (oneE HE7) ?_))
  obtain ⟨V4, hV4⟩ : ∃ V4, V4 = (((w4.alloc (.cells #[.int .u64 0, .int .u64 0, .int .u64 0, .int .u64 0, .int .u64 0, .int .u64 0, .int .u64 0, .int .u64 0, .int .u64 0, .int .u64 0, .int .u64 0, .int .u64 0, .int .u64 0, .int .u64 0, .int .u64 0, .int .u64 0] 74)).alloc (.cells #[.int .u64 0, .int .u64 0, .int .u64 0, .int .u64 0, .int .u64 0, .int .u64 0, .int .u64 0, .int .u64 0, .int .u64 0, .int .u64 0, .int .u64 0, .int .u64 0, .int .u64 0, .int .u64 0, .int .u64 0, .int .u64 0] 74)).setRow w4.heap.size E6).setRow (w4.heap.size + 1) E7 := ⟨_, rfl⟩
  rw [← hV4] at r2 rr r5 r6 r7 hU ⊢
  have zv4 : V4.heap.size = w4.heap.size + 1 + 1 := by rw [hV4, setRow_size, setRow_size, alloc_size, alloc_size]
  clear hV4 n6 n7 m7
  obtain ⟨g6, hg6⟩ : ∃ g, g = w4.heap.size := ⟨_, rfl⟩
  rw [← hg6] at r6 r7 z4 zv4 ⊢
  clear hg6
  have r8 : Row (V4.alloc (.cells #[.int .u64 1, .int .u64 0, .int .u64 0, .int .u64 0, .int .u64 0, .int .u64 0, .int .u64 0, .int .u64 0, .int .u64 0, .int .u64 0, .int .u64 0, .int .u64 0, .int .u64 0, .int .u64 0, .int .u64 0, .int .u64 0] 74)) V4.heap.size 74 #[.int .u64 1, .int .u64 0, .int .u64 0, .int .u64 0, .int .u64 0, .int .u64 0, .int .u64 0, .int .u64 0, .int .u64 0, .int .u64 0, .int .u64 0, .int .u64 0, .int .u64 0, .int .u64 0, .int .u64 0, .int .u64 0] := Row.new V4 74 #[.int .u64 1, .int .u64 0, .int .u64 0, .int .u64 0, .int .u64 0, .int .u64 0, .int .u64 0, .int .u64 0, .int .u64 0, .int .u64 0, .int .u64 0, .int .u64 0, .int .u64 0, .int .u64 0, .int .u64 0, .int .u64 0]
  replace r2 := r2.alloc (.cells #[.int .u64 1, .int .u64 0, .int .u64 0, .int .u64 0, .int .u64 0, .int .u64 0, .int .u64 0, .int .u64 0, .int .u64 0, .int .u64 0, .int .u64 0, .int .u64 0, .int .u64 0, .int .u64 0, .int .u64 0, .int .u64 0] 74)
  replace rr := rr.alloc (.cells #[.int .u64 1, .int .u64 0, .int .u64 0, .int .u64 0, .int .u64 0, .int .u64 0, .int .u64 0, .int .u64 0, .int .u64 0, .int .u64 0, .int .u64 0, .int .u64 0, .int .u64 0, .int .u64 0, .int .u64 0, .int .u64 0] 74)
  replace r5 := r5.alloc (.cells #[.int .u64 1, .int .u64 0, .int .u64 0, .int .u64 0, .int .u64 0, .int .u64 0, .int .u64 0, .int .u64 0, .int .u64 0, .int .u64 0, .int .u64 0, .int .u64 0, .int .u64 0, .int .u64 0, .int .u64 0, .int .u64 0] 74)
  replace r6 := r6.alloc (.cells #[.int .u64 1, .int .u64 0, .int .u64 0, .int .u64 0, .int .u64 0, .int .u64 0, .int .u64 0, .int .u64 0, .int .u64 0, .int .u64 0, .int .u64 0, .int .u64 0, .int .u64 0, .int .u64 0, .int .u64 0, .int .u64 0] 74)
  replace r7 := r7.alloc (.cells #[.int .u64 1, .int .u64 0, .int .u64 0, .int .u64 0, .int .u64 0, .int .u64 0, .int .u64 0, .int .u64 0, .int .u64 0, .int .u64 0, .int .u64 0, .int .u64 0, .int .u64 0, .int .u64 0, .int .u64 0, .int .u64 0] 74)
  replace hU := hU.alloc (.cells #[.int .u64 1, .int .u64 0, .int .u64 0, .int .u64 0, .int .u64 0, .int .u64 0, .int .u64 0, .int .u64 0, .int .u64 0, .int .u64 0, .int .u64 0, .int .u64 0, .int .u64 0, .int .u64 0, .int .u64 0, .int .u64 0] 74)
  go_upto_region 7 with fail
  obtain ⟨V5, hV5⟩ : ∃ V5, V5 = V4.alloc (.cells #[.int .u64 1, .int .u64 0, .int .u64 0, .int .u64 0, .int .u64 0, .int .u64 0, .int .u64 0, .int .u64 0, .int .u64 0, .int .u64 0, .int .u64 0, .int .u64 0, .int .u64 0, .int .u64 0, .int .u64 0, .int .u64 0] 74) := ⟨_, rfl⟩
  rw [← hV5] at r2 rr r5 r6 r7 r8 hU ⊢
  clear hV5
  rw [zv4] at r8
  clear zv4
  rw [← digs_1, ← HEU.out] at r8
  have MK : ∀ W, Row W (w.heap.size) 76 A → Row W (w.heap.size + 1) 76 (bigs false 0) → Row W (g5) 74 E5 → Row W (g6) 74 E6 → Row W (g6 + 1) 74 E7 → Row W (g6 + 1 + 1) 74 EU → Up w.heap.size w W → Row W (w.heap.size) 76 A ∧ Row W (w.heap.size + 1) 76 (bigs false 0) ∧ Row W (g5) 74 E5 ∧ Row W (g6) 74 E6 ∧ Row W (g6 + 1) 74 E7 ∧ Row W (g6 + 1 + 1) 74 EU ∧ Up w.heap.size w W ∧ W.cell? ⟨w.heap.size, 0, none⟩ = some (.bool true) := fun W k0 k1 k2 k3 k4 k5 k6 => ⟨k0, k1, k2, k3, k4, k5, k6, by rw [k0.cell, zeroC HA]⟩
  have MK := hid MK
  refine wp_region_noPanic ?_
  refine wp_region_held_drew (S := fun W => Row W (w.heap.size) 76 A ∧ Row W (w.heap.size + 1) 76 (bigs false 0) ∧ Row W (g5) 74 E5 ∧ Row W (g6) 74 E6 ∧ Row W (g6 + 1) 74 E7 ∧ Row W (g6 + 1 + 1) 74 EU ∧ Up w.heap.size w W ∧ W.cell? ⟨w.heap.size, 0, none⟩ = some (.bool true)) (by kernel_rfl) (MK.out _ r2.drew rr.drew r5.drew r6.drew r7.drew r8.drew hU.drew) (fun hHeld => ?_)
  refine wpAnyH_take (i := 0) (oi := { dst := some 28, op := Op.load 74 (Operand.tmp 7), type := 74, pos := "ref.go:221", after := #[], guard := none }) (v := .agg E7) rfl (by kernel_rfl) (by kernel_rfl) (by kernel_rfl) (fun _ _ _ h => h) (Or.inl ⟨by rfl, fun W hW => exec_load_row 74 _ rfl (g6 + 1) rfl 74 E7 _ Tryd.underlying74 rfl (size_De HE7) W hW.2.2.2.2.1⟩) hHeld ?_
  try simp only [Act.put, List.setIfInBounds_toArray, List.set_cons_zero, List.set_cons_succ]
  refine wpAnyH_take (i := 1) (oi := { dst := some 29, op := Op.load 74 (Operand.tmp 7), type := 74, pos := "ref.go:221", after := #[], guard := none }) (v := .agg E7) rfl (by kernel_rfl) (by kernel_rfl) (by kernel_rfl) (fun _ _ _ h => h) (Or.inl ⟨by rfl, fun W hW => exec_load_row 74 _ rfl (g6 + 1) rfl 74 E7 _ Tryd.underlying74 rfl (size_De HE7) W hW.2.2.2.2.1⟩) hHeld ?_
  try simp only [Act.put, List.setIfInBounds_toArray, List.set_cons_zero, List.set_cons_succ]
  refine wpAnyH_take (i := 3) (oi := { dst := some 31, op := Op.load 74 (Operand.tmp 5), type := 74, pos := "ref.go:221", after := #[], guard := none }) (v := .agg E5) rfl (by kernel_rfl) (by kernel_rfl) (by kernel_rfl) (fun _ _ _ h => h) (Or.inl ⟨by rfl, fun W hW => exec_load_row 74 _ rfl (g5) rfl 74 E5 _ Tryd.underlying74 rfl (size_De HE5) W hW.2.2.1⟩) hHeld ?_
  try simp only [Act.put, List.setIfInBounds_toArray, List.set_cons_zero, List.set_cons_succ]
  refine wpAnyH_ready (rs := [2]) (by kernel_rfl) (by simp) ?_
  refine AllReadyH.cons (o := { dst := some 30, op := Op.call { callee := Callee.value (Operand.func 87), args := #[Operand.tmp 28, Operand.tmp 29], argTypes := #[74, 74] }, type := 74, pos := "ref.go:221", after := #[{ on := 0, ground := Ground.data }, { on := 1, ground := Ground.data }], guard := none }) rfl (fun K hK => ?_) AllReadyH.nil
  go_simp
  refine Calls.mono (HQA.out _) ?_; rintro e w5 ⟨rfl, hb⟩
  refine hK.out _ _ (MK.out _ ((hHeld.1).mod (Mod.of_below hb Nil) (fun hf => hf)) ((hHeld.2.1).mod (Mod.of_below hb Nil) (fun hf => hf)) ((hHeld.2.2.1).mod (Mod.of_below hb Nil) (fun hf => hf)) ((hHeld.2.2.2.1).mod (Mod.of_below hb Nil) (fun hf => hf)) ((hHeld.2.2.2.2.1).mod (Mod.of_below hb Nil) (fun hf => hf)) ((hHeld.2.2.2.2.2.1).mod (Mod.of_below hb Nil) (fun hf => hf)) ((hHeld.2.2.2.2.2.2.1).trans hb)) (fun hHeld => ?_)
  clear hK K
  try simp only [Act.put, List.setIfInBounds_toArray, List.set_cons_zero, List.set_cons_succ]
  refine wpAnyH_ready (rs := [4]) (by kernel_rfl) (by simp) ?_
  refine AllReadyH.cons (o := { dst := some 32, op := Op.call { callee := Callee.value (Operand.func 88), args := #[Operand.tmp 30, Operand.tmp 31], argTypes := #[74, 74] }, type := 3, pos := "ref.go:221", after := #[{ on := 2, ground := Ground.data }, { on := 3, ground := Ground.data }, { on := 2, ground := Ground.chain }], guard := none }) rfl (fun K hK => ?_) AllReadyH.nil
  go_simp
  refine Calls.mono (HQC.out _) ?_; rintro e w6 ⟨rfl, hb⟩
  refine hK.out _ _ (MK.out _ ((hHeld.1).mod (Mod.of_below hb Nil) (fun hf => hf)) ((hHeld.2.1).mod (Mod.of_below hb Nil) (fun hf => hf)) ((hHeld.2.2.1).mod (Mod.of_below hb Nil) (fun hf => hf)) ((hHeld.2.2.2.1).mod (Mod.of_below hb Nil) (fun hf => hf)) ((hHeld.2.2.2.2.1).mod (Mod.of_below hb Nil) (fun hf => hf)) ((hHeld.2.2.2.2.2.1).mod (Mod.of_below hb Nil) (fun hf => hf)) ((hHeld.2.2.2.2.2.2.1).trans hb)) (fun hHeld => ?_)
  clear hK K
  try simp only [Act.put, List.setIfInBounds_toArray, List.set_cons_zero, List.set_cons_succ]
  refine wpAnyH_take (i := 5) (oi := { dst := some 9, op := Op.assign (Operand.tmp 32), type := 3, pos := "ref.go:221", after := #[{ on := 4, ground := Ground.data }, { on := 4, ground := Ground.chain }, { on := 0, ground := Ground.phase }, { on := 1, ground := Ground.phase }, { on := 2, ground := Ground.phase }, { on := 3, ground := Ground.phase }, { on := 4, ground := Ground.phase }], guard := none }) (v := ?_) rfl (by kernel_rfl) (by kernel_rfl) (by kernel_rfl) (fun _ _ _ h => h) (Or.inl ⟨by rfl, ?_⟩) hHeld ?_
  rotate_left
  · intro w' hSw; (try dsimp only at hSw); go_simp <;> with_reducible rfl
  try simp only [Act.put, List.setIfInBounds_toArray, List.set_cons_zero, List.set_cons_succ]
  refine wpAnyH_done (by kernel_rfl) ?_ _
  refine NoPanic.normal ?_
  replace r2 := hHeld.1
  replace rr := hHeld.2.1
  replace r5 := hHeld.2.2.1
  replace r6 := hHeld.2.2.2.1
  replace r7 := hHeld.2.2.2.2.1
  replace r8 := hHeld.2.2.2.2.2.1
  replace hU := hHeld.2.2.2.2.2.2.1
  clear MK hHeld r5 r7
  have c6 := r6.cell 0
  rw [HE6.out, digs_get _ (by decide), ← HQ0.out] at c6
  have hp1 : ((q0 : Int) % 2 == 1) = true := by have := HP.out; simp; omega
  go_upto_region 9 with fail
  clear c6 hp1
  go_wp2_with (first | (refine wpList_load_row rfl 74 (.tmp 6) rfl (g6) rfl 74 E6 (0, 0) _ r6 Tryd.underlying74 rfl (size_De HE6) ?_) | (refine wpList_load_row rfl 74 (.tmp 8) rfl (g6 + 1 + 1) rfl 74 EU (0, 0) _ r8 Tryd.underlying74 rfl (size_De HEU) ?_))
  refine Calls.mono (HQU.out _) ?_; rintro e w7 ⟨rfl, hb⟩
  replace r2 := (r2).mod (Mod.of_below hb Nil) (fun hf => hf)
  replace rr := (rr).mod (Mod.of_below hb Nil) (fun hf => hf)
  replace r6 := (r6).mod (Mod.of_below hb Nil) (fun hf => hf)
  replace hU := hU.trans hb
  clear hb r8
  go_upto_region 10 with (refine wpList_store_row rfl 74 (.tmp 6) _ rfl (g6) E9 rfl rfl 74 E6 r6 (size_De HE9) (by rw [sizeE HE6, sizeE HE9]) (oneE HE9) ?_)
  obtain ⟨V7, hV7⟩ : ∃ V7, V7 = w7.setRow g6 E9 := ⟨_, rfl⟩
  replace r2 := r2.farRow (g' := g6) (by omega) E9
  replace rr := rr.farRow (g' := g6) (by omega) E9
  replace r6 := r6.putRow E9
  replace hU := hU.setRow (p := g6) (by omega) E9
  rw [← hV7] at r2 rr r6 hU ⊢
  clear hV7
  have MK : ∀ W, Row W (w.heap.size) 76 A → Row W (g6) 74 E9 → (∃ cs : Array Value, Row W (w.heap.size + 1) 76 cs ∧ cs.size = 17) → Up w.heap.size w W → Row W (w.heap.size) 76 A ∧ Row W (g6) 74 E9 ∧ (∃ cs : Array Value, Row W (w.heap.size + 1) 76 cs ∧ cs.size = 17) ∧ Up w.heap.size w W ∧ W.cell? ⟨w.heap.size, 0, none⟩ = some (.bool true) := fun W k0 k1 k2 k3 => ⟨k0, k1, k2, k3, by rw [k0.cell, zeroC HA]⟩
  have MK := hid MK
  refine wp_region_noPanic ?_
  refine wp_region_held_drew (S := fun W => Row W (w.heap.size) 76 A ∧ Row W (g6) 74 E9 ∧ (∃ cs : Array Value, Row W (w.heap.size + 1) 76 cs ∧ cs.size = 17) ∧ Up w.heap.size w W ∧ W.cell? ⟨w.heap.size, 0, none⟩ = some (.bool true)) (by kernel_rfl) (MK.out _ r2.drew r6.drew ⟨_, rr.drew, bigs_size _ _⟩ hU.drew) (fun hHeld => ?_)
  refine wpAnyH_take (i := 0) (oi := { dst := some 48, op := Op.fieldAddr 76 (Operand.tmp 2) 0, type := 0, pos := "ref.go:225", after := #[], guard := none }) (v := ?_) rfl (by kernel_rfl) (by kernel_rfl) (by kernel_rfl) (fun _ _ _ h => h) (Or.inl ⟨by rfl, ?_⟩) hHeld ?_
  rotate_left
  · intro w' hSw; (try dsimp only at hSw); go_simp <;> with_reducible rfl
  try simp only [Act.put, List.setIfInBounds_toArray, List.set_cons_zero, List.set_cons_succ]
  refine wpAnyH_take (i := 1) (oi := { dst := some 49, op := Op.load 4 (Operand.tmp 48), type := 4, pos := "ref.go:225", after := #[{ on := 0, ground := Ground.data }], guard := none }) (v := ?_) rfl (by kernel_rfl) (by kernel_rfl) (by kernel_rfl) (fun _ _ _ h => h) (Or.inl ⟨by rfl, ?_⟩) hHeld ?_
  rotate_left
  · intro w' hSw; (try dsimp only at hSw); go_simp <;> with_reducible rfl
  try simp only [Act.put, List.setIfInBounds_toArray, List.set_cons_zero, List.set_cons_succ]
  refine wpAnyH_take (i := 2) (oi := { dst := some 50, op := Op.move (Operand.tmp 49), type := 4, pos := "ref.go:225", after := #[{ on := 1, ground := Ground.data }], guard := none }) (v := ?_) rfl (by kernel_rfl) (by kernel_rfl) (by kernel_rfl) (fun _ _ _ h => h) (Or.inl ⟨by rfl, ?_⟩) hHeld ?_
  rotate_left
  · intro w' hSw; (try dsimp only at hSw); go_simp <;> with_reducible rfl
  try simp only [Act.put, List.setIfInBounds_toArray, List.set_cons_zero, List.set_cons_succ]
  refine wpAnyH_take (i := 3) (oi := { dst := some 51, op := Op.load 74 (Operand.tmp 6), type := 74, pos := "ref.go:225", after := #[{ on := 2, ground := Ground.guard }], guard := some (2, true) }) (v := .agg E9) rfl (by kernel_rfl) (by kernel_rfl) (by kernel_rfl) (fun _ _ _ h => h) (Or.inl ⟨by rfl, fun W hW => exec_load_row 74 _ rfl (g6) rfl 74 E9 _ Tryd.underlying74 rfl (size_De HE9) W hW.2.1⟩) hHeld ?_
  try simp only [Act.put, List.setIfInBounds_toArray, List.set_cons_zero, List.set_cons_succ]
  refine wpAnyH_take (i := 7) (oi := { dst := some 55, op := Op.load 74 (Operand.tmp 6), type := 74, pos := "ref.go:225", after := #[], guard := none }) (v := .agg E9) rfl (by kernel_rfl) (by kernel_rfl) (by kernel_rfl) (fun _ _ _ h => h) (Or.inl ⟨by rfl, fun W hW => exec_load_row 74 _ rfl (g6) rfl 74 E9 _ Tryd.underlying74 rfl (size_De HE9) W hW.2.1⟩) hHeld ?_
  try simp only [Act.put, List.setIfInBounds_toArray, List.set_cons_zero, List.set_cons_succ]
  refine wpAnyH_ready (rs := [4]) (by kernel_rfl) (by simp) ?_
  refine AllReadyH.cons (o := { dst := some 52, op := Op.call { callee := Callee.value (Operand.func 64), args := #[Operand.tmp 51], argTypes := #[74] }, type := 4, pos := "ref.go:225", after := #[{ on := 3, ground := Ground.data }, { on := 2, ground := Ground.chain }, { on := 2, ground := Ground.guard }], guard := some (2, true) }) rfl (fun K hK => ?_) AllReadyH.nil
  go_simp
  refine Calls.mono (HQZ.out _) ?_; rintro e w8 ⟨rfl, hb⟩
  refine hK.out _ _ (MK.out _ ((hHeld.1).mod (Mod.of_below hb Nil) (fun hf => hf)) ((hHeld.2.1).mod (Mod.of_below hb Nil) (fun hf => hf)) ((by obtain ⟨cs, h1, h2⟩ := hHeld.2.2.1; exact ⟨cs, (h1).mod (Mod.of_below hb Nil) (fun hf => hf), h2⟩)) ((hHeld.2.2.2.1).trans hb)) (fun hHeld => ?_)
  clear hK K
  try simp only [Act.put, List.setIfInBounds_toArray, List.set_cons_zero, List.set_cons_succ]
  refine wpAnyH_take (i := 5) (oi := { dst := some 53, op := Op.unOp UnOp.not 4 (Operand.tmp 52), type := 4, pos := "ref.go:225", after := #[{ on := 4, ground := Ground.data }, { on := 2, ground := Ground.guard }], guard := some (2, true) }) (v := ?_) rfl (by kernel_rfl) (by kernel_rfl) (by kernel_rfl) (fun _ _ _ h => h) (Or.inl ⟨by rfl, ?_⟩) hHeld ?_
  rotate_left
  · intro w' hSw; (try dsimp only at hSw); go_simp <;> with_reducible rfl
  try simp only [Act.put, List.setIfInBounds_toArray, List.set_cons_zero, List.set_cons_succ]
  refine wpAnyH_take (i := 6) (oi := { dst := some 54, op := Op.pick (Operand.tmp 50) (Operand.tmp 53) (Operand.const (Value.bool false)), type := 4, pos := "ref.go:225", after := #[{ on := 2, ground := Ground.data }, { on := 5, ground := Ground.data }], guard := none }) (v := ?_) rfl (by kernel_rfl) (by kernel_rfl) (by kernel_rfl) (fun _ _ _ h => h) (Or.inl ⟨by rfl, ?_⟩) hHeld ?_
  rotate_left
  · intro w' hSw; (try dsimp only at hSw); go_simp <;> with_reducible rfl
  try simp only [Act.put, List.setIfInBounds_toArray, List.set_cons_zero, List.set_cons_succ]
  refine wpAnyH_take (i := 8) (oi := { dst := some 56, op := Op.build 76 #[(0, Operand.tmp 54), (1, Operand.tmp 55)], type := 76, pos := "ref.go:225", after := #[{ on := 6, ground := Ground.data }, { on := 7, ground := Ground.data }], guard := none }) (v := .agg C) rfl (by kernel_rfl) (by kernel_rfl) (by kernel_rfl) (fun _ _ _ h => h) (Or.inl ⟨by rfl, fun W hW => exec_build_C HC HE9 _ _ rfl rfl rfl⟩) hHeld ?_
  try simp only [Act.put, List.setIfInBounds_toArray, List.set_cons_zero, List.set_cons_succ]
  obtain ⟨cs, hcs, hcz⟩ := hHeld.2.2.1
  refine wpAnyH_ready (rs := [9]) (by kernel_rfl) (by simp) ?_
  refine AllReadyH.cons (o := { dst := none, op := Op.store 76 (Operand.tmp 4) (Operand.tmp 56), type := 0, pos := "ref.go:225", after := #[{ on := 8, ground := Ground.data }, { on := 4, ground := Ground.chain }, { on := 0, ground := Ground.phase }, { on := 1, ground := Ground.phase }, { on := 2, ground := Ground.phase }, { on := 3, ground := Ground.phase }, { on := 4, ground := Ground.phase }, { on := 5, ground := Ground.phase }, { on := 6, ground := Ground.phase }, { on := 7, ground := Ground.phase }, { on := 8, ground := Ground.phase }], guard := none }) rfl (fun K hK => ?_) AllReadyH.nil
  refine (if_pos (by rfl)).mpr ?_
  refine wp_store_row 76 _ _ rfl (w.heap.size + 1) C rfl rfl 76 cs hcs (size_Bn (sizeC HC)) (by rw [hcz, sizeC HC]) (oneC HC) ?_
  refine hK.out _ _ (MK.out _ ((hHeld.1).farRow (by omega) C) ((hHeld.2.1).farRow (by omega) C) (⟨C, hcs.putRow C, sizeC HC⟩) ((hHeld.2.2.2.1).setRow (by omega) C)) (fun hHeld => ?_)
  clear hK K
  try simp only [Act.put, List.setIfInBounds_toArray, List.set_cons_zero, List.set_cons_succ]
  refine wpAnyH_done (by kernel_rfl) ?_ _
  refine NoPanic.normal ?_
  go_wp2_with fail
  exact bodyPost_ret (v := .agg C) (results_cell_row Tryd.results66 _ _ (w.heap.size + 1) 76 C (0, 0) _ rfl (hcs.putRow _) Tryd.underlying76 rfl (size_Bn (sizeC HC))) rfl ⟨rfl, hHeld.2.2.2.1.below⟩

set_option maxRecDepth 100000 in
set_option maxHeartbeats 4000000 in
theorem round_N1_f (w : World) (n q r d : Nat) (k : Int) (hn : n < BP 14) (hk : 0 < k ∧ k ≤ 77) (hd : d = 10 ^ k.toNat) (hq : q = n / d) (hr : r = n % d) (hc : cmpN (r + r) d = 0) (hp : dg q 0 % 2 = 0) :
    Calls Tryd.prog 66 #[BigV false n, .int .i64 k] w fun e w' => e = .returned (BigV false (q)) ∧ Below w.heap.size w w' := by
  have hd0 : 0 < d := by rw [hd]; exact Nat.pow_pos (by decide)
  have hd8 : d < BP 8 := by rw [hd]; exact ten_small (by omega)
  have h14 : BP 15 = BP 14 * 4294967296 := BP_succ 14
  have h15 : BP 16 = BP 15 * 4294967296 := BP_succ 15
  have h8 : BP 8 ≤ BP 14 := BP_le (by decide)
  have hqn : q ≤ n := by rw [hq]; exact Nat.div_le_self _ _
  have hrd : r < d := by rw [hr]; exact Nat.mod_lt _ hd0
  have QT := fun w => rten_any w k (by omega)
  rw [← hd] at QT
  have QD := fun w => rdiv_any w n d (by omega) (by omega) hd0
  rw [← hq, ← hr] at QD
  have QA := fun w => radd_any w r r (by omega)
  have QC := fun w => rcmp_any w (r + r) d (by omega) (by omega)
  rw [hc] at QC
  have QZ := fun w => rzero_any w (q) (by omega)
  obtain ⟨u, hu⟩ : ∃ u, u = q := ⟨_, rfl⟩
  have HEQ := hid hu.symm
  rw [← hu] at QZ ⊢
  obtain ⟨z, hz⟩ : ∃ z, z = decide (u = 0) := ⟨_, rfl⟩
  rw [← hz] at QZ
  unfold BigV
  unfold DV at QT QD QA QC QZ
  have lq : dg q 0 < 4294967296 := dg_lt q 0
  obtain ⟨q0, hq0⟩ : ∃ x, x = dg q 0 := ⟨_, rfl⟩
  rw [← hq0] at lq hp
  obtain ⟨A, hA⟩ : ∃ X, X = bigs false n := ⟨_, rfl⟩
  obtain ⟨E0, hE0⟩ : ∃ X, X = digs n := ⟨_, rfl⟩
  obtain ⟨E5, hE5⟩ : ∃ X, X = digs d := ⟨_, rfl⟩
  obtain ⟨E6, hE6⟩ : ∃ X, X = digs q := ⟨_, rfl⟩
  obtain ⟨E7, hE7⟩ : ∃ X, X = digs r := ⟨_, rfl⟩
  obtain ⟨E8, hE8⟩ : ∃ X, X = digs (r + r) := ⟨_, rfl⟩
  obtain ⟨E9, hE9⟩ : ∃ X, X = digs u := ⟨_, rfl⟩
  obtain ⟨C, hC⟩ : ∃ X, X = bigs false u := ⟨_, rfl⟩
  rw [← hE5] at QT
  rw [← hE0, ← hE5, ← hE6, ← hE7] at QD
  rw [← hE7, ← hE8] at QA
  rw [← hE8, ← hE5] at QC
  rw [← hE9] at QZ
  rw [← hC, ← hA]
  have HA := hid hA
  have HE0 := hid hE0
  have HE5 := hid hE5
  have HE6 := hid hE6
  have HE7 := hid hE7
  have HE8 := hid hE8
  have HE9 := hid hE9
  have HC := hid hC
  have HQT := hid QT
  have HQD := hid QD
  have HQA := hid QA
  have HQC := hid QC
  have HQZ := hid QZ
  have HQ0 := hid hq0
  have HK := hid hk
  have HP := hid hp
  clear QT QD QA QC QZ hA hE0 hE5 hE6 hE7 hE8 hE9 hC hq0 hd0 hd8 h14 h15 h8 hqn hrd hn hd hq hr hc hu hz hp
  have r2 := (Row.new w 76 A).alloc (.cells (bigs false 0) 76)
  have rr := Row.new (w.alloc (.cells A 76)) 76 (bigs false 0)
  have hU := ((Up.refl w).alloc (.cells A 76)).alloc (.cells (bigs false 0) 76)
  simp only [alloc_size] at rr
  have hk1 : ¬ k ≤ 0 := by omega
  have hk2 : (0 : Int) < k := by omega
  go_enter Tryd.func66, Tryd.ntmps66
  go_upto_region 3 with fail
  obtain ⟨V, hV⟩ : ∃ V, V = (w.alloc (.cells A 76)).alloc (.cells (bigs false 0) 76) := ⟨_, rfl⟩
  rw [bigs_0] at hV
  rw [← hV]
  rw [← bigs_0] at hV
  rw [← hV] at r2 rr hU
  clear hV hk1 hk2 hk
  go_wp2_with fail
  refine Calls.mono (HQT.out _) ?_; rintro e w1 ⟨rfl, hb⟩
  have z1 := hb.size
  have l1 := rr.lt
  replace r2 := (r2).mod (Mod.of_below hb Nil) (fun hf => hf)
  replace rr := (rr).mod (Mod.of_below hb Nil) (fun hf => hf)
  replace hU := hU.trans hb
  clear hb
  have n5 := Row.new w1 74 #[.int .u64 0, .int .u64 0, .int .u64 0, .int .u64 0, .int .u64 0, .int .u64 0, .int .u64 0, .int .u64 0, .int .u64 0, .int .u64 0, .int .u64 0, .int .u64 0, .int .u64 0, .int .u64 0, .int .u64 0, .int .u64 0]
  have r5 := n5.putRow E5
  replace r2 := (r2.alloc (.cells #[.int .u64 0, .int .u64 0, .int .u64 0, .int .u64 0, .int .u64 0, .int .u64 0, .int .u64 0, .int .u64 0, .int .u64 0, .int .u64 0, .int .u64 0, .int .u64 0, .int .u64 0, .int .u64 0, .int .u64 0, .int .u64 0] 74)).farRow (g' := w1.heap.size) (by omega) E5
  replace rr := (rr.alloc (.cells #[.int .u64 0, .int .u64 0, .int .u64 0, .int .u64 0, .int .u64 0, .int .u64 0, .int .u64 0, .int .u64 0, .int .u64 0, .int .u64 0, .int .u64 0, .int .u64 0, .int .u64 0, .int .u64 0, .int .u64 0, .int .u64 0] 74)).farRow (g' := w1.heap.size) (by omega) E5
  replace hU := (hU.alloc (.cells #[.int .u64 0, .int .u64 0, .int .u64 0, .int .u64 0, .int .u64 0, .int .u64 0, .int .u64 0, .int .u64 0, .int .u64 0, .int .u64 0, .int .u64 0, .int .u64 0, .int .u64 0, .int .u64 0, .int .u64 0, .int .u64 0] 74)).setRow (p := w1.heap.size) (by omega) E5
  go_upto_region 4 with (refine wpList_store_row rfl 74 _ _ rfl (w1.heap.size) E5 rfl rfl 74 #[.int .u64 0, .int .u64 0, .int .u64 0, .int .u64 0, .int .u64 0, .int .u64 0, .int .u64 0, .int .u64 0, .int .u64 0, .int .u64 0, .int .u64 0, .int .u64 0, .int .u64 0, .int .u64 0, .int .u64 0, .int .u64 0] n5 (size_De HE5) (sizeE HE5).symm (oneE HE5) ?_)
  obtain ⟨V1, hV1⟩ : ∃ V1, V1 = (w1.alloc (.cells #[.int .u64 0, .int .u64 0, .int .u64 0, .int .u64 0, .int .u64 0, .int .u64 0, .int .u64 0, .int .u64 0, .int .u64 0, .int .u64 0, .int .u64 0, .int .u64 0, .int .u64 0, .int .u64 0, .int .u64 0, .int .u64 0] 74)).setRow w1.heap.size E5 := ⟨_, rfl⟩
  rw [← hV1] at r2 rr r5 hU ⊢
  have zv1 : V1.heap.size = w1.heap.size + 1 := by rw [hV1, setRow_size, alloc_size]
  clear hV1 n5
  obtain ⟨g5, hg5⟩ : ∃ g, g = w1.heap.size := ⟨_, rfl⟩
  rw [← hg5] at r5 z1 zv1 ⊢
  clear hg5
  go_wp2_with (first | (refine wpList_load_E rfl HA HE0 (.tmp 21) rfl (w.heap.size) rfl 76 r2 ?_) | (refine wpList_load_row rfl 74 (.tmp 5) rfl (g5) rfl 74 E5 (0, 0) _ r5 Tryd.underlying74 rfl (size_De HE5) ?_))
  refine Calls.mono (HQD.out _) ?_; rintro e w4 ⟨rfl, hb⟩
  have z4 := hb.size
  replace r2 := (r2).mod (Mod.of_below hb Nil) (fun hf => hf)
  replace rr := (rr).mod (Mod.of_below hb Nil) (fun hf => hf)
  replace r5 := (r5).mod (Mod.of_below hb Nil) (fun hf => hf)
  replace hU := hU.trans hb
  clear hb
  have n6 := (Row.new w4 74 #[.int .u64 0, .int .u64 0, .int .u64 0, .int .u64 0, .int .u64 0, .int .u64 0, .int .u64 0, .int .u64 0, .int .u64 0, .int .u64 0, .int .u64 0, .int .u64 0, .int .u64 0, .int .u64 0, .int .u64 0, .int .u64 0]).alloc (.cells #[.int .u64 0, .int .u64 0, .int .u64 0, .int .u64 0, .int .u64 0, .int .u64 0, .int .u64 0, .int .u64 0, .int .u64 0, .int .u64 0, .int .u64 0, .int .u64 0, .int .u64 0, .int .u64 0, .int .u64 0, .int .u64 0] 74)
  have n7 := Row.new (w4.alloc (.cells #[.int .u64 0, .int .u64 0, .int .u64 0, .int .u64 0, .int .u64 0, .int .u64 0, .int .u64 0, .int .u64 0, .int .u64 0, .int .u64 0, .int .u64 0, .int .u64 0, .int .u64 0, .int .u64 0, .int .u64 0, .int .u64 0] 74)) 74 #[.int .u64 0, .int .u64 0, .int .u64 0, .int .u64 0, .int .u64 0, .int .u64 0, .int .u64 0, .int .u64 0, .int .u64 0, .int .u64 0, .int .u64 0, .int .u64 0, .int .u64 0, .int .u64 0, .int .u64 0, .int .u64 0]
  simp only [alloc_size] at n7
  have r6 := (n6.putRow E6).farRow (g' := w4.heap.size + 1) (by omega) E7
  have m7 := n7.farRow (g' := w4.heap.size) (by omega) E6
  have r7 := m7.putRow E7
  replace r2 := ((r2.alloc (.cells #[.int .u64 0, .int .u64 0, .int .u64 0, .int .u64 0, .int .u64 0, .int .u64 0, .int .u64 0, .int .u64 0, .int .u64 0, .int .u64 0, .int .u64 0, .int .u64 0, .int .u64 0, .int .u64 0, .int .u64 0, .int .u64 0] 74)).alloc (.cells #[.int .u64 0, .int .u64 0, .int .u64 0, .int .u64 0, .int .u64 0, .int .u64 0, .int .u64 0, .int .u64 0, .int .u64 0, .int .u64 0, .int .u64 0, .int .u64 0, .int .u64 0, .int .u64 0, .int .u64 0, .int .u64 0] 74)).farRow (g' := w4.heap.size) (by omega) E6 |>.farRow (g' := w4.heap.size + 1) (by omega) E7
  replace rr := ((rr.alloc (.cells #[.int .u64 0, .int .u64 0, .int .u64 0, .int .u64 0, .int .u64 0, .int .u64 0, .int .u64 0, .int .u64 0, .int .u64 0, .int .u64 0, .int .u64 0, .int .u64 0, .int .u64 0, .int .u64 0, .int .u64 0, .int .u64 0] 74)).alloc (.cells #[.int .u64 0, .int .u64 0, .int .u64 0, .int .u64 0, .int .u64 0, .int .u64 0, .int .u64 0, .int .u64 0, .int .u64 0, .int .u64 0, .int .u64 0, .int .u64 0, .int .u64 0, .int .u64 0, .int .u64 0, .int .u64 0] 74)).farRow (g' := w4.heap.size) (by omega) E6 |>.farRow (g' := w4.heap.size + 1) (by omega) E7
  replace r5 := ((r5.alloc (.cells #[.int .u64 0, .int .u64 0, .int .u64 0, .int .u64 0, .int .u64 0, .int .u64 0, .int .u64 0, .int .u64 0, .int .u64 0, .int .u64 0, .int .u64 0, .int .u64 0, .int .u64 0, .int .u64 0, .int .u64 0, .int .u64 0] 74)).alloc (.cells #[.int .u64 0, .int .u64 0, .int .u64 0, .int .u64 0, .int .u64 0, .int .u64 0, .int .u64 0, .int .u64 0, .int .u64 0, .int .u64 0, .int .u64 0, .int .u64 0, .int .u64 0, .int .u64 0, .int .u64 0, .int .u64 0] 74)).farRow (g' := w4.heap.size) (by omega) E6 |>.farRow (g' := w4.heap.size + 1) (by omega) E7
  replace hU := (((hU.alloc (.cells #[.int .u64 0, .int .u64 0, .int .u64 0, .int .u64 0, .int .u64 0, .int .u64 0, .int .u64 0, .int .u64 0, .int .u64 0, .int .u64 0, .int .u64 0, .int .u64 0, .int .u64 0, .int .u64 0, .int .u64 0, .int .u64 0] 74)).alloc (.cells #[.int .u64 0, .int .u64 0, .int .u64 0, .int .u64 0, .int .u64 0, .int .u64 0, .int .u64 0, .int .u64 0, .int .u64 0, .int .u64 0, .int .u64 0, .int .u64 0, .int .u64 0, .int .u64 0, .int .u64 0, .int .u64 0] 74)).setRow (p := w4.heap.size) (by omega) E6).setRow (p := w4.heap.size + 1) (by omega) E7
  go_upto_region 5 with (first | (refine wpList_store_row rfl 74 (.tmp 6) (.tmp 25) rfl (w4.heap.size) E6 rfl rfl 74 #[.int .u64 0, .int .u64 0, .int .u64 0, .int .u64 0, .int .u64 0, .int .u64 0, .int .u64 0, .int .u64 0, .int .u64 0, .int .u64 0, .int .u64 0, .int .u64 0, .int .u64 0, .int .u64 0, .int .u64 0, .int .u64 0] n6 (size_De HE6) (sizeE HE6).symm (oneE HE6) ?_) | (refine wpList_store_row rfl 74 (.tmp 7) (.tmp 26) rfl (w4.heap.size + 1) E7 rfl rfl 74 #[.int .u64 0, .int .u64 0, .int .u64 0, .int .u64 0, .int .u64 0, .int .u64 0, .int .u64 0, .int .u64 0, .int .u64 0, .int .u64 0, .int .u64 0, .int .u64 0, .int .u64 0, .int .u64 0, .int .u64 0, .int .u64 0] m7 (size_De HE7) (sizeE HE7).symm (oneE HE7) ?_))
  obtain ⟨V4, hV4⟩ : ∃ V4, V4 = (((w4.alloc (.cells #[.int .u64 0, .int .u64 0, .int .u64 0, .int .u64 0, .int .u64 0, .int .u64 0, .int .u64 0, .int .u64 0, .int .u64 0, .int .u64 0, .int .u64 0, .int .u64 0, .int .u64 0, .int .u64 0, .int .u64 0, .int .u64 0] 74)).alloc (.cells #[.int .u64 0, .int .u64 0, .int .u64 0, .int .u64 0, .int .u64 0, .int .u64 0, .int .u64 0, .int .u64 0, .int .u64 0, .int .u64 0, .int .u64 0, .int .u64 0, .int .u64 0, .int .u64 0, .int .u64 0, .int .u64 0] 74)).setRow w4.heap.size E6).setRow (w4.heap.size + 1) E7 := ⟨_, rfl⟩
  rw [← hV4] at r2 rr r5 r6 r7 hU ⊢
  have zv4 : V4.heap.size = w4.heap.size + 1 + 1 := by rw [hV4, setRow_size, setRow_size, alloc_size, alloc_size]
  clear hV4 n6 n7 m7
  obtain ⟨g6, hg6⟩ : ∃ g, g = w4.heap.size := ⟨_, rfl⟩
  rw [← hg6] at r6 r7 z4 zv4 ⊢
  clear hg6
  have r8 : Row (V4.alloc (.cells #[.int .u64 1, .int .u64 0, .int .u64 0, .int .u64 0, .int .u64 0, .int .u64 0, .int .u64 0, .int .u64 0, .int .u64 0, .int .u64 0, .int .u64 0, .int .u64 0, .int .u64 0, .int .u64 0, .int .u64 0, .int .u64 0] 74)) V4.heap.size 74 #[.int .u64 1, .int .u64 0, .int .u64 0, .int .u64 0, .int .u64 0, .int .u64 0, .int .u64 0, .int .u64 0, .int .u64 0, .int .u64 0, .int .u64 0, .int .u64 0, .int .u64 0, .int .u64 0, .int .u64 0, .int .u64 0] := Row.new V4 74 #[.int .u64 1, .int .u64 0, .int .u64 0, .int .u64 0, .int .u64 0, .int .u64 0, .int .u64 0, .int .u64 0, .int .u64 0, .int .u64 0, .int .u64 0, .int .u64 0, .int .u64 0, .int .u64 0, .int .u64 0, .int .u64 0]
  replace r2 := r2.alloc (.cells #[.int .u64 1, .int .u64 0, .int .u64 0, .int .u64 0, .int .u64 0, .int .u64 0, .int .u64 0, .int .u64 0, .int .u64 0, .int .u64 0, .int .u64 0, .int .u64 0, .int .u64 0, .int .u64 0, .int .u64 0, .int .u64 0] 74)
  replace rr := rr.alloc (.cells #[.int .u64 1, .int .u64 0, .int .u64 0, .int .u64 0, .int .u64 0, .int .u64 0, .int .u64 0, .int .u64 0, .int .u64 0, .int .u64 0, .int .u64 0, .int .u64 0, .int .u64 0, .int .u64 0, .int .u64 0, .int .u64 0] 74)
  replace r5 := r5.alloc (.cells #[.int .u64 1, .int .u64 0, .int .u64 0, .int .u64 0, .int .u64 0, .int .u64 0, .int .u64 0, .int .u64 0, .int .u64 0, .int .u64 0, .int .u64 0, .int .u64 0, .int .u64 0, .int .u64 0, .int .u64 0, .int .u64 0] 74)
  replace r6 := r6.alloc (.cells #[.int .u64 1, .int .u64 0, .int .u64 0, .int .u64 0, .int .u64 0, .int .u64 0, .int .u64 0, .int .u64 0, .int .u64 0, .int .u64 0, .int .u64 0, .int .u64 0, .int .u64 0, .int .u64 0, .int .u64 0, .int .u64 0] 74)
  replace r7 := r7.alloc (.cells #[.int .u64 1, .int .u64 0, .int .u64 0, .int .u64 0, .int .u64 0, .int .u64 0, .int .u64 0, .int .u64 0, .int .u64 0, .int .u64 0, .int .u64 0, .int .u64 0, .int .u64 0, .int .u64 0, .int .u64 0, .int .u64 0] 74)
  replace hU := hU.alloc (.cells #[.int .u64 1, .int .u64 0, .int .u64 0, .int .u64 0, .int .u64 0, .int .u64 0, .int .u64 0, .int .u64 0, .int .u64 0, .int .u64 0, .int .u64 0, .int .u64 0, .int .u64 0, .int .u64 0, .int .u64 0, .int .u64 0] 74)
  go_upto_region 7 with fail
  obtain ⟨V5, hV5⟩ : ∃ V5, V5 = V4.alloc (.cells #[.int .u64 1, .int .u64 0, .int .u64 0, .int .u64 0, .int .u64 0, .int .u64 0, .int .u64 0, .int .u64 0, .int .u64 0, .int .u64 0, .int .u64 0, .int .u64 0, .int .u64 0, .int .u64 0, .int .u64 0, .int .u64 0] 74) := ⟨_, rfl⟩
  rw [← hV5] at r2 rr r5 r6 r7 r8 hU ⊢
  clear hV5
  rw [zv4] at r8
  clear zv4
  have MK : ∀ W, Row W (w.heap.size) 76 A → Row W (w.heap.size + 1) 76 (bigs false 0) → Row W (g5) 74 E5 → Row W (g6) 74 E6 → Row W (g6 + 1) 74 E7 → Row W (g6 + 1 + 1) 74 #[.int .u64 1, .int .u64 0, .int .u64 0, .int .u64 0, .int .u64 0, .int .u64 0, .int .u64 0, .int .u64 0, .int .u64 0, .int .u64 0, .int .u64 0, .int .u64 0, .int .u64 0, .int .u64 0, .int .u64 0, .int .u64 0] → Up w.heap.size w W → Row W (w.heap.size) 76 A ∧ Row W (w.heap.size + 1) 76 (bigs false 0) ∧ Row W (g5) 74 E5 ∧ Row W (g6) 74 E6 ∧ Row W (g6 + 1) 74 E7 ∧ Row W (g6 + 1 + 1) 74 #[.int .u64 1, .int .u64 0, .int .u64 0, .int .u64 0, .int .u64 0, .int .u64 0, .int .u64 0, .int .u64 0, .int .u64 0, .int .u64 0, .int .u64 0, .int .u64 0, .int .u64 0, .int .u64 0, .int .u64 0, .int .u64 0] ∧ Up w.heap.size w W ∧ W.cell? ⟨w.heap.size, 0, none⟩ = some (.bool false) := fun W k0 k1 k2 k3 k4 k5 k6 => ⟨k0, k1, k2, k3, k4, k5, k6, by rw [k0.cell, zeroC HA]⟩
  have MK := hid MK
  refine wp_region_noPanic ?_
  refine wp_region_held_drew (S := fun W => Row W (w.heap.size) 76 A ∧ Row W (w.heap.size + 1) 76 (bigs false 0) ∧ Row W (g5) 74 E5 ∧ Row W (g6) 74 E6 ∧ Row W (g6 + 1) 74 E7 ∧ Row W (g6 + 1 + 1) 74 #[.int .u64 1, .int .u64 0, .int .u64 0, .int .u64 0, .int .u64 0, .int .u64 0, .int .u64 0, .int .u64 0, .int .u64 0, .int .u64 0, .int .u64 0, .int .u64 0, .int .u64 0, .int .u64 0, .int .u64 0, .int .u64 0] ∧ Up w.heap.size w W ∧ W.cell? ⟨w.heap.size, 0, none⟩ = some (.bool false)) (by kernel_rfl) (MK.out _ r2.drew rr.drew r5.drew r6.drew r7.drew r8.drew hU.drew) (fun hHeld => ?_)
  refine wpAnyH_take (i := 0) (oi := { dst := some 28, op := Op.load 74 (Operand.tmp 7), type := 74, pos := "ref.go:221", after := #[], guard := none }) (v := .agg E7) rfl (by kernel_rfl) (by kernel_rfl) (by kernel_rfl) (fun _ _ _ h => h) (Or.inl ⟨by rfl, fun W hW => exec_load_row 74 _ rfl (g6 + 1) rfl 74 E7 _ Tryd.underlying74 rfl (size_De HE7) W hW.2.2.2.2.1⟩) hHeld ?_
  try simp only [Act.put, List.setIfInBounds_toArray, List.set_cons_zero, List.set_cons_succ]
  refine wpAnyH_take (i := 1) (oi := { dst := some 29, op := Op.load 74 (Operand.tmp 7), type := 74, pos := "ref.go:221", after := #[], guard := none }) (v := .agg E7) rfl (by kernel_rfl) (by kernel_rfl) (by kernel_rfl) (fun _ _ _ h => h) (Or.inl ⟨by rfl, fun W hW => exec_load_row 74 _ rfl (g6 + 1) rfl 74 E7 _ Tryd.underlying74 rfl (size_De HE7) W hW.2.2.2.2.1⟩) hHeld ?_
  try simp only [Act.put, List.setIfInBounds_toArray, List.set_cons_zero, List.set_cons_succ]
  refine wpAnyH_take (i := 3) (oi := { dst := some 31, op := Op.load 74 (Operand.tmp 5), type := 74, pos := "ref.go:221", after := #[], guard := none }) (v := .agg E5) rfl (by kernel_rfl) (by kernel_rfl) (by kernel_rfl) (fun _ _ _ h => h) (Or.inl ⟨by rfl, fun W hW => exec_load_row 74 _ rfl (g5) rfl 74 E5 _ Tryd.underlying74 rfl (size_De HE5) W hW.2.2.1⟩) hHeld ?_
  try simp only [Act.put, List.setIfInBounds_toArray, List.set_cons_zero, List.set_cons_succ]
  refine wpAnyH_ready (rs := [2]) (by kernel_rfl) (by simp) ?_
  refine AllReadyH.cons (o := { dst := some 30, op := Op.call { callee := Callee.value (Operand.func 87), args := #[Operand.tmp 28, Operand.tmp 29], argTypes := #[74, 74] }, type := 74, pos := "ref.go:221", after := #[{ on := 0, ground := Ground.data }, { on := 1, ground := Ground.data }], guard := none }) rfl (fun K hK => ?_) AllReadyH.nil
  go_simp
  refine Calls.mono (HQA.out _) ?_; rintro e w5 ⟨rfl, hb⟩
  refine hK.out _ _ (MK.out _ ((hHeld.1).mod (Mod.of_below hb Nil) (fun hf => hf)) ((hHeld.2.1).mod (Mod.of_below hb Nil) (fun hf => hf)) ((hHeld.2.2.1).mod (Mod.of_below hb Nil) (fun hf => hf)) ((hHeld.2.2.2.1).mod (Mod.of_below hb Nil) (fun hf => hf)) ((hHeld.2.2.2.2.1).mod (Mod.of_below hb Nil) (fun hf => hf)) ((hHeld.2.2.2.2.2.1).mod (Mod.of_below hb Nil) (fun hf => hf)) ((hHeld.2.2.2.2.2.2.1).trans hb)) (fun hHeld => ?_)
  clear hK K
  try simp only [Act.put, List.setIfInBounds_toArray, List.set_cons_zero, List.set_cons_succ]
  refine wpAnyH_ready (rs := [4]) (by kernel_rfl) (by simp) ?_
  refine AllReadyH.cons (o := { dst := some 32, op := Op.call { callee := Callee.value (Operand.func 88), args := #[Operand.tmp 30, Operand.tmp 31], argTypes := #[74, 74] }, type := 3, pos := "ref.go:221", after := #[{ on := 2, ground := Ground.data }, { on := 3, ground := Ground.data }, { on := 2, ground := Ground.chain }], guard := none }) rfl (fun K hK => ?_) AllReadyH.nil
  go_simp
  refine Calls.mono (HQC.out _) ?_; rintro e w6 ⟨rfl, hb⟩
  refine hK.out _ _ (MK.out _ ((hHeld.1).mod (Mod.of_below hb Nil) (fun hf => hf)) ((hHeld.2.1).mod (Mod.of_below hb Nil) (fun hf => hf)) ((hHeld.2.2.1).mod (Mod.of_below hb Nil) (fun hf => hf)) ((hHeld.2.2.2.1).mod (Mod.of_below hb Nil) (fun hf => hf)) ((hHeld.2.2.2.2.1).mod (Mod.of_below hb Nil) (fun hf => hf)) ((hHeld.2.2.2.2.2.1).mod (Mod.of_below hb Nil) (fun hf => hf)) ((hHeld.2.2.2.2.2.2.1).trans hb)) (fun hHeld => ?_)
  clear hK K
  try simp only [Act.put, List.setIfInBounds_toArray, List.set_cons_zero, List.set_cons_succ]
  refine wpAnyH_take (i := 5) (oi := { dst := some 9, op := Op.assign (Operand.tmp 32), type := 3, pos := "ref.go:221", after := #[{ on := 4, ground := Ground.data }, { on := 4, ground := Ground.chain }, { on := 0, ground := Ground.phase }, { on := 1, ground := Ground.phase }, { on := 2, ground := Ground.phase }, { on := 3, ground := Ground.phase }, { on := 4, ground := Ground.phase }], guard := none }) (v := ?_) rfl (by kernel_rfl) (by kernel_rfl) (by kernel_rfl) (fun _ _ _ h => h) (Or.inl ⟨by rfl, ?_⟩) hHeld ?_
  rotate_left
  · intro w' hSw; (try dsimp only at hSw); go_simp <;> with_reducible rfl
  try simp only [Act.put, List.setIfInBounds_toArray, List.set_cons_zero, List.set_cons_succ]
  refine wpAnyH_done (by kernel_rfl) ?_ _
  refine NoPanic.normal ?_
  replace r2 := hHeld.1
  replace rr := hHeld.2.1
  replace r5 := hHeld.2.2.1
  replace r6 := hHeld.2.2.2.1
  replace r7 := hHeld.2.2.2.2.1
  replace r8 := hHeld.2.2.2.2.2.1
  replace hU := hHeld.2.2.2.2.2.2.1
  clear MK hHeld r5 r7
  have c6 := r6.cell 0
  rw [HE6.out, digs_get _ (by decide), ← HQ0.out] at c6
  have hp1 : ((q0 : Int) % 2 == 1) = false := by have := HP.out; simp; omega
  go_upto_region 10 with fail
  clear c6 hp1
  have E69 : E6 = E9 := by rw [HE6.out, HE9.out]; exact congrArg digs HEQ.out
  rw [E69] at r6
  have MK : ∀ W, Row W (w.heap.size) 76 A → Row W (g6) 74 E9 → (∃ cs : Array Value, Row W (w.heap.size + 1) 76 cs ∧ cs.size = 17) → Up w.heap.size w W → Row W (w.heap.size) 76 A ∧ Row W (g6) 74 E9 ∧ (∃ cs : Array Value, Row W (w.heap.size + 1) 76 cs ∧ cs.size = 17) ∧ Up w.heap.size w W ∧ W.cell? ⟨w.heap.size, 0, none⟩ = some (.bool false) := fun W k0 k1 k2 k3 => ⟨k0, k1, k2, k3, by rw [k0.cell, zeroC HA]⟩
  have MK := hid MK
  refine wp_region_noPanic ?_
  refine wp_region_held_drew (S := fun W => Row W (w.heap.size) 76 A ∧ Row W (g6) 74 E9 ∧ (∃ cs : Array Value, Row W (w.heap.size + 1) 76 cs ∧ cs.size = 17) ∧ Up w.heap.size w W ∧ W.cell? ⟨w.heap.size, 0, none⟩ = some (.bool false)) (by kernel_rfl) (MK.out _ r2.drew r6.drew ⟨_, rr.drew, bigs_size _ _⟩ hU.drew) (fun hHeld => ?_)
  refine wpAnyH_take (i := 0) (oi := { dst := some 48, op := Op.fieldAddr 76 (Operand.tmp 2) 0, type := 0, pos := "ref.go:225", after := #[], guard := none }) (v := ?_) rfl (by kernel_rfl) (by kernel_rfl) (by kernel_rfl) (fun _ _ _ h => h) (Or.inl ⟨by rfl, ?_⟩) hHeld ?_
  rotate_left
  · intro w' hSw; (try dsimp only at hSw); go_simp <;> with_reducible rfl
  try simp only [Act.put, List.setIfInBounds_toArray, List.set_cons_zero, List.set_cons_succ]
  refine wpAnyH_take (i := 1) (oi := { dst := some 49, op := Op.load 4 (Operand.tmp 48), type := 4, pos := "ref.go:225", after := #[{ on := 0, ground := Ground.data }], guard := none }) (v := ?_) rfl (by kernel_rfl) (by kernel_rfl) (by kernel_rfl) (fun _ _ _ h => h) (Or.inl ⟨by rfl, ?_⟩) hHeld ?_
  rotate_left
  · intro w' hSw; (try dsimp only at hSw); go_simp <;> with_reducible rfl
  try simp only [Act.put, List.setIfInBounds_toArray, List.set_cons_zero, List.set_cons_succ]
  refine wpAnyH_take (i := 2) (oi := { dst := some 50, op := Op.move (Operand.tmp 49), type := 4, pos := "ref.go:225", after := #[{ on := 1, ground := Ground.data }], guard := none }) (v := ?_) rfl (by kernel_rfl) (by kernel_rfl) (by kernel_rfl) (fun _ _ _ h => h) (Or.inl ⟨by rfl, ?_⟩) hHeld ?_
  rotate_left
  · intro w' hSw; (try dsimp only at hSw); go_simp <;> with_reducible rfl
  try simp only [Act.put, List.setIfInBounds_toArray, List.set_cons_zero, List.set_cons_succ]
  refine wpAnyH_take (i := 3) (oi := { dst := some 51, op := Op.load 74 (Operand.tmp 6), type := 74, pos := "ref.go:225", after := #[{ on := 2, ground := Ground.guard }], guard := some (2, true) }) (v := undef) rfl (by kernel_rfl) (by kernel_rfl) (by kernel_rfl) (fun _ _ _ h => h) (Or.inr ⟨by rfl, rfl⟩) hHeld ?_
  try simp only [Act.put, List.setIfInBounds_toArray, List.set_cons_zero, List.set_cons_succ]
  refine wpAnyH_take (i := 4) (oi := { dst := some 52, op := Op.call { callee := Callee.value (Operand.func 64), args := #[Operand.tmp 51], argTypes := #[74] }, type := 4, pos := "ref.go:225", after := #[{ on := 3, ground := Ground.data }, { on := 2, ground := Ground.chain }, { on := 2, ground := Ground.guard }], guard := some (2, true) }) (v := undef) rfl (by kernel_rfl) (by kernel_rfl) (by kernel_rfl) (fun _ _ _ h => h) (Or.inr ⟨by rfl, rfl⟩) hHeld ?_
  try simp only [Act.put, List.setIfInBounds_toArray, List.set_cons_zero, List.set_cons_succ]
  refine wpAnyH_take (i := 5) (oi := { dst := some 53, op := Op.unOp UnOp.not 4 (Operand.tmp 52), type := 4, pos := "ref.go:225", after := #[{ on := 4, ground := Ground.data }, { on := 2, ground := Ground.guard }], guard := some (2, true) }) (v := undef) rfl (by kernel_rfl) (by kernel_rfl) (by kernel_rfl) (fun _ _ _ h => h) (Or.inr ⟨by rfl, rfl⟩) hHeld ?_
  try simp only [Act.put, List.setIfInBounds_toArray, List.set_cons_zero, List.set_cons_succ]
  refine wpAnyH_take (i := 6) (oi := { dst := some 54, op := Op.pick (Operand.tmp 50) (Operand.tmp 53) (Operand.const (Value.bool false)), type := 4, pos := "ref.go:225", after := #[{ on := 2, ground := Ground.data }, { on := 5, ground := Ground.data }], guard := none }) (v := ?_) rfl (by kernel_rfl) (by kernel_rfl) (by kernel_rfl) (fun _ _ _ h => h) (Or.inl ⟨by rfl, ?_⟩) hHeld ?_
  rotate_left
  · intro w' hSw; (try dsimp only at hSw); go_simp <;> with_reducible rfl
  try simp only [Act.put, List.setIfInBounds_toArray, List.set_cons_zero, List.set_cons_succ]
  refine wpAnyH_take (i := 7) (oi := { dst := some 55, op := Op.load 74 (Operand.tmp 6), type := 74, pos := "ref.go:225", after := #[], guard := none }) (v := .agg E9) rfl (by kernel_rfl) (by kernel_rfl) (by kernel_rfl) (fun _ _ _ h => h) (Or.inl ⟨by rfl, fun W hW => exec_load_row 74 _ rfl (g6) rfl 74 E9 _ Tryd.underlying74 rfl (size_De HE9) W hW.2.1⟩) hHeld ?_
  try simp only [Act.put, List.setIfInBounds_toArray, List.set_cons_zero, List.set_cons_succ]
  refine wpAnyH_take (i := 8) (oi := { dst := some 56, op := Op.build 76 #[(0, Operand.tmp 54), (1, Operand.tmp 55)], type := 76, pos := "ref.go:225", after := #[{ on := 6, ground := Ground.data }, { on := 7, ground := Ground.data }], guard := none }) (v := .agg C) rfl (by kernel_rfl) (by kernel_rfl) (by kernel_rfl) (fun _ _ _ h => h) (Or.inl ⟨by rfl, fun W hW => exec_build_C HC HE9 _ _ rfl rfl rfl⟩) hHeld ?_
  try simp only [Act.put, List.setIfInBounds_toArray, List.set_cons_zero, List.set_cons_succ]
  obtain ⟨cs, hcs, hcz⟩ := hHeld.2.2.1
  refine wpAnyH_ready (rs := [9]) (by kernel_rfl) (by simp) ?_
  refine AllReadyH.cons (o := { dst := none, op := Op.store 76 (Operand.tmp 4) (Operand.tmp 56), type := 0, pos := "ref.go:225", after := #[{ on := 8, ground := Ground.data }, { on := 4, ground := Ground.chain }, { on := 0, ground := Ground.phase }, { on := 1, ground := Ground.phase }, { on := 2, ground := Ground.phase }, { on := 3, ground := Ground.phase }, { on := 4, ground := Ground.phase }, { on := 5, ground := Ground.phase }, { on := 6, ground := Ground.phase }, { on := 7, ground := Ground.phase }, { on := 8, ground := Ground.phase }], guard := none }) rfl (fun K hK => ?_) AllReadyH.nil
  refine (if_pos (by rfl)).mpr ?_
  refine wp_store_row 76 _ _ rfl (w.heap.size + 1) C rfl rfl 76 cs hcs (size_Bn (sizeC HC)) (by rw [hcz, sizeC HC]) (oneC HC) ?_
  refine hK.out _ _ (MK.out _ ((hHeld.1).farRow (by omega) C) ((hHeld.2.1).farRow (by omega) C) (⟨C, hcs.putRow C, sizeC HC⟩) ((hHeld.2.2.2.1).setRow (by omega) C)) (fun hHeld => ?_)
  clear hK K
  try simp only [Act.put, List.setIfInBounds_toArray, List.set_cons_zero, List.set_cons_succ]
  refine wpAnyH_done (by kernel_rfl) ?_ _
  refine NoPanic.normal ?_
  go_wp2_with fail
  exact bodyPost_ret (v := .agg C) (results_cell_row Tryd.results66 _ _ (w.heap.size + 1) 76 C (0, 0) _ rfl (hcs.putRow _) Tryd.underlying76 rfl (size_Bn (sizeC HC))) rfl ⟨rfl, hHeld.2.2.2.1.below⟩

set_option maxRecDepth 100000 in
set_option maxHeartbeats 4000000 in
theorem round_N1_t (w : World) (n q r d : Nat) (k : Int) (hn : n < BP 14) (hk : 0 < k ∧ k ≤ 77) (hd : d = 10 ^ k.toNat) (hq : q = n / d) (hr : r = n % d) (hc : cmpN (r + r) d = 0) (hp : dg q 0 % 2 = 0) :
    Calls Tryd.prog 66 #[BigV true n, .int .i64 k] w fun e w' => e = .returned (BigV (!decide (q = 0)) (q)) ∧ Below w.heap.size w w' := by
  have hd0 : 0 < d := by rw [hd]; exact Nat.pow_pos (by decide)
  have hd8 : d < BP 8 := by rw [hd]; exact ten_small (by omega)
  have h14 : BP 15 = BP 14 * 4294967296 := BP_succ 14
  have h15 : BP 16 = BP 15 * 4294967296 := BP_succ 15
  have h8 : BP 8 ≤ BP 14 := BP_le (by decide)
  have hqn : q ≤ n := by rw [hq]; exact Nat.div_le_self _ _
  have hrd : r < d := by rw [hr]; exact Nat.mod_lt _ hd0
  have QT := fun w => rten_any w k (by omega)
  rw [← hd] at QT
  have QD := fun w => rdiv_any w n d (by omega) (by omega) hd0
  rw [← hq, ← hr] at QD
  have QA := fun w => radd_any w r r (by omega)
  have QC := fun w => rcmp_any w (r + r) d (by omega) (by omega)
  rw [hc] at QC
  have QZ := fun w => rzero_any w (q) (by omega)
  obtain ⟨u, hu⟩ : ∃ u, u = q := ⟨_, rfl⟩
  have HEQ := hid hu.symm
  rw [← hu] at QZ ⊢
  obtain ⟨z, hz⟩ : ∃ z, z = decide (u = 0) := ⟨_, rfl⟩
  rw [← hz] at QZ
  rw [← hz]
  unfold BigV
  unfold DV at QT QD QA QC QZ
  have lq : dg q 0 < 4294967296 := dg_lt q 0
  obtain ⟨q0, hq0⟩ : ∃ x, x = dg q 0 := ⟨_, rfl⟩
  rw [← hq0] at lq hp
  obtain ⟨A, hA⟩ : ∃ X, X = bigs true n := ⟨_, rfl⟩
  obtain ⟨E0, hE0⟩ : ∃ X, X = digs n := ⟨_, rfl⟩
  obtain ⟨E5, hE5⟩ : ∃ X, X = digs d := ⟨_, rfl⟩
  obtain ⟨E6, hE6⟩ : ∃ X, X = digs q := ⟨_, rfl⟩
  obtain ⟨E7, hE7⟩ : ∃ X, X = digs r := ⟨_, rfl⟩
  obtain ⟨E8, hE8⟩ : ∃ X, X = digs (r + r) := ⟨_, rfl⟩
  obtain ⟨E9, hE9⟩ : ∃ X, X = digs u := ⟨_, rfl⟩
  obtain ⟨C, hC⟩ : ∃ X, X = bigs (!z) u := ⟨_, rfl⟩
  rw [← hE5] at QT
  rw [← hE0, ← hE5, ← hE6, ← hE7] at QD
  rw [← hE7, ← hE8] at QA
  rw [← hE8, ← hE5] at QC
  rw [← hE9] at QZ
  rw [← hC, ← hA]
  have HA := hid hA
  have HE0 := hid hE0
  have HE5 := hid hE5
  have HE6 := hid hE6
  have HE7 := hid hE7
  have HE8 := hid hE8
  have HE9 := hid hE9
  have HC := hid hC
  have HQT := hid QT
  have HQD := hid QD
  have HQA := hid QA
  have HQC := hid QC
  have HQZ := hid QZ
  have HQ0 := hid hq0
  have HK := hid hk
  have HP := hid hp
  clear QT QD QA QC QZ hA hE0 hE5 hE6 hE7 hE8 hE9 hC hq0 hd0 hd8 h14 h15 h8 hqn hrd hn hd hq hr hc hu hz hp
  have r2 := (Row.new w 76 A).alloc (.cells (bigs false 0) 76)
  have rr := Row.new (w.alloc (.cells A 76)) 76 (bigs false 0)
  have hU := ((Up.refl w).alloc (.cells A 76)).alloc (.cells (bigs false 0) 76)
  simp only [alloc_size] at rr
  have hk1 : ¬ k ≤ 0 := by omega
  have hk2 : (0 : Int) < k := by omega
  go_enter Tryd.func66, Tryd.ntmps66
  go_upto_region 3 with fail
  obtain ⟨V, hV⟩ : ∃ V, V = (w.alloc (.cells A 76)).alloc (.cells (bigs false 0) 76) := ⟨_, rfl⟩
  rw [bigs_0] at hV
  rw [← hV]
  rw [← bigs_0] at hV
  rw [← hV] at r2 rr hU
  clear hV hk1 hk2 hk
  go_wp2_with fail
  refine Calls.mono (HQT.out _) ?_; rintro e w1 ⟨rfl, hb⟩
  have z1 := hb.size
  have l1 := rr.lt
  replace r2 := (r2).mod (Mod.of_below hb Nil) (fun hf => hf)
  replace rr := (rr).mod (Mod.of_below hb Nil) (fun hf => hf)
  replace hU := hU.trans hb
  clear hb
  have n5 := Row.new w1 74 #[.int .u64 0, .int .u64 0, .int .u64 0, .int .u64 0, .int .u64 0, .int .u64 0, .int .u64 0, .int .u64 0, .int .u64 0, .int .u64 0, .int .u64 0, .int .u64 0, .int .u64 0, .int .u64 0, .int .u64 0, .int .u64 0]
  have r5 := n5.putRow E5
  replace r2 := (r2.alloc (.cells #[.int .u64 0, .int .u64 0, .int .u64 0, .int .u64 0, .int .u64 0, .int .u64 0, .int .u64 0, .int .u64 0, .int .u64 0, .int .u64 0, .int .u64 0, .int .u64 0, .int .u64 0, .int .u64 0, .int .u64 0, .int .u64 0] 74)).farRow (g' := w1.heap.size) (by omega) E5
  replace rr := (rr.alloc (.cells #[.int .u64 0, .int .u64 0, .int .u64 0, .int .u64 0, .int .u64 0, .int .u64 0, .int .u64 0, .int .u64 0, .int .u64 0, .int .u64 0, .int .u64 0, .int .u64 0, .int .u64 0, .int .u64 0, .int .u64 0, .int .u64 0] 74)).farRow (g' := w1.heap.size) (by omega) E5
  replace hU := (hU.alloc (.cells #[.int .u64 0, .int .u64 0, .int .u64 0, .int .u64 0, .int .u64 0, .int .u64 0, .int .u64 0, .int .u64 0, .int .u64 0, .int .u64 0, .int .u64 0, .int .u64 0, .int .u64 0, .int .u64 0, .int .u64 0, .int .u64 0] 74)).setRow (p := w1.heap.size) (by omega) E5
  go_upto_region 4 with (refine wpList_store_row rfl 74 _ _ rfl (w1.heap.size) E5 rfl rfl 74 #[.int .u64 0, .int .u64 0, .int .u64 0, .int .u64 0, .int .u64 0, .int .u64 0, .int .u64 0, .int .u64 0, .int .u64 0, .int .u64 0, .int .u64 0, .int .u64 0, .int .u64 0, .int .u64 0, .int .u64 0, .int .u64 0] n5 (size_De HE5) (sizeE HE5).symm (oneE HE5) ?_)
  obtain ⟨V1, hV1⟩ : ∃ V1, V1 = (w1.alloc (.cells #[.int .u64 0, .int .u64 0, .int .u64 0, .int .u64 0, .int .u64 0, .int .u64 0, .int .u64 0, .int .u64 0, .int .u64 0, .int .u64 0, .int .u64 0, .int .u64 0, .int .u64 0, .int .u64 0, .int .u64 0, .int .u64 0] 74)).setRow w1.heap.size E5 := ⟨_, rfl⟩
  rw [← hV1] at r2 rr r5 hU ⊢
  have zv1 : V1.heap.size = w1.heap.size + 1 := by rw [hV1, setRow_size, alloc_size]
  clear hV1 n5
  obtain ⟨g5, hg5⟩ : ∃ g, g = w1.heap.size := ⟨_, rfl⟩
  rw [← hg5] at r5 z1 zv1 ⊢
  clear hg5
  go_wp2_with (first | (refine wpList_load_E rfl HA HE0 (.tmp 21) rfl (w.heap.size) rfl 76 r2 ?_) | (refine wpList_load_row rfl 74 (.tmp 5) rfl (g5) rfl 74 E5 (0, 0) _ r5 Tryd.underlying74 rfl (size_De HE5) ?_))
  refine Calls.mono (HQD.out _) ?_; rintro e w4 ⟨rfl, hb⟩
  have z4 := hb.size
  replace r2 := (r2).mod (Mod.of_below hb Nil) (fun hf => hf)
  replace rr := (rr).mod (Mod.of_below hb Nil) (fun hf => hf)
  replace r5 := (r5).mod (Mod.of_below hb Nil) (fun hf => hf)
  replace hU := hU.trans hb
  clear hb
  have n6 := (Row.new w4 74 #[.int .u64 0, .int .u64 0, .int .u64 0, .int .u64 0, .int .u64 0, .int .u64 0, .int .u64 0, .int .u64 0, .int .u64 0, .int .u64 0, .int .u64 0, .int .u64 0, .int .u64 0, .int .u64 0, .int .u64 0, .int .u64 0]).alloc (.cells #[.int .u64 0, .int .u64 0, .int .u64 0, .int .u64 0, .int .u64 0, .int .u64 0, .int .u64 0, .int .u64 0, .int .u64 0, .int .u64 0, .int .u64 0, .int .u64 0, .int .u64 0, .int .u64 0, .int .u64 0, .int .u64 0] 74)
  have n7 := Row.new (w4.alloc (.cells #[.int .u64 0, .int .u64 0, .int .u64 0, .int .u64 0, .int .u64 0, .int .u64 0, .int .u64 0, .int .u64 0, .int .u64 0, .int .u64 0, .int .u64 0, .int .u64 0, .int .u64 0, .int .u64 0, .int .u64 0, .int .u64 0] 74)) 74 #[.int .u64 0, .int .u64 0, .int .u64 0, .int .u64 0, .int .u64 0, .int .u64 0, .int .u64 0, .int .u64 0, .int .u64 0, .int .u64 0, .int .u64 0, .int .u64 0, .int .u64 0, .int .u64 0, .int .u64 0, .int .u64 0]
  simp only [alloc_size] at n7
  have r6 := (n6.putRow E6).farRow (g' := w4.heap.size + 1) (by omega) E7
  have m7 := n7.farRow (g' := w4.heap.size) (by omega) E6
  have r7 := m7.putRow E7
  replace r2 := ((r2.alloc (.cells #[.int .u64 0, .int .u64 0, .int .u64 0, .int .u64 0, .int .u64 0, .int .u64 0, .int .u64 0, .int .u64 0, .int .u64 0, .int .u64 0, .int .u64 0, .int .u64 0, .int .u64 0, .int .u64 0, .int .u64 0, .int .u64 0] 74)).alloc (.cells #[.int .u64 0, .int .u64 0, .int .u64 0, .int .u64 0, .int .u64 0, .int .u64 0, .int .u64 0, .int .u64 0, .int .u64 0, .int .u64 0, .int .u64 0, .int .u64 0, .int .u64 0, .int .u64 0, .int .u64 0, .int .u64 0] 74)).farRow (g' := w4.heap.size) (by omega) E6 |>.farRow (g' := w4.heap.size + 1) (by omega) E7
  replace rr := ((rr.alloc (.cells #[.int .u64 0, .int .u64 0, .int .u64 0, .int .u64 0, .int .u64 0, .int .u64 0, .int .u64 0, .int .u64 0, .int .u64 0, .int .u64 0, .int .u64 0, .int .u64 0, .int .u64 0, .int .u64 0, .int .u64 0, .int .u64 0] 74)).alloc (.cells #[.int .u64 0, .int .u64 0, .int .u64 0, .int .u64 0, .int .u64 0, .int .u64 0, .int .u64 0, .int .u64 0, .int .u64 0, .int .u64 0, .int .u64 0, .int .u64 0, .int .u64 0, .int .u64 0, .int .u64 0, .int .u64 0] 74)).farRow (g' := w4.heap.size) (by omega) E6 |>.farRow (g' := w4.heap.size + 1) (by omega) E7
  replace r5 := ((r5.alloc (.cells #[.int .u64 0, .int .u64 0, .int .u64 0, .int .u64 0, .int .u64 0, .int .u64 0, .int .u64 0, .int .u64 0, .int .u64 0, .int .u64 0, .int .u64 0, .int .u64 0, .int .u64 0, .int .u64 0, .int .u64 0, .int .u64 0] 74)).alloc (.cells #[.int .u64 0, .int .u64 0, .int .u64 0, .int .u64 0, .int .u64 0, .int .u64 0, .int .u64 0, .int .u64 0, .int .u64 0, .int .u64 0, .int .u64 0, .int .u64 0, .int .u64 0, .int .u64 0, .int .u64 0, .int .u64 0] 74)).farRow (g' := w4.heap.size) (by omega) E6 |>.farRow (g' := w4.heap.size + 1) (by omega) E7
  replace hU := (((hU.alloc (.cells #[.int .u64 0, .int .u64 0, .int .u64 0, .int .u64 0, .int .u64 0, .int .u64 0, .int .u64 0, .int .u64 0, .int .u64 0, .int .u64 0, .int .u64 0, .int .u64 0, .int .u64 0, .int .u64 0, .int .u64 0, .int .u64 0] 74)).alloc (.cells #[.int .u64 0, .int .u64 0, .int .u64 0, .int .u64 0, .int .u64 0, .int .u64 0, .int .u64 0, .int .u64 0, .int .u64 0, .int .u64 0, .int .u64 0, .int .u64 0, .int .u64 0, .int .u64 0, .int .u64 0, .int .u64 0] 74)).setRow (p := w4.heap.size) (by omega) E6).setRow (p := w4.heap.size + 1) (by omega) E7
  go_upto_region 5 with (first | (refine wpList_store_row rfl 74 (.tmp 6) (.tmp 25) rfl (w4.heap.size) E6 rfl rfl 74 #[.int .u64 0, .int .u64 0, .int .u64 0, .int .u64 0, .int .u64 0, .int .u64 0, .int .u64 0, .int .u64 0, .int .u64 0, .int .u64 0, .int .u64 0, .int .u64 0, .int .u64 0, .int .u64 0, .int .u64 0, .int .u64 0] n6 (size_De HE6) (sizeE HE6).symm (oneE HE6) ?_) | (refine wpList_store_row rfl 74 (.tmp 7) (.tmp 26) rfl (w4.heap.size + 1) E7 rfl rfl 74 #[.int .u64 0, .int .u64 0, .int .u64 0, .int .u64 0, .int .u64 0, .int .u64 0, .int .u64 0, .int .u64 0, .int .u64 0, .int .u64 0, .int .u64 0, .int .u64 0, .int .u64 0, .int .u64 0, .int .u64 0, .int .u64 0] m7 (size_De HE7) (sizeE HE7).symm (oneE HE7) ?_))
  obtain ⟨V4, hV4⟩ : ∃ V4, V4 = (((w4.alloc (.cells #[.int .u64 0, .int .u64 0, .int .u64 0, .int .u64 0, .int .u64 0, .int .u64 0, .int .u64 0, .int .u64 0, .int .u64 0, .int .u64 0, .int .u64 0, .int .u64 0, .int .u64 0, .int .u64 0, .int .u64 0, .int .u64 0] 74)).alloc (.cells #[.int .u64 0, .int .u64 0, .int .u64 0, .int .u64 0, .int .u64 0, .int .u64 0, .int .u64 0, .int .u64 0, .int .u64 0, .int .u64 0, .int .u64 0, .int .u64 0, .int .u64 0, .int .u64 0, .int .u64 0, .int .u64 0] 74)).setRow w4.heap.size E6).setRow (w4.heap.size + 1) E7 := ⟨_, rfl⟩
  rw [← hV4] at r2 rr r5 r6 r7 hU ⊢
  have zv4 : V4.heap.size = w4.heap.size + 1 + 1 := by rw [hV4, setRow_size, setRow_size, alloc_size, alloc_size]
  clear hV4 n6 n7 m7
  obtain ⟨g6, hg6⟩ : ∃ g, g = w4.heap.size := ⟨_, rfl⟩
  rw [← hg6] at r6 r7 z4 zv4 ⊢
  clear hg6
  have r8 : Row (V4.alloc (.cells #[.int .u64 1, .int .u64 0, .int .u64 0, .int .u64 0, .int .u64 0, .int .u64 0, .int .u64 0, .int .u64 0, .int .u64 0, .int .u64 0, .int .u64 0, .int .u64 0, .int .u64 0, .int .u64 0, .int .u64 0, .int .u64 0] 74)) V4.heap.size 74 #[.int .u64 1, .int .u64 0, .int .u64 0, .int .u64 0, .int .u64 0, .int .u64 0, .int .u64 0, .int .u64 0, .int .u64 0, .int .u64 0, .int .u64 0, .int .u64 0, .int .u64 0, .int .u64 0, .int .u64 0, .int .u64 0] := Row.new V4 74 #[.int .u64 1, .int .u64 0, .int .u64 0, .int .u64 0, .int .u64 0, .int .u64 0, .int .u64 0, .int .u64 0, .int .u64 0, .int .u64 0, .int .u64 0, .int .u64 0, .int .u64 0, .int .u64 0, .int .u64 0, .int .u64 0]
  replace r2 := r2.alloc (.cells #[.int .u64 1, .int .u64 0, .int .u64 0, .int .u64 0, .int .u64 0, .int .u64 0, .int .u64 0, .int .u64 0, .int .u64 0, .int .u64 0, .int .u64 0, .int .u64 0, .int .u64 0, .int .u64 0, .int .u64 0, .int .u64 0] 74)
  replace rr := rr.alloc (.cells #[.int .u64 1, .int .u64 0, .int .u64 0, .int .u64 0, .int .u64 0, .int .u64 0, .int .u64 0, .int .u64 0, .int .u64 0, .int .u64 0, .int .u64 0, .int .u64 0, .int .u64 0, .int .u64 0, .int .u64 0, .int .u64 0] 74)
  replace r5 := r5.alloc (.cells #[.int .u64 1, .int .u64 0, .int .u64 0, .int .u64 0, .int .u64 0, .int .u64 0, .int .u64 0, .int .u64 0, .int .u64 0, .int .u64 0, .int .u64 0, .int .u64 0, .int .u64 0, .int .u64 0, .int .u64 0, .int .u64 0] 74)
  replace r6 := r6.alloc (.cells #[.int .u64 1, .int .u64 0, .int .u64 0, .int .u64 0, .int .u64 0, .int .u64 0, .int .u64 0, .int .u64 0, .int .u64 0, .int .u64 0, .int .u64 0, .int .u64 0, .int .u64 0, .int .u64 0, .int .u64 0, .int .u64 0] 74)
  replace r7 := r7.alloc (.cells #[.int .u64 1, .int .u64 0, .int .u64 0, .int .u64 0, .int .u64 0, .int .u64 0, .int .u64 0, .int .u64 0, .int .u64 0, .int .u64 0, .int .u64 0, .int .u64 0, .int .u64 0, .int .u64 0, .int .u64 0, .int .u64 0] 74)
  replace hU := hU.alloc (.cells #[.int .u64 1, .int .u64 0, .int .u64 0, .int .u64 0, .int .u64 0, .int .u64 0, .int .u64 0, .int .u64 0, .int .u64 0, .int .u64 0, .int .u64 0, .int .u64 0, .int .u64 0, .int .u64 0, .int .u64 0, .int .u64 0] 74)
  go_upto_region 7 with fail
  obtain ⟨V5, hV5⟩ : ∃ V5, V5 = V4.alloc (.cells #[.int .u64 1, .int .u64 0, .int .u64 0, .int .u64 0, .int .u64 0, .int .u64 0, .int .u64 0, .int .u64 0, .int .u64 0, .int .u64 0, .int .u64 0, .int .u64 0, .int .u64 0, .int .u64 0, .int .u64 0, .int .u64 0] 74) := ⟨_, rfl⟩
  rw [← hV5] at r2 rr r5 r6 r7 r8 hU ⊢
  clear hV5
  rw [zv4] at r8
  clear zv4
  have MK : ∀ W, Row W (w.heap.size) 76 A → Row W (w.heap.size + 1) 76 (bigs false 0) → Row W (g5) 74 E5 → Row W (g6) 74 E6 → Row W (g6 + 1) 74 E7 → Row W (g6 + 1 + 1) 74 #[.int .u64 1, .int .u64 0, .int .u64 0, .int .u64 0, .int .u64 0, .int .u64 0, .int .u64 0, .int .u64 0, .int .u64 0, .int .u64 0, .int .u64 0, .int .u64 0, .int .u64 0, .int .u64 0, .int .u64 0, .int .u64 0] → Up w.heap.size w W → Row W (w.heap.size) 76 A ∧ Row W (w.heap.size + 1) 76 (bigs false 0) ∧ Row W (g5) 74 E5 ∧ Row W (g6) 74 E6 ∧ Row W (g6 + 1) 74 E7 ∧ Row W (g6 + 1 + 1) 74 #[.int .u64 1, .int .u64 0, .int .u64 0, .int .u64 0, .int .u64 0, .int .u64 0, .int .u64 0, .int .u64 0, .int .u64 0, .int .u64 0, .int .u64 0, .int .u64 0, .int .u64 0, .int .u64 0, .int .u64 0, .int .u64 0] ∧ Up w.heap.size w W ∧ W.cell? ⟨w.heap.size, 0, none⟩ = some (.bool true) := fun W k0 k1 k2 k3 k4 k5 k6 => ⟨k0, k1, k2, k3, k4, k5, k6, by rw [k0.cell, zeroC HA]⟩
  have MK := hid MK
  refine wp_region_noPanic ?_
  refine wp_region_held_drew (S := fun W => Row W (w.heap.size) 76 A ∧ Row W (w.heap.size + 1) 76 (bigs false 0) ∧ Row W (g5) 74 E5 ∧ Row W (g6) 74 E6 ∧ Row W (g6 + 1) 74 E7 ∧ Row W (g6 + 1 + 1) 74 #[.int .u64 1, .int .u64 0, .int .u64 0, .int .u64 0, .int .u64 0, .int .u64 0, .int .u64 0, .int .u64 0, .int .u64 0, .int .u64 0, .int .u64 0, .int .u64 0, .int .u64 0, .int .u64 0, .int .u64 0, .int .u64 0] ∧ Up w.heap.size w W ∧ W.cell? ⟨w.heap.size, 0, none⟩ = some (.bool true)) (by kernel_rfl) (MK.out _ r2.drew rr.drew r5.drew r6.drew r7.drew r8.drew hU.drew) (fun hHeld => ?_)
  refine wpAnyH_take (i := 0) (oi := { dst := some 28, op := Op.load 74 (Operand.tmp 7), type := 74, pos := "ref.go:221", after := #[], guard := none }) (v := .agg E7) rfl (by kernel_rfl) (by kernel_rfl) (by kernel_rfl) (fun _ _ _ h => h) (Or.inl ⟨by rfl, fun W hW => exec_load_row 74 _ rfl (g6 + 1) rfl 74 E7 _ Tryd.underlying74 rfl (size_De HE7) W hW.2.2.2.2.1⟩) hHeld ?_
  try simp only [Act.put, List.setIfInBounds_toArray, List.set_cons_zero, List.set_cons_succ]
  refine wpAnyH_take (i := 1) (oi := { dst := some 29, op := Op.load 74 (Operand.tmp 7), type := 74, pos := "ref.go:221", after := #[], guard := none }) (v := .agg E7) rfl (by kernel_rfl) (by kernel_rfl) (by kernel_rfl) (fun _ _ _ h => h) (Or.inl ⟨by rfl, fun W hW => exec_load_row 74 _ rfl (g6 + 1) rfl 74 E7 _ Tryd.underlying74 rfl (size_De HE7) W hW.2.2.2.2.1⟩) hHeld ?_
  try simp only [Act.put, List.setIfInBounds_toArray, List.set_cons_zero, List.set_cons_succ]
  refine wpAnyH_take (i := 3) (oi := { dst := some 31, op := Op.load 74 (Operand.tmp 5), type := 74, pos := "ref.go:221", after := #[], guard := none }) (v := .agg E5) rfl (by kernel_rfl) (by kernel_rfl) (by kernel_rfl) (fun _ _ _ h => h) (Or.inl ⟨by rfl, fun W hW => exec_load_row 74 _ rfl (g5) rfl 74 E5 _ Tryd.underlying74 rfl (size_De HE5) W hW.2.2.1⟩) hHeld ?_
  try simp only [Act.put, List.setIfInBounds_toArray, List.set_cons_zero, List.set_cons_succ]
  refine wpAnyH_ready (rs := [2]) (by kernel_rfl) (by simp) ?_
  refine AllReadyH.cons (o := { dst := some 30, op := Op.call { callee := Callee.value (Operand.func 87), args := #[Operand.tmp 28, Operand.tmp 29], argTypes := #[74, 74] }, type := 74, pos := "ref.go:221", after := #[{ on := 0, ground := Ground.data }, { on := 1, ground := Ground.data }], guard := none }) rfl (fun K hK => ?_) AllReadyH.nil
  go_simp
  refine Calls.mono (HQA.out _) ?_; rintro e w5 ⟨rfl, hb⟩
  refine hK.out _ _ (MK.out _ ((hHeld.1).mod (Mod.of_below hb Nil) (fun hf => hf)) ((hHeld.2.1).mod (Mod.of_below hb Nil) (fun hf => hf)) ((hHeld.2.2.1).mod (Mod.of_below hb Nil) (fun hf => hf)) ((hHeld.2.2.2.1).mod (Mod.of_below hb Nil) (fun hf => hf)) ((hHeld.2.2.2.2.1).mod (Mod.of_below hb Nil) (fun hf => hf)) ((hHeld.2.2.2.2.2.1).mod (Mod.of_below hb Nil) (fun hf => hf)) ((hHeld.2.2.2.2.2.2.1).trans hb)) (fun hHeld => ?_)
  clear hK K
  try simp only [Act.put, List.setIfInBounds_toArray, List.set_cons_zero, List.set_cons_succ]
  refine wpAnyH_ready (rs := [4]) (by kernel_rfl) (by simp) ?_
  refine AllReadyH.cons (o := { dst := some 32, op := Op.call { callee := Callee.value (Operand.func 88), args := #[Operand.tmp 30, Operand.tmp 31], argTypes := #[74, 74] }, type := 3, pos := "ref.go:221", after := #[{ on := 2, ground := Ground.data }, { on := 3, ground := Ground.data }, { on := 2, ground := Ground.chain }], guard := none }) rfl (fun K hK => ?_) AllReadyH.nil
  go_simp
  refine Calls.mono (HQC.out _) ?_; rintro e w6 ⟨rfl, hb⟩
  refine hK.out _ _ (MK.out _ ((hHeld.1).mod (Mod.of_below hb Nil) (fun hf => hf)) ((hHeld.2.1).mod (Mod.of_below hb Nil) (fun hf => hf)) ((hHeld.2.2.1).mod (Mod.of_below hb Nil) (fun hf => hf)) ((hHeld.2.2.2.1).mod (Mod.of_below hb Nil) (fun hf => hf)) ((hHeld.2.2.2.2.1).mod (Mod.of_below hb Nil) (fun hf => hf)) ((hHeld.2.2.2.2.2.1).mod (Mod.of_below hb Nil) (fun hf => hf)) ((hHeld.2.2.2.2.2.2.1).trans hb)) (fun hHeld => ?_)
  clear hK K
  try simp only [Act.put, List.setIfInBounds_toArray, List.set_cons_zero, List.set_cons_succ]
  refine wpAnyH_take (i := 5) (oi := { dst := some 9, op := Op.assign (Operand.tmp 32), type := 3, pos := "ref.go:221", after := #[{ on := 4, ground := Ground.data }, { on := 4, ground := Ground.chain }, { on := 0, ground := Ground.phase }, { on := 1, ground := Ground.phase }, { on := 2, ground := Ground.phase }, { on := 3, ground := Ground.phase }, { on := 4, ground := Ground.phase }], guard := none }) (v := ?_) rfl (by kernel_rfl) (by kernel_rfl) (by kernel_rfl) (fun _ _ _ h => h) (Or.inl ⟨by rfl, ?_⟩) hHeld ?_
  rotate_left
  · intro w' hSw; (try dsimp only at hSw); go_simp <;> with_reducible rfl
  try simp only [Act.put, List.setIfInBounds_toArray, List.set_cons_zero, List.set_cons_succ]
  refine wpAnyH_done (by kernel_rfl) ?_ _
  refine NoPanic.normal ?_
  replace r2 := hHeld.1
  replace rr := hHeld.2.1
  replace r5 := hHeld.2.2.1
  replace r6 := hHeld.2.2.2.1
  replace r7 := hHeld.2.2.2.2.1
  replace r8 := hHeld.2.2.2.2.2.1
  replace hU := hHeld.2.2.2.2.2.2.1
  clear MK hHeld r5 r7
  have c6 := r6.cell 0
  rw [HE6.out, digs_get _ (by decide), ← HQ0.out] at c6
  have hp1 : ((q0 : Int) % 2 == 1) = false := by have := HP.out; simp; omega
  go_upto_region 10 with fail
  clear c6 hp1
  have E69 : E6 = E9 := by rw [HE6.out, HE9.out]; exact congrArg digs HEQ.out
  rw [E69] at r6
  have MK : ∀ W, Row W (w.heap.size) 76 A → Row W (g6) 74 E9 → (∃ cs : Array Value, Row W (w.heap.size + 1) 76 cs ∧ cs.size = 17) → Up w.heap.size w W → Row W (w.heap.size) 76 A ∧ Row W (g6) 74 E9 ∧ (∃ cs : Array Value, Row W (w.heap.size + 1) 76 cs ∧ cs.size = 17) ∧ Up w.heap.size w W ∧ W.cell? ⟨w.heap.size, 0, none⟩ = some (.bool true) := fun W k0 k1 k2 k3 => ⟨k0, k1, k2, k3, by rw [k0.cell, zeroC HA]⟩
  have MK := hid MK
  refine wp_region_noPanic ?_
  refine wp_region_held_drew (S := fun W => Row W (w.heap.size) 76 A ∧ Row W (g6) 74 E9 ∧ (∃ cs : Array Value, Row W (w.heap.size + 1) 76 cs ∧ cs.size = 17) ∧ Up w.heap.size w W ∧ W.cell? ⟨w.heap.size, 0, none⟩ = some (.bool true)) (by kernel_rfl) (MK.out _ r2.drew r6.drew ⟨_, rr.drew, bigs_size _ _⟩ hU.drew) (fun hHeld => ?_)
  refine wpAnyH_take (i := 0) (oi := { dst := some 48, op := Op.fieldAddr 76 (Operand.tmp 2) 0, type := 0, pos := "ref.go:225", after := #[], guard := none }) (v := ?_) rfl (by kernel_rfl) (by kernel_rfl) (by kernel_rfl) (fun _ _ _ h => h) (Or.inl ⟨by rfl, ?_⟩) hHeld ?_
  rotate_left
  · intro w' hSw; (try dsimp only at hSw); go_simp <;> with_reducible rfl
  try simp only [Act.put, List.setIfInBounds_toArray, List.set_cons_zero, List.set_cons_succ]
  refine wpAnyH_take (i := 1) (oi := { dst := some 49, op := Op.load 4 (Operand.tmp 48), type := 4, pos := "ref.go:225", after := #[{ on := 0, ground := Ground.data }], guard := none }) (v := ?_) rfl (by kernel_rfl) (by kernel_rfl) (by kernel_rfl) (fun _ _ _ h => h) (Or.inl ⟨by rfl, ?_⟩) hHeld ?_
  rotate_left
  · intro w' hSw; (try dsimp only at hSw); go_simp <;> with_reducible rfl
  try simp only [Act.put, List.setIfInBounds_toArray, List.set_cons_zero, List.set_cons_succ]
  refine wpAnyH_take (i := 2) (oi := { dst := some 50, op := Op.move (Operand.tmp 49), type := 4, pos := "ref.go:225", after := #[{ on := 1, ground := Ground.data }], guard := none }) (v := ?_) rfl (by kernel_rfl) (by kernel_rfl) (by kernel_rfl) (fun _ _ _ h => h) (Or.inl ⟨by rfl, ?_⟩) hHeld ?_
  rotate_left
  · intro w' hSw; (try dsimp only at hSw); go_simp <;> with_reducible rfl
  try simp only [Act.put, List.setIfInBounds_toArray, List.set_cons_zero, List.set_cons_succ]
  refine wpAnyH_take (i := 3) (oi := { dst := some 51, op := Op.load 74 (Operand.tmp 6), type := 74, pos := "ref.go:225", after := #[{ on := 2, ground := Ground.guard }], guard := some (2, true) }) (v := .agg E9) rfl (by kernel_rfl) (by kernel_rfl) (by kernel_rfl) (fun _ _ _ h => h) (Or.inl ⟨by rfl, fun W hW => exec_load_row 74 _ rfl (g6) rfl 74 E9 _ Tryd.underlying74 rfl (size_De HE9) W hW.2.1⟩) hHeld ?_
  try simp only [Act.put, List.setIfInBounds_toArray, List.set_cons_zero, List.set_cons_succ]
  refine wpAnyH_take (i := 7) (oi := { dst := some 55, op := Op.load 74 (Operand.tmp 6), type := 74, pos := "ref.go:225", after := #[], guard := none }) (v := .agg E9) rfl (by kernel_rfl) (by kernel_rfl) (by kernel_rfl) (fun _ _ _ h => h) (Or.inl ⟨by rfl, fun W hW => exec_load_row 74 _ rfl (g6) rfl 74 E9 _ Tryd.underlying74 rfl (size_De HE9) W hW.2.1⟩) hHeld ?_
  try simp only [Act.put, List.setIfInBounds_toArray, List.set_cons_zero, List.set_cons_succ]
  refine wpAnyH_ready (rs := [4]) (by kernel_rfl) (by simp) ?_
  refine AllReadyH.cons (o := { dst := some 52, op := Op.call { callee := Callee.value (Operand.func 64), args := #[Operand.tmp 51], argTypes := #[74] }, type := 4, pos := "ref.go:225", after := #[{ on := 3, ground := Ground.data }, { on := 2, ground := Ground.chain }, { on := 2, ground := Ground.guard }], guard := some (2, true) }) rfl (fun K hK => ?_) AllReadyH.nil
  go_simp
  refine Calls.mono (HQZ.out _) ?_; rintro e w8 ⟨rfl, hb⟩
  refine hK.out _ _ (MK.out _ ((hHeld.1).mod (Mod.of_below hb Nil) (fun hf => hf)) ((hHeld.2.1).mod (Mod.of_below hb Nil) (fun hf => hf)) ((by obtain ⟨cs, h1, h2⟩ := hHeld.2.2.1; exact ⟨cs, (h1).mod (Mod.of_below hb Nil) (fun hf => hf), h2⟩)) ((hHeld.2.2.2.1).trans hb)) (fun hHeld => ?_)
  clear hK K
  try simp only [Act.put, List.setIfInBounds_toArray, List.set_cons_zero, List.set_cons_succ]
  refine wpAnyH_take (i := 5) (oi := { dst := some 53, op := Op.unOp UnOp.not 4 (Operand.tmp 52), type := 4, pos := "ref.go:225", after := #[{ on := 4, ground := Ground.data }, { on := 2, ground := Ground.guard }], guard := some (2, true) }) (v := ?_) rfl (by kernel_rfl) (by kernel_rfl) (by kernel_rfl) (fun _ _ _ h => h) (Or.inl ⟨by rfl, ?_⟩) hHeld ?_
  rotate_left
  · intro w' hSw; (try dsimp only at hSw); go_simp <;> with_reducible rfl
  try simp only [Act.put, List.setIfInBounds_toArray, List.set_cons_zero, List.set_cons_succ]
  refine wpAnyH_take (i := 6) (oi := { dst := some 54, op := Op.pick (Operand.tmp 50) (Operand.tmp 53) (Operand.const (Value.bool false)), type := 4, pos := "ref.go:225", after := #[{ on := 2, ground := Ground.data }, { on := 5, ground := Ground.data }], guard := none }) (v := ?_) rfl (by kernel_rfl) (by kernel_rfl) (by kernel_rfl) (fun _ _ _ h => h) (Or.inl ⟨by rfl, ?_⟩) hHeld ?_
  rotate_left
  · intro w' hSw; (try dsimp only at hSw); go_simp <;> with_reducible rfl
  try simp only [Act.put, List.setIfInBounds_toArray, List.set_cons_zero, List.set_cons_succ]
  refine wpAnyH_take (i := 8) (oi := { dst := some 56, op := Op.build 76 #[(0, Operand.tmp 54), (1, Operand.tmp 55)], type := 76, pos := "ref.go:225", after := #[{ on := 6, ground := Ground.data }, { on := 7, ground := Ground.data }], guard := none }) (v := .agg C) rfl (by kernel_rfl) (by kernel_rfl) (by kernel_rfl) (fun _ _ _ h => h) (Or.inl ⟨by rfl, fun W hW => exec_build_C HC HE9 _ _ rfl rfl rfl⟩) hHeld ?_
  try simp only [Act.put, List.setIfInBounds_toArray, List.set_cons_zero, List.set_cons_succ]
  obtain ⟨cs, hcs, hcz⟩ := hHeld.2.2.1
  refine wpAnyH_ready (rs := [9]) (by kernel_rfl) (by simp) ?_
  refine AllReadyH.cons (o := { dst := none, op := Op.store 76 (Operand.tmp 4) (Operand.tmp 56), type := 0, pos := "ref.go:225", after := #[{ on := 8, ground := Ground.data }, { on := 4, ground := Ground.chain }, { on := 0, ground := Ground.phase }, { on := 1, ground := Ground.phase }, { on := 2, ground := Ground.phase }, { on := 3, ground := Ground.phase }, { on := 4, ground := Ground.phase }, { on := 5, ground := Ground.phase }, { on := 6, ground := Ground.phase }, { on := 7, ground := Ground.phase }, { on := 8, ground := Ground.phase }], guard := none }) rfl (fun K hK => ?_) AllReadyH.nil
  refine (if_pos (by rfl)).mpr ?_
  refine wp_store_row 76 _ _ rfl (w.heap.size + 1) C rfl rfl 76 cs hcs (size_Bn (sizeC HC)) (by rw [hcz, sizeC HC]) (oneC HC) ?_
  refine hK.out _ _ (MK.out _ ((hHeld.1).farRow (by omega) C) ((hHeld.2.1).farRow (by omega) C) (⟨C, hcs.putRow C, sizeC HC⟩) ((hHeld.2.2.2.1).setRow (by omega) C)) (fun hHeld => ?_)
  clear hK K
  try simp only [Act.put, List.setIfInBounds_toArray, List.set_cons_zero, List.set_cons_succ]
  refine wpAnyH_done (by kernel_rfl) ?_ _
  refine NoPanic.normal ?_
  go_wp2_with fail
  exact bodyPost_ret (v := .agg C) (results_cell_row Tryd.results66 _ _ (w.heap.size + 1) 76 C (0, 0) _ rfl (hcs.putRow _) Tryd.underlying76 rfl (size_Bn (sizeC HC))) rfl ⟨rfl, hHeld.2.2.2.1.below⟩

set_option maxRecDepth 100000 in
set_option maxHeartbeats 4000000 in
theorem round_N2_f (w : World) (n q r d : Nat) (k : Int) (hn : n < BP 14) (hk : 0 < k ∧ k ≤ 77) (hd : d = 10 ^ k.toNat) (hq : q = n / d) (hr : r = n % d) (hc : cmpN (r + r) d = -1) :
    Calls Tryd.prog 66 #[BigV false n, .int .i64 k] w fun e w' => e = .returned (BigV false (q)) ∧ Below w.heap.size w w' := by
  have hd0 : 0 < d := by rw [hd]; exact Nat.pow_pos (by decide)
  have hd8 : d < BP 8 := by rw [hd]; exact ten_small (by omega)
  have h14 : BP 15 = BP 14 * 4294967296 := BP_succ 14
  have h15 : BP 16 = BP 15 * 4294967296 := BP_succ 15
  have h8 : BP 8 ≤ BP 14 := BP_le (by decide)
  have hqn : q ≤ n := by rw [hq]; exact Nat.div_le_self _ _
  have hrd : r < d := by rw [hr]; exact Nat.mod_lt _ hd0
  have QT := fun w => rten_any w k (by omega)
  rw [← hd] at QT
  have QD := fun w => rdiv_any w n d (by omega) (by omega) hd0
  rw [← hq, ← hr] at QD
  have QA := fun w => radd_any w r r (by omega)
  have QC := fun w => rcmp_any w (r + r) d (by omega) (by omega)
  rw [hc] at QC
  have QZ := fun w => rzero_any w (q) (by omega)
  obtain ⟨u, hu⟩ : ∃ u, u = q := ⟨_, rfl⟩
  have HEQ := hid hu.symm
  rw [← hu] at QZ ⊢
  obtain ⟨z, hz⟩ : ∃ z, z = decide (u = 0) := ⟨_, rfl⟩
  rw [← hz] at QZ
  unfold BigV
  unfold DV at QT QD QA QC QZ
  have lq : dg q 0 < 4294967296 := dg_lt q 0
  obtain ⟨q0, hq0⟩ : ∃ x, x = dg q 0 := ⟨_, rfl⟩
  rw [← hq0] at lq
  obtain ⟨A, hA⟩ : ∃ X, X = bigs false n := ⟨_, rfl⟩
  obtain ⟨E0, hE0⟩ : ∃ X, X = digs n := ⟨_, rfl⟩
  obtain ⟨E5, hE5⟩ : ∃ X, X = digs d := ⟨_, rfl⟩
  obtain ⟨E6, hE6⟩ : ∃ X, X = digs q := ⟨_, rfl⟩
  obtain ⟨E7, hE7⟩ : ∃ X, X = digs r := ⟨_, rfl⟩
  obtain ⟨E8, hE8⟩ : ∃ X, X = digs (r + r) := ⟨_, rfl⟩
  obtain ⟨E9, hE9⟩ : ∃ X, X = digs u := ⟨_, rfl⟩
  obtain ⟨C, hC⟩ : ∃ X, X = bigs false u := ⟨_, rfl⟩
  rw [← hE5] at QT
  rw [← hE0, ← hE5, ← hE6, ← hE7] at QD
  rw [← hE7, ← hE8] at QA
  rw [← hE8, ← hE5] at QC
  rw [← hE9] at QZ
  rw [← hC, ← hA]
  have HA := hid hA
  have HE0 := hid hE0
  have HE5 := hid hE5
  have HE6 := hid hE6
  have HE7 := hid hE7
  have HE8 := hid hE8
  have HE9 := hid hE9
  have HC := hid hC
  have HQT := hid QT
  have HQD := hid QD
  have HQA := hid QA
  have HQC := hid QC
  have HQZ := hid QZ
  have HQ0 := hid hq0
  have HK := hid hk
  clear QT QD QA QC QZ hA hE0 hE5 hE6 hE7 hE8 hE9 hC hq0 hd0 hd8 h14 h15 h8 hqn hrd hn hd hq hr hc hu hz
  have r2 := (Row.new w 76 A).alloc (.cells (bigs false 0) 76)
  have rr := Row.new (w.alloc (.cells A 76)) 76 (bigs false 0)
  have hU := ((Up.refl w).alloc (.cells A 76)).alloc (.cells (bigs false 0) 76)
  simp only [alloc_size] at rr
  have hk1 : ¬ k ≤ 0 := by omega
  have hk2 : (0 : Int) < k := by omega
  go_enter Tryd.func66, Tryd.ntmps66
  go_upto_region 3 with fail
  obtain ⟨V, hV⟩ : ∃ V, V = (w.alloc (.cells A 76)).alloc (.cells (bigs false 0) 76) := ⟨_, rfl⟩
  rw [bigs_0] at hV
  rw [← hV]
  rw [← bigs_0] at hV
  rw [← hV] at r2 rr hU
  clear hV hk1 hk2 hk
  go_wp2_with fail
  refine Calls.mono (HQT.out _) ?_; rintro e w1 ⟨rfl, hb⟩
  have z1 := hb.size
  have l1 := rr.lt
  replace r2 := (r2).mod (Mod.of_below hb Nil) (fun hf => hf)
  replace rr := (rr).mod (Mod.of_below hb Nil) (fun hf => hf)
  replace hU := hU.trans hb
  clear hb
  have n5 := Row.new w1 74 #[.int .u64 0, .int .u64 0, .int .u64 0, .int .u64 0, .int .u64 0, .int .u64 0, .int .u64 0, .int .u64 0, .int .u64 0, .int .u64 0, .int .u64 0, .int .u64 0, .int .u64 0, .int .u64 0, .int .u64 0, .int .u64 0]
  have r5 := n5.putRow E5
  replace r2 := (r2.alloc (.cells #[.int .u64 0, .int .u64 0, .int .u64 0, .int .u64 0, .int .u64 0, .int .u64 0, .int .u64 0, .int .u64 0, .int .u64 0, .int .u64 0, .int .u64 0, .int .u64 0, .int .u64 0, .int .u64 0, .int .u64 0, .int .u64 0] 74)).farRow (g' := w1.heap.size) (by omega) E5
  replace rr := (rr.alloc (.cells #[.int .u64 0, .int .u64 0, .int .u64 0, .int .u64 0, .int .u64 0, .int .u64 0, .int .u64 0, .int .u64 0, .int .u64 0, .int .u64 0, .int .u64 0, .int .u64 0, .int .u64 0, .int .u64 0, .int .u64 0, .int .u64 0] 74)).farRow (g' := w1.heap.size) (by omega) E5
  replace hU := (hU.alloc (.cells #[.int .u64 0, .int .u64 0, .int .u64 0, .int .u64 0, .int .u64 0, .int .u64 0, .int .u64 0, .int .u64 0, .int .u64 0, .int .u64 0, .int .u64 0, .int .u64 0, .int .u64 0, .int .u64 0, .int .u64 0, .int .u64 0] 74)).setRow (p := w1.heap.size) (by omega) E5
  go_upto_region 4 with (refine wpList_store_row rfl 74 _ _ rfl (w1.heap.size) E5 rfl rfl 74 #[.int .u64 0, .int .u64 0, .int .u64 0, .int .u64 0, .int .u64 0, .int .u64 0, .int .u64 0, .int .u64 0, .int .u64 0, .int .u64 0, .int .u64 0, .int .u64 0, .int .u64 0, .int .u64 0, .int .u64 0, .int .u64 0] n5 (size_De HE5) (sizeE HE5).symm (oneE HE5) ?_)
  obtain ⟨V1, hV1⟩ : ∃ V1, V1 = (w1.alloc (.cells #[.int .u64 0, .int .u64 0, .int .u64 0, .int .u64 0, .int .u64 0, .int .u64 0, .int .u64 0, .int .u64 0, .int .u64 0, .int .u64 0, .int .u64 0, .int .u64 0, .int .u64 0, .int .u64 0, .int .u64 0, .int .u64 0] 74)).setRow w1.heap.size E5 := ⟨_, rfl⟩
  rw [← hV1] at r2 rr r5 hU ⊢
  have zv1 : V1.heap.size = w1.heap.size + 1 := by rw [hV1, setRow_size, alloc_size]
  clear hV1 n5
  obtain ⟨g5, hg5⟩ : ∃ g, g = w1.heap.size := ⟨_, rfl⟩
  rw [← hg5] at r5 z1 zv1 ⊢
  clear hg5
  go_wp2_with (first | (refine wpList_load_E rfl HA HE0 (.tmp 21) rfl (w.heap.size) rfl 76 r2 ?_) | (refine wpList_load_row rfl 74 (.tmp 5) rfl (g5) rfl 74 E5 (0, 0) _ r5 Tryd.underlying74 rfl (size_De HE5) ?_))
  refine Calls.mono (HQD.out _) ?_; rintro e w4 ⟨rfl, hb⟩
  have z4 := hb.size
  replace r2 := (r2).mod (Mod.of_below hb Nil) (fun hf => hf)
  replace rr := (rr).mod (Mod.of_below hb Nil) (fun hf => hf)
  replace r5 := (r5).mod (Mod.of_below hb Nil) (fun hf => hf)
  replace hU := hU.trans hb
  clear hb
  have n6 := (Row.new w4 74 #[.int .u64 0, .int .u64 0, .int .u64 0, .int .u64 0, .int .u64 0, .int .u64 0, .int .u64 0, .int .u64 0, .int .u64 0, .int .u64 0, .int .u64 0, .int .u64 0, .int .u64 0, .int .u64 0, .int .u64 0, .int .u64 0]).alloc (.cells #[.int .u64 0, .int .u64 0, .int .u64 0, .int .u64 0, .int .u64 0, .int .u64 0, .int .u64 0, .int .u64 0, .int .u64 0, .int .u64 0, .int .u64 0, .int .u64 0, .int .u64 0, .int .u64 0, .int .u64 0, .int .u64 0] 74)
  have n7 := Row.new (w4.alloc (.cells #[.int .u64 0, .int .u64 0, .int .u64 0, .int .u64 0, .int .u64 0, .int .u64 0, .int .u64 0, .int .u64 0, .int .u64 0, .int .u64 0, .int .u64 0, .int .u64 0, .int .u64 0, .int .u64 0, .int .u64 0, .int .u64 0] 74)) 74 #[.int .u64 0, .int .u64 0, .int .u64 0, .int .u64 0, .int .u64 0, .int .u64 0, .int .u64 0, .int .u64 0, .int .u64 0, .int .u64 0, .int .u64 0, .int .u64 0, .int .u64 0, .int .u64 0, .int .u64 0, .int .u64 0]
  simp only [alloc_size] at n7
  have r6 := (n6.putRow E6).farRow (g' := w4.heap.size + 1) (by omega) E7
  have m7 := n7.farRow (g' := w4.heap.size) (by omega) E6
  have r7 := m7.putRow E7
  replace r2 := ((r2.alloc (.cells #[.int .u64 0, .int .u64 0, .int .u64 0, .int .u64 0, .int .u64 0, .int .u64 0, .int .u64 0, .int .u64 0, .int .u64 0, .int .u64 0, .int .u64 0, .int .u64 0, .int .u64 0, .int .u64 0, .int .u64 0, .int .u64 0] 74)).alloc (.cells #[.int .u64 0, .int .u64 0, .int .u64 0, .int .u64 0, .int .u64 0, .int .u64 0, .int .u64 0, .int .u64 0, .int .u64 0, .int .u64 0, .int .u64 0, .int .u64 0, .int .u64 0, .int .u64 0, .int .u64 0, .int .u64 0] 74)).farRow (g' := w4.heap.size) (by omega) E6 |>.farRow (g' := w4.heap.size + 1) (by omega) E7
  replace rr := ((rr.alloc (.cells #[.int .u64 0, .int .u64 0, .int .u64 0, .int .u64 0, .int .u64 0, .int .u64 0, .int .u64 0, .int .u64 0, .int .u64 0, .int .u64 0, .int .u64 0, .int .u64 0, .int .u64 0, .int .u64 0, .int .u64 0, .int .u64 0] 74)).alloc (.cells #[.int .u64 0, .int .u64 0, .int .u64 0, .int .u64 0, .int .u64 0, .int .u64 0, .int .u64 0, .int .u64 0, .int .u64 0, .int .u64 0, .int .u64 0, .int .u64 0, .int .u64 0, .int .u64 0, .int .u64 0, .int .u64 0] 74)).farRow (g' := w4.heap.size) (by omega) E6 |>.farRow (g' := w4.heap.size + 1) (by omega) E7
  replace r5 := ((r5.alloc (.cells #[.int .u64 0, .int .u64 0, .int .u64 0, .int .u64 0, .int .u64 0, .int .u64 0, .int .u64 0, .int .u64 0, .int .u64 0, .int .u64 0, .int .u64 0, .int .u64 0, .int .u64 0, .int .u64 0, .int .u64 0, .int .u64 0] 74)).alloc (.cells #[.int .u64 0, .int .u64 0, .int .u64 0, .int .u64 0, .int .u64 0, .int .u64 0, .int .u64 0, .int .u64 0, .int .u64 0, .int .u64 0, .int .u64 0, .int .u64 0, .int .u64 0, .int .u64 0, .int .u64 0, .int .u64 0] 74)).farRow (g' := w4.heap.size) (by omega) E6 |>.farRow (g' := w4.heap.size + 1) (by omega) E7
  replace hU := (((hU.alloc (.cells #[.int .u64 0, .int .u64 0, .int .u64 0, .int .u64 0, .int .u64 0, .int .u64 0, .int .u64 0, .int .u64 0, .int .u64 0, .int .u64 0, .int .u64 0, .int .u64 0, .int .u64 0, .int .u64 0, .int .u64 0, .int .u64 0] 74)).alloc (.cells #[.int .u64 0, .int .u64 0, .int .u64 0, .int .u64 0, .int .u64 0, .int .u64 0, .int .u64 0, .int .u64 0, .int .u64 0, .int .u64 0, .int .u64 0, .int .u64 0, .int .u64 0, .int .u64 0, .int .u64 0, .int .u64 0] 74)).setRow (p := w4.heap.size) (by omega) E6).setRow (p := w4.heap.size + 1) (by omega) E7
  go_upto_region 5 with (first | (refine wpList_store_row rfl 74 (.tmp 6) (.tmp 25) rfl (w4.heap.size) E6 rfl rfl 74 #[.int .u64 0, .int .u64 0, .int .u64 0, .int .u64 0, .int .u64 0, .int .u64 0, .int .u64 0, .int .u64 0, .int .u64 0, .int .u64 0, .int .u64 0, .int .u64 0, .int .u64 0, .int .u64 0, .int .u64 0, .int .u64 0] n6 (size_De HE6) (sizeE HE6).symm (oneE HE6) ?_) | (refine wpList_store_row rfl 74 (.tmp 7) (.tmp 26) rfl (w4.heap.size + 1) E7 rfl rfl 74 #[.int .u64 0, .int .u64 0, .int .u64 0, .int .u64 0, .int .u64 0, .int .u64 0, .int .u64 0, .int .u64 0, .int .u64 0, .int .u64 0, .int .u64 0, .int .u64 0, .int .u64 0, .int .u64 0, .int .u64 0, .int .u64 0] m7 (size_De HE7) (sizeE HE7).symm (oneE HE7) ?_))
  obtain ⟨V4, hV4⟩ : ∃ V4, V4 = (((w4.alloc (.cells #[.int .u64 0, .int .u64 0, .int .u64 0, .int .u64 0, .int .u64 0, .int .u64 0, .int .u64 0, .int .u64 0, .int .u64 0, .int .u64 0, .int .u64 0, .int .u64 0, .int .u64 0, .int .u64 0, .int .u64 0, .int .u64 0] 74)).alloc (.cells #[.int .u64 0, .int .u64 0, .int .u64 0, .int .u64 0, .int .u64 0, .int .u64 0, .int .u64 0, .int .u64 0, .int .u64 0, .int .u64 0, .int .u64 0, .int .u64 0, .int .u64 0, .int .u64 0, .int .u64 0, .int .u64 0] 74)).setRow w4.heap.size E6).setRow (w4.heap.size + 1) E7 := ⟨_, rfl⟩
  rw [← hV4] at r2 rr r5 r6 r7 hU ⊢
  have zv4 : V4.heap.size = w4.heap.size + 1 + 1 := by rw [hV4, setRow_size, setRow_size, alloc_size, alloc_size]
  clear hV4 n6 n7 m7
  obtain ⟨g6, hg6⟩ : ∃ g, g = w4.heap.size := ⟨_, rfl⟩
  rw [← hg6] at r6 r7 z4 zv4 ⊢
  clear hg6
  have r8 : Row (V4.alloc (.cells #[.int .u64 1, .int .u64 0, .int .u64 0, .int .u64 0, .int .u64 0, .int .u64 0, .int .u64 0, .int .u64 0, .int .u64 0, .int .u64 0, .int .u64 0, .int .u64 0, .int .u64 0, .int .u64 0, .int .u64 0, .int .u64 0] 74)) V4.heap.size 74 #[.int .u64 1, .int .u64 0, .int .u64 0, .int .u64 0, .int .u64 0, .int .u64 0, .int .u64 0, .int .u64 0, .int .u64 0, .int .u64 0, .int .u64 0, .int .u64 0, .int .u64 0, .int .u64 0, .int .u64 0, .int .u64 0] := Row.new V4 74 #[.int .u64 1, .int .u64 0, .int .u64 0, .int .u64 0, .int .u64 0, .int .u64 0, .int .u64 0, .int .u64 0, .int .u64 0, .int .u64 0, .int .u64 0, .int .u64 0, .int .u64 0, .int .u64 0, .int .u64 0, .int .u64 0]
  replace r2 := r2.alloc (.cells #[.int .u64 1, .int .u64 0, .int .u64 0, .int .u64 0, .int .u64 0, .int .u64 0, .int .u64 0, .int .u64 0, .int .u64 0, .int .u64 0, .int .u64 0, .int .u64 0, .int .u64 0, .int .u64 0, .int .u64 0, .int .u64 0] 74)
  replace rr := rr.alloc (.cells #[.int .u64 1, .int .u64 0, .int .u64 0, .int .u64 0, .int .u64 0, .int .u64 0, .int .u64 0, .int .u64 0, .int .u64 0, .int .u64 0, .int .u64 0, .int .u64 0, .int .u64 0, .int .u64 0, .int .u64 0, .int .u64 0] 74)
  replace r5 := r5.alloc (.cells #[.int .u64 1, .int .u64 0, .int .u64 0, .int .u64 0, .int .u64 0, .int .u64 0, .int .u64 0, .int .u64 0, .int .u64 0, .int .u64 0, .int .u64 0, .int .u64 0, .int .u64 0, .int .u64 0, .int .u64 0, .int .u64 0] 74)
  replace r6 := r6.alloc (.cells #[.int .u64 1, .int .u64 0, .int .u64 0, .int .u64 0, .int .u64 0, .int .u64 0, .int .u64 0, .int .u64 0, .int .u64 0, .int .u64 0, .int .u64 0, .int .u64 0, .int .u64 0, .int .u64 0, .int .u64 0, .int .u64 0] 74)
  replace r7 := r7.alloc (.cells #[.int .u64 1, .int .u64 0, .int .u64 0, .int .u64 0, .int .u64 0, .int .u64 0, .int .u64 0, .int .u64 0, .int .u64 0, .int .u64 0, .int .u64 0, .int .u64 0, .int .u64 0, .int .u64 0, .int .u64 0, .int .u64 0] 74)
  replace hU := hU.alloc (.cells #[.int .u64 1, .int .u64 0, .int .u64 0, .int .u64 0, .int .u64 0, .int .u64 0, .int .u64 0, .int .u64 0, .int .u64 0, .int .u64 0, .int .u64 0, .int .u64 0, .int .u64 0, .int .u64 0, .int .u64 0, .int .u64 0] 74)
  go_upto_region 7 with fail
  obtain ⟨V5, hV5⟩ : ∃ V5, V5 = V4.alloc (.cells #[.int .u64 1, .int .u64 0, .int .u64 0, .int .u64 0, .int .u64 0, .int .u64 0, .int .u64 0, .int .u64 0, .int .u64 0, .int .u64 0, .int .u64 0, .int .u64 0, .int .u64 0, .int .u64 0, .int .u64 0, .int .u64 0] 74) := ⟨_, rfl⟩
  rw [← hV5] at r2 rr r5 r6 r7 r8 hU ⊢
  clear hV5
  rw [zv4] at r8
  clear zv4
  have MK : ∀ W, Row W (w.heap.size) 76 A → Row W (w.heap.size + 1) 76 (bigs false 0) → Row W (g5) 74 E5 → Row W (g6) 74 E6 → Row W (g6 + 1) 74 E7 → Row W (g6 + 1 + 1) 74 #[.int .u64 1, .int .u64 0, .int .u64 0, .int .u64 0, .int .u64 0, .int .u64 0, .int .u64 0, .int .u64 0, .int .u64 0, .int .u64 0, .int .u64 0, .int .u64 0, .int .u64 0, .int .u64 0, .int .u64 0, .int .u64 0] → Up w.heap.size w W → Row W (w.heap.size) 76 A ∧ Row W (w.heap.size + 1) 76 (bigs false 0) ∧ Row W (g5) 74 E5 ∧ Row W (g6) 74 E6 ∧ Row W (g6 + 1) 74 E7 ∧ Row W (g6 + 1 + 1) 74 #[.int .u64 1, .int .u64 0, .int .u64 0, .int .u64 0, .int .u64 0, .int .u64 0, .int .u64 0, .int .u64 0, .int .u64 0, .int .u64 0, .int .u64 0, .int .u64 0, .int .u64 0, .int .u64 0, .int .u64 0, .int .u64 0] ∧ Up w.heap.size w W ∧ W.cell? ⟨w.heap.size, 0, none⟩ = some (.bool false) := fun W k0 k1 k2 k3 k4 k5 k6 => ⟨k0, k1, k2, k3, k4, k5, k6, by rw [k0.cell, zeroC HA]⟩
  have MK := hid MK
  refine wp_region_noPanic ?_
  refine wp_region_held_drew (S := fun W => Row W (w.heap.size) 76 A ∧ Row W (w.heap.size + 1) 76 (bigs false 0) ∧ Row W (g5) 74 E5 ∧ Row W (g6) 74 E6 ∧ Row W (g6 + 1) 74 E7 ∧ Row W (g6 + 1 + 1) 74 #[.int .u64 1, .int .u64 0, .int .u64 0, .int .u64 0, .int .u64 0, .int .u64 0, .int .u64 0, .int .u64 0, .int .u64 0, .int .u64 0, .int .u64 0, .int .u64 0, .int .u64 0, .int .u64 0, .int .u64 0, .int .u64 0] ∧ Up w.heap.size w W ∧ W.cell? ⟨w.heap.size, 0, none⟩ = some (.bool false)) (by kernel_rfl) (MK.out _ r2.drew rr.drew r5.drew r6.drew r7.drew r8.drew hU.drew) (fun hHeld => ?_)
  refine wpAnyH_take (i := 0) (oi := { dst := some 28, op := Op.load 74 (Operand.tmp 7), type := 74, pos := "ref.go:221", after := #[], guard := none }) (v := .agg E7) rfl (by kernel_rfl) (by kernel_rfl) (by kernel_rfl) (fun _ _ _ h => h) (Or.inl ⟨by rfl, fun W hW => exec_load_row 74 _ rfl (g6 + 1) rfl 74 E7 _ Tryd.underlying74 rfl (size_De HE7) W hW.2.2.2.2.1⟩) hHeld ?_
  try simp only [Act.put, List.setIfInBounds_toArray, List.set_cons_zero, List.set_cons_succ]
  refine wpAnyH_take (i := 1) (oi := { dst := some 29, op := Op.load 74 (Operand.tmp 7), type := 74, pos := "ref.go:221", after := #[], guard := none }) (v := .agg E7) rfl (by kernel_rfl) (by kernel_rfl) (by kernel_rfl) (fun _ _ _ h => h) (Or.inl ⟨by rfl, fun W hW => exec_load_row 74 _ rfl (g6 + 1) rfl 74 E7 _ Tryd.underlying74 rfl (size_De HE7) W hW.2.2.2.2.1⟩) hHeld ?_
  try simp only [Act.put, List.setIfInBounds_toArray, List.set_cons_zero, List.set_cons_succ]
  refine wpAnyH_take (i := 3) (oi := { dst := some 31, op := Op.load 74 (Operand.tmp 5), type := 74, pos := "ref.go:221", after := #[], guard := none }) (v := .agg E5) rfl (by kernel_rfl) (by kernel_rfl) (by kernel_rfl) (fun _ _ _ h => h) (Or.inl ⟨by rfl, fun W hW => exec_load_row 74 _ rfl (g5) rfl 74 E5 _ Tryd.underlying74 rfl (size_De HE5) W hW.2.2.1⟩) hHeld ?_
  try simp only [Act.put, List.setIfInBounds_toArray, List.set_cons_zero, List.set_cons_succ]
  refine wpAnyH_ready (rs := [2]) (by kernel_rfl) (by simp) ?_
  refine AllReadyH.cons (o := { dst := some 30, op := Op.call { callee := Callee.value (Operand.func 87), args := #[Operand.tmp 28, Operand.tmp 29], argTypes := #[74, 74] }, type := 74, pos := "ref.go:221", after := #[{ on := 0, ground := Ground.data }, { on := 1, ground := Ground.data }], guard := none }) rfl (fun K hK => ?_) AllReadyH.nil
  go_simp
  refine Calls.mono (HQA.out _) ?_; rintro e w5 ⟨rfl, hb⟩
  refine hK.out _ _ (MK.out _ ((hHeld.1).mod (Mod.of_below hb Nil) (fun hf => hf)) ((hHeld.2.1).mod (Mod.of_below hb Nil) (fun hf => hf)) ((hHeld.2.2.1).mod (Mod.of_below hb Nil) (fun hf => hf)) ((hHeld.2.2.2.1).mod (Mod.of_below hb Nil) (fun hf => hf)) ((hHeld.2.2.2.2.1).mod (Mod.of_below hb Nil) (fun hf => hf)) ((hHeld.2.2.2.2.2.1).mod (Mod.of_below hb Nil) (fun hf => hf)) ((hHeld.2.2.2.2.2.2.1).trans hb)) (fun hHeld => ?_)
  clear hK K
  try simp only [Act.put, List.setIfInBounds_toArray, List.set_cons_zero, List.set_cons_succ]
  refine wpAnyH_ready (rs := [4]) (by kernel_rfl) (by simp) ?_
  refine AllReadyH.cons (o := { dst := some 32, op := Op.call { callee := Callee.value (Operand.func 88), args := #[Operand.tmp 30, Operand.tmp 31], argTypes := #[74, 74] }, type := 3, pos := "ref.go:221", after := #[{ on := 2, ground := Ground.data }, { on := 3, ground := Ground.data }, { on := 2, ground := Ground.chain }], guard := none }) rfl (fun K hK => ?_) AllReadyH.nil
  go_simp
  refine Calls.mono (HQC.out _) ?_; rintro e w6 ⟨rfl, hb⟩
  refine hK.out _ _ (MK.out _ ((hHeld.1).mod (Mod.of_below hb Nil) (fun hf => hf)) ((hHeld.2.1).mod (Mod.of_below hb Nil) (fun hf => hf)) ((hHeld.2.2.1).mod (Mod.of_below hb Nil) (fun hf => hf)) ((hHeld.2.2.2.1).mod (Mod.of_below hb Nil) (fun hf => hf)) ((hHeld.2.2.2.2.1).mod (Mod.of_below hb Nil) (fun hf => hf)) ((hHeld.2.2.2.2.2.1).mod (Mod.of_below hb Nil) (fun hf => hf)) ((hHeld.2.2.2.2.2.2.1).trans hb)) (fun hHeld => ?_)
  clear hK K
  try simp only [Act.put, List.setIfInBounds_toArray, List.set_cons_zero, List.set_cons_succ]
  refine wpAnyH_take (i := 5) (oi := { dst := some 9, op := Op.assign (Operand.tmp 32), type := 3, pos := "ref.go:221", after := #[{ on := 4, ground := Ground.data }, { on := 4, ground := Ground.chain }, { on := 0, ground := Ground.phase }, { on := 1, ground := Ground.phase }, { on := 2, ground := Ground.phase }, { on := 3, ground := Ground.phase }, { on := 4, ground := Ground.phase }], guard := none }) (v := ?_) rfl (by kernel_rfl) (by kernel_rfl) (by kernel_rfl) (fun _ _ _ h => h) (Or.inl ⟨by rfl, ?_⟩) hHeld ?_
  rotate_left
  · intro w' hSw; (try dsimp only at hSw); go_simp <;> with_reducible rfl
  try simp only [Act.put, List.setIfInBounds_toArray, List.set_cons_zero, List.set_cons_succ]
  refine wpAnyH_done (by kernel_rfl) ?_ _
  refine NoPanic.normal ?_
  replace r2 := hHeld.1
  replace rr := hHeld.2.1
  replace r5 := hHeld.2.2.1
  replace r6 := hHeld.2.2.2.1
  replace r7 := hHeld.2.2.2.2.1
  replace r8 := hHeld.2.2.2.2.2.1
  replace hU := hHeld.2.2.2.2.2.2.1
  clear MK hHeld r5 r7
  have c6 := r6.cell 0
  rw [HE6.out, digs_get _ (by decide), ← HQ0.out] at c6
  go_upto_region 10 with fail
  clear c6
  have E69 : E6 = E9 := by rw [HE6.out, HE9.out]; exact congrArg digs HEQ.out
  rw [E69] at r6
  have MK : ∀ W, Row W (w.heap.size) 76 A → Row W (g6) 74 E9 → (∃ cs : Array Value, Row W (w.heap.size + 1) 76 cs ∧ cs.size = 17) → Up w.heap.size w W → Row W (w.heap.size) 76 A ∧ Row W (g6) 74 E9 ∧ (∃ cs : Array Value, Row W (w.heap.size + 1) 76 cs ∧ cs.size = 17) ∧ Up w.heap.size w W ∧ W.cell? ⟨w.heap.size, 0, none⟩ = some (.bool false) := fun W k0 k1 k2 k3 => ⟨k0, k1, k2, k3, by rw [k0.cell, zeroC HA]⟩
  have MK := hid MK
  refine wp_region_noPanic ?_
  refine wp_region_held_drew (S := fun W => Row W (w.heap.size) 76 A ∧ Row W (g6) 74 E9 ∧ (∃ cs : Array Value, Row W (w.heap.size + 1) 76 cs ∧ cs.size = 17) ∧ Up w.heap.size w W ∧ W.cell? ⟨w.heap.size, 0, none⟩ = some (.bool false)) (by kernel_rfl) (MK.out _ r2.drew r6.drew ⟨_, rr.drew, bigs_size _ _⟩ hU.drew) (fun hHeld => ?_)
  refine wpAnyH_take (i := 0) (oi := { dst := some 48, op := Op.fieldAddr 76 (Operand.tmp 2) 0, type := 0, pos := "ref.go:225", after := #[], guard := none }) (v := ?_) rfl (by kernel_rfl) (by kernel_rfl) (by kernel_rfl) (fun _ _ _ h => h) (Or.inl ⟨by rfl, ?_⟩) hHeld ?_
  rotate_left
  · intro w' hSw; (try dsimp only at hSw); go_simp <;> with_reducible rfl
  try simp only [Act.put, List.setIfInBounds_toArray, List.set_cons_zero, List.set_cons_succ]
  refine wpAnyH_take (i := 1) (oi := { dst := some 49, op := Op.load 4 (Operand.tmp 48), type := 4, pos := "ref.go:225", after := #[{ on := 0, ground := Ground.data }], guard := none }) (v := ?_) rfl (by kernel_rfl) (by kernel_rfl) (by kernel_rfl) (fun _ _ _ h => h) (Or.inl ⟨by rfl, ?_⟩) hHeld ?_
  rotate_left
  · intro w' hSw; (try dsimp only at hSw); go_simp <;> with_reducible rfl
  try simp only [Act.put, List.setIfInBounds_toArray, List.set_cons_zero, List.set_cons_succ]
  refine wpAnyH_take (i := 2) (oi := { dst := some 50, op := Op.move (Operand.tmp 49), type := 4, pos := "ref.go:225", after := #[{ on := 1, ground := Ground.data }], guard := none }) (v := ?_) rfl (by kernel_rfl) (by kernel_rfl) (by kernel_rfl) (fun _ _ _ h => h) (Or.inl ⟨by rfl, ?_⟩) hHeld ?_
  rotate_left
  · intro w' hSw; (try dsimp only at hSw); go_simp <;> with_reducible rfl
  try simp only [Act.put, List.setIfInBounds_toArray, List.set_cons_zero, List.set_cons_succ]
  refine wpAnyH_take (i := 3) (oi := { dst := some 51, op := Op.load 74 (Operand.tmp 6), type := 74, pos := "ref.go:225", after := #[{ on := 2, ground := Ground.guard }], guard := some (2, true) }) (v := undef) rfl (by kernel_rfl) (by kernel_rfl) (by kernel_rfl) (fun _ _ _ h => h) (Or.inr ⟨by rfl, rfl⟩) hHeld ?_
  try simp only [Act.put, List.setIfInBounds_toArray, List.set_cons_zero, List.set_cons_succ]
  refine wpAnyH_take (i := 4) (oi := { dst := some 52, op := Op.call { callee := Callee.value (Operand.func 64), args := #[Operand.tmp 51], argTypes := #[74] }, type := 4, pos := "ref.go:225", after := #[{ on := 3, ground := Ground.data }, { on := 2, ground := Ground.chain }, { on := 2, ground := Ground.guard }], guard := some (2, true) }) (v := undef) rfl (by kernel_rfl) (by kernel_rfl) (by kernel_rfl) (fun _ _ _ h => h) (Or.inr ⟨by rfl, rfl⟩) hHeld ?_
  try simp only [Act.put, List.setIfInBounds_toArray, List.set_cons_zero, List.set_cons_succ]
  refine wpAnyH_take (i := 5) (oi := { dst := some 53, op := Op.unOp UnOp.not 4 (Operand.tmp 52), type := 4, pos := "ref.go:225", after := #[{ on := 4, ground := Ground.data }, { on := 2, ground := Ground.guard }], guard := some (2, true) }) (v := undef) rfl (by kernel_rfl) (by kernel_rfl) (by kernel_rfl) (fun _ _ _ h => h) (Or.inr ⟨by rfl, rfl⟩) hHeld ?_
  try simp only [Act.put, List.setIfInBounds_toArray, List.set_cons_zero, List.set_cons_succ]
  refine wpAnyH_take (i := 6) (oi := { dst := some 54, op := Op.pick (Operand.tmp 50) (Operand.tmp 53) (Operand.const (Value.bool false)), type := 4, pos := "ref.go:225", after := #[{ on := 2, ground := Ground.data }, { on := 5, ground := Ground.data }], guard := none }) (v := ?_) rfl (by kernel_rfl) (by kernel_rfl) (by kernel_rfl) (fun _ _ _ h => h) (Or.inl ⟨by rfl, ?_⟩) hHeld ?_
  rotate_left
  · intro w' hSw; (try dsimp only at hSw); go_simp <;> with_reducible rfl
  try simp only [Act.put, List.setIfInBounds_toArray, List.set_cons_zero, List.set_cons_succ]
  refine wpAnyH_take (i := 7) (oi := { dst := some 55, op := Op.load 74 (Operand.tmp 6), type := 74, pos := "ref.go:225", after := #[], guard := none }) (v := .agg E9) rfl (by kernel_rfl) (by kernel_rfl) (by kernel_rfl) (fun _ _ _ h => h) (Or.inl ⟨by rfl, fun W hW => exec_load_row 74 _ rfl (g6) rfl 74 E9 _ Tryd.underlying74 rfl (size_De HE9) W hW.2.1⟩) hHeld ?_
  try simp only [Act.put, List.setIfInBounds_toArray, List.set_cons_zero, List.set_cons_succ]
  refine wpAnyH_take (i := 8) (oi := { dst := some 56, op := Op.build 76 #[(0, Operand.tmp 54), (1, Operand.tmp 55)], type := 76, pos := "ref.go:225", after := #[{ on := 6, ground := Ground.data }, { on := 7, ground := Ground.data }], guard := none }) (v := .agg C) rfl (by kernel_rfl) (by kernel_rfl) (by kernel_rfl) (fun _ _ _ h => h) (Or.inl ⟨by rfl, fun W hW => exec_build_C HC HE9 _ _ rfl rfl rfl⟩) hHeld ?_
  try simp only [Act.put, List.setIfInBounds_toArray, List.set_cons_zero, List.set_cons_succ]
  obtain ⟨cs, hcs, hcz⟩ := hHeld.2.2.1
  refine wpAnyH_ready (rs := [9]) (by kernel_rfl) (by simp) ?_
  refine AllReadyH.cons (o := { dst := none, op := Op.store 76 (Operand.tmp 4) (Operand.tmp 56), type := 0, pos := "ref.go:225", after := #[{ on := 8, ground := Ground.data }, { on := 4, ground := Ground.chain }, { on := 0, ground := Ground.phase }, { on := 1, ground := Ground.phase }, { on := 2, ground := Ground.phase }, { on := 3, ground := Ground.phase }, { on := 4, ground := Ground.phase }, { on := 5, ground := Ground.phase }, { on := 6, ground := Ground.phase }, { on := 7, ground := Ground.phase }, { on := 8, ground := Ground.phase }], guard := none }) rfl (fun K hK => ?_) AllReadyH.nil
  refine (if_pos (by rfl)).mpr ?_
  refine wp_store_row 76 _ _ rfl (w.heap.size + 1) C rfl rfl 76 cs hcs (size_Bn (sizeC HC)) (by rw [hcz, sizeC HC]) (oneC HC) ?_
  refine hK.out _ _ (MK.out _ ((hHeld.1).farRow (by omega) C) ((hHeld.2.1).farRow (by omega) C) (⟨C, hcs.putRow C, sizeC HC⟩) ((hHeld.2.2.2.1).setRow (by omega) C)) (fun hHeld => ?_)
  clear hK K
  try simp only [Act.put, List.setIfInBounds_toArray, List.set_cons_zero, List.set_cons_succ]
  refine wpAnyH_done (by kernel_rfl) ?_ _
  refine NoPanic.normal ?_
  go_wp2_with fail
  exact bodyPost_ret (v := .agg C) (results_cell_row Tryd.results66 _ _ (w.heap.size + 1) 76 C (0, 0) _ rfl (hcs.putRow _) Tryd.underlying76 rfl (size_Bn (sizeC HC))) rfl ⟨rfl, hHeld.2.2.2.1.below⟩

set_option maxRecDepth 100000 in
set_option maxHeartbeats 4000000 in
theorem round_N2_t (w : World) (n q r d : Nat) (k : Int) (hn : n < BP 14) (hk : 0 < k ∧ k ≤ 77) (hd : d = 10 ^ k.toNat) (hq : q = n / d) (hr : r = n % d) (hc : cmpN (r + r) d = -1) :
    Calls Tryd.prog 66 #[BigV true n, .int .i64 k] w fun e w' => e = .returned (BigV (!decide (q = 0)) (q)) ∧ Below w.heap.size w w' := by
  have hd0 : 0 < d := by rw [hd]; exact Nat.pow_pos (by decide)
  have hd8 : d < BP 8 := by rw [hd]; exact ten_small (by omega)
  have h14 : BP 15 = BP 14 * 4294967296 := BP_succ 14
  have h15 : BP 16 = BP 15 * 4294967296 := BP_succ 15
  have h8 : BP 8 ≤ BP 14 := BP_le (by decide)
  have hqn : q ≤ n := by rw [hq]; exact Nat.div_le_self _ _
  have hrd : r < d := by rw [hr]; exact Nat.mod_lt _ hd0
  have QT := fun w => rten_any w k (by omega)
  rw [← hd] at QT
  have QD := fun w => rdiv_any w n d (by omega) (by omega) hd0
  rw [← hq, ← hr] at QD
  have QA := fun w => radd_any w r r (by omega)
  have QC := fun w => rcmp_any w (r + r) d (by omega) (by omega)
  rw [hc] at QC
  have QZ := fun w => rzero_any w (q) (by omega)
  obtain ⟨u, hu⟩ : ∃ u, u = q := ⟨_, rfl⟩
  have HEQ := hid hu.symm
  rw [← hu] at QZ ⊢
  obtain ⟨z, hz⟩ : ∃ z, z = decide (u = 0) := ⟨_, rfl⟩
  rw [← hz] at QZ
  rw [← hz]
  unfold BigV
  unfold DV at QT QD QA QC QZ
  have lq : dg q 0 < 4294967296 := dg_lt q 0
  obtain ⟨q0, hq0⟩ : ∃ x, x = dg q 0 := ⟨_, rfl⟩
  rw [← hq0] at lq
  obtain ⟨A, hA⟩ : ∃ X, X = bigs true n := ⟨_, rfl⟩
  obtain ⟨E0, hE0⟩ : ∃ X, X = digs n := ⟨_, rfl⟩
  obtain ⟨E5, hE5⟩ : ∃ X, X = digs d := ⟨_, rfl⟩
  obtain ⟨E6, hE6⟩ : ∃ X, X = digs q := ⟨_, rfl⟩
  obtain ⟨E7, hE7⟩ : ∃ X, X = digs r := ⟨_, rfl⟩
  obtain ⟨E8, hE8⟩ : ∃ X, X = digs (r + r) := ⟨_, rfl⟩
  obtain ⟨E9, hE9⟩ : ∃ X, X = digs u := ⟨_, rfl⟩
  obtain ⟨C, hC⟩ : ∃ X, X = bigs (!z) u := ⟨_, rfl⟩
  rw [← hE5] at QT
  rw [← hE0, ← hE5, ← hE6, ← hE7] at QD
  rw [← hE7, ← hE8] at QA
  rw [← hE8, ← hE5] at QC
  rw [← hE9] at QZ
  rw [← hC, ← hA]
  have HA := hid hA
  have HE0 := hid hE0
  have HE5 := hid hE5
  have HE6 := hid hE6
  have HE7 := hid hE7
  have HE8 := hid hE8
  have HE9 := hid hE9
  have HC := hid hC
  have HQT := hid QT
  have HQD := hid QD
  have HQA := hid QA
  have HQC := hid QC
  have HQZ := hid QZ
  have HQ0 := hid hq0
  have HK := hid hk
  clear QT QD QA QC QZ hA hE0 hE5 hE6 hE7 hE8 hE9 hC hq0 hd0 hd8 h14 h15 h8 hqn hrd hn hd hq hr hc hu hz
  have r2 := (Row.new w 76 A).alloc (.cells (bigs false 0) 76)
  have rr := Row.new (w.alloc (.cells A 76)) 76 (bigs false 0)
  have hU := ((Up.refl w).alloc (.cells A 76)).alloc (.cells (bigs false 0) 76)
  simp only [alloc_size] at rr
  have hk1 : ¬ k ≤ 0 := by omega
  have hk2 : (0 : Int) < k := by omega
  go_enter Tryd.func66, Tryd.ntmps66
  go_upto_region 3 with fail
  obtain ⟨V, hV⟩ : ∃ V, V = (w.alloc (.cells A 76)).alloc (.cells (bigs false 0) 76) := ⟨_, rfl⟩
  rw [bigs_0] at hV
  rw [← hV]
  rw [← bigs_0] at hV
  rw [← hV] at r2 rr hU
  clear hV hk1 hk2 hk
  go_wp2_with fail
  refine Calls.mono (HQT.out _) ?_; rintro e w1 ⟨rfl, hb⟩
  have z1 := hb.size
  have l1 := rr.lt
  replace r2 := (r2).mod (Mod.of_below hb Nil) (fun hf => hf)
  replace rr := (rr).mod (Mod.of_below hb Nil) (fun hf => hf)
  replace hU := hU.trans hb
  clear hb
  have n5 := Row.new w1 74 #[.int .u64 0, .int .u64 0, .int .u64 0, .int .u64 0, .int .u64 0, .int .u64 0, .int .u64 0, .int .u64 0, .int .u64 0, .int .u64 0, .int .u64 0, .int .u64 0, .int .u64 0, .int .u64 0, .int .u64 0, .int .u64 0]
  have r5 := n5.putRow E5
  replace r2 := (r2.alloc (.cells #[.int .u64 0, .int .u64 0, .int .u64 0, .int .u64 0, .int .u64 0, .int .u64 0, .int .u64 0, .int .u64 0, .int .u64 0, .int .u64 0, .int .u64 0, .int .u64 0, .int .u64 0, .int .u64 0, .int .u64 0, .int .u64 0] 74)).farRow (g' := w1.heap.size) (by omega) E5
  replace rr := (rr.alloc (.cells #[.int .u64 0, .int .u64 0, .int .u64 0, .int .u64 0, .int .u64 0, .int .u64 0, .int .u64 0, .int .u64 0, .int .u64 0, .int .u64 0, .int .u64 0, .int .u64 0, .int .u64 0, .int .u64 0, .int .u64 0, .int .u64 0] 74)).farRow (g' := w1.heap.size) (by omega) E5
  replace hU := (hU.alloc (.cells #[.int .u64 0, .int .u64 0, .int .u64 0, .int .u64 0, .int .u64 0, .int .u64 0, .int .u64 0, .int .u64 0, .int .u64 0, .int .u64 0, .int .u64 0, .int .u64 0, .int .u64 0, .int .u64 0, .int .u64 0, .int .u64 0] 74)).setRow (p := w1.heap.size) (by omega) E5
  go_upto_region 4 with (refine wpList_store_row rfl 74 _ _ rfl (w1.heap.size) E5 rfl rfl 74 #[.int .u64 0, .int .u64 0, .int .u64 0, .int .u64 0, .int .u64 0, .int .u64 0, .int .u64 0, .int .u64 0, .int .u64 0, .int .u64 0, .int .u64 0, .int .u64 0, .int .u64 0, .int .u64 0, .int .u64 0, .int .u64 0] n5 (size_De HE5) (sizeE HE5).symm (oneE HE5) ?_)
  obtain ⟨V1, hV1⟩ : ∃ V1, V1 = (w1.alloc (.cells #[.int .u64 0, .int .u64 0, .int .u64 0, .int .u64 0, .int .u64 0, .int .u64 0, .int .u64 0, .int .u64 0, .int .u64 0, .int .u64 0, .int .u64 0, .int .u64 0, .int .u64 0, .int .u64 0, .int .u64 0, .int .u64 0] 74)).setRow w1.heap.size E5 := ⟨_, rfl⟩
  rw [← hV1] at r2 rr r5 hU ⊢
  have zv1 : V1.heap.size = w1.heap.size + 1 := by rw [hV1, setRow_size, alloc_size]
  clear hV1 n5
  obtain ⟨g5, hg5⟩ : ∃ g, g = w1.heap.size := ⟨_, rfl⟩
  rw [← hg5] at r5 z1 zv1 ⊢
  clear hg5
  go_wp2_with (first | (refine wpList_load_E rfl HA HE0 (.tmp 21) rfl (w.heap.size) rfl 76 r2 ?_) | (refine wpList_load_row rfl 74 (.tmp 5) rfl (g5) rfl 74 E5 (0, 0) _ r5 Tryd.underlying74 rfl (size_De HE5) ?_))
  refine Calls.mono (HQD.out _) ?_; rintro e w4 ⟨rfl, hb⟩
  have z4 := hb.size
  replace r2 := (r2).mod (Mod.of_below hb Nil) (fun hf => hf)
  replace rr := (rr).mod (Mod.of_below hb Nil) (fun hf => hf)
  replace r5 := (r5).mod (Mod.of_below hb Nil) (fun hf => hf)
  replace hU := hU.trans hb
  clear hb
  have n6 := (Row.new w4 74 #[.int .u64 0, .int .u64 0, .int .u64 0, .int .u64 0, .int .u64 0, .int .u64 0, .int .u64 0, .int .u64 0, .int .u64 0, .int .u64 0, .int .u64 0, .int .u64 0, .int .u64 0, .int .u64 0, .int .u64 0, .int .u64 0]).alloc (.cells #[.int .u64 0, .int .u64 0, .int .u64 0, .int .u64 0, .int .u64 0, .int .u64 0, .int .u64 0, .int .u64 0, .int .u64 0, .int .u64 0, .int .u64 0, .int .u64 0, .int .u64 0, .int .u64 0, .int .u64 0, .int .u64 0] 74)
  have n7 := Row.new (w4.alloc (.cells #[.int .u64 0, .int .u64 0, .int .u64 0, .int .u64 0, .int .u64 0, .int .u64 0, .int .u64 0, .int .u64 0, .int .u64 0, .int .u64 0, .int .u64 0, .int .u64 0, .int .u64 0, .int .u64 0, .int .u64 0, .int .u64 0] 74)) 74 #[.int .u64 0, .int .u64 0, .int .u64 0, .int .u64 0, .int .u64 0, .int .u64 0, .int .u64 0, .int .u64 0, .int .u64 0, .int .u64 0, .int .u64 0, .int .u64 0, .int .u64 0, .int .u64 0, .int .u64 0, .int .u64 0]
  simp only [alloc_size] at n7
  have r6 := (n6.putRow E6).farRow (g' := w4.heap.size + 1) (by omega) E7
  have m7 := n7.farRow (g' := w4.heap.size) (by omega) E6
  have r7 := m7.putRow E7
  replace r2 := ((r2.alloc (.cells #[.int .u64 0, .int .u64 0, .int .u64 0, .int .u64 0, .int .u64 0, .int .u64 0, .int .u64 0, .int .u64 0, .int .u64 0, .int .u64 0, .int .u64 0, .int .u64 0, .int .u64 0, .int .u64 0, .int .u64 0, .int .u64 0] 74)).alloc (.cells #[.int .u64 0, .int .u64 0, .int .u64 0, .int .u64 0, .int .u64 0, .int .u64 0, .int .u64 0, .int .u64 0, .int .u64 0, .int .u64 0, .int .u64 0, .int .u64 0, .int .u64 0, .int .u64 0, .int .u64 0, .int .u64 0] 74)).farRow (g' := w4.heap.size) (by omega) E6 |>.farRow (g' := w4.heap.size + 1) (by omega) E7
  replace rr := ((rr.alloc (.cells #[.int .u64 0, .int .u64 0, .int .u64 0, .int .u64 0, .int .u64 0, .int .u64 0, .int .u64 0, .int .u64 0, .int .u64 0, .int .u64 0, .int .u64 0, .int .u64 0, .int .u64 0, .int .u64 0, .int .u64 0, .int .u64 0] 74)).alloc (.cells #[.int .u64 0, .int .u64 0, .int .u64 0, .int .u64 0, .int .u64 0, .int .u64 0, .int .u64 0, .int .u64 0, .int .u64 0, .int .u64 0, .int .u64 0, .int .u64 0, .int .u64 0, .int .u64 0, .int .u64 0, .int .u64 0] 74)).farRow (g' := w4.heap.size) (by omega) E6 |>.farRow (g' := w4.heap.size + 1) (by omega) E7
  replace r5 := ((r5.alloc (.cells #[.int .u64 0, .int .u64 0, .int .u64 0, .int .u64 0, .int .u64 0, .int .u64 0, .int .u64 0, .int .u64 0, .int .u64 0, .int .u64 0, .int .u64 0, .int .u64 0, .int .u64 0, .int .u64 0, .int .u64 0, .int .u64 0] 74)).alloc (.cells #[.int .u64 0, .int .u64 0, .int .u64 0, .int .u64 0, .int .u64 0, .int .u64 0, .int .u64 0, .int .u64 0, .int .u64 0, .int .u64 0, .int .u64 0, .int .u64 0, .int .u64 0, .int .u64 0, .int .u64 0, .int .u64 0] 74)).farRow (g' := w4.heap.size) (by omega) E6 |>.farRow (g' := w4.heap.size + 1) (by omega) E7
  replace hU := (((hU.alloc (.cells #[.int .u64 0, .int .u64 0, .int .u64 0, .int .u64 0, .int .u64 0, .int .u64 0, .int .u64 0, .int .u64 0, .int .u64 0, .int .u64 0, .int .u64 0, .int .u64 0, .int .u64 0, .int .u64 0, .int .u64 0, .int .u64 0] 74)).alloc (.cells #[.int .u64 0, .int .u64 0, .int .u64 0, .int .u64 0, .int .u64 0, .int .u64 0, .int .u64 0, .int .u64 0, .int .u64 0, .int .u64 0, .int .u64 0, .int .u64 0, .int .u64 0, .int .u64 0, .int .u64 0, .int .u64 0] 74)).setRow (p := w4.heap.size) (by omega) E6).setRow (p := w4.heap.size + 1) (by omega) E7
  go_upto_region 5 with (first | (refine wpList_store_row rfl 74 (.tmp 6) (.tmp 25) rfl (w4.heap.size) E6 rfl rfl 74 #[.int .u64 0, .int .u64 0, .int .u64 0, .int .u64 0, .int .u64 0, .int .u64 0, .int .u64 0, .int .u64 0, .int .u64 0, .int .u64 0, .int .u64 0, .int .u64 0, .int .u64 0, .int .u64 0, .int .u64 0, .int .u64 0] n6 (size_De HE6) (sizeE HE6).symm (oneE HE6) ?_) | (refine wpList_store_row rfl 74 (.tmp 7) (.tmp 26) rfl (w4.heap.size + 1) E7 rfl rfl 74 #[.int .u64 0, .int .u64 0, .int .u64 0, .int .u64 0, .int .u64 0, .int .u64 0, .int .u64 0, .int .u64 0, .int .u64 0, .int .u64 0, .int .u64 0, .int .u64 0, .int .u64 0, .int .u64 0, .int .u64 0, .int .u64 0] m7 (size_De HE7) (sizeE HE7).symm (oneE HE7) ?_))
  obtain ⟨V4, hV4⟩ : ∃ V4, V4 = (((w4.alloc (.cells #[.int .u64 0, .int .u64 0, .int .u64 0, .int .u64 0, .int .u64 0, .int .u64 0, .int .u64 0, .int .u64 0, .int .u64 0, .int .u64 0, .int .u64 0, .int .u64 0, .int .u64 0, .int .u64 0, .int .u64 0, .int .u64 0] 74)).alloc (.cells #[.int .u64 0, .int .u64 0, .int .u64 0, .int .u64 0, .int .u64 0, .int .u64 0, .int .u64 0, .int .u64 0, .int .u64 0, .int .u64 0, .int .u64 0, .int .u64 0, .int .u64 0, .int .u64 0, .int .u64 0, .int .u64 0] 74)).setRow w4.heap.size E6).setRow (w4.heap.size + 1) E7 := ⟨_, rfl⟩
  rw [← hV4] at r2 rr r5 r6 r7 hU ⊢
  have zv4 : V4.heap.size = w4.heap.size + 1 + 1 := by rw [hV4, setRow_size, setRow_size, alloc_size, alloc_size]
  clear hV4 n6 n7 m7
  obtain ⟨g6, hg6⟩ : ∃ g, g = w4.heap.size := ⟨_, rfl⟩
  rw [← hg6] at r6 r7 z4 zv4 ⊢
  clear hg6
  have r8 : Row (V4.alloc (.cells #[.int .u64 1, .int .u64 0, .int .u64 0, .int .u64 0, .int .u64 0, .int .u64 0, .int .u64 0, .int .u64 0, .int .u64 0, .int .u64 0, .int .u64 0, .int .u64 0, .int .u64 0, .int .u64 0, .int .u64 0, .int .u64 0] 74)) V4.heap.size 74 #[.int .u64 1, .int .u64 0, .int .u64 0, .int .u64 0, .int .u64 0, .int .u64 0, .int .u64 0, .int .u64 0, .int .u64 0, .int .u64 0, .int .u64 0, .int .u64 0, .int .u64 0, .int .u64 0, .int .u64 0, .int .u64 0] := Row.new V4 74 #[.int .u64 1, .int .u64 0, .int .u64 0, .int .u64 0, .int .u64 0, .int .u64 0, .int .u64 0, .int .u64 0, .int .u64 0, .int .u64 0, .int .u64 0, .int .u64 0, .int .u64 0, .int .u64 0, .int .u64 0, .int .u64 0]
  replace r2 := r2.alloc (.cells #[.int .u64 1, .int .u64 0, .int .u64 0, .int .u64 0, .int .u64 0, .int .u64 0, .int .u64 0, .int .u64 0, .int .u64 0, .int .u64 0, .int .u64 0, .int .u64 0, .int .u64 0, .int .u64 0, .int .u64 0, .int .u64 0] 74)
  replace rr := rr.alloc (.cells #[.int .u64 1, .int .u64 0, .int .u64 0, .int .u64 0, .int .u64 0, .int .u64 0, .int .u64 0, .int .u64 0, .int .u64 0, .int .u64 0, .int .u64 0, .int .u64 0, .int .u64 0, .int .u64 0, .int .u64 0, .int .u64 0] 74)
  replace r5 := r5.alloc (.cells #[.int .u64 1, .int .u64 0, .int .u64 0, .int .u64 0, .int .u64 0, .int .u64 0, .int .u64 0, .int .u64 0, .int .u64 0, .int .u64 0, .int .u64 0, .int .u64 0, .int .u64 0, .int .u64 0, .int .u64 0, .int .u64 0] 74)
  replace r6 := r6.alloc (.cells #[.int .u64 1, .int .u64 0, .int .u64 0, .int .u64 0, .int .u64 0, .int .u64 0, .int .u64 0, .int .u64 0, .int .u64 0, .int .u64 0, .int .u64 0, .int .u64 0, .int .u64 0, .int .u64 0, .int .u64 0, .int .u64 0] 74)
  replace r7 := r7.alloc (.cells #[.int .u64 1, .int .u64 0, .int .u64 0, .int .u64 0, .int .u64 0, .int .u64 0, .int .u64 0, .int .u64 0, .int .u64 0, .int .u64 0, .int .u64 0, .int .u64 0, .int .u64 0, .int .u64 0, .int .u64 0, .int .u64 0] 74)
  replace hU := hU.alloc (.cells #[.int .u64 1, .int .u64 0, .int .u64 0, .int .u64 0, .int .u64 0, .int .u64 0, .int .u64 0, .int .u64 0, .int .u64 0, .int .u64 0, .int .u64 0, .int .u64 0, .int .u64 0, .int .u64 0, .int .u64 0, .int .u64 0] 74)
  go_upto_region 7 with fail
  obtain ⟨V5, hV5⟩ : ∃ V5, V5 = V4.alloc (.cells #[.int .u64 1, .int .u64 0, .int .u64 0, .int .u64 0, .int .u64 0, .int .u64 0, .int .u64 0, .int .u64 0, .int .u64 0, .int .u64 0, .int .u64 0, .int .u64 0, .int .u64 0, .int .u64 0, .int .u64 0, .int .u64 0] 74) := ⟨_, rfl⟩
  rw [← hV5] at r2 rr r5 r6 r7 r8 hU ⊢
  clear hV5
  rw [zv4] at r8
  clear zv4
  have MK : ∀ W, Row W (w.heap.size) 76 A → Row W (w.heap.size + 1) 76 (bigs false 0) → Row W (g5) 74 E5 → Row W (g6) 74 E6 → Row W (g6 + 1) 74 E7 → Row W (g6 + 1 + 1) 74 #[.int .u64 1, .int .u64 0, .int .u64 0, .int .u64 0, .int .u64 0, .int .u64 0, .int .u64 0, .int .u64 0, .int .u64 0, .int .u64 0, .int .u64 0, .int .u64 0, .int .u64 0, .int .u64 0, .int .u64 0, .int .u64 0] → Up w.heap.size w W → Row W (w.heap.size) 76 A ∧ Row W (w.heap.size + 1) 76 (bigs false 0) ∧ Row W (g5) 74 E5 ∧ Row W (g6) 74 E6 ∧ Row W (g6 + 1) 74 E7 ∧ Row W (g6 + 1 + 1) 74 #[.int .u64 1, .int .u64 0, .int .u64 0, .int .u64 0, .int .u64 0, .int .u64 0, .int .u64 0, .int .u64 0, .int .u64 0, .int .u64 0, .int .u64 0, .int .u64 0, .int .u64 0, .int .u64 0, .int .u64 0, .int .u64 0] ∧ Up w.heap.size w W ∧ W.cell? ⟨w.heap.size, 0, none⟩ = some (.bool true) := fun W k0 k1 k2 k3 k4 k5 k6 => ⟨k0, k1, k2, k3, k4, k5, k6, by rw [k0.cell, zeroC HA]⟩
  have MK := hid MK
  refine wp_region_noPanic ?_
  refine wp_region_held_drew (S := fun W => Row W (w.heap.size) 76 A ∧ Row W (w.heap.size + 1) 76 (bigs false 0) ∧ Row W (g5) 74 E5 ∧ Row W (g6) 74 E6 ∧ Row W (g6 + 1) 74 E7 ∧ Row W (g6 + 1 + 1) 74 #[.int .u64 1, .int .u64 0, .int .u64 0, .int .u64 0, .int .u64 0, .int .u64 0, .int .u64 0, .int .u64 0, .int .u64 0, .int .u64 0, .int .u64 0, .int .u64 0, .int .u64 0, .int .u64 0, .int .u64 0, .int .u64 0] ∧ Up w.heap.size w W ∧ W.cell? ⟨w.heap.size, 0, none⟩ = some (.bool true)) (by kernel_rfl) (MK.out _ r2.drew rr.drew r5.drew r6.drew r7.drew r8.drew hU.drew) (fun hHeld => ?_)
  refine wpAnyH_take (i := 0) (oi := { dst := some 28, op := Op.load 74 (Operand.tmp 7), type := 74, pos := "ref.go:221", after := #[], guard := none }) (v := .agg E7) rfl (by kernel_rfl) (by kernel_rfl) (by kernel_rfl) (fun _ _ _ h => h) (Or.inl ⟨by rfl, fun W hW => exec_load_row 74 _ rfl (g6 + 1) rfl 74 E7 _ Tryd.underlying74 rfl (size_De HE7) W hW.2.2.2.2.1⟩) hHeld ?_
  try simp only [Act.put, List.setIfInBounds_toArray, List.set_cons_zero, List.set_cons_succ]
  refine wpAnyH_take (i := 1) (oi := { dst := some 29, op := Op.load 74 (Operand.tmp 7), type := 74, pos := "ref.go:221", after := #[], guard := none }) (v := .agg E7) rfl (by kernel_rfl) (by kernel_rfl) (by kernel_rfl) (fun _ _ _ h => h) (Or.inl ⟨by rfl, fun W hW => exec_load_row 74 _ rfl (g6 + 1) rfl 74 E7 _ Tryd.underlying74 rfl (size_De HE7) W hW.2.2.2.2.1⟩) hHeld ?_
  try simp only [Act.put, List.setIfInBounds_toArray, List.set_cons_zero, List.set_cons_succ]
  refine wpAnyH_take (i := 3) (oi := { dst := some 31, op := Op.load 74 (Operand.tmp 5), type := 74, pos := "ref.go:221", after := #[], guard := none }) (v := .agg E5) rfl (by kernel_rfl) (by kernel_rfl) (by kernel_rfl) (fun _ _ _ h => h) (Or.inl ⟨by rfl, fun W hW => exec_load_row 74 _ rfl (g5) rfl 74 E5 _ Tryd.underlying74 rfl (size_De HE5) W hW.2.2.1⟩) hHeld ?_
  try simp only [Act.put, List.setIfInBounds_toArray, List.set_cons_zero, List.set_cons_succ]
  refine wpAnyH_ready (rs := [2]) (by kernel_rfl) (by simp) ?_
  refine AllReadyH.cons (o := { dst := some 30, op := Op.call { callee := Callee.value (Operand.func 87), args := #[Operand.tmp 28, Operand.tmp 29], argTypes := #[74, 74] }, type := 74, pos := "ref.go:221", after := #[{ on := 0, ground := Ground.data }, { on := 1, ground := Ground.data }], guard := none }) rfl (fun K hK => ?_) AllReadyH.nil
  go_simp
  refine Calls.mono (HQA.out _) ?_; rintro e w5 ⟨rfl, hb⟩
  refine hK.out _ _ (MK.out _ ((hHeld.1).mod (Mod.of_below hb Nil) (fun hf => hf)) ((hHeld.2.1).mod (Mod.of_below hb Nil) (fun hf => hf)) ((hHeld.2.2.1).mod (Mod.of_below hb Nil) (fun hf => hf)) ((hHeld.2.2.2.1).mod (Mod.of_below hb Nil) (fun hf => hf)) ((hHeld.2.2.2.2.1).mod (Mod.of_below hb Nil) (fun hf => hf)) ((hHeld.2.2.2.2.2.1).mod (Mod.of_below hb Nil) (fun hf => hf)) ((hHeld.2.2.2.2.2.2.1).trans hb)) (fun hHeld => ?_)
  clear hK K
  try simp only [Act.put, List.setIfInBounds_toArray, List.set_cons_zero, List.set_cons_succ]
  refine wpAnyH_ready (rs := [4]) (by kernel_rfl) (by simp) ?_
  refine AllReadyH.cons (o := { dst := some 32, op := Op.call { callee := Callee.value (Operand.func 88), args := #[Operand.tmp 30, Operand.tmp 31], argTypes := #[74, 74] }, type := 3, pos := "ref.go:221", after := #[{ on := 2, ground := Ground.data }, { on := 3, ground := Ground.data }, { on := 2, ground := Ground.chain }], guard := none }) rfl (fun K hK => ?_) AllReadyH.nil
  go_simp
  refine Calls.mono (HQC.out _) ?_; rintro e w6 ⟨rfl, hb⟩
  refine hK.out _ _ (MK.out _ ((hHeld.1).mod (Mod.of_below hb Nil) (fun hf => hf)) ((hHeld.2.1).mod (Mod.of_below hb Nil) (fun hf => hf)) ((hHeld.2.2.1).mod (Mod.of_below hb Nil) (fun hf => hf)) ((hHeld.2.2.2.1).mod (Mod.of_below hb Nil) (fun hf => hf)) ((hHeld.2.2.2.2.1).mod (Mod.of_below hb Nil) (fun hf => hf)) ((hHeld.2.2.2.2.2.1).mod (Mod.of_below hb Nil) (fun hf => hf)) ((hHeld.2.2.2.2.2.2.1).trans hb)) (fun hHeld => ?_)
  clear hK K
  try simp only [Act.put, List.setIfInBounds_toArray, List.set_cons_zero, List.set_cons_succ]
  refine wpAnyH_take (i := 5) (oi := { dst := some 9, op := Op.assign (Operand.tmp 32), type := 3, pos := "ref.go:221", after := #[{ on := 4, ground := Ground.data }, { on := 4, ground := Ground.chain }, { on := 0, ground := Ground.phase }, { on := 1, ground := Ground.phase }, { on := 2, ground := Ground.phase }, { on := 3, ground := Ground.phase }, { on := 4, ground := Ground.phase }], guard := none }) (v := ?_) rfl (by kernel_rfl) (by kernel_rfl) (by kernel_rfl) (fun _ _ _ h => h) (Or.inl ⟨by rfl, ?_⟩) hHeld ?_
  rotate_left
  · intro w' hSw; (try dsimp only at hSw); go_simp <;> with_reducible rfl
  try simp only [Act.put, List.setIfInBounds_toArray, List.set_cons_zero, List.set_cons_succ]
  refine wpAnyH_done (by kernel_rfl) ?_ _
  refine NoPanic.normal ?_
  replace r2 := hHeld.1
  replace rr := hHeld.2.1
  replace r5 := hHeld.2.2.1
  replace r6 := hHeld.2.2.2.1
  replace r7 := hHeld.2.2.2.2.1
  replace r8 := hHeld.2.2.2.2.2.1
  replace hU := hHeld.2.2.2.2.2.2.1
  clear MK hHeld r5 r7
  have c6 := r6.cell 0
  rw [HE6.out, digs_get _ (by decide), ← HQ0.out] at c6
  go_upto_region 10 with fail
  clear c6
  have E69 : E6 = E9 := by rw [HE6.out, HE9.out]; exact congrArg digs HEQ.out
  rw [E69] at r6
  have MK : ∀ W, Row W (w.heap.size) 76 A → Row W (g6) 74 E9 → (∃ cs : Array Value, Row W (w.heap.size + 1) 76 cs ∧ cs.size = 17) → Up w.heap.size w W → Row W (w.heap.size) 76 A ∧ Row W (g6) 74 E9 ∧ (∃ cs : Array Value, Row W (w.heap.size + 1) 76 cs ∧ cs.size = 17) ∧ Up w.heap.size w W ∧ W.cell? ⟨w.heap.size, 0, none⟩ = some (.bool true) := fun W k0 k1 k2 k3 => ⟨k0, k1, k2, k3, by rw [k0.cell, zeroC HA]⟩
  have MK := hid MK
  refine wp_region_noPanic ?_
  refine wp_region_held_drew (S := fun W => Row W (w.heap.size) 76 A ∧ Row W (g6) 74 E9 ∧ (∃ cs : Array Value, Row W (w.heap.size + 1) 76 cs ∧ cs.size = 17) ∧ Up w.heap.size w W ∧ W.cell? ⟨w.heap.size, 0, none⟩ = some (.bool true)) (by kernel_rfl) (MK.out _ r2.drew r6.drew ⟨_, rr.drew, bigs_size _ _⟩ hU.drew) (fun hHeld => ?_)
  refine wpAnyH_take (i := 0) (oi := { dst := some 48, op := Op.fieldAddr 76 (Operand.tmp 2) 0, type := 0, pos := "ref.go:225", after := #[], guard := none }) (v := ?_) rfl (by kernel_rfl) (by kernel_rfl) (by kernel_rfl) (fun _ _ _ h => h) (Or.inl ⟨by rfl, ?_⟩) hHeld ?_
  rotate_left
  · intro w' hSw; (try dsimp only at hSw); go_simp <;> with_reducible rfl
  try simp only [Act.put, List.setIfInBounds_toArray, List.set_cons_zero, List.set_cons_succ]
  refine wpAnyH_take (i := 1) (oi := { dst := some 49, op := Op.load 4 (Operand.tmp 48), type := 4, pos := "ref.go:225", after := #[{ on := 0, ground := Ground.data }], guard := none }) (v := ?_) rfl (by kernel_rfl) (by kernel_rfl) (by kernel_rfl) (fun _ _ _ h => h) (Or.inl ⟨by rfl, ?_⟩) hHeld ?_
  rotate_left
  · intro w' hSw; (try dsimp only at hSw); go_simp <;> with_reducible rfl
  try simp only [Act.put, List.setIfInBounds_toArray, List.set_cons_zero, List.set_cons_succ]
  refine wpAnyH_take (i := 2) (oi := { dst := some 50, op := Op.move (Operand.tmp 49), type := 4, pos := "ref.go:225", after := #[{ on := 1, ground := Ground.data }], guard := none }) (v := ?_) rfl (by kernel_rfl) (by kernel_rfl) (by kernel_rfl) (fun _ _ _ h => h) (Or.inl ⟨by rfl, ?_⟩) hHeld ?_
  rotate_left
  · intro w' hSw; (try dsimp only at hSw); go_simp <;> with_reducible rfl
  try simp only [Act.put, List.setIfInBounds_toArray, List.set_cons_zero, List.set_cons_succ]
  refine wpAnyH_take (i := 3) (oi := { dst := some 51, op := Op.load 74 (Operand.tmp 6), type := 74, pos := "ref.go:225", after := #[{ on := 2, ground := Ground.guard }], guard := some (2, true) }) (v := .agg E9) rfl (by kernel_rfl) (by kernel_rfl) (by kernel_rfl) (fun _ _ _ h => h) (Or.inl ⟨by rfl, fun W hW => exec_load_row 74 _ rfl (g6) rfl 74 E9 _ Tryd.underlying74 rfl (size_De HE9) W hW.2.1⟩) hHeld ?_
  try simp only [Act.put, List.setIfInBounds_toArray, List.set_cons_zero, List.set_cons_succ]
  refine wpAnyH_take (i := 7) (oi := { dst := some 55, op := Op.load 74 (Operand.tmp 6), type := 74, pos := "ref.go:225", after := #[], guard := none }) (v := .agg E9) rfl (by kernel_rfl) (by kernel_rfl) (by kernel_rfl) (fun _ _ _ h => h) (Or.inl ⟨by rfl, fun W hW => exec_load_row 74 _ rfl (g6) rfl 74 E9 _ Tryd.underlying74 rfl (size_De HE9) W hW.2.1⟩) hHeld ?_
  try simp only [Act.put, List.setIfInBounds_toArray, List.set_cons_zero, List.set_cons_succ]
  refine wpAnyH_ready (rs := [4]) (by kernel_rfl) (by simp) ?_
  refine AllReadyH.cons (o := { dst := some 52, op := Op.call { callee := Callee.value (Operand.func 64), args := #[Operand.tmp 51], argTypes := #[74] }, type := 4, pos := "ref.go:225", after := #[{ on := 3, ground := Ground.data }, { on := 2, ground := Ground.chain }, { on := 2, ground := Ground.guard }], guard := some (2, true) }) rfl (fun K hK => ?_) AllReadyH.nil
  go_simp
  refine Calls.mono (HQZ.out _) ?_; rintro e w8 ⟨rfl, hb⟩
  refine hK.out _ _ (MK.out _ ((hHeld.1).mod (Mod.of_below hb Nil) (fun hf => hf)) ((hHeld.2.1).mod (Mod.of_below hb Nil) (fun hf => hf)) ((by obtain ⟨cs, h1, h2⟩ := hHeld.2.2.1; exact ⟨cs, (h1).mod (Mod.of_below hb Nil) (fun hf => hf), h2⟩)) ((hHeld.2.2.2.1).trans hb)) (fun hHeld => ?_)
  clear hK K
  try simp only [Act.put, List.setIfInBounds_toArray, List.set_cons_zero, List.set_cons_succ]
  refine wpAnyH_take (i := 5) (oi := { dst := some 53, op := Op.unOp UnOp.not 4 (Operand.tmp 52), type := 4, pos := "ref.go:225", after := #[{ on := 4, ground := Ground.data }, { on := 2, ground := Ground.guard }], guard := some (2, true) }) (v := ?_) rfl (by kernel_rfl) (by kernel_rfl) (by kernel_rfl) (fun _ _ _ h => h) (Or.inl ⟨by rfl, ?_⟩) hHeld ?_
  rotate_left
  · intro w' hSw; (try dsimp only at hSw); go_simp <;> with_reducible rfl
  try simp only [Act.put, List.setIfInBounds_toArray, List.set_cons_zero, List.set_cons_succ]
  refine wpAnyH_take (i := 6) (oi := { dst := some 54, op := Op.pick (Operand.tmp 50) (Operand.tmp 53) (Operand.const (Value.bool false)), type := 4, pos := "ref.go:225", after := #[{ on := 2, ground := Ground.data }, { on := 5, ground := Ground.data }], guard := none }) (v := ?_) rfl (by kernel_rfl) (by kernel_rfl) (by kernel_rfl) (fun _ _ _ h => h) (Or.inl ⟨by rfl, ?_⟩) hHeld ?_
  rotate_left
  · intro w' hSw; (try dsimp only at hSw); go_simp <;> with_reducible rfl
  try simp only [Act.put, List.setIfInBounds_toArray, List.set_cons_zero, List.set_cons_succ]
  refine wpAnyH_take (i := 8) (oi := { dst := some 56, op := Op.build 76 #[(0, Operand.tmp 54), (1, Operand.tmp 55)], type := 76, pos := "ref.go:225", after := #[{ on := 6, ground := Ground.data }, { on := 7, ground := Ground.data }], guard := none }) (v := .agg C) rfl (by kernel_rfl) (by kernel_rfl) (by kernel_rfl) (fun _ _ _ h => h) (Or.inl ⟨by rfl, fun W hW => exec_build_C HC HE9 _ _ rfl rfl rfl⟩) hHeld ?_
  try simp only [Act.put, List.setIfInBounds_toArray, List.set_cons_zero, List.set_cons_succ]
  obtain ⟨cs, hcs, hcz⟩ := hHeld.2.2.1
  refine wpAnyH_ready (rs := [9]) (by kernel_rfl) (by simp) ?_
  refine AllReadyH.cons (o := { dst := none, op := Op.store 76 (Operand.tmp 4) (Operand.tmp 56), type := 0, pos := "ref.go:225", after := #[{ on := 8, ground := Ground.data }, { on := 4, ground := Ground.chain }, { on := 0, ground := Ground.phase }, { on := 1, ground := Ground.phase }, { on := 2, ground := Ground.phase }, { on := 3, ground := Ground.phase }, { on := 4, ground := Ground.phase }, { on := 5, ground := Ground.phase }, { on := 6, ground := Ground.phase }, { on := 7, ground := Ground.phase }, { on := 8, ground := Ground.phase }], guard := none }) rfl (fun K hK => ?_) AllReadyH.nil
  refine (if_pos (by rfl)).mpr ?_
  refine wp_store_row 76 _ _ rfl (w.heap.size + 1) C rfl rfl 76 cs hcs (size_Bn (sizeC HC)) (by rw [hcz, sizeC HC]) (oneC HC) ?_
  refine hK.out _ _ (MK.out _ ((hHeld.1).farRow (by omega) C) ((hHeld.2.1).farRow (by omega) C) (⟨C, hcs.putRow C, sizeC HC⟩) ((hHeld.2.2.2.1).setRow (by omega) C)) (fun hHeld => ?_)
  clear hK K
  try simp only [Act.put, List.setIfInBounds_toArray, List.set_cons_zero, List.set_cons_succ]
  refine wpAnyH_done (by kernel_rfl) ?_ _
  refine NoPanic.normal ?_
  go_wp2_with fail
  exact bodyPost_ret (v := .agg C) (results_cell_row Tryd.results66 _ _ (w.heap.size + 1) 76 C (0, 0) _ rfl (hcs.putRow _) Tryd.underlying76 rfl (size_Bn (sizeC HC))) rfl ⟨rfl, hHeld.2.2.2.1.below⟩

theorem round_down (w : World) (z k : Int) (hz : z.natAbs < BP 14) (hk : 0 < k ∧ k ≤ 77) :
    Calls Tryd.prog 66 #[BigZ z, .int .i64 k] w fun e w' => e = .returned (BigZ (rounded z (10 ^ k.toNat))) ∧ Below w.heap.size w w' := by
  obtain ⟨d, hd⟩ : ∃ d, d = 10 ^ k.toNat := ⟨_, rfl⟩
  have hd0 : 0 < d := by rw [hd]; exact Nat.pow_pos (by decide)
  rw [← hd]
  obtain ⟨n, hn⟩ : ∃ n, n = z.natAbs := ⟨_, rfl⟩
  have hm := Nat.mod_lt n hd0
  have e0 : dg (n / d) 0 % 2 = n / d % 2 := by unfold dg; rw [BP_zero, Nat.div_one]; omega
  have h2 : n / d % 2 < 2 := Nat.mod_lt _ (by decide)
  unfold rounded BigZ
  rw [← hn] at hz ⊢
  by_cases hs : z < 0
  · rw [if_pos hs, decide_eq_true hs]
    have fin : ∀ u, (Calls Tryd.prog 66 #[BigV true n, .int .i64 k] w fun e w' => e = .returned (BigV (!decide (u = 0)) u) ∧ Below w.heap.size w w') → halfEven n d = u → Calls Tryd.prog 66 #[BigV true n, .int .i64 k] w fun e w' => e = .returned (BigV (decide (-(halfEven n d : Int) < 0)) (-(halfEven n d : Int)).natAbs) ∧ Below w.heap.size w w' := by
      intro u h e
      rw [e]
      have := neg_bigr u
      unfold BigZ at this
      rw [← this]
      exact h
    rcases Nat.lt_trichotomy d (n % d + n % d) with h | h | h
    · exact fin _ (round_U1_t w n _ _ d k hz hk hd rfl rfl (by unfold cmpN; rw [if_neg (by omega), if_pos h])) (by unfold halfEven; rw [if_pos (.inl (by omega))])
    · by_cases hp : n / d % 2 = 1
      · exact fin _ (round_U2_t w n _ _ d k hz hk hd rfl rfl (by unfold cmpN; rw [if_neg (by omega), if_neg (by omega)]) (by omega)) (by unfold halfEven; rw [if_pos (.inr ⟨by omega, hp⟩)])
      · exact fin _ (round_N1_t w n _ _ d k hz hk hd rfl rfl (by unfold cmpN; rw [if_neg (by omega), if_neg (by omega)]) (by omega)) (by unfold halfEven; rw [if_neg (by omega)])
    · exact fin _ (round_N2_t w n _ _ d k hz hk hd rfl rfl (by unfold cmpN; rw [if_pos (by omega)])) (by unfold halfEven; rw [if_neg (by omega)])
  · rw [if_neg hs, decide_eq_false hs]
    have fin : ∀ u, (Calls Tryd.prog 66 #[BigV false n, .int .i64 k] w fun e w' => e = .returned (BigV false u) ∧ Below w.heap.size w w') → halfEven n d = u → Calls Tryd.prog 66 #[BigV false n, .int .i64 k] w fun e w' => e = .returned (BigV (decide ((halfEven n d : Int) < 0)) ((halfEven n d : Int)).natAbs) ∧ Below w.heap.size w w' := by
      intro u h e
      rw [e]
      have := pos_bigr u
      unfold BigZ at this
      rw [← this]
      exact h
    rcases Nat.lt_trichotomy d (n % d + n % d) with h | h | h
    · exact fin _ (round_U1_f w n _ _ d k hz hk hd rfl rfl (by unfold cmpN; rw [if_neg (by omega), if_pos h])) (by unfold halfEven; rw [if_pos (.inl (by omega))])
    · by_cases hp : n / d % 2 = 1
      · exact fin _ (round_U2_f w n _ _ d k hz hk hd rfl rfl (by unfold cmpN; rw [if_neg (by omega), if_neg (by omega)]) (by omega)) (by unfold halfEven; rw [if_pos (.inr ⟨by omega, hp⟩)])
      · exact fin _ (round_N1_f w n _ _ d k hz hk hd rfl rfl (by unfold cmpN; rw [if_neg (by omega), if_neg (by omega)]) (by omega)) (by unfold halfEven; rw [if_neg (by omega)])
    · exact fin _ (round_N2_f w n _ _ d k hz hk hd rfl rfl (by unfold cmpN; rw [if_pos (by omega)])) (by unfold halfEven; rw [if_neg (by omega)])
end Go.Proofs.YtfalllekhcocgaaDoor
