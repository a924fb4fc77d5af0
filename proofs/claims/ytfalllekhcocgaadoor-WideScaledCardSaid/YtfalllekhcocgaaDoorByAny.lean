/-
  A size by any other.
-/
import Derived.Test.YtfalllekhcocgaaDoorByTwo
import Derived.Laws.Rows
namespace Go.Proofs.YtfalllekhcocgaaDoor
open Go.RowKit

set_option maxHeartbeats 1000000 in
theorem by_any (w : World) (m n : Int) (hm : Big m) (hn : Big n) (h0 : 0 < n) :
    Calls Tryd.prog 42 #[UV m, UV n] w fun e w' => e = .returned (.tuple #[UV (m / n), UV (m % n)]) ∧ Below w.heap.size w w' := by
  obtain ⟨mh, ml, e1, hmw, hmh, hml⟩ := UV_of hm
  obtain ⟨nh, nl, e2, hnw, hnh, hnl⟩ := UV_of hn
  rw [e1, e2]
  by_cases hz : nh = 0
  · subst hz
    rw [Int.zero_mul, Int.zero_add] at hnw
    subst hnw
    have h := by_one w mh ml n hmh hml ⟨h0, hnl.2⟩
    have hd := Int.emod_add_mul_ediv mh n
    have hd0 := Int.emod_nonneg mh (show n ≠ 0 by omega)
    have hd1 := Int.emod_lt_of_pos mh h0
    obtain ⟨a, ha⟩ : ∃ a, a = mh / n := ⟨_, rfl⟩
    obtain ⟨b, hb⟩ : ∃ b, b = mh % n := ⟨_, rfl⟩
    rw [← ha, ← hb] at h
    rw [← ha, ← hb] at hd
    rw [← hb] at hd0 hd1
    have hmb : m = b * 18446744073709551616 + ml + n * a * 18446744073709551616 := by omega
    have hq : m / n = a * 18446744073709551616 + (b * 18446744073709551616 + ml) / n := by
      rw [hmb, Int.mul_assoc, Int.add_mul_ediv_left _ _ (by omega)]
      omega
    have hr : m % n = (b * 18446744073709551616 + ml) % n := by
      rw [hmb, Int.mul_assoc, Int.add_mul_emod_self_left]
    have hk0 : 0 ≤ (b * 18446744073709551616 + ml) / n := Int.ediv_nonneg (by omega) (by omega)
    have hk1 : (b * 18446744073709551616 + ml) / n < 18446744073709551616 := by
      apply Int.ediv_lt_of_lt_mul h0
      omega
    have hr0 := Int.emod_nonneg (b * 18446744073709551616 + ml) (show n ≠ 0 by omega)
    have hr1 := Int.emod_lt_of_pos (b * 18446744073709551616 + ml) h0
    have hu := UV_words (hi := 0) (lo := (b * 18446744073709551616 + ml) % n) hr0 (by omega)
    rw [Int.zero_mul, Int.zero_add] at hu
    rw [hq, hr, UV_words hk0 hk1, hu]
    exact h
  · have hb2 := fun w => by_two_words w mh ml nh nl hmh hml ⟨by omega, hnh.2⟩ hnl
    rw [← hmw, ← hnw] at hb2
    have hpos : 0 < nh := by omega
    obtain ⟨q, hq⟩ : ∃ q, q = m / n := ⟨_, rfl⟩
    obtain ⟨r, hr⟩ : ∃ r, r = m % n := ⟨_, rfl⟩
    rw [← hq, ← hr] at hb2 ⊢
    obtain ⟨qh, hqh⟩ : ∃ qh, qh = q / 18446744073709551616 := ⟨_, rfl⟩
    obtain ⟨ql, hql⟩ : ∃ ql, ql = q % 18446744073709551616 := ⟨_, rfl⟩
    obtain ⟨rh, hrh⟩ : ∃ rh, rh = r / 18446744073709551616 := ⟨_, rfl⟩
    obtain ⟨rl, hrl⟩ : ∃ rl, rl = r % 18446744073709551616 := ⟨_, rfl⟩
    have hUq : UV q = .agg #[.int .u64 qh, .int .u64 ql] := by rw [hqh, hql]; rfl
    have hUr : UV r = .agg #[.int .u64 rh, .int .u64 rl] := by rw [hrh, hrl]; rfl
    rw [hUq, hUr] at hb2 ⊢
    replace hb2 := hid hb2
    clear hUq hUr hqh hql hrh hrl hq hr hmw hnw e1 e2 hm hn hmh hml hnh hnl hz h0
    have R_m := (((Row.new w 54 #[.int .u64 mh, .int .u64 ml]).alloc (.cells #[.int .u64 nh, .int .u64 nl] 54)).alloc (.cells #[.int .u64 0, .int .u64 0] 54)).alloc (.cells #[.int .u64 0, .int .u64 0] 54)
    have R_n := ((Row.new (w.alloc (.cells #[.int .u64 mh, .int .u64 ml] 54)) 54 #[.int .u64 nh, .int .u64 nl]).alloc (.cells #[.int .u64 0, .int .u64 0] 54)).alloc (.cells #[.int .u64 0, .int .u64 0] 54)
    have R_q := (Row.new ((w.alloc (.cells #[.int .u64 mh, .int .u64 ml] 54)).alloc (.cells #[.int .u64 nh, .int .u64 nl] 54)) 54 #[.int .u64 0, .int .u64 0]).alloc (.cells #[.int .u64 0, .int .u64 0] 54)
    have R_r := Row.new (((w.alloc (.cells #[.int .u64 mh, .int .u64 ml] 54)).alloc (.cells #[.int .u64 nh, .int .u64 nl] 54)).alloc (.cells #[.int .u64 0, .int .u64 0] 54)) 54 #[.int .u64 0, .int .u64 0]
    have HU := ((((Up.refl w).alloc (.cells #[.int .u64 mh, .int .u64 ml] 54)).alloc (.cells #[.int .u64 nh, .int .u64 nl] 54)).alloc (.cells #[.int .u64 0, .int .u64 0] 54)).alloc (.cells #[.int .u64 0, .int .u64 0] 54)
    simp only [alloc_size] at R_n R_q R_r
    go_enter Tryd.func42, Tryd.ntmps42
    go_wp2_with fail
    refine Calls.mono (hb2.out _) ?_; rintro e w1 ⟨rfl, hb_w1⟩
    have z_w1 := hb_w1.size
    try simp only [alloc_size, setCell_size] at z_w1
    replace R_m := R_m.mod (Mod.of_below hb_w1 Nil) (fun hf => hf)
    replace R_n := R_n.mod (Mod.of_below hb_w1 Nil) (fun hf => hf)
    replace R_q := R_q.mod (Mod.of_below hb_w1 Nil) (fun hf => hf)
    replace R_r := R_r.mod (Mod.of_below hb_w1 Nil) (fun hf => hf)
    replace HU := HU.trans hb_w1
    clear hb_w1
    have c1_0 := R_q.cell 0
    have c1_1 := R_q.cell 1
    have f1_0 := R_q.frozen 0
    have f1_1 := R_q.frozen 1
    have c2_0 := R_r.cell 0
    have c2_1 := R_r.cell 1
    have f2_0 := R_r.frozen 0
    have f2_1 := R_r.frozen 1
    replace R_q := R_q.set 0 (.int .u64 qh)
    try simp only [List.setIfInBounds_toArray, List.set_cons_zero, List.set_cons_succ] at R_q
    replace R_m := R_m.far (p := ⟨w.heap.size + 1 + 1, 0, none⟩) (by first | (simp; done) | (simp; omega) | omega) (.int .u64 qh)
    replace R_n := R_n.far (p := ⟨w.heap.size + 1 + 1, 0, none⟩) (by first | (simp; done) | (simp; omega) | omega) (.int .u64 qh)
    replace R_r := R_r.far (p := ⟨w.heap.size + 1 + 1, 0, none⟩) (by first | (simp; done) | (simp; omega) | omega) (.int .u64 qh)
    replace HU := HU.setCell (p := w.heap.size + 1 + 1) (i := 0) (by omega) (.int .u64 qh)
    have c3_0 := R_q.cell 0
    have c3_1 := R_q.cell 1
    have f3_0 := R_q.frozen 0
    have f3_1 := R_q.frozen 1
    replace R_q := R_q.set 1 (.int .u64 ql)
    try simp only [List.setIfInBounds_toArray, List.set_cons_zero, List.set_cons_succ] at R_q
    replace R_m := R_m.far (p := ⟨w.heap.size + 1 + 1, 1, none⟩) (by first | (simp; done) | (simp; omega) | omega) (.int .u64 ql)
    replace R_n := R_n.far (p := ⟨w.heap.size + 1 + 1, 1, none⟩) (by first | (simp; done) | (simp; omega) | omega) (.int .u64 ql)
    replace R_r := R_r.far (p := ⟨w.heap.size + 1 + 1, 1, none⟩) (by first | (simp; done) | (simp; omega) | omega) (.int .u64 ql)
    replace HU := HU.setCell (p := w.heap.size + 1 + 1) (i := 1) (by omega) (.int .u64 ql)
    have c4_0 := R_q.cell 0
    have c4_1 := R_q.cell 1
    have f4_0 := R_q.frozen 0
    have f4_1 := R_q.frozen 1
    replace R_r := R_r.set 0 (.int .u64 rh)
    try simp only [List.setIfInBounds_toArray, List.set_cons_zero, List.set_cons_succ] at R_r
    replace R_m := R_m.far (p := ⟨w.heap.size + 1 + 1 + 1, 0, none⟩) (by first | (simp; done) | (simp; omega) | omega) (.int .u64 rh)
    replace R_n := R_n.far (p := ⟨w.heap.size + 1 + 1 + 1, 0, none⟩) (by first | (simp; done) | (simp; omega) | omega) (.int .u64 rh)
    replace R_q := R_q.far (p := ⟨w.heap.size + 1 + 1 + 1, 0, none⟩) (by first | (simp; done) | (simp; omega) | omega) (.int .u64 rh)
    replace HU := HU.setCell (p := w.heap.size + 1 + 1 + 1) (i := 0) (by omega) (.int .u64 rh)
    have c5_0 := R_r.cell 0
    have c5_1 := R_r.cell 1
    have f5_0 := R_r.frozen 0
    have f5_1 := R_r.frozen 1
    replace R_r := R_r.set 1 (.int .u64 rl)
    try simp only [List.setIfInBounds_toArray, List.set_cons_zero, List.set_cons_succ] at R_r
    replace R_m := R_m.far (p := ⟨w.heap.size + 1 + 1 + 1, 1, none⟩) (by first | (simp; done) | (simp; omega) | omega) (.int .u64 rl)
    replace R_n := R_n.far (p := ⟨w.heap.size + 1 + 1 + 1, 1, none⟩) (by first | (simp; done) | (simp; omega) | omega) (.int .u64 rl)
    replace R_q := R_q.far (p := ⟨w.heap.size + 1 + 1 + 1, 1, none⟩) (by first | (simp; done) | (simp; omega) | omega) (.int .u64 rl)
    replace HU := HU.setCell (p := w.heap.size + 1 + 1 + 1) (i := 1) (by omega) (.int .u64 rl)
    have c6_0 := R_r.cell 0
    have c6_1 := R_r.cell 1
    have f6_0 := R_r.frozen 0
    have f6_1 := R_r.frozen 1
    simp at c1_0 c1_1 f1_0 f1_1 c2_0 c2_1 f2_0 f2_1 c3_0 c3_1 f3_0 f3_1 c4_0 c4_1 f4_0 f4_1 c5_0 c5_1 f5_0 f5_1 c6_0 c6_1 f6_0 f6_1
    go_wp2_with fail
    have r1 := run_loadVar_row (P := Tryd.prog) _ (w.heap.size + 1 + 1) 54 54 #[.int .u64 qh, .int .u64 ql] (0, 0) _ R_q Tryd.underlying54 rfl (by kernel_rfl)
    have r2 := run_loadVar_row (P := Tryd.prog) _ (w.heap.size + 1 + 1 + 1) 54 54 #[.int .u64 rh, .int .u64 rl] (0, 0) _ R_r Tryd.underlying54 rfl (by kernel_rfl)
    exact bodyPost_ret (v := .tuple #[.agg #[.int .u64 qh, .int .u64 ql], .agg #[.int .u64 rh, .int .u64 rl]]) (by simp [results, Tryd.results42, asAddr, r1, r2]) rfl ⟨rfl, HU.below⟩
end Go.Proofs.YtfalllekhcocgaaDoor
