/-
  Scaled and Pow, of any numbers.
-/
import Derived.Test.YtfalllekhcocgaaDoorScaleW
import Derived.Test.YtfalllekhcocgaaDoorScaled
namespace Go.Proofs.YtfalllekhcocgaaDoor
open Go.RowKit

theorem scale_any (w : World) (g : Nat) (a b c e : Int) (k : Nat) (hk : k ≤ 36) (ha : Word a) (hb : Word b) (hc : Word c) (he : Word e) (hR : Row w g 49 #[.int .u64 a, .int .u64 b, .int .u64 c, .int .u64 e]) :
    Calls Tryd.prog 44 #[.pointer (some ⟨g, 0, none⟩), .int .i64 (k : Int)] w fun x w' =>
      x = .returned (.tuple #[]) ∧ (∃ s0 s1 s2 s3 : Int, Row w' g 49 #[.int .u64 s0, .int .u64 s1, .int .u64 s2, .int .u64 s3] ∧ Word s0 ∧ Word s1 ∧ Word s2 ∧ Word s3 ∧ P4 s0 s1 s2 s3 = hE (P4 a b c e) ((10 ^ k : Nat) : Int)) ∧ Mod (One g) w w' := by
  by_cases h : k ≤ 18
  · exact scale_lo w g a b c e k h ha hb hc he hR
  · exact scale_hi w g a b c e k ⟨by omega, hk⟩ ha hb hc he hR
/-- what Scaled answers where its scale is right -/
def scZ (x y : Int) (k : Nat) : Int := if (decide (x < 0) != decide (y < 0)) = true then -(hE (mag x * mag y) ((10 ^ k : Nat) : Int)) else hE (mag x * mag y) ((10 ^ k : Nat) : Int)

set_option maxRecDepth 100000 in
set_option maxHeartbeats 2000000 in
theorem scaled_any (w : World) (x y : Int) (k : Nat) (hx : Fits x) (hy : Fits y) (hk : k ≤ 36) : Calls Tryd.prog 18 #[WV x, WV y, .int .i64 (k : Int)] w fun e w' => e = .returned (resV (scZ x y k)) ∧ Below w.heap.size w w' := by
  have P := fun w => product_any w x y hx hy
  have SC := fun w g a b c e => scale_any w g a b c e k hk
  have SG := wsigned_any
  obtain ⟨rh, rl, rk, er⟩ := resV_form (scZ x y k)
  obtain ⟨xh, xl, e1⟩ : ∃ hi lo : Int, WV x = .agg #[.int .i64 hi, .int .u64 lo] := ⟨_, _, rfl⟩
  obtain ⟨yh, yl, e2⟩ : ∃ hi lo : Int, WV y = .agg #[.int .i64 hi, .int .u64 lo] := ⟨_, _, rfl⟩
  rw [e1, e2] at P
  rw [e1, e2, er]
  have P := hid P
  have SC := hid SC
  have SG := hid SG
  have ER := hid er
  clear er e1 e2 hx hy
  have hk1 : ¬ (k : Int) < 0 := by omega
  have hk2 : (k : Int) ≤ 36 := by omega
  have hE' := Row.new ((w.alloc (.cells #[.int .i64 xh, .int .u64 xl] 24)).alloc (.cells #[.int .i64 yh, .int .u64 yl] 24)) 24 #[.int .i64 0, .int .u64 0]
  have hU := (((Up.refl w).alloc (.cells #[.int .i64 xh, .int .u64 xl] 24)).alloc (.cells #[.int .i64 yh, .int .u64 yl] 24)).alloc (.cells #[.int .i64 0, .int .u64 0] 24)
  simp only [alloc_size] at hE'
  go_enter Tryd.func18, Tryd.ntmps18
  go_wp2_with fail
  refine Calls.mono (P.out _) ?_; rintro e w1 ⟨a, b, c, d, s, rfl, ha, hb, hc, hd, hv, hs, hb1⟩
  have hE1 := hE'.below hb1 hE'.lt
  have hU1 := hU.trans hb1
  have hl1 := hE1.lt
  have SC1 := hid (SC.out (w1.alloc (.cells #[.int .u64 a, .int .u64 b, .int .u64 c, .int .u64 d] 49)) w1.heap.size a b c d ha hb hc hd (Row.new w1 49 #[.int .u64 a, .int .u64 b, .int .u64 c, .int .u64 d]))
  have HV := hid hv
  have HS := hid hs
  clear hE' hU hb1 ha hb hc hd hv hs
  go_wp2_with fail
  refine Calls.mono SC1.out ?_; rintro e w2 ⟨rfl, ⟨s0, s1, s2, s3, hP2, h0, h1, h2, h3, hv2⟩, hm2⟩
  have hE2 := (hE1.alloc (.cells #[.int .u64 a, .int .u64 b, .int .u64 c, .int .u64 d] 49)).mod hm2 (fun e => by unfold One at e; omega)
  have hU2 := (hU1.alloc (.cells #[.int .u64 a, .int .u64 b, .int .u64 c, .int .u64 d] 49)).one hm2 hU1.size
  have sg := fun w => SG.out w s0 s1 s2 s3 s h0 h1 h2 h3
  rw [hv2, HV.out] at sg
  have hsz : (if s = true then -(hE (mag x * mag y) ((10 ^ k : Nat) : Int)) else hE (mag x * mag y) ((10 ^ k : Nat) : Int)) = scZ x y k := by rw [HS.out]; rfl
  rw [hsz, ER.out] at sg
  replace sg := hid sg
  have c0 := hP2.cell 0
  have c1 := hP2.cell 1
  have c2 := hP2.cell 2
  have c3 := hP2.cell 3
  simp at c0 c1 c2 c3
  clear hE1 hU1 hl1 hP2 hm2 h0 h1 h2 h3 hv2 hsz SC1
  go_wp2_with fail
  refine Calls.mono (sg.out _) ?_; rintro e w3 ⟨rfl, hb3⟩
  have hE3 := hE2.below hb3 hE2.lt
  have hU3 := hU2.trans hb3
  clear hE2 hU2 hb3 c0 c1 c2 c3
  have size_W2 : (Tryd.prog.info? 24).map (·.size) = some 2 := by kernel_rfl
  go_wp2_with (refine wpList_store_row rfl 24 _ _ rfl (w.heap.size + 1 + 1) #[.int .i64 rh, .int .u64 rl] rfl rfl 24 #[.int .i64 0, .int .u64 0] hE3 size_W2 rfl (by simp [Value.oneCell']) ?_)
  have r1 := run_loadVar_row (P := Tryd.prog) _ (w.heap.size + 1 + 1) 24 24 #[.int .i64 rh, .int .u64 rl] (0, 0) _ (show (w3.setRow (w.heap.size + 1 + 1) #[.int .i64 rh, .int .u64 rl]).heap[w.heap.size + 1 + 1]? = some (.cells #[.int .i64 rh, .int .u64 rl] 24 (0, 0)) from setRow_heap _ _ _ _ _ _ hE3) Tryd.underlying24 rfl size_W2
  exact bodyPost_ret (v := .tuple #[.agg #[.int .i64 rh, .int .u64 rl], .int .i64 rk]) (by simp [results, Tryd.results18, asAddr, r1]) rfl ⟨rfl, hU3.below.trans ⟨rfl, rfl, rfl, by simp, fun k hk => setRow_other _ _ _ _ (by omega)⟩⟩

theorem scaled_bad (w : World) (x y k : Int) (hk : k < 0 ∨ 36 < k) : Calls Tryd.prog 18 #[WV x, WV y, .int .i64 k] w fun e w' => e = .returned (.tuple #[.agg #[.int .i64 0, .int .u64 0], .int .i64 1]) ∧ Below w.heap.size w w' := by
  obtain ⟨xh, xl, e1⟩ : ∃ hi lo : Int, WV x = .agg #[.int .i64 hi, .int .u64 lo] := ⟨_, _, rfl⟩
  obtain ⟨yh, yl, e2⟩ : ∃ hi lo : Int, WV y = .agg #[.int .i64 hi, .int .u64 lo] := ⟨_, _, rfl⟩
  rw [e1, e2]
  clear e1 e2
  by_cases h1 : k < 0
  · go_enter Tryd.func18, Tryd.ntmps18
    go_wp2_with fail
    simp [bodyPost, results, Tryd.results18, go_sem]
    exact ((((Up.refl w).alloc _).alloc _).alloc _).below
  · have h2 : 36 < k := by omega
    go_enter Tryd.func18, Tryd.ntmps18
    go_wp2_with fail
    simp [bodyPost, results, Tryd.results18, go_sem]
    exact ((((Up.refl w).alloc _).alloc _).alloc _).below

theorem pow_bad (w : World) (k : Int) (hk : k < 0 ∨ 38 < k) : Calls Tryd.prog 35 #[.int .i64 k] w fun e w' => e = .returned (.tuple #[.agg #[.int .i64 0, .int .u64 0], .int .i64 1]) ∧ Below w.heap.size w w' := by
  by_cases h1 : k < 0
  · go_enter Tryd.func35, Tryd.ntmps35
    go_wp2_with fail
    simp [bodyPost, results, Tryd.results35, go_sem]
    exact ((Up.refl w).alloc _).below
  · have h2 : 38 < k := by omega
    go_enter Tryd.func35, Tryd.ntmps35
    go_wp2_with fail
    simp [bodyPost, results, Tryd.results35, go_sem]
    exact ((Up.refl w).alloc _).below

set_option maxRecDepth 100000 in
set_option maxHeartbeats 2000000 in
theorem pow_lo (w : World) (k : Nat) (hk : k ≤ 19) : Calls Tryd.prog 35 #[.int .i64 (k : Int)] w fun e w' => e = .returned (resV ((10 ^ k : Nat) : Int)) ∧ Below w.heap.size w w' := by
  have T1 := fun w => ten_any w k (by omega)
  have T0 := fun w => ten_any w 0 (by omega)
  have f1 : ((10 ^ k : Nat) : Int) ≤ 10000000000000000000 := by have := Nat.pow_le_pow_right (show 0 < 10 by decide) (show k ≤ 19 by omega); omega
  have s1 : ((10 ^ 0 : Nat) : Int) ≤ 10000000000000000000 := by have := Nat.pow_le_pow_right (show 0 < 10 by decide) (show 0 ≤ 19 by omega); omega
  obtain ⟨d, hd⟩ : ∃ d, d = ((10 ^ k : Nat) : Int) := ⟨_, rfl⟩
  rw [← hd]
  have hd0 : 0 ≤ d := by rw [hd]; exact Int.natCast_nonneg _
  have hdm : d ≤ 100000000000000000000000000000000000000 := by
    have h := Nat.pow_le_pow_right (show 0 < 10 by decide) (show k ≤ 38 by omega)
    rw [hd]
    omega
  have hfs : d = ((10 ^ k : Nat) : Int) * ((10 ^ 0 : Nat) : Int) := by
    rw [hd, ← Int.natCast_mul, ← Nat.pow_add]
    have hij : k + 0 = k := by omega
    rw [hij]
  clear hd
  have M := fun w => mul64 ((10 ^ k : Nat) : Int) ((10 ^ 0 : Nat) : Int) (by omega) (by omega) w
  rw [← hfs] at M
  have SG := fun w => signed_any w d false (by unfold Big; omega)
  rw [show (if false = true then -d else d) = d from rfl] at SG
  obtain ⟨f, hf⟩ : ∃ f, f = ((10 ^ k : Nat) : Int) := ⟨_, rfl⟩
  obtain ⟨s, hs⟩ : ∃ s, s = ((10 ^ 0 : Nat) : Int) := ⟨_, rfl⟩
  rw [← hf] at T1 M
  rw [← hs] at T0 M
  obtain ⟨dh, hdh⟩ : ∃ x, x = d / 18446744073709551616 := ⟨_, rfl⟩
  obtain ⟨dl, hdl⟩ : ∃ x, x = d % 18446744073709551616 := ⟨_, rfl⟩
  rw [← hdh, ← hdl] at M
  rw [show UV d = .agg #[.int .u64 dh, .int .u64 dl] by rw [hdh, hdl]; rfl] at SG
  obtain ⟨rh, rl, rk, er⟩ := resV_form d
  rw [er] at SG
  rw [er]
  have T1 := hid T1
  have T0 := hid T0
  have M := hid M
  have SG := hid SG
  clear hd0 hdm hfs f1 s1 hf hs hdh hdl er
  have w1 : IntKind.i64.wrap ((k : Int) - (k : Int)) = 0 := by rw [IntKind.wrap_i64]; omega
  have w2 : (k : Int) ≤ 19 := by omega
  have hk1 : ¬ (k : Int) < 0 := by omega
  have hk2 : (k : Int) ≤ 38 := by omega
  have hE' := Row.new w 24 #[.int .i64 0, .int .u64 0]
  have hU := (Up.refl w).alloc (.cells #[.int .i64 0, .int .u64 0] 24)
  go_enter Tryd.func35, Tryd.ntmps35
  go_wp2_with fail
  refine Calls.mono (T1.out _) ?_; rintro e v1 ⟨rfl, hb⟩
  replace hE' := hE'.below hb hE'.lt
  replace hU := hU.trans hb
  clear hb
  go_wp2_with fail
  refine Calls.mono (T0.out _) ?_; rintro e v2 ⟨rfl, hb⟩
  replace hE' := hE'.below hb hE'.lt
  replace hU := hU.trans hb
  clear hb
  go_wp2_with fail
  refine Calls.mono (M.out _) ?_; rintro e v3 ⟨rfl, rfl⟩
  go_wp2_with fail
  refine Calls.mono (SG.out _) ?_; rintro e v4 ⟨rfl, hb⟩
  replace hE' := hE'.below hb hE'.lt
  replace hU := hU.trans hb
  clear hb
  have size_W2 : (Tryd.prog.info? 24).map (·.size) = some 2 := by kernel_rfl
  go_wp2_with (refine wpList_store_row rfl 24 _ _ rfl (w.heap.size) #[.int .i64 rh, .int .u64 rl] rfl rfl 24 #[.int .i64 0, .int .u64 0] hE' size_W2 rfl (by simp [Value.oneCell']) ?_)
  have r1 := run_loadVar_row (P := Tryd.prog) _ (w.heap.size) 24 24 #[.int .i64 rh, .int .u64 rl] (0, 0) _ (show (v4.setRow (w.heap.size) #[.int .i64 rh, .int .u64 rl]).heap[w.heap.size]? = some (.cells #[.int .i64 rh, .int .u64 rl] 24 (0, 0)) from setRow_heap _ _ _ _ _ _ hE') Tryd.underlying24 rfl size_W2
  exact bodyPost_ret (v := .tuple #[.agg #[.int .i64 rh, .int .u64 rl], .int .i64 rk]) (by simp [results, Tryd.results35, asAddr, r1]) rfl ⟨rfl, hU.below.trans ⟨rfl, rfl, rfl, by simp, fun k hk => setRow_other _ _ _ _ (by omega)⟩⟩

set_option maxRecDepth 100000 in
set_option maxHeartbeats 2000000 in
theorem pow_hi (w : World) (k : Nat) (hk : 19 < k ∧ k ≤ 38) : Calls Tryd.prog 35 #[.int .i64 (k : Int)] w fun e w' => e = .returned (resV ((10 ^ k : Nat) : Int)) ∧ Below w.heap.size w w' := by
  have T1 := fun w => ten_any w 19 (by omega)
  have T0 := fun w => ten_any w (k - 19) (by omega)
  have f1 : ((10 ^ 19 : Nat) : Int) ≤ 10000000000000000000 := by have := Nat.pow_le_pow_right (show 0 < 10 by decide) (show 19 ≤ 19 by omega); omega
  have s1 : ((10 ^ (k - 19) : Nat) : Int) ≤ 10000000000000000000 := by have := Nat.pow_le_pow_right (show 0 < 10 by decide) (show (k - 19) ≤ 19 by omega); omega
  obtain ⟨d, hd⟩ : ∃ d, d = ((10 ^ k : Nat) : Int) := ⟨_, rfl⟩
  rw [← hd]
  have hd0 : 0 ≤ d := by rw [hd]; exact Int.natCast_nonneg _
  have hdm : d ≤ 100000000000000000000000000000000000000 := by
    have h := Nat.pow_le_pow_right (show 0 < 10 by decide) (show k ≤ 38 by omega)
    rw [hd]
    omega
  have hfs : d = ((10 ^ 19 : Nat) : Int) * ((10 ^ (k - 19) : Nat) : Int) := by
    rw [hd, ← Int.natCast_mul, ← Nat.pow_add]
    have hij : 19 + (k - 19) = k := by omega
    rw [hij]
  clear hd
  have M := fun w => mul64 ((10 ^ 19 : Nat) : Int) ((10 ^ (k - 19) : Nat) : Int) (by omega) (by omega) w
  rw [← hfs] at M
  have SG := fun w => signed_any w d false (by unfold Big; omega)
  rw [show (if false = true then -d else d) = d from rfl] at SG
  obtain ⟨f, hf⟩ : ∃ f, f = ((10 ^ 19 : Nat) : Int) := ⟨_, rfl⟩
  obtain ⟨s, hs⟩ : ∃ s, s = ((10 ^ (k - 19) : Nat) : Int) := ⟨_, rfl⟩
  rw [← hf] at T1 M
  rw [← hs] at T0 M
  obtain ⟨dh, hdh⟩ : ∃ x, x = d / 18446744073709551616 := ⟨_, rfl⟩
  obtain ⟨dl, hdl⟩ : ∃ x, x = d % 18446744073709551616 := ⟨_, rfl⟩
  rw [← hdh, ← hdl] at M
  rw [show UV d = .agg #[.int .u64 dh, .int .u64 dl] by rw [hdh, hdl]; rfl] at SG
  obtain ⟨rh, rl, rk, er⟩ := resV_form d
  rw [er] at SG
  rw [er]
  have T1 := hid T1
  have T0 := hid T0
  have M := hid M
  have SG := hid SG
  clear hd0 hdm hfs f1 s1 hf hs hdh hdl er
  have w1 : (k : Int) - 19 = ((k - 19 : Nat) : Int) := by omega
  have w2 : ¬ (k : Int) ≤ 19 := by omega
  have w3 : (19 : Int) < k := by omega
  have hk1 : ¬ (k : Int) < 0 := by omega
  have hk2 : (k : Int) ≤ 38 := by omega
  have hE' := Row.new w 24 #[.int .i64 0, .int .u64 0]
  have hU := (Up.refl w).alloc (.cells #[.int .i64 0, .int .u64 0] 24)
  go_enter Tryd.func35, Tryd.ntmps35
  go_wp2_with fail
  refine Calls.mono (T1.out _) ?_; rintro e v1 ⟨rfl, hb⟩
  replace hE' := hE'.below hb hE'.lt
  replace hU := hU.trans hb
  clear hb
  go_wp2_with fail
  refine Calls.mono (T0.out _) ?_; rintro e v2 ⟨rfl, hb⟩
  replace hE' := hE'.below hb hE'.lt
  replace hU := hU.trans hb
  clear hb
  go_wp2_with fail
  refine Calls.mono (M.out _) ?_; rintro e v3 ⟨rfl, rfl⟩
  go_wp2_with fail
  refine Calls.mono (SG.out _) ?_; rintro e v4 ⟨rfl, hb⟩
  replace hE' := hE'.below hb hE'.lt
  replace hU := hU.trans hb
  clear hb
  have size_W2 : (Tryd.prog.info? 24).map (·.size) = some 2 := by kernel_rfl
  go_wp2_with (refine wpList_store_row rfl 24 _ _ rfl (w.heap.size) #[.int .i64 rh, .int .u64 rl] rfl rfl 24 #[.int .i64 0, .int .u64 0] hE' size_W2 rfl (by simp [Value.oneCell']) ?_)
  have r1 := run_loadVar_row (P := Tryd.prog) _ (w.heap.size) 24 24 #[.int .i64 rh, .int .u64 rl] (0, 0) _ (show (v4.setRow (w.heap.size) #[.int .i64 rh, .int .u64 rl]).heap[w.heap.size]? = some (.cells #[.int .i64 rh, .int .u64 rl] 24 (0, 0)) from setRow_heap _ _ _ _ _ _ hE') Tryd.underlying24 rfl size_W2
  exact bodyPost_ret (v := .tuple #[.agg #[.int .i64 rh, .int .u64 rl], .int .i64 rk]) (by simp [results, Tryd.results35, asAddr, r1]) rfl ⟨rfl, hU.below.trans ⟨rfl, rfl, rfl, by simp, fun k hk => setRow_other _ _ _ _ (by omega)⟩⟩

theorem pow_any (w : World) (k : Nat) (hk : k ≤ 38) : Calls Tryd.prog 35 #[.int .i64 (k : Int)] w fun e w' => e = .returned (resV ((10 ^ k : Nat) : Int)) ∧ Below w.heap.size w w' := by
  by_cases h : k ≤ 19
  · exact pow_lo w k h
  · exact pow_hi w k ⟨by omega, hk⟩
end Go.Proofs.YtfalllekhcocgaaDoor
