/-
  The reference's numbers with signs: to numbers of two words, or none.
-/
import Derived.Test.YtfalllekhcocgaaDoorRefE
namespace Go.Proofs.YtfalllekhcocgaaDoor
open Go.RowKit

/-- what Wide answers -/
theorem rWide_any (w : World) (z : Int) (hz : z.natAbs < BP 16) : Calls Tryd.prog 86 #[BigZ z] w fun e w' =>
    (∃ p q : Int, e = .returned (.tuple #[.agg #[.int .i64 p, .int .u64 q], .bool (decide (Fits z))]) ∧ (Fits z → WV z = .agg #[.int .i64 p, .int .u64 q])) ∧ Below w.heap.size w w' := by
  have b4 : BP 4 = 340282366920938463463374607431768211456 := by decide
  have fin : ∀ (b : Bool) (p q : Int), decide (Fits z) = b → (Fits z → WV z = .agg #[.int .i64 p, .int .u64 q]) →
      (Calls Tryd.prog 86 #[BigZ z] w fun e w' => e = .returned (.tuple #[.agg #[.int .i64 p, .int .u64 q], .bool b]) ∧ Below w.heap.size w w') →
      Calls Tryd.prog 86 #[BigZ z] w fun e w' => (∃ p q : Int, e = .returned (.tuple #[.agg #[.int .i64 p, .int .u64 q], .bool (decide (Fits z))]) ∧ (Fits z → WV z = .agg #[.int .i64 p, .int .u64 q])) ∧ Below w.heap.size w w' := by
    intro b p q hb hw h
    rw [hb]
    exact h.mono fun e w' ⟨h1, h2⟩ => ⟨⟨p, q, h1, hw⟩, h2⟩
  obtain ⟨n, hn⟩ : ∃ n, n = z.natAbs := ⟨_, rfl⟩
  rw [← hn] at hz
  by_cases h4 : BP 4 ≤ n
  · have hf : ¬ Fits z := by unfold Fits; rw [b4] at h4; omega
    refine fin false 0 0 (decide_eq_false hf) (fun h => absurd h hf) ?_
    unfold BigZ
    rw [← hn]
    exact wide_big w _ n hz h4
  · have hn4 : n < BP 4 := by omega
    have hfour := dg_four (n / 18446744073709551616) (n % 18446744073709551616) (by rw [b4] at hn4; omega) (Nat.mod_lt _ (by decide))
    rw [show n / 18446744073709551616 * 18446744073709551616 + n % 18446744073709551616 = n by omega] at hfour
    obtain ⟨h, hh⟩ : ∃ h, h = n / 18446744073709551616 := ⟨_, rfl⟩
    obtain ⟨l, hl⟩ : ∃ l, l = n % 18446744073709551616 := ⟨_, rfl⟩
    rw [← hh, ← hl] at hfour
    have e1 : (dg n 2 : Int) + (dg n 3 : Int) * 4294967296 = (h : Int) := by rw [hfour.2.2.1, hfour.2.2.2]; omega
    have e2 : (dg n 0 : Int) + (dg n 1 : Int) * 4294967296 = (l : Int) := by rw [hfour.1, hfour.2.1]; omega
    have hhb : h < 18446744073709551616 := by rw [b4] at hn4; omega
    have hlb : l < 18446744073709551616 := by omega
    have wv : ∀ p q : Int, z / 18446744073709551616 = p → z % 18446744073709551616 = q → WV z = .agg #[.int .i64 p, .int .u64 q] := fun p q h1 h2 => by unfold WV; rw [h1, h2]
    by_cases hs : z < 0
    · have hB : BigZ z = BigV true n := by unfold BigZ; rw [decide_eq_true hs, ← hn]
      by_cases c1 : 9223372036854775808 < h
      · have hf : ¬ Fits z := by unfold Fits; omega
        refine fin false 0 0 (decide_eq_false hf) (fun h => absurd h hf) ?_
        rw [hB]
        exact wide_N0 w n h l hn4 e1 e2 (hid c1)
      · have nh := not_word h hhb
        have nl := not_word l hlb
        by_cases c2 : h = 9223372036854775808
        · by_cases c3 : 0 < l
          · have hf : ¬ Fits z := by unfold Fits; omega
            refine fin false 0 0 (decide_eq_false hf) (fun h => absurd h hf) ?_
            rw [hB]
            exact wide_N3 w n h l hn4 e1 e2 (hid (by omega)) (hid c2) (hid c3)
          · have hf : Fits z := by unfold Fits; omega
            refine fin true (-9223372036854775808) 0 (decide_eq_true hf) (fun _ => wv _ _ (by omega) (by omega)) ?_
            rw [hB]
            exact wide_N5b w n h l hn4 e1 e2 (hid (by omega)) (hid c2) (hid (by omega)) _ _ _ _ nh nl (by rw [IntKind.wrap_u64]; omega) (by simp) 9223372036854775808 (by rw [IntKind.wrap_u64]; omega) (by kernel_rfl) (hid (by kernel_rfl))
        · have hf : Fits z := by unfold Fits; omega
          by_cases c3 : l = 0
          · refine fin true (-(h : Int)) 0 (decide_eq_true hf) (fun _ => wv _ _ (by omega) (by omega)) ?_
            rw [hB]
            exact wide_N4b w n h l hn4 e1 e2 (hid (by omega)) (hid c2) _ _ _ _ nh nl (by rw [IntKind.wrap_u64]; omega) (by simp) ((18446744073709551616 - (h : Int)) % 18446744073709551616) (by rw [IntKind.wrap_u64]; omega) (by rw [IntKind.wrap_i64]; omega)
          · refine fin true (-(h : Int) - 1) (18446744073709551616 - (l : Int)) (decide_eq_true hf) (fun _ => wv _ _ (by omega) (by omega)) ?_
            rw [hB]
            exact wide_N4a w n h l hn4 e1 e2 (hid (by omega)) (hid c2) _ _ _ _ nh nl (by rw [IntKind.wrap_u64]; omega) (by simp; omega) (by rw [IntKind.wrap_i64]; omega)
    · have hB : BigZ z = BigV false n := by unfold BigZ; rw [decide_eq_false hs, ← hn]
      by_cases c1 : h < 9223372036854775808
      · have hf : Fits z := by unfold Fits; omega
        refine fin true h l (decide_eq_true hf) (fun _ => wv _ _ (by omega) (by omega)) ?_
        rw [hB]
        exact wide_P1 w n h l hn4 e1 e2 (by rw [IntKind.wrap_i64]; omega) (hid c1)
      · have hf : ¬ Fits z := by unfold Fits; omega
        refine fin false ((h : Int) - 18446744073709551616) l (decide_eq_false hf) (fun h => absurd h hf) ?_
        rw [hB]
        exact wide_P2 w n h l hn4 e1 e2 ((h : Int) - 18446744073709551616) (by rw [IntKind.wrap_i64]; omega) (hid c1)

theorem rWide_fit (w : World) (z : Int) (hf : Fits z) : Calls Tryd.prog 86 #[BigZ z] w fun e w' => e = .returned (.tuple #[WV z, .bool true]) ∧ Below w.heap.size w w' := by
  have hz : z.natAbs < BP 16 := by
    have b : BP 4 ≤ BP 16 := BP_le (by decide)
    have b4 : BP 4 = 340282366920938463463374607431768211456 := by decide
    rw [b4] at b
    unfold Fits at hf
    omega
  refine (rWide_any w z hz).mono ?_
  rintro e w' ⟨⟨p, q, h1, h2⟩, h3⟩
  exact ⟨by rw [h1, h2 hf, decide_eq_true hf], h3⟩
theorem rWide_no (w : World) (z : Int) (hz : z.natAbs < BP 16) (hf : ¬ Fits z) : Calls Tryd.prog 86 #[BigZ z] w fun e w' => (∃ p q : Int, e = .returned (.tuple #[.agg #[.int .i64 p, .int .u64 q], .bool false])) ∧ Below w.heap.size w w' := by
  refine (rWide_any w z hz).mono ?_
  rintro e w' ⟨⟨p, q, h1, h2⟩, h3⟩
  exact ⟨⟨p, q, by rw [h1, decide_eq_false hf]⟩, h3⟩

set_option maxRecDepth 100000 in
set_option maxHeartbeats 2000000 in
theorem rwide_fit (w : World) (z : Int) (hf : Fits z) : Calls Tryd.prog 54 #[BigZ z] w fun e w' => e = .returned (.tuple #[WV z, .int .i64 0]) ∧ Below w.heap.size w w' := by
  have hC := fun w => rWide_fit w z hf
  obtain ⟨p, q, e1, _, _, _⟩ := WV_of hf
  rw [e1] at hC ⊢
  clear hf e1
  have HC := hid hC
  clear hC
  obtain ⟨C, hCC⟩ : ∃ C, C = bigs (decide (z < 0)) z.natAbs := ⟨_, rfl⟩
  have hsz : C.size = 17 := by rw [hCC]; exact bigs_size _ _
  have HB : Hid (BigZ z = .agg C) := hid (by rw [hCC]; rfl)
  have hA := (Row.new w 76 C).alloc (.cells #[.int .i64 0, .int .u64 0] 24)
  have hR := Row.new (w.alloc (.cells C 76)) 24 #[.int .i64 0, .int .u64 0]
  have hU := ((Up.refl w).alloc (.cells C 76)).alloc (.cells #[.int .i64 0, .int .u64 0] 24)
  simp only [alloc_size] at hR
  rw [HB.out]
  have HS := hid hsz
  clear hCC hsz
  go_enter Tryd.func54, Tryd.ntmps54
  go_upto_region 1 with fail
  obtain ⟨V, hV⟩ : ∃ V, V = (w.alloc (.cells C 76)).alloc (.cells #[.int .i64 0, .int .u64 0] 24) := ⟨_, rfl⟩
  rw [← hV] at hA hR hU ⊢
  clear hV
  go_wp2_with (refine wpList_load_row rfl 76 _ rfl (w.heap.size) rfl 76 C (0, 0) _ hA Tryd.underlying76 rfl (size_Bn HS.out) ?_)
  rw [← HB.out]
  refine Calls.mono (HC.out _) ?_; rintro e w1 ⟨rfl, hb⟩
  have zb := hb.size
  have hR1 := hR.mod (Mod.of_below hb Nil) (fun hf => hf)
  have hU1 := hU.trans hb
  have zz := hU1.size
  have hlt := hR1.lt
  clear hb
  have hA0 := hR1.alloc (.cells #[.int .i64 p, .int .u64 q] 24)
  have c00 := hA0.cell 0
  have f00 := hA0.frozen 0
  have c01 := hA0.cell 1
  have f01 := hA0.frozen 1
  have hA1 := (hR1.set 0 (.int .i64 p)).alloc (.cells #[.int .i64 p, .int .u64 q] 24)
  have c10 := hA1.cell 0
  have f10 := hA1.frozen 0
  have c11 := hA1.cell 1
  have f11 := hA1.frozen 1
  have hA2 := ((hR1.set 0 (.int .i64 p)).set 1 (.int .u64 q)).alloc (.cells #[.int .i64 p, .int .u64 q] 24)
  have c20 := hA2.cell 0
  have f20 := hA2.frozen 0
  have c21 := hA2.cell 1
  have f21 := hA2.frozen 1
  simp only [List.setIfInBounds_toArray, List.set_cons_zero, List.set_cons_succ, List.getElem?_toArray, List.getElem?_cons_zero, List.getElem?_cons_succ] at c00 c01 c10 c11 c20 c21
  clear hA0 hA1 hA2
  go_wp2_with fail
  simp [bodyPost, results, Tryd.results54, go_sem, c20, c21]
  exact (((hU1.setCell (by omega) _).setCell (by omega) _).alloc _).below

set_option maxRecDepth 100000 in
set_option maxHeartbeats 2000000 in
theorem rwide_no (w : World) (z : Int) (hz : z.natAbs < BP 16) (hf : ¬ Fits z) : Calls Tryd.prog 54 #[BigZ z] w fun e w' => e = .returned (.tuple #[.agg #[.int .i64 0, .int .u64 0], .int .i64 20]) ∧ Below w.heap.size w w' := by
  have hC := fun w => rWide_no w z hz hf
  clear hf hz
  have HC := hid hC
  clear hC
  obtain ⟨C, hCC⟩ : ∃ C, C = bigs (decide (z < 0)) z.natAbs := ⟨_, rfl⟩
  have hsz : C.size = 17 := by rw [hCC]; exact bigs_size _ _
  have HB : Hid (BigZ z = .agg C) := hid (by rw [hCC]; rfl)
  have hA := (Row.new w 76 C).alloc (.cells #[.int .i64 0, .int .u64 0] 24)
  have hR := Row.new (w.alloc (.cells C 76)) 24 #[.int .i64 0, .int .u64 0]
  have hU := ((Up.refl w).alloc (.cells C 76)).alloc (.cells #[.int .i64 0, .int .u64 0] 24)
  simp only [alloc_size] at hR
  rw [HB.out]
  have HS := hid hsz
  clear hCC hsz
  go_enter Tryd.func54, Tryd.ntmps54
  go_upto_region 1 with fail
  obtain ⟨V, hV⟩ : ∃ V, V = (w.alloc (.cells C 76)).alloc (.cells #[.int .i64 0, .int .u64 0] 24) := ⟨_, rfl⟩
  rw [← hV] at hA hR hU ⊢
  clear hV
  go_wp2_with (refine wpList_load_row rfl 76 _ rfl (w.heap.size) rfl 76 C (0, 0) _ hA Tryd.underlying76 rfl (size_Bn HS.out) ?_)
  rw [← HB.out]
  refine Calls.mono (HC.out _) ?_; rintro e w1 ⟨⟨p, q, rfl⟩, hb⟩
  have zb := hb.size
  have hR1 := hR.mod (Mod.of_below hb Nil) (fun hf => hf)
  have hU1 := hU.trans hb
  have zz := hU1.size
  have hlt := hR1.lt
  clear hb
  have hA0 := hR1.alloc (.cells #[.int .i64 p, .int .u64 q] 24)
  have c00 := hA0.cell 0
  have f00 := hA0.frozen 0
  have c01 := hA0.cell 1
  have f01 := hA0.frozen 1
  have hA1 := (hR1.set 0 (.int .i64 0)).alloc (.cells #[.int .i64 p, .int .u64 q] 24)
  have c10 := hA1.cell 0
  have f10 := hA1.frozen 0
  have c11 := hA1.cell 1
  have f11 := hA1.frozen 1
  have hA2 := ((hR1.set 0 (.int .i64 0)).set 1 (.int .u64 0)).alloc (.cells #[.int .i64 p, .int .u64 q] 24)
  have c20 := hA2.cell 0
  have f20 := hA2.frozen 0
  have c21 := hA2.cell 1
  have f21 := hA2.frozen 1
  simp only [List.setIfInBounds_toArray, List.set_cons_zero, List.set_cons_succ, List.getElem?_toArray, List.getElem?_cons_zero, List.getElem?_cons_succ] at c00 c01 c10 c11 c20 c21
  clear hA0 hA1 hA2
  go_wp2_with fail
  simp [bodyPost, results, Tryd.results54, go_sem, c20, c21]
  exact (((hU1.setCell (by omega) _).setCell (by omega) _).alloc _).below

theorem rwide_any (w : World) (z : Int) (hz : z.natAbs < BP 16) : Calls Tryd.prog 54 #[BigZ z] w fun e w' => e = .returned (resV z) ∧ Below w.heap.size w w' := by
  by_cases hf : Fits z
  · rw [resV_fit hf]; exact rwide_fit w z hf
  · rw [resV_over hf]; exact rwide_no w z hz hf
end Go.Proofs.YtfalllekhcocgaaDoor
