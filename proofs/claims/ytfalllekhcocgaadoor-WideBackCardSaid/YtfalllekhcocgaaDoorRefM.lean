/-
  The reference's order of numbers with signs.
-/
import Derived.Test.YtfalllekhcocgaaDoorRefL
namespace Go.Proofs.YtfalllekhcocgaaDoor
open Go.RowKit

set_option maxRecDepth 100000 in
set_option maxHeartbeats 2000000 in
theorem cmpbig_same (w : World) (x y : Int) (sx : x.natAbs < BP 14) (sy : y.natAbs < BP 14) (h : x = y) : Calls Tryd.prog 62 #[BigZ x, BigZ y] w fun e w' => e = .returned (.int .i64 (0)) ∧ Below w.heap.size w w' := by
  have QN := fun w => minus_any w y (Nat.lt_of_lt_of_le sy (BP_le (by decide)))
  have QS := fun w => rsum_any w x (-y) (Nat.lt_of_lt_of_le sx (BP_le (by decide))) (Nat.lt_of_lt_of_le (neg_small sy) (BP_le (by decide)))
  have QZ := fun w => rzero_any w (x + -y).natAbs (Nat.lt_of_lt_of_le (sum_small sx (neg_small sy)) (BP_le (by decide)))
  have hz : decide ((x + -y).natAbs = 0) = true := by simp; omega
  have hd : decide (x + -y < 0) = false := by simp; omega
  rw [hz] at QZ
  unfold BigZ at QN QS ⊢
  rw [hd] at QS
  unfold BigV at QN QS ⊢
  unfold DV at QZ
  obtain ⟨C1, hC1⟩ : ∃ X, X = bigs (decide (x < 0)) x.natAbs := ⟨_, rfl⟩
  obtain ⟨C2, hC2⟩ : ∃ X, X = bigs (decide (y < 0)) y.natAbs := ⟨_, rfl⟩
  obtain ⟨C3, hC3⟩ : ∃ X, X = bigs (decide (-y < 0)) (-y).natAbs := ⟨_, rfl⟩
  obtain ⟨k, hk⟩ : ∃ k, k = (x + -y).natAbs := ⟨_, rfl⟩
  rw [← hk] at QS QZ
  obtain ⟨C4, hC4⟩ : ∃ X, X = bigs false k := ⟨_, rfl⟩
  obtain ⟨E4, hE4⟩ : ∃ X, X = digs k := ⟨_, rfl⟩
  rw [← hC2, ← hC3] at QN
  rw [← hC1, ← hC3, ← hC4] at QS
  rw [← hE4] at QZ
  rw [← hC1, ← hC2]
  have H1 := hid hC1
  have H2 := hid hC2
  have H4 := hid hC4
  have HE := hid hE4
  have HQN := hid QN
  have HQS := hid QS
  have HQZ := hid QZ
  clear QN QS QZ hz hd hC1 hC2 hC3 hC4 hE4 hk sx sy
  have h1 := (Row.new w 76 C1).alloc (.cells C2 76)
  have h2 := Row.new (w.alloc (.cells C1 76)) 76 C2
  have hU := ((Up.refl w).alloc (.cells C1 76)).alloc (.cells C2 76)
  simp only [alloc_size] at h2
  go_enter Tryd.func62, Tryd.ntmps62
  go_upto_region 1 with fail
  obtain ⟨V, hV⟩ : ∃ V, V = (w.alloc (.cells C1 76)).alloc (.cells C2 76) := ⟨_, rfl⟩
  rw [← hV] at h1 h2 hU ⊢
  clear hV
  refine wp_region_noPanic ?_
  refine wp_region_held_drew (S := fun W => Row W w.heap.size 76 C1 ∧ Row W (w.heap.size + 1) 76 C2 ∧ Up w.heap.size w W) (by kernel_rfl) (⟨h1.drew, h2.drew, hU.drew⟩) (fun hHeld => ?_)
  refine wpAnyH_take (i := 0) (oi := { dst := some 6, op := Op.load 76 (Operand.tmp 2), type := 76, pos := "ref.go:154", after := #[], guard := none }) (v := .agg C1) rfl (by kernel_rfl) (by kernel_rfl) (by kernel_rfl) (fun _ _ _ h => h) (Or.inl ⟨by rfl, fun W hW => exec_load_row 76 _ rfl (w.heap.size) rfl 76 C1 _ Tryd.underlying76 rfl (size_Bn (sizeC H1)) W hW.1⟩) hHeld ?_
  try simp only [Act.put, List.setIfInBounds_toArray, List.set_cons_zero, List.set_cons_succ]
  refine wpAnyH_take (i := 1) (oi := { dst := some 7, op := Op.load 76 (Operand.tmp 3), type := 76, pos := "ref.go:154", after := #[], guard := none }) (v := .agg C2) rfl (by kernel_rfl) (by kernel_rfl) (by kernel_rfl) (fun _ _ _ h => h) (Or.inl ⟨by rfl, fun W hW => exec_load_row 76 _ rfl (w.heap.size + 1) rfl 76 C2 _ Tryd.underlying76 rfl (size_Bn (sizeC H2)) W hW.2.1⟩) hHeld ?_
  try simp only [Act.put, List.setIfInBounds_toArray, List.set_cons_zero, List.set_cons_succ]
  refine wpAnyH_ready (rs := [2, 4]) (by kernel_rfl) (by simp) ?_
  refine (AllReadyH.cons (o := { dst := some 8, op := Op.call { callee := Callee.value (Operand.func 58), args := #[Operand.tmp 7], argTypes := #[76] }, type := 76, pos := "ref.go:154", after := #[{ on := 1, ground := Ground.data }], guard := none }) rfl (fun K hK => ?_) (AllReadyH.cons (o := { dst := some 5, op := Op.alloc 76, type := 0, pos := "ref.go:154", after := #[], guard := none }) rfl (fun K hK => ?_) AllReadyH.nil))
  · go_simp
    refine Calls.mono (HQN.out _) ?_; rintro e v1 ⟨rfl, hb⟩
    have k1 := (hHeld.1).mod (Mod.of_below hb Nil) (fun hf => hf)
    have k2 := (hHeld.2.1).mod (Mod.of_below hb Nil) (fun hf => hf)
    have k3 := hHeld.2.2.trans hb
    clear hb
    refine hK.out _ _ (⟨k1, k2, k3⟩) (fun hHeld => ?_)
    clear hK K k1 k2 k3
    try simp only [Act.put, List.setIfInBounds_toArray, List.set_cons_zero, List.set_cons_succ]
    refine wpAnyH_ready (rs := [3, 4]) (by kernel_rfl) (by simp) ?_
    refine (AllReadyH.cons (o := { dst := some 9, op := Op.call { callee := Callee.value (Operand.func 55), args := #[Operand.tmp 6, Operand.tmp 8], argTypes := #[76, 76] }, type := 76, pos := "ref.go:154", after := #[{ on := 0, ground := Ground.data }, { on := 2, ground := Ground.data }, { on := 2, ground := Ground.chain }], guard := none }) rfl (fun K hK => ?_) (AllReadyH.cons (o := { dst := some 5, op := Op.alloc 76, type := 0, pos := "ref.go:154", after := #[], guard := none }) rfl (fun K hK => ?_) AllReadyH.nil))
    · go_simp
      refine Calls.mono (HQS.out _) ?_; rintro e v2 ⟨rfl, hb⟩
      have k1 := (hHeld.1).mod (Mod.of_below hb Nil) (fun hf => hf)
      have k2 := (hHeld.2.1).mod (Mod.of_below hb Nil) (fun hf => hf)
      have k3 := hHeld.2.2.trans hb
      clear hb
      refine hK.out _ _ (⟨k1, k2, k3⟩) (fun hHeld => ?_)
      clear hK K k1 k2 k3
      try simp only [Act.put, List.setIfInBounds_toArray, List.set_cons_zero, List.set_cons_succ]
      refine wpAnyH_ready (rs := [4]) (by kernel_rfl) (by simp) ?_
      refine (AllReadyH.cons (o := { dst := some 5, op := Op.alloc 76, type := 0, pos := "ref.go:154", after := #[], guard := none }) rfl (fun K hK => ?_) AllReadyH.nil)
      go_simp
      have hG := Row.new (v2) 76 #[.bool false, .int .u64 0, .int .u64 0, .int .u64 0, .int .u64 0, .int .u64 0, .int .u64 0, .int .u64 0, .int .u64 0, .int .u64 0, .int .u64 0, .int .u64 0, .int .u64 0, .int .u64 0, .int .u64 0, .int .u64 0, .int .u64 0]
      have hGu := hHeld.2.2.size
      have hGl := hHeld.2.1.lt
      refine hK.out _ _ (⟨hHeld.1.alloc _, hHeld.2.1.alloc _, hHeld.2.2.alloc _⟩) (fun hHeld => ?_)
      clear hK K
      try simp only [Act.put, List.setIfInBounds_toArray, List.set_cons_zero, List.set_cons_succ]
      obtain ⟨g, hg⟩ : ∃ g, g = v2.heap.size := ⟨_, rfl⟩
      rw [← hg] at hG hGu hGl ⊢
      clear hg
      refine wpAnyH_ready (rs := [5]) (by kernel_rfl) (by simp) ?_
      refine AllReadyH.cons (o := { dst := none, op := Op.store 76 (Operand.tmp 5) (Operand.tmp 9), type := 0, pos := "ref.go:154", after := #[{ on := 4, ground := Ground.data }, { on := 3, ground := Ground.data }, { on := 3, ground := Ground.chain }, { on := 0, ground := Ground.phase }, { on := 1, ground := Ground.phase }, { on := 2, ground := Ground.phase }, { on := 3, ground := Ground.phase }, { on := 4, ground := Ground.phase }], guard := none }) rfl (fun K hK => ?_) AllReadyH.nil
      refine (if_pos (by rfl)).mpr ?_
      refine wp_store_row 76 _ _ rfl (g) C4 rfl rfl 76 #[.bool false, .int .u64 0, .int .u64 0, .int .u64 0, .int .u64 0, .int .u64 0, .int .u64 0, .int .u64 0, .int .u64 0, .int .u64 0, .int .u64 0, .int .u64 0, .int .u64 0, .int .u64 0, .int .u64 0, .int .u64 0, .int .u64 0] hG (size_Bn (sizeC H4)) (by rw [sizeC H4]; rfl) (oneC H4) ?_
      replace hG := hG.putRow C4
      refine hK.out _ _ (⟨hHeld.1.farRow (by omega) C4, hHeld.2.1.farRow (by have := hHeld.2.1.lt; omega) C4, hHeld.2.2.setRow (by omega) C4⟩) (fun hHeld => ?_)
      clear hK K
      try simp only [Act.put, List.setIfInBounds_toArray, List.set_cons_zero, List.set_cons_succ]
      refine wpAnyH_done (by kernel_rfl) ?_ _
      refine NoPanic.normal ?_
      have cd := hG.cell 0
      rw [zeroC H4] at cd
      have hU := hHeld.2.2
      clear hHeld
      go_wp2_with (refine wpList_load_E rfl H4 HE (.tmp 10) rfl (g) rfl 76 hG ?_)
      refine Calls.mono (HQZ.out _) ?_; rintro e v9 ⟨rfl, hb⟩
      replace hG := (hG).mod (Mod.of_below hb Nil) (fun hf => hf)
      replace hU := hU.trans hb
      clear hb cd
      have cd := hG.cell 0
      rw [zeroC H4] at cd
      go_wp2_with fail
      go_ret
      exact ⟨rfl, hU.below⟩
    · go_simp
      have hG := Row.new (v1) 76 #[.bool false, .int .u64 0, .int .u64 0, .int .u64 0, .int .u64 0, .int .u64 0, .int .u64 0, .int .u64 0, .int .u64 0, .int .u64 0, .int .u64 0, .int .u64 0, .int .u64 0, .int .u64 0, .int .u64 0, .int .u64 0, .int .u64 0]
      have hGu := hHeld.2.2.size
      have hGl := hHeld.2.1.lt
      refine hK.out _ _ (⟨hHeld.1.alloc _, hHeld.2.1.alloc _, hHeld.2.2.alloc _⟩) (fun hHeld => ?_)
      clear hK K
      try simp only [Act.put, List.setIfInBounds_toArray, List.set_cons_zero, List.set_cons_succ]
      obtain ⟨g, hg⟩ : ∃ g, g = v1.heap.size := ⟨_, rfl⟩
      rw [← hg] at hG hGu hGl ⊢
      clear hg
      refine wpAnyH_ready (rs := [3]) (by kernel_rfl) (by simp) ?_
      refine (AllReadyH.cons (o := { dst := some 9, op := Op.call { callee := Callee.value (Operand.func 55), args := #[Operand.tmp 6, Operand.tmp 8], argTypes := #[76, 76] }, type := 76, pos := "ref.go:154", after := #[{ on := 0, ground := Ground.data }, { on := 2, ground := Ground.data }, { on := 2, ground := Ground.chain }], guard := none }) rfl (fun K hK => ?_) AllReadyH.nil)
      go_simp
      refine Calls.mono (HQS.out _) ?_; rintro e v3 ⟨rfl, hb⟩
      have k1 := (hHeld.1).mod (Mod.of_below hb Nil) (fun hf => hf)
      have k2 := (hHeld.2.1).mod (Mod.of_below hb Nil) (fun hf => hf)
      have k3 := hHeld.2.2.trans hb
      replace hG := (hG).mod (Mod.of_below hb Nil) (fun hf => hf)
      clear hb
      refine hK.out _ _ (⟨k1, k2, k3⟩) (fun hHeld => ?_)
      clear hK K k1 k2 k3
      try simp only [Act.put, List.setIfInBounds_toArray, List.set_cons_zero, List.set_cons_succ]
      refine wpAnyH_ready (rs := [5]) (by kernel_rfl) (by simp) ?_
      refine AllReadyH.cons (o := { dst := none, op := Op.store 76 (Operand.tmp 5) (Operand.tmp 9), type := 0, pos := "ref.go:154", after := #[{ on := 4, ground := Ground.data }, { on := 3, ground := Ground.data }, { on := 3, ground := Ground.chain }, { on := 0, ground := Ground.phase }, { on := 1, ground := Ground.phase }, { on := 2, ground := Ground.phase }, { on := 3, ground := Ground.phase }, { on := 4, ground := Ground.phase }], guard := none }) rfl (fun K hK => ?_) AllReadyH.nil
      refine (if_pos (by rfl)).mpr ?_
      refine wp_store_row 76 _ _ rfl (g) C4 rfl rfl 76 #[.bool false, .int .u64 0, .int .u64 0, .int .u64 0, .int .u64 0, .int .u64 0, .int .u64 0, .int .u64 0, .int .u64 0, .int .u64 0, .int .u64 0, .int .u64 0, .int .u64 0, .int .u64 0, .int .u64 0, .int .u64 0, .int .u64 0] hG (size_Bn (sizeC H4)) (by rw [sizeC H4]; rfl) (oneC H4) ?_
      replace hG := hG.putRow C4
      refine hK.out _ _ (⟨hHeld.1.farRow (by omega) C4, hHeld.2.1.farRow (by have := hHeld.2.1.lt; omega) C4, hHeld.2.2.setRow (by omega) C4⟩) (fun hHeld => ?_)
      clear hK K
      try simp only [Act.put, List.setIfInBounds_toArray, List.set_cons_zero, List.set_cons_succ]
      refine wpAnyH_done (by kernel_rfl) ?_ _
      refine NoPanic.normal ?_
      have cd := hG.cell 0
      rw [zeroC H4] at cd
      have hU := hHeld.2.2
      clear hHeld
      go_wp2_with (refine wpList_load_E rfl H4 HE (.tmp 10) rfl (g) rfl 76 hG ?_)
      refine Calls.mono (HQZ.out _) ?_; rintro e v9 ⟨rfl, hb⟩
      replace hG := (hG).mod (Mod.of_below hb Nil) (fun hf => hf)
      replace hU := hU.trans hb
      clear hb cd
      have cd := hG.cell 0
      rw [zeroC H4] at cd
      go_wp2_with fail
      go_ret
      exact ⟨rfl, hU.below⟩
  · go_simp
    have hG := Row.new (V.drew) 76 #[.bool false, .int .u64 0, .int .u64 0, .int .u64 0, .int .u64 0, .int .u64 0, .int .u64 0, .int .u64 0, .int .u64 0, .int .u64 0, .int .u64 0, .int .u64 0, .int .u64 0, .int .u64 0, .int .u64 0, .int .u64 0, .int .u64 0]
    have hGu := hHeld.2.2.size
    have hGl := hHeld.2.1.lt
    refine hK.out _ _ (⟨hHeld.1.alloc _, hHeld.2.1.alloc _, hHeld.2.2.alloc _⟩) (fun hHeld => ?_)
    clear hK K
    try simp only [Act.put, List.setIfInBounds_toArray, List.set_cons_zero, List.set_cons_succ]
    replace hG : Row (V.drew.alloc (.cells #[.bool false, .int .u64 0, .int .u64 0, .int .u64 0, .int .u64 0, .int .u64 0, .int .u64 0, .int .u64 0, .int .u64 0, .int .u64 0, .int .u64 0, .int .u64 0, .int .u64 0, .int .u64 0, .int .u64 0, .int .u64 0, .int .u64 0] 76)) V.heap.size 76 #[.bool false, .int .u64 0, .int .u64 0, .int .u64 0, .int .u64 0, .int .u64 0, .int .u64 0, .int .u64 0, .int .u64 0, .int .u64 0, .int .u64 0, .int .u64 0, .int .u64 0, .int .u64 0, .int .u64 0, .int .u64 0, .int .u64 0] := hG
    replace hGu : w.heap.size ≤ V.heap.size := hGu
    replace hGl : w.heap.size + 1 < V.heap.size := hGl
    refine wpAnyH_ready (rs := [2]) (by kernel_rfl) (by simp) ?_
    refine (AllReadyH.cons (o := { dst := some 8, op := Op.call { callee := Callee.value (Operand.func 58), args := #[Operand.tmp 7], argTypes := #[76] }, type := 76, pos := "ref.go:154", after := #[{ on := 1, ground := Ground.data }], guard := none }) rfl (fun K hK => ?_) AllReadyH.nil)
    go_simp
    refine Calls.mono (HQN.out _) ?_; rintro e v4 ⟨rfl, hb⟩
    have k1 := (hHeld.1).mod (Mod.of_below hb Nil) (fun hf => hf)
    have k2 := (hHeld.2.1).mod (Mod.of_below hb Nil) (fun hf => hf)
    have k3 := hHeld.2.2.trans hb
    replace hG := (hG).mod (Mod.of_below hb Nil) (fun hf => hf)
    clear hb
    refine hK.out _ _ (⟨k1, k2, k3⟩) (fun hHeld => ?_)
    clear hK K k1 k2 k3
    try simp only [Act.put, List.setIfInBounds_toArray, List.set_cons_zero, List.set_cons_succ]
    refine wpAnyH_ready (rs := [3]) (by kernel_rfl) (by simp) ?_
    refine (AllReadyH.cons (o := { dst := some 9, op := Op.call { callee := Callee.value (Operand.func 55), args := #[Operand.tmp 6, Operand.tmp 8], argTypes := #[76, 76] }, type := 76, pos := "ref.go:154", after := #[{ on := 0, ground := Ground.data }, { on := 2, ground := Ground.data }, { on := 2, ground := Ground.chain }], guard := none }) rfl (fun K hK => ?_) AllReadyH.nil)
    go_simp
    refine Calls.mono (HQS.out _) ?_; rintro e v5 ⟨rfl, hb⟩
    have k1 := (hHeld.1).mod (Mod.of_below hb Nil) (fun hf => hf)
    have k2 := (hHeld.2.1).mod (Mod.of_below hb Nil) (fun hf => hf)
    have k3 := hHeld.2.2.trans hb
    replace hG := (hG).mod (Mod.of_below hb Nil) (fun hf => hf)
    clear hb
    refine hK.out _ _ (⟨k1, k2, k3⟩) (fun hHeld => ?_)
    clear hK K k1 k2 k3
    try simp only [Act.put, List.setIfInBounds_toArray, List.set_cons_zero, List.set_cons_succ]
    refine wpAnyH_ready (rs := [5]) (by kernel_rfl) (by simp) ?_
    refine AllReadyH.cons (o := { dst := none, op := Op.store 76 (Operand.tmp 5) (Operand.tmp 9), type := 0, pos := "ref.go:154", after := #[{ on := 4, ground := Ground.data }, { on := 3, ground := Ground.data }, { on := 3, ground := Ground.chain }, { on := 0, ground := Ground.phase }, { on := 1, ground := Ground.phase }, { on := 2, ground := Ground.phase }, { on := 3, ground := Ground.phase }, { on := 4, ground := Ground.phase }], guard := none }) rfl (fun K hK => ?_) AllReadyH.nil
    refine (if_pos (by rfl)).mpr ?_
    refine wp_store_row 76 _ _ rfl (V.heap.size) C4 rfl rfl 76 #[.bool false, .int .u64 0, .int .u64 0, .int .u64 0, .int .u64 0, .int .u64 0, .int .u64 0, .int .u64 0, .int .u64 0, .int .u64 0, .int .u64 0, .int .u64 0, .int .u64 0, .int .u64 0, .int .u64 0, .int .u64 0, .int .u64 0] hG (size_Bn (sizeC H4)) (by rw [sizeC H4]; rfl) (oneC H4) ?_
    replace hG := hG.putRow C4
    refine hK.out _ _ (⟨hHeld.1.farRow (by omega) C4, hHeld.2.1.farRow (by have := hHeld.2.1.lt; omega) C4, hHeld.2.2.setRow (by omega) C4⟩) (fun hHeld => ?_)
    clear hK K
    try simp only [Act.put, List.setIfInBounds_toArray, List.set_cons_zero, List.set_cons_succ]
    refine wpAnyH_done (by kernel_rfl) ?_ _
    refine NoPanic.normal ?_
    have cd := hG.cell 0
    rw [zeroC H4] at cd
    have hU := hHeld.2.2
    clear hHeld
    go_wp2_with (refine wpList_load_E rfl H4 HE (.tmp 10) rfl (V.heap.size) rfl 76 hG ?_)
    refine Calls.mono (HQZ.out _) ?_; rintro e v9 ⟨rfl, hb⟩
    replace hG := (hG).mod (Mod.of_below hb Nil) (fun hf => hf)
    replace hU := hU.trans hb
    clear hb cd
    have cd := hG.cell 0
    rw [zeroC H4] at cd
    go_wp2_with fail
    go_ret
    exact ⟨rfl, hU.below⟩

set_option maxRecDepth 100000 in
set_option maxHeartbeats 2000000 in
theorem cmpbig_less (w : World) (x y : Int) (sx : x.natAbs < BP 14) (sy : y.natAbs < BP 14) (h : x < y) : Calls Tryd.prog 62 #[BigZ x, BigZ y] w fun e w' => e = .returned (.int .i64 (-1)) ∧ Below w.heap.size w w' := by
  have QN := fun w => minus_any w y (Nat.lt_of_lt_of_le sy (BP_le (by decide)))
  have QS := fun w => rsum_any w x (-y) (Nat.lt_of_lt_of_le sx (BP_le (by decide))) (Nat.lt_of_lt_of_le (neg_small sy) (BP_le (by decide)))
  have QZ := fun w => rzero_any w (x + -y).natAbs (Nat.lt_of_lt_of_le (sum_small sx (neg_small sy)) (BP_le (by decide)))
  have hz : decide ((x + -y).natAbs = 0) = false := by simp; omega
  have hd : decide (x + -y < 0) = true := by simp; omega
  rw [hz] at QZ
  unfold BigZ at QN QS ⊢
  rw [hd] at QS
  unfold BigV at QN QS ⊢
  unfold DV at QZ
  obtain ⟨C1, hC1⟩ : ∃ X, X = bigs (decide (x < 0)) x.natAbs := ⟨_, rfl⟩
  obtain ⟨C2, hC2⟩ : ∃ X, X = bigs (decide (y < 0)) y.natAbs := ⟨_, rfl⟩
  obtain ⟨C3, hC3⟩ : ∃ X, X = bigs (decide (-y < 0)) (-y).natAbs := ⟨_, rfl⟩
  obtain ⟨k, hk⟩ : ∃ k, k = (x + -y).natAbs := ⟨_, rfl⟩
  rw [← hk] at QS QZ
  obtain ⟨C4, hC4⟩ : ∃ X, X = bigs true k := ⟨_, rfl⟩
  obtain ⟨E4, hE4⟩ : ∃ X, X = digs k := ⟨_, rfl⟩
  rw [← hC2, ← hC3] at QN
  rw [← hC1, ← hC3, ← hC4] at QS
  rw [← hE4] at QZ
  rw [← hC1, ← hC2]
  have H1 := hid hC1
  have H2 := hid hC2
  have H4 := hid hC4
  have HE := hid hE4
  have HQN := hid QN
  have HQS := hid QS
  have HQZ := hid QZ
  clear QN QS QZ hz hd hC1 hC2 hC3 hC4 hE4 hk sx sy
  have h1 := (Row.new w 76 C1).alloc (.cells C2 76)
  have h2 := Row.new (w.alloc (.cells C1 76)) 76 C2
  have hU := ((Up.refl w).alloc (.cells C1 76)).alloc (.cells C2 76)
  simp only [alloc_size] at h2
  go_enter Tryd.func62, Tryd.ntmps62
  go_upto_region 1 with fail
  obtain ⟨V, hV⟩ : ∃ V, V = (w.alloc (.cells C1 76)).alloc (.cells C2 76) := ⟨_, rfl⟩
  rw [← hV] at h1 h2 hU ⊢
  clear hV
  refine wp_region_noPanic ?_
  refine wp_region_held_drew (S := fun W => Row W w.heap.size 76 C1 ∧ Row W (w.heap.size + 1) 76 C2 ∧ Up w.heap.size w W) (by kernel_rfl) (⟨h1.drew, h2.drew, hU.drew⟩) (fun hHeld => ?_)
  refine wpAnyH_take (i := 0) (oi := { dst := some 6, op := Op.load 76 (Operand.tmp 2), type := 76, pos := "ref.go:154", after := #[], guard := none }) (v := .agg C1) rfl (by kernel_rfl) (by kernel_rfl) (by kernel_rfl) (fun _ _ _ h => h) (Or.inl ⟨by rfl, fun W hW => exec_load_row 76 _ rfl (w.heap.size) rfl 76 C1 _ Tryd.underlying76 rfl (size_Bn (sizeC H1)) W hW.1⟩) hHeld ?_
  try simp only [Act.put, List.setIfInBounds_toArray, List.set_cons_zero, List.set_cons_succ]
  refine wpAnyH_take (i := 1) (oi := { dst := some 7, op := Op.load 76 (Operand.tmp 3), type := 76, pos := "ref.go:154", after := #[], guard := none }) (v := .agg C2) rfl (by kernel_rfl) (by kernel_rfl) (by kernel_rfl) (fun _ _ _ h => h) (Or.inl ⟨by rfl, fun W hW => exec_load_row 76 _ rfl (w.heap.size + 1) rfl 76 C2 _ Tryd.underlying76 rfl (size_Bn (sizeC H2)) W hW.2.1⟩) hHeld ?_
  try simp only [Act.put, List.setIfInBounds_toArray, List.set_cons_zero, List.set_cons_succ]
  refine wpAnyH_ready (rs := [2, 4]) (by kernel_rfl) (by simp) ?_
  refine (AllReadyH.cons (o := { dst := some 8, op := Op.call { callee := Callee.value (Operand.func 58), args := #[Operand.tmp 7], argTypes := #[76] }, type := 76, pos := "ref.go:154", after := #[{ on := 1, ground := Ground.data }], guard := none }) rfl (fun K hK => ?_) (AllReadyH.cons (o := { dst := some 5, op := Op.alloc 76, type := 0, pos := "ref.go:154", after := #[], guard := none }) rfl (fun K hK => ?_) AllReadyH.nil))
  · go_simp
    refine Calls.mono (HQN.out _) ?_; rintro e v1 ⟨rfl, hb⟩
    have k1 := (hHeld.1).mod (Mod.of_below hb Nil) (fun hf => hf)
    have k2 := (hHeld.2.1).mod (Mod.of_below hb Nil) (fun hf => hf)
    have k3 := hHeld.2.2.trans hb
    clear hb
    refine hK.out _ _ (⟨k1, k2, k3⟩) (fun hHeld => ?_)
    clear hK K k1 k2 k3
    try simp only [Act.put, List.setIfInBounds_toArray, List.set_cons_zero, List.set_cons_succ]
    refine wpAnyH_ready (rs := [3, 4]) (by kernel_rfl) (by simp) ?_
    refine (AllReadyH.cons (o := { dst := some 9, op := Op.call { callee := Callee.value (Operand.func 55), args := #[Operand.tmp 6, Operand.tmp 8], argTypes := #[76, 76] }, type := 76, pos := "ref.go:154", after := #[{ on := 0, ground := Ground.data }, { on := 2, ground := Ground.data }, { on := 2, ground := Ground.chain }], guard := none }) rfl (fun K hK => ?_) (AllReadyH.cons (o := { dst := some 5, op := Op.alloc 76, type := 0, pos := "ref.go:154", after := #[], guard := none }) rfl (fun K hK => ?_) AllReadyH.nil))
    · go_simp
      refine Calls.mono (HQS.out _) ?_; rintro e v2 ⟨rfl, hb⟩
      have k1 := (hHeld.1).mod (Mod.of_below hb Nil) (fun hf => hf)
      have k2 := (hHeld.2.1).mod (Mod.of_below hb Nil) (fun hf => hf)
      have k3 := hHeld.2.2.trans hb
      clear hb
      refine hK.out _ _ (⟨k1, k2, k3⟩) (fun hHeld => ?_)
      clear hK K k1 k2 k3
      try simp only [Act.put, List.setIfInBounds_toArray, List.set_cons_zero, List.set_cons_succ]
      refine wpAnyH_ready (rs := [4]) (by kernel_rfl) (by simp) ?_
      refine (AllReadyH.cons (o := { dst := some 5, op := Op.alloc 76, type := 0, pos := "ref.go:154", after := #[], guard := none }) rfl (fun K hK => ?_) AllReadyH.nil)
      go_simp
      have hG := Row.new (v2) 76 #[.bool false, .int .u64 0, .int .u64 0, .int .u64 0, .int .u64 0, .int .u64 0, .int .u64 0, .int .u64 0, .int .u64 0, .int .u64 0, .int .u64 0, .int .u64 0, .int .u64 0, .int .u64 0, .int .u64 0, .int .u64 0, .int .u64 0]
      have hGu := hHeld.2.2.size
      have hGl := hHeld.2.1.lt
      refine hK.out _ _ (⟨hHeld.1.alloc _, hHeld.2.1.alloc _, hHeld.2.2.alloc _⟩) (fun hHeld => ?_)
      clear hK K
      try simp only [Act.put, List.setIfInBounds_toArray, List.set_cons_zero, List.set_cons_succ]
      obtain ⟨g, hg⟩ : ∃ g, g = v2.heap.size := ⟨_, rfl⟩
      rw [← hg] at hG hGu hGl ⊢
      clear hg
      refine wpAnyH_ready (rs := [5]) (by kernel_rfl) (by simp) ?_
      refine AllReadyH.cons (o := { dst := none, op := Op.store 76 (Operand.tmp 5) (Operand.tmp 9), type := 0, pos := "ref.go:154", after := #[{ on := 4, ground := Ground.data }, { on := 3, ground := Ground.data }, { on := 3, ground := Ground.chain }, { on := 0, ground := Ground.phase }, { on := 1, ground := Ground.phase }, { on := 2, ground := Ground.phase }, { on := 3, ground := Ground.phase }, { on := 4, ground := Ground.phase }], guard := none }) rfl (fun K hK => ?_) AllReadyH.nil
      refine (if_pos (by rfl)).mpr ?_
      refine wp_store_row 76 _ _ rfl (g) C4 rfl rfl 76 #[.bool false, .int .u64 0, .int .u64 0, .int .u64 0, .int .u64 0, .int .u64 0, .int .u64 0, .int .u64 0, .int .u64 0, .int .u64 0, .int .u64 0, .int .u64 0, .int .u64 0, .int .u64 0, .int .u64 0, .int .u64 0, .int .u64 0] hG (size_Bn (sizeC H4)) (by rw [sizeC H4]; rfl) (oneC H4) ?_
      replace hG := hG.putRow C4
      refine hK.out _ _ (⟨hHeld.1.farRow (by omega) C4, hHeld.2.1.farRow (by have := hHeld.2.1.lt; omega) C4, hHeld.2.2.setRow (by omega) C4⟩) (fun hHeld => ?_)
      clear hK K
      try simp only [Act.put, List.setIfInBounds_toArray, List.set_cons_zero, List.set_cons_succ]
      refine wpAnyH_done (by kernel_rfl) ?_ _
      refine NoPanic.normal ?_
      have cd := hG.cell 0
      rw [zeroC H4] at cd
      have hU := hHeld.2.2
      clear hHeld
      go_wp2_with (refine wpList_load_E rfl H4 HE (.tmp 10) rfl (g) rfl 76 hG ?_)
      refine Calls.mono (HQZ.out _) ?_; rintro e v9 ⟨rfl, hb⟩
      replace hG := (hG).mod (Mod.of_below hb Nil) (fun hf => hf)
      replace hU := hU.trans hb
      clear hb cd
      have cd := hG.cell 0
      rw [zeroC H4] at cd
      go_wp2_with fail
      go_ret
      exact ⟨rfl, hU.below⟩
    · go_simp
      have hG := Row.new (v1) 76 #[.bool false, .int .u64 0, .int .u64 0, .int .u64 0, .int .u64 0, .int .u64 0, .int .u64 0, .int .u64 0, .int .u64 0, .int .u64 0, .int .u64 0, .int .u64 0, .int .u64 0, .int .u64 0, .int .u64 0, .int .u64 0, .int .u64 0]
      have hGu := hHeld.2.2.size
      have hGl := hHeld.2.1.lt
      refine hK.out _ _ (⟨hHeld.1.alloc _, hHeld.2.1.alloc _, hHeld.2.2.alloc _⟩) (fun hHeld => ?_)
      clear hK K
      try simp only [Act.put, List.setIfInBounds_toArray, List.set_cons_zero, List.set_cons_succ]
      obtain ⟨g, hg⟩ : ∃ g, g = v1.heap.size := ⟨_, rfl⟩
      rw [← hg] at hG hGu hGl ⊢
      clear hg
      refine wpAnyH_ready (rs := [3]) (by kernel_rfl) (by simp) ?_
      refine (AllReadyH.cons (o := { dst := some 9, op := Op.call { callee := Callee.value (Operand.func 55), args := #[Operand.tmp 6, Operand.tmp 8], argTypes := #[76, 76] }, type := 76, pos := "ref.go:154", after := #[{ on := 0, ground := Ground.data }, { on := 2, ground := Ground.data }, { on := 2, ground := Ground.chain }], guard := none }) rfl (fun K hK => ?_) AllReadyH.nil)
      go_simp
      refine Calls.mono (HQS.out _) ?_; rintro e v3 ⟨rfl, hb⟩
      have k1 := (hHeld.1).mod (Mod.of_below hb Nil) (fun hf => hf)
      have k2 := (hHeld.2.1).mod (Mod.of_below hb Nil) (fun hf => hf)
      have k3 := hHeld.2.2.trans hb
      replace hG := (hG).mod (Mod.of_below hb Nil) (fun hf => hf)
      clear hb
      refine hK.out _ _ (⟨k1, k2, k3⟩) (fun hHeld => ?_)
      clear hK K k1 k2 k3
      try simp only [Act.put, List.setIfInBounds_toArray, List.set_cons_zero, List.set_cons_succ]
      refine wpAnyH_ready (rs := [5]) (by kernel_rfl) (by simp) ?_
      refine AllReadyH.cons (o := { dst := none, op := Op.store 76 (Operand.tmp 5) (Operand.tmp 9), type := 0, pos := "ref.go:154", after := #[{ on := 4, ground := Ground.data }, { on := 3, ground := Ground.data }, { on := 3, ground := Ground.chain }, { on := 0, ground := Ground.phase }, { on := 1, ground := Ground.phase }, { on := 2, ground := Ground.phase }, { on := 3, ground := Ground.phase }, { on := 4, ground := Ground.phase }], guard := none }) rfl (fun K hK => ?_) AllReadyH.nil
      refine (if_pos (by rfl)).mpr ?_
      refine wp_store_row 76 _ _ rfl (g) C4 rfl rfl 76 #[.bool false, .int .u64 0, .int .u64 0, .int .u64 0, .int .u64 0, .int .u64 0, .int .u64 0, .int .u64 0, .int .u64 0, .int .u64 0, .int .u64 0, .int .u64 0, .int .u64 0, .int .u64 0, .int .u64 0, .int .u64 0, .int .u64 0] hG (size_Bn (sizeC H4)) (by rw [sizeC H4]; rfl) (oneC H4) ?_
      replace hG := hG.putRow C4
      refine hK.out _ _ (⟨hHeld.1.farRow (by omega) C4, hHeld.2.1.farRow (by have := hHeld.2.1.lt; omega) C4, hHeld.2.2.setRow (by omega) C4⟩) (fun hHeld => ?_)
      clear hK K
      try simp only [Act.put, List.setIfInBounds_toArray, List.set_cons_zero, List.set_cons_succ]
      refine wpAnyH_done (by kernel_rfl) ?_ _
      refine NoPanic.normal ?_
      have cd := hG.cell 0
      rw [zeroC H4] at cd
      have hU := hHeld.2.2
      clear hHeld
      go_wp2_with (refine wpList_load_E rfl H4 HE (.tmp 10) rfl (g) rfl 76 hG ?_)
      refine Calls.mono (HQZ.out _) ?_; rintro e v9 ⟨rfl, hb⟩
      replace hG := (hG).mod (Mod.of_below hb Nil) (fun hf => hf)
      replace hU := hU.trans hb
      clear hb cd
      have cd := hG.cell 0
      rw [zeroC H4] at cd
      go_wp2_with fail
      go_ret
      exact ⟨rfl, hU.below⟩
  · go_simp
    have hG := Row.new (V.drew) 76 #[.bool false, .int .u64 0, .int .u64 0, .int .u64 0, .int .u64 0, .int .u64 0, .int .u64 0, .int .u64 0, .int .u64 0, .int .u64 0, .int .u64 0, .int .u64 0, .int .u64 0, .int .u64 0, .int .u64 0, .int .u64 0, .int .u64 0]
    have hGu := hHeld.2.2.size
    have hGl := hHeld.2.1.lt
    refine hK.out _ _ (⟨hHeld.1.alloc _, hHeld.2.1.alloc _, hHeld.2.2.alloc _⟩) (fun hHeld => ?_)
    clear hK K
    try simp only [Act.put, List.setIfInBounds_toArray, List.set_cons_zero, List.set_cons_succ]
    replace hG : Row (V.drew.alloc (.cells #[.bool false, .int .u64 0, .int .u64 0, .int .u64 0, .int .u64 0, .int .u64 0, .int .u64 0, .int .u64 0, .int .u64 0, .int .u64 0, .int .u64 0, .int .u64 0, .int .u64 0, .int .u64 0, .int .u64 0, .int .u64 0, .int .u64 0] 76)) V.heap.size 76 #[.bool false, .int .u64 0, .int .u64 0, .int .u64 0, .int .u64 0, .int .u64 0, .int .u64 0, .int .u64 0, .int .u64 0, .int .u64 0, .int .u64 0, .int .u64 0, .int .u64 0, .int .u64 0, .int .u64 0, .int .u64 0, .int .u64 0] := hG
    replace hGu : w.heap.size ≤ V.heap.size := hGu
    replace hGl : w.heap.size + 1 < V.heap.size := hGl
    refine wpAnyH_ready (rs := [2]) (by kernel_rfl) (by simp) ?_
    refine (AllReadyH.cons (o := { dst := some 8, op := Op.call { callee := Callee.value (Operand.func 58), args := #[Operand.tmp 7], argTypes := #[76] }, type := 76, pos := "ref.go:154", after := #[{ on := 1, ground := Ground.data }], guard := none }) rfl (fun K hK => ?_) AllReadyH.nil)
    go_simp
    refine Calls.mono (HQN.out _) ?_; rintro e v4 ⟨rfl, hb⟩
    have k1 := (hHeld.1).mod (Mod.of_below hb Nil) (fun hf => hf)
    have k2 := (hHeld.2.1).mod (Mod.of_below hb Nil) (fun hf => hf)
    have k3 := hHeld.2.2.trans hb
    replace hG := (hG).mod (Mod.of_below hb Nil) (fun hf => hf)
    clear hb
    refine hK.out _ _ (⟨k1, k2, k3⟩) (fun hHeld => ?_)
    clear hK K k1 k2 k3
    try simp only [Act.put, List.setIfInBounds_toArray, List.set_cons_zero, List.set_cons_succ]
    refine wpAnyH_ready (rs := [3]) (by kernel_rfl) (by simp) ?_
    refine (AllReadyH.cons (o := { dst := some 9, op := Op.call { callee := Callee.value (Operand.func 55), args := #[Operand.tmp 6, Operand.tmp 8], argTypes := #[76, 76] }, type := 76, pos := "ref.go:154", after := #[{ on := 0, ground := Ground.data }, { on := 2, ground := Ground.data }, { on := 2, ground := Ground.chain }], guard := none }) rfl (fun K hK => ?_) AllReadyH.nil)
    go_simp
    refine Calls.mono (HQS.out _) ?_; rintro e v5 ⟨rfl, hb⟩
    have k1 := (hHeld.1).mod (Mod.of_below hb Nil) (fun hf => hf)
    have k2 := (hHeld.2.1).mod (Mod.of_below hb Nil) (fun hf => hf)
    have k3 := hHeld.2.2.trans hb
    replace hG := (hG).mod (Mod.of_below hb Nil) (fun hf => hf)
    clear hb
    refine hK.out _ _ (⟨k1, k2, k3⟩) (fun hHeld => ?_)
    clear hK K k1 k2 k3
    try simp only [Act.put, List.setIfInBounds_toArray, List.set_cons_zero, List.set_cons_succ]
    refine wpAnyH_ready (rs := [5]) (by kernel_rfl) (by simp) ?_
    refine AllReadyH.cons (o := { dst := none, op := Op.store 76 (Operand.tmp 5) (Operand.tmp 9), type := 0, pos := "ref.go:154", after := #[{ on := 4, ground := Ground.data }, { on := 3, ground := Ground.data }, { on := 3, ground := Ground.chain }, { on := 0, ground := Ground.phase }, { on := 1, ground := Ground.phase }, { on := 2, ground := Ground.phase }, { on := 3, ground := Ground.phase }, { on := 4, ground := Ground.phase }], guard := none }) rfl (fun K hK => ?_) AllReadyH.nil
    refine (if_pos (by rfl)).mpr ?_
    refine wp_store_row 76 _ _ rfl (V.heap.size) C4 rfl rfl 76 #[.bool false, .int .u64 0, .int .u64 0, .int .u64 0, .int .u64 0, .int .u64 0, .int .u64 0, .int .u64 0, .int .u64 0, .int .u64 0, .int .u64 0, .int .u64 0, .int .u64 0, .int .u64 0, .int .u64 0, .int .u64 0, .int .u64 0] hG (size_Bn (sizeC H4)) (by rw [sizeC H4]; rfl) (oneC H4) ?_
    replace hG := hG.putRow C4
    refine hK.out _ _ (⟨hHeld.1.farRow (by omega) C4, hHeld.2.1.farRow (by have := hHeld.2.1.lt; omega) C4, hHeld.2.2.setRow (by omega) C4⟩) (fun hHeld => ?_)
    clear hK K
    try simp only [Act.put, List.setIfInBounds_toArray, List.set_cons_zero, List.set_cons_succ]
    refine wpAnyH_done (by kernel_rfl) ?_ _
    refine NoPanic.normal ?_
    have cd := hG.cell 0
    rw [zeroC H4] at cd
    have hU := hHeld.2.2
    clear hHeld
    go_wp2_with (refine wpList_load_E rfl H4 HE (.tmp 10) rfl (V.heap.size) rfl 76 hG ?_)
    refine Calls.mono (HQZ.out _) ?_; rintro e v9 ⟨rfl, hb⟩
    replace hG := (hG).mod (Mod.of_below hb Nil) (fun hf => hf)
    replace hU := hU.trans hb
    clear hb cd
    have cd := hG.cell 0
    rw [zeroC H4] at cd
    go_wp2_with fail
    go_ret
    exact ⟨rfl, hU.below⟩

set_option maxRecDepth 100000 in
set_option maxHeartbeats 2000000 in
theorem cmpbig_more (w : World) (x y : Int) (sx : x.natAbs < BP 14) (sy : y.natAbs < BP 14) (h : y < x) : Calls Tryd.prog 62 #[BigZ x, BigZ y] w fun e w' => e = .returned (.int .i64 (1)) ∧ Below w.heap.size w w' := by
  have QN := fun w => minus_any w y (Nat.lt_of_lt_of_le sy (BP_le (by decide)))
  have QS := fun w => rsum_any w x (-y) (Nat.lt_of_lt_of_le sx (BP_le (by decide))) (Nat.lt_of_lt_of_le (neg_small sy) (BP_le (by decide)))
  have QZ := fun w => rzero_any w (x + -y).natAbs (Nat.lt_of_lt_of_le (sum_small sx (neg_small sy)) (BP_le (by decide)))
  have hz : decide ((x + -y).natAbs = 0) = false := by simp; omega
  have hd : decide (x + -y < 0) = false := by simp; omega
  rw [hz] at QZ
  unfold BigZ at QN QS ⊢
  rw [hd] at QS
  unfold BigV at QN QS ⊢
  unfold DV at QZ
  obtain ⟨C1, hC1⟩ : ∃ X, X = bigs (decide (x < 0)) x.natAbs := ⟨_, rfl⟩
  obtain ⟨C2, hC2⟩ : ∃ X, X = bigs (decide (y < 0)) y.natAbs := ⟨_, rfl⟩
  obtain ⟨C3, hC3⟩ : ∃ X, X = bigs (decide (-y < 0)) (-y).natAbs := ⟨_, rfl⟩
  obtain ⟨k, hk⟩ : ∃ k, k = (x + -y).natAbs := ⟨_, rfl⟩
  rw [← hk] at QS QZ
  obtain ⟨C4, hC4⟩ : ∃ X, X = bigs false k := ⟨_, rfl⟩
  obtain ⟨E4, hE4⟩ : ∃ X, X = digs k := ⟨_, rfl⟩
  rw [← hC2, ← hC3] at QN
  rw [← hC1, ← hC3, ← hC4] at QS
  rw [← hE4] at QZ
  rw [← hC1, ← hC2]
  have H1 := hid hC1
  have H2 := hid hC2
  have H4 := hid hC4
  have HE := hid hE4
  have HQN := hid QN
  have HQS := hid QS
  have HQZ := hid QZ
  clear QN QS QZ hz hd hC1 hC2 hC3 hC4 hE4 hk sx sy
  have h1 := (Row.new w 76 C1).alloc (.cells C2 76)
  have h2 := Row.new (w.alloc (.cells C1 76)) 76 C2
  have hU := ((Up.refl w).alloc (.cells C1 76)).alloc (.cells C2 76)
  simp only [alloc_size] at h2
  go_enter Tryd.func62, Tryd.ntmps62
  go_upto_region 1 with fail
  obtain ⟨V, hV⟩ : ∃ V, V = (w.alloc (.cells C1 76)).alloc (.cells C2 76) := ⟨_, rfl⟩
  rw [← hV] at h1 h2 hU ⊢
  clear hV
  refine wp_region_noPanic ?_
  refine wp_region_held_drew (S := fun W => Row W w.heap.size 76 C1 ∧ Row W (w.heap.size + 1) 76 C2 ∧ Up w.heap.size w W) (by kernel_rfl) (⟨h1.drew, h2.drew, hU.drew⟩) (fun hHeld => ?_)
  refine wpAnyH_take (i := 0) (oi := { dst := some 6, op := Op.load 76 (Operand.tmp 2), type := 76, pos := "ref.go:154", after := #[], guard := none }) (v := .agg C1) rfl (by kernel_rfl) (by kernel_rfl) (by kernel_rfl) (fun _ _ _ h => h) (Or.inl ⟨by rfl, fun W hW => exec_load_row 76 _ rfl (w.heap.size) rfl 76 C1 _ Tryd.underlying76 rfl (size_Bn (sizeC H1)) W hW.1⟩) hHeld ?_
  try simp only [Act.put, List.setIfInBounds_toArray, List.set_cons_zero, List.set_cons_succ]
  refine wpAnyH_take (i := 1) (oi := { dst := some 7, op := Op.load 76 (Operand.tmp 3), type := 76, pos := "ref.go:154", after := #[], guard := none }) (v := .agg C2) rfl (by kernel_rfl) (by kernel_rfl) (by kernel_rfl) (fun _ _ _ h => h) (Or.inl ⟨by rfl, fun W hW => exec_load_row 76 _ rfl (w.heap.size + 1) rfl 76 C2 _ Tryd.underlying76 rfl (size_Bn (sizeC H2)) W hW.2.1⟩) hHeld ?_
  try simp only [Act.put, List.setIfInBounds_toArray, List.set_cons_zero, List.set_cons_succ]
  refine wpAnyH_ready (rs := [2, 4]) (by kernel_rfl) (by simp) ?_
  refine (AllReadyH.cons (o := { dst := some 8, op := Op.call { callee := Callee.value (Operand.func 58), args := #[Operand.tmp 7], argTypes := #[76] }, type := 76, pos := "ref.go:154", after := #[{ on := 1, ground := Ground.data }], guard := none }) rfl (fun K hK => ?_) (AllReadyH.cons (o := { dst := some 5, op := Op.alloc 76, type := 0, pos := "ref.go:154", after := #[], guard := none }) rfl (fun K hK => ?_) AllReadyH.nil))
  · go_simp
    refine Calls.mono (HQN.out _) ?_; rintro e v1 ⟨rfl, hb⟩
    have k1 := (hHeld.1).mod (Mod.of_below hb Nil) (fun hf => hf)
    have k2 := (hHeld.2.1).mod (Mod.of_below hb Nil) (fun hf => hf)
    have k3 := hHeld.2.2.trans hb
    clear hb
    refine hK.out _ _ (⟨k1, k2, k3⟩) (fun hHeld => ?_)
    clear hK K k1 k2 k3
    try simp only [Act.put, List.setIfInBounds_toArray, List.set_cons_zero, List.set_cons_succ]
    refine wpAnyH_ready (rs := [3, 4]) (by kernel_rfl) (by simp) ?_
    refine (AllReadyH.cons (o := { dst := some 9, op := Op.call { callee := Callee.value (Operand.func 55), args := #[Operand.tmp 6, Operand.tmp 8], argTypes := #[76, 76] }, type := 76, pos := "ref.go:154", after := #[{ on := 0, ground := Ground.data }, { on := 2, ground := Ground.data }, { on := 2, ground := Ground.chain }], guard := none }) rfl (fun K hK => ?_) (AllReadyH.cons (o := { dst := some 5, op := Op.alloc 76, type := 0, pos := "ref.go:154", after := #[], guard := none }) rfl (fun K hK => ?_) AllReadyH.nil))
    · go_simp
      refine Calls.mono (HQS.out _) ?_; rintro e v2 ⟨rfl, hb⟩
      have k1 := (hHeld.1).mod (Mod.of_below hb Nil) (fun hf => hf)
      have k2 := (hHeld.2.1).mod (Mod.of_below hb Nil) (fun hf => hf)
      have k3 := hHeld.2.2.trans hb
      clear hb
      refine hK.out _ _ (⟨k1, k2, k3⟩) (fun hHeld => ?_)
      clear hK K k1 k2 k3
      try simp only [Act.put, List.setIfInBounds_toArray, List.set_cons_zero, List.set_cons_succ]
      refine wpAnyH_ready (rs := [4]) (by kernel_rfl) (by simp) ?_
      refine (AllReadyH.cons (o := { dst := some 5, op := Op.alloc 76, type := 0, pos := "ref.go:154", after := #[], guard := none }) rfl (fun K hK => ?_) AllReadyH.nil)
      go_simp
      have hG := Row.new (v2) 76 #[.bool false, .int .u64 0, .int .u64 0, .int .u64 0, .int .u64 0, .int .u64 0, .int .u64 0, .int .u64 0, .int .u64 0, .int .u64 0, .int .u64 0, .int .u64 0, .int .u64 0, .int .u64 0, .int .u64 0, .int .u64 0, .int .u64 0]
      have hGu := hHeld.2.2.size
      have hGl := hHeld.2.1.lt
      refine hK.out _ _ (⟨hHeld.1.alloc _, hHeld.2.1.alloc _, hHeld.2.2.alloc _⟩) (fun hHeld => ?_)
      clear hK K
      try simp only [Act.put, List.setIfInBounds_toArray, List.set_cons_zero, List.set_cons_succ]
      obtain ⟨g, hg⟩ : ∃ g, g = v2.heap.size := ⟨_, rfl⟩
      rw [← hg] at hG hGu hGl ⊢
      clear hg
      refine wpAnyH_ready (rs := [5]) (by kernel_rfl) (by simp) ?_
      refine AllReadyH.cons (o := { dst := none, op := Op.store 76 (Operand.tmp 5) (Operand.tmp 9), type := 0, pos := "ref.go:154", after := #[{ on := 4, ground := Ground.data }, { on := 3, ground := Ground.data }, { on := 3, ground := Ground.chain }, { on := 0, ground := Ground.phase }, { on := 1, ground := Ground.phase }, { on := 2, ground := Ground.phase }, { on := 3, ground := Ground.phase }, { on := 4, ground := Ground.phase }], guard := none }) rfl (fun K hK => ?_) AllReadyH.nil
      refine (if_pos (by rfl)).mpr ?_
      refine wp_store_row 76 _ _ rfl (g) C4 rfl rfl 76 #[.bool false, .int .u64 0, .int .u64 0, .int .u64 0, .int .u64 0, .int .u64 0, .int .u64 0, .int .u64 0, .int .u64 0, .int .u64 0, .int .u64 0, .int .u64 0, .int .u64 0, .int .u64 0, .int .u64 0, .int .u64 0, .int .u64 0] hG (size_Bn (sizeC H4)) (by rw [sizeC H4]; rfl) (oneC H4) ?_
      replace hG := hG.putRow C4
      refine hK.out _ _ (⟨hHeld.1.farRow (by omega) C4, hHeld.2.1.farRow (by have := hHeld.2.1.lt; omega) C4, hHeld.2.2.setRow (by omega) C4⟩) (fun hHeld => ?_)
      clear hK K
      try simp only [Act.put, List.setIfInBounds_toArray, List.set_cons_zero, List.set_cons_succ]
      refine wpAnyH_done (by kernel_rfl) ?_ _
      refine NoPanic.normal ?_
      have cd := hG.cell 0
      rw [zeroC H4] at cd
      have hU := hHeld.2.2
      clear hHeld
      go_wp2_with (refine wpList_load_E rfl H4 HE (.tmp 10) rfl (g) rfl 76 hG ?_)
      refine Calls.mono (HQZ.out _) ?_; rintro e v9 ⟨rfl, hb⟩
      replace hG := (hG).mod (Mod.of_below hb Nil) (fun hf => hf)
      replace hU := hU.trans hb
      clear hb cd
      have cd := hG.cell 0
      rw [zeroC H4] at cd
      go_wp2_with fail
      go_ret
      exact ⟨rfl, hU.below⟩
    · go_simp
      have hG := Row.new (v1) 76 #[.bool false, .int .u64 0, .int .u64 0, .int .u64 0, .int .u64 0, .int .u64 0, .int .u64 0, .int .u64 0, .int .u64 0, .int .u64 0, .int .u64 0, .int .u64 0, .int .u64 0, .int .u64 0, .int .u64 0, .int .u64 0, .int .u64 0]
      have hGu := hHeld.2.2.size
      have hGl := hHeld.2.1.lt
      refine hK.out _ _ (⟨hHeld.1.alloc _, hHeld.2.1.alloc _, hHeld.2.2.alloc _⟩) (fun hHeld => ?_)
      clear hK K
      try simp only [Act.put, List.setIfInBounds_toArray, List.set_cons_zero, List.set_cons_succ]
      obtain ⟨g, hg⟩ : ∃ g, g = v1.heap.size := ⟨_, rfl⟩
      rw [← hg] at hG hGu hGl ⊢
      clear hg
      refine wpAnyH_ready (rs := [3]) (by kernel_rfl) (by simp) ?_
      refine (AllReadyH.cons (o := { dst := some 9, op := Op.call { callee := Callee.value (Operand.func 55), args := #[Operand.tmp 6, Operand.tmp 8], argTypes := #[76, 76] }, type := 76, pos := "ref.go:154", after := #[{ on := 0, ground := Ground.data }, { on := 2, ground := Ground.data }, { on := 2, ground := Ground.chain }], guard := none }) rfl (fun K hK => ?_) AllReadyH.nil)
      go_simp
      refine Calls.mono (HQS.out _) ?_; rintro e v3 ⟨rfl, hb⟩
      have k1 := (hHeld.1).mod (Mod.of_below hb Nil) (fun hf => hf)
      have k2 := (hHeld.2.1).mod (Mod.of_below hb Nil) (fun hf => hf)
      have k3 := hHeld.2.2.trans hb
      replace hG := (hG).mod (Mod.of_below hb Nil) (fun hf => hf)
      clear hb
      refine hK.out _ _ (⟨k1, k2, k3⟩) (fun hHeld => ?_)
      clear hK K k1 k2 k3
      try simp only [Act.put, List.setIfInBounds_toArray, List.set_cons_zero, List.set_cons_succ]
      refine wpAnyH_ready (rs := [5]) (by kernel_rfl) (by simp) ?_
      refine AllReadyH.cons (o := { dst := none, op := Op.store 76 (Operand.tmp 5) (Operand.tmp 9), type := 0, pos := "ref.go:154", after := #[{ on := 4, ground := Ground.data }, { on := 3, ground := Ground.data }, { on := 3, ground := Ground.chain }, { on := 0, ground := Ground.phase }, { on := 1, ground := Ground.phase }, { on := 2, ground := Ground.phase }, { on := 3, ground := Ground.phase }, { on := 4, ground := Ground.phase }], guard := none }) rfl (fun K hK => ?_) AllReadyH.nil
      refine (if_pos (by rfl)).mpr ?_
      refine wp_store_row 76 _ _ rfl (g) C4 rfl rfl 76 #[.bool false, .int .u64 0, .int .u64 0, .int .u64 0, .int .u64 0, .int .u64 0, .int .u64 0, .int .u64 0, .int .u64 0, .int .u64 0, .int .u64 0, .int .u64 0, .int .u64 0, .int .u64 0, .int .u64 0, .int .u64 0, .int .u64 0] hG (size_Bn (sizeC H4)) (by rw [sizeC H4]; rfl) (oneC H4) ?_
      replace hG := hG.putRow C4
      refine hK.out _ _ (⟨hHeld.1.farRow (by omega) C4, hHeld.2.1.farRow (by have := hHeld.2.1.lt; omega) C4, hHeld.2.2.setRow (by omega) C4⟩) (fun hHeld => ?_)
      clear hK K
      try simp only [Act.put, List.setIfInBounds_toArray, List.set_cons_zero, List.set_cons_succ]
      refine wpAnyH_done (by kernel_rfl) ?_ _
      refine NoPanic.normal ?_
      have cd := hG.cell 0
      rw [zeroC H4] at cd
      have hU := hHeld.2.2
      clear hHeld
      go_wp2_with (refine wpList_load_E rfl H4 HE (.tmp 10) rfl (g) rfl 76 hG ?_)
      refine Calls.mono (HQZ.out _) ?_; rintro e v9 ⟨rfl, hb⟩
      replace hG := (hG).mod (Mod.of_below hb Nil) (fun hf => hf)
      replace hU := hU.trans hb
      clear hb cd
      have cd := hG.cell 0
      rw [zeroC H4] at cd
      go_wp2_with fail
      go_ret
      exact ⟨rfl, hU.below⟩
  · go_simp
    have hG := Row.new (V.drew) 76 #[.bool false, .int .u64 0, .int .u64 0, .int .u64 0, .int .u64 0, .int .u64 0, .int .u64 0, .int .u64 0, .int .u64 0, .int .u64 0, .int .u64 0, .int .u64 0, .int .u64 0, .int .u64 0, .int .u64 0, .int .u64 0, .int .u64 0]
    have hGu := hHeld.2.2.size
    have hGl := hHeld.2.1.lt
    refine hK.out _ _ (⟨hHeld.1.alloc _, hHeld.2.1.alloc _, hHeld.2.2.alloc _⟩) (fun hHeld => ?_)
    clear hK K
    try simp only [Act.put, List.setIfInBounds_toArray, List.set_cons_zero, List.set_cons_succ]
    replace hG : Row (V.drew.alloc (.cells #[.bool false, .int .u64 0, .int .u64 0, .int .u64 0, .int .u64 0, .int .u64 0, .int .u64 0, .int .u64 0, .int .u64 0, .int .u64 0, .int .u64 0, .int .u64 0, .int .u64 0, .int .u64 0, .int .u64 0, .int .u64 0, .int .u64 0] 76)) V.heap.size 76 #[.bool false, .int .u64 0, .int .u64 0, .int .u64 0, .int .u64 0, .int .u64 0, .int .u64 0, .int .u64 0, .int .u64 0, .int .u64 0, .int .u64 0, .int .u64 0, .int .u64 0, .int .u64 0, .int .u64 0, .int .u64 0, .int .u64 0] := hG
    replace hGu : w.heap.size ≤ V.heap.size := hGu
    replace hGl : w.heap.size + 1 < V.heap.size := hGl
    refine wpAnyH_ready (rs := [2]) (by kernel_rfl) (by simp) ?_
    refine (AllReadyH.cons (o := { dst := some 8, op := Op.call { callee := Callee.value (Operand.func 58), args := #[Operand.tmp 7], argTypes := #[76] }, type := 76, pos := "ref.go:154", after := #[{ on := 1, ground := Ground.data }], guard := none }) rfl (fun K hK => ?_) AllReadyH.nil)
    go_simp
    refine Calls.mono (HQN.out _) ?_; rintro e v4 ⟨rfl, hb⟩
    have k1 := (hHeld.1).mod (Mod.of_below hb Nil) (fun hf => hf)
    have k2 := (hHeld.2.1).mod (Mod.of_below hb Nil) (fun hf => hf)
    have k3 := hHeld.2.2.trans hb
    replace hG := (hG).mod (Mod.of_below hb Nil) (fun hf => hf)
    clear hb
    refine hK.out _ _ (⟨k1, k2, k3⟩) (fun hHeld => ?_)
    clear hK K k1 k2 k3
    try simp only [Act.put, List.setIfInBounds_toArray, List.set_cons_zero, List.set_cons_succ]
    refine wpAnyH_ready (rs := [3]) (by kernel_rfl) (by simp) ?_
    refine (AllReadyH.cons (o := { dst := some 9, op := Op.call { callee := Callee.value (Operand.func 55), args := #[Operand.tmp 6, Operand.tmp 8], argTypes := #[76, 76] }, type := 76, pos := "ref.go:154", after := #[{ on := 0, ground := Ground.data }, { on := 2, ground := Ground.data }, { on := 2, ground := Ground.chain }], guard := none }) rfl (fun K hK => ?_) AllReadyH.nil)
    go_simp
    refine Calls.mono (HQS.out _) ?_; rintro e v5 ⟨rfl, hb⟩
    have k1 := (hHeld.1).mod (Mod.of_below hb Nil) (fun hf => hf)
    have k2 := (hHeld.2.1).mod (Mod.of_below hb Nil) (fun hf => hf)
    have k3 := hHeld.2.2.trans hb
    replace hG := (hG).mod (Mod.of_below hb Nil) (fun hf => hf)
    clear hb
    refine hK.out _ _ (⟨k1, k2, k3⟩) (fun hHeld => ?_)
    clear hK K k1 k2 k3
    try simp only [Act.put, List.setIfInBounds_toArray, List.set_cons_zero, List.set_cons_succ]
    refine wpAnyH_ready (rs := [5]) (by kernel_rfl) (by simp) ?_
    refine AllReadyH.cons (o := { dst := none, op := Op.store 76 (Operand.tmp 5) (Operand.tmp 9), type := 0, pos := "ref.go:154", after := #[{ on := 4, ground := Ground.data }, { on := 3, ground := Ground.data }, { on := 3, ground := Ground.chain }, { on := 0, ground := Ground.phase }, { on := 1, ground := Ground.phase }, { on := 2, ground := Ground.phase }, { on := 3, ground := Ground.phase }, { on := 4, ground := Ground.phase }], guard := none }) rfl (fun K hK => ?_) AllReadyH.nil
    refine (if_pos (by rfl)).mpr ?_
    refine wp_store_row 76 _ _ rfl (V.heap.size) C4 rfl rfl 76 #[.bool false, .int .u64 0, .int .u64 0, .int .u64 0, .int .u64 0, .int .u64 0, .int .u64 0, .int .u64 0, .int .u64 0, .int .u64 0, .int .u64 0, .int .u64 0, .int .u64 0, .int .u64 0, .int .u64 0, .int .u64 0, .int .u64 0] hG (size_Bn (sizeC H4)) (by rw [sizeC H4]; rfl) (oneC H4) ?_
    replace hG := hG.putRow C4
    refine hK.out _ _ (⟨hHeld.1.farRow (by omega) C4, hHeld.2.1.farRow (by have := hHeld.2.1.lt; omega) C4, hHeld.2.2.setRow (by omega) C4⟩) (fun hHeld => ?_)
    clear hK K
    try simp only [Act.put, List.setIfInBounds_toArray, List.set_cons_zero, List.set_cons_succ]
    refine wpAnyH_done (by kernel_rfl) ?_ _
    refine NoPanic.normal ?_
    have cd := hG.cell 0
    rw [zeroC H4] at cd
    have hU := hHeld.2.2
    clear hHeld
    go_wp2_with (refine wpList_load_E rfl H4 HE (.tmp 10) rfl (V.heap.size) rfl 76 hG ?_)
    refine Calls.mono (HQZ.out _) ?_; rintro e v9 ⟨rfl, hb⟩
    replace hG := (hG).mod (Mod.of_below hb Nil) (fun hf => hf)
    replace hU := hU.trans hb
    clear hb cd
    have cd := hG.cell 0
    rw [zeroC H4] at cd
    go_wp2_with fail
    go_ret
    exact ⟨rfl, hU.below⟩

theorem cmpbig_any (w : World) (x y : Int) (sx : x.natAbs < BP 14) (sy : y.natAbs < BP 14) : Calls Tryd.prog 62 #[BigZ x, BigZ y] w fun e w' => e = .returned (.int .i64 (cmp3 x y)) ∧ Below w.heap.size w w' := by
  rcases cmp3_cases x y with ⟨h, e⟩ | ⟨h, e⟩ | ⟨h, e⟩
  · rw [e]; exact cmpbig_less w x y sx sy h
  · rw [e]; exact cmpbig_more w x y sx sy h
  · rw [e]; exact cmpbig_same w x y sx sy h

set_option maxRecDepth 100000 in
set_option maxHeartbeats 2000000 in
theorem rcmpw_any (w : World) (x y : Int) (hx : Fits x) (hy : Fits y) : Calls Tryd.prog 28 #[WV x, WV y] w fun e w' => e = .returned (.int .i64 (cmp3 x y)) ∧ Below w.heap.size w w' := by
  have O1 := fun w => rof_any w x hx
  have O2 := fun w => rof_any w y hy
  have QC := fun w => cmpbig_any w x y (Nat.lt_of_lt_of_le (fits_small hx) (BP_le (by decide))) (Nat.lt_of_lt_of_le (fits_small hy) (BP_le (by decide)))
  obtain ⟨xh, xl, e1⟩ : ∃ hi lo : Int, WV x = .agg #[.int .i64 hi, .int .u64 lo] := ⟨_, _, rfl⟩
  obtain ⟨yh, yl, e2⟩ : ∃ hi lo : Int, WV y = .agg #[.int .i64 hi, .int .u64 lo] := ⟨_, _, rfl⟩
  rw [e1] at O1
  rw [e2] at O2
  rw [e1, e2]
  obtain ⟨c, hc⟩ : ∃ c, c = cmp3 x y := ⟨_, rfl⟩
  rw [← hc] at QC ⊢
  have HO1 := hid O1
  have HO2 := hid O2
  have HQC := hid QC
  clear O1 O2 QC e1 e2 hc hx hy
  have h1 := (Row.new w 24 #[.int .i64 xh, .int .u64 xl]).alloc (.cells #[.int .i64 yh, .int .u64 yl] 24)
  have h2 := Row.new (w.alloc (.cells #[.int .i64 xh, .int .u64 xl] 24)) 24 #[.int .i64 yh, .int .u64 yl]
  have hU := ((Up.refl w).alloc (.cells #[.int .i64 xh, .int .u64 xl] 24)).alloc (.cells #[.int .i64 yh, .int .u64 yl] 24)
  simp only [alloc_size] at h2
  go_enter Tryd.func28, Tryd.ntmps28
  go_upto_region 1 with fail
  obtain ⟨V, hV⟩ : ∃ V, V = (w.alloc (.cells #[.int .i64 xh, .int .u64 xl] 24)).alloc (.cells #[.int .i64 yh, .int .u64 yl] 24) := ⟨_, rfl⟩
  rw [← hV] at h1 h2 hU ⊢
  clear hV
  have MK : ∀ W, Row W (w.heap.size) 24 #[.int .i64 xh, .int .u64 xl] → Row W (w.heap.size + 1) 24 #[.int .i64 yh, .int .u64 yl] → Up w.heap.size w W → W.cell? ⟨w.heap.size, 0, none⟩ = some (.int .i64 xh) ∧ W.cell? ⟨w.heap.size, 1, none⟩ = some (.int .u64 xl) ∧ W.cell? ⟨w.heap.size + 1, 0, none⟩ = some (.int .i64 yh) ∧ W.cell? ⟨w.heap.size + 1, 1, none⟩ = some (.int .u64 yl) ∧ Row W (w.heap.size) 24 #[.int .i64 xh, .int .u64 xl] ∧ Row W (w.heap.size + 1) 24 #[.int .i64 yh, .int .u64 yl] ∧ Up w.heap.size w W := fun W h1 h2 h4 => ⟨by simpa using h1.cell 0, by simpa using h1.cell 1, by simpa using h2.cell 0, by simpa using h2.cell 1, h1, h2, h4⟩
  have MK := hid MK
  refine wp_region_noPanic ?_
  refine wp_region_held_drew (S := fun W => W.cell? ⟨w.heap.size, 0, none⟩ = some (.int .i64 xh) ∧ W.cell? ⟨w.heap.size, 1, none⟩ = some (.int .u64 xl) ∧ W.cell? ⟨w.heap.size + 1, 0, none⟩ = some (.int .i64 yh) ∧ W.cell? ⟨w.heap.size + 1, 1, none⟩ = some (.int .u64 yl) ∧ Row W (w.heap.size) 24 #[.int .i64 xh, .int .u64 xl] ∧ Row W (w.heap.size + 1) 24 #[.int .i64 yh, .int .u64 yl] ∧ Up w.heap.size w W) (by kernel_rfl) (MK.out _ h1.drew h2.drew hU.drew) (fun hHeld => ?_)
  refine wpAnyH_take (i := 0) (oi := { dst := some 5, op := Op.load 24 (Operand.tmp 2), type := 24, pos := "ref.go:150", after := #[], guard := none }) (v := ?_) rfl (by kernel_rfl) (by kernel_rfl) (by kernel_rfl) (fun _ _ _ h => h) (Or.inl ⟨by rfl, ?_⟩) hHeld ?_
  rotate_left
  · intro w' hSw; (try dsimp only at hSw); go_simp <;> with_reducible rfl
  try simp only [Act.put, List.setIfInBounds_toArray, List.set_cons_zero, List.set_cons_succ]
  refine wpAnyH_take (i := 2) (oi := { dst := some 7, op := Op.load 24 (Operand.tmp 3), type := 24, pos := "ref.go:150", after := #[], guard := none }) (v := ?_) rfl (by kernel_rfl) (by kernel_rfl) (by kernel_rfl) (fun _ _ _ h => h) (Or.inl ⟨by rfl, ?_⟩) hHeld ?_
  rotate_left
  · intro w' hSw; (try dsimp only at hSw); go_simp <;> with_reducible rfl
  try simp only [Act.put, List.setIfInBounds_toArray, List.set_cons_zero, List.set_cons_succ]
  refine wpAnyH_ready (rs := [1]) (by kernel_rfl) (by simp) ?_
  refine AllReadyH.cons (o := { dst := some 6, op := Op.call { callee := Callee.value (Operand.func 56), args := #[Operand.tmp 5], argTypes := #[24] }, type := 76, pos := "ref.go:150", after := #[{ on := 0, ground := Ground.data }], guard := none }) rfl (fun K hK => ?_) AllReadyH.nil
  go_simp
  refine Calls.mono (HO1.out _) ?_; rintro e w9 ⟨rfl, hb⟩
  refine hK.out _ _ (MK.out _ ((hHeld.2.2.2.2.1).mod (Mod.of_below hb Nil) (fun hf => hf)) ((hHeld.2.2.2.2.2.1).mod (Mod.of_below hb Nil) (fun hf => hf)) (hHeld.2.2.2.2.2.2.trans hb)) (fun hHeld => ?_)
  clear hK K
  try simp only [Act.put, List.setIfInBounds_toArray, List.set_cons_zero, List.set_cons_succ]
  refine wpAnyH_ready (rs := [3]) (by kernel_rfl) (by simp) ?_
  refine AllReadyH.cons (o := { dst := some 8, op := Op.call { callee := Callee.value (Operand.func 56), args := #[Operand.tmp 7], argTypes := #[24] }, type := 76, pos := "ref.go:150", after := #[{ on := 2, ground := Ground.data }, { on := 1, ground := Ground.chain }], guard := none }) rfl (fun K hK => ?_) AllReadyH.nil
  go_simp
  refine Calls.mono (HO2.out _) ?_; rintro e w9 ⟨rfl, hb⟩
  refine hK.out _ _ (MK.out _ ((hHeld.2.2.2.2.1).mod (Mod.of_below hb Nil) (fun hf => hf)) ((hHeld.2.2.2.2.2.1).mod (Mod.of_below hb Nil) (fun hf => hf)) (hHeld.2.2.2.2.2.2.trans hb)) (fun hHeld => ?_)
  clear hK K
  try simp only [Act.put, List.setIfInBounds_toArray, List.set_cons_zero, List.set_cons_succ]
  refine wpAnyH_ready (rs := [4]) (by kernel_rfl) (by simp) ?_
  refine AllReadyH.cons (o := { dst := some 9, op := Op.call { callee := Callee.value (Operand.func 62), args := #[Operand.tmp 6, Operand.tmp 8], argTypes := #[76, 76] }, type := 3, pos := "ref.go:150", after := #[{ on := 1, ground := Ground.data }, { on := 3, ground := Ground.data }, { on := 3, ground := Ground.chain }], guard := none }) rfl (fun K hK => ?_) AllReadyH.nil
  go_simp
  refine Calls.mono (HQC.out _) ?_; rintro e w9 ⟨rfl, hb⟩
  refine hK.out _ _ (MK.out _ ((hHeld.2.2.2.2.1).mod (Mod.of_below hb Nil) (fun hf => hf)) ((hHeld.2.2.2.2.2.1).mod (Mod.of_below hb Nil) (fun hf => hf)) (hHeld.2.2.2.2.2.2.trans hb)) (fun hHeld => ?_)
  clear hK K
  try simp only [Act.put, List.setIfInBounds_toArray, List.set_cons_zero, List.set_cons_succ]
  refine wpAnyH_take (i := 5) (oi := { dst := some 4, op := Op.assign (Operand.tmp 9), type := 3, pos := "ref.go:150", after := #[{ on := 4, ground := Ground.data }, { on := 4, ground := Ground.chain }, { on := 0, ground := Ground.phase }, { on := 1, ground := Ground.phase }, { on := 2, ground := Ground.phase }, { on := 3, ground := Ground.phase }, { on := 4, ground := Ground.phase }], guard := none }) (v := ?_) rfl (by kernel_rfl) (by kernel_rfl) (by kernel_rfl) (fun _ _ _ h => h) (Or.inl ⟨by rfl, ?_⟩) hHeld ?_
  rotate_left
  · intro w' hSw; (try dsimp only at hSw); go_simp <;> with_reducible rfl
  try simp only [Act.put, List.setIfInBounds_toArray, List.set_cons_zero, List.set_cons_succ]
  refine wpAnyH_done (by kernel_rfl) ?_ _
  refine NoPanic.normal ?_
  go_wp2_with fail
  go_ret
  exact ⟨rfl, hHeld.2.2.2.2.2.2.below⟩

set_option maxHeartbeats 1000000 in
theorem widened_any (w : World) (n : Int) (h : -9223372036854775808 ≤ n ∧ n < 9223372036854775808) : Calls Tryd.prog 30 #[.int .i64 n] w fun e w' => e = .returned (WV n) ∧ Below w.heap.size w w' := by
  have e : WV n = .agg #[.int .i64 (n / 18446744073709551616), .int .u64 (n % 18446744073709551616)] := rfl
  rw [e]
  by_cases hn : n < 0
  · rw [show n / 18446744073709551616 = -1 by omega]
    go_enter Tryd.func30, Tryd.ntmps30
    go_wp2
    all_goals simp [bodyPost, results, Tryd.results30, go_sem]
    all_goals refine ⟨?_, ((Up.refl w).alloc _).below⟩
    all_goals (first | (rw [IntKind.wrap_u64]) | omega)
  · rw [show n / 18446744073709551616 = 0 by omega]
    go_enter Tryd.func30, Tryd.ntmps30
    go_wp2
    all_goals simp [bodyPost, results, Tryd.results30, go_sem]
    all_goals refine ⟨?_, ((Up.refl w).alloc _).below⟩
    all_goals (first | (rw [IntKind.wrap_u64]) | omega)
end Go.Proofs.YtfalllekhcocgaaDoor
