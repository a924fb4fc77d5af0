/-
  Products by powers of ten, rounded half-even, are as the document says, of any two numbers and any power. No condition.
-/
import Derived.Test.YtfalllekhcocgaaDoorLawW
import Derived.Test.YtfalllekhcocgaaDoorScaledAny
import Derived.Test.YtfalllekhcocgaaDoorRefR
namespace Go.Proofs.YtfalllekhcocgaaDoor.wideScaled
open Go.ChangeShapes Go.WideShapes Go.ChangeAt Go.RowKit

theorem mag_abs (x : Int) : mag x = (x.natAbs : Int) := by
  unfold mag
  split <;> omega
theorem scZ_round (x y : Int) (k : Nat) : scZ x y k = roundZ (x * y) (k : Int) := by
  have hm : mag x * mag y = ((x * y).natAbs : Int) := by rw [mag_abs, mag_abs, Int.natAbs_mul, Int.natCast_mul]
  have hs : (decide (x < 0) != decide (y < 0)) = true → x * y ≤ 0 := by
    intro h
    by_cases h1 : x < 0 <;> by_cases h2 : y < 0
    · simp [h1, h2] at h
    · exact Int.mul_nonpos_of_nonpos_of_nonneg (by omega) (by omega)
    · exact Int.mul_nonpos_of_nonneg_of_nonpos (by omega) (by omega)
    · simp [h1, h2] at h
  have hn : ¬ (decide (x < 0) != decide (y < 0)) = true → 0 ≤ x * y := by
    intro h
    by_cases h1 : x < 0 <;> by_cases h2 : y < 0
    · exact Int.mul_nonneg_of_nonpos_of_nonpos (by omega) (by omega)
    · simp [h1, h2] at h
    · simp [h1, h2] at h
    · exact Int.mul_nonneg (by omega) (by omega)
  unfold scZ
  rw [hm, hE_nat]
  obtain ⟨z, hz⟩ : ∃ z, z = x * y := ⟨_, rfl⟩
  rw [← hz] at hs hn ⊢
  have h0 : z = 0 → halfEven z.natAbs (10 ^ k) = 0 := by
    rintro rfl
    unfold halfEven
    have := Nat.pow_pos (n := k) (show 0 < 10 by decide)
    first | (simp; done) | (simp; omega)
  unfold roundZ rounded
  by_cases hk : (k : Int) ≤ 0
  · have hk0 : k = 0 := by omega
    subst hk0
    rw [if_pos hk]
    have h1 : halfEven z.natAbs (10 ^ 0) = z.natAbs := by
      unfold halfEven
      rw [Nat.pow_zero, Nat.mod_one, Nat.div_one]
      simp
    rw [h1]
    have h3 : ((10 ^ (-((0 : Nat) : Int)).toNat : Nat) : Int) = 1 := by decide
    rw [h3, Int.mul_one]
    by_cases hx : (decide (x < 0) != decide (y < 0)) = true
    · rw [if_pos hx]
      have := hs hx
      omega
    · rw [if_neg hx]
      have := hn hx
      omega
  · rw [if_neg hk, Int.toNat_natCast]
    by_cases hx : (decide (x < 0) != decide (y < 0)) = true
    · rw [if_pos hx]
      have := hs hx
      by_cases hz0 : z = 0
      · rw [h0 hz0, if_neg (by omega)]; rfl
      · rw [if_pos (by omega)]
    · rw [if_neg hx]
      have := hn hx
      rw [if_neg (by omega)]
def scV (x y k : Int) : Value := if k < 0 ∨ 36 < k then .tuple #[.agg #[.int .i64 0, .int .u64 0], .int .i64 1] else resV (roundZ (x * y) k)
def powV (k : Int) : Value := if k < 0 ∨ 38 < k then .tuple #[.agg #[.int .i64 0, .int .u64 0], .int .i64 1] else resV ((10 ^ k.toNat : Nat) : Int)
theorem scV_form (x y k : Int) : ∃ a b c : Int, scV x y k = .tuple #[.agg #[.int .i64 a, .int .u64 b], .int .i64 c] := by
  unfold scV
  split
  · exact ⟨_, _, _, rfl⟩
  · exact resV_form _
theorem powV_form (k : Int) : ∃ a b c : Int, powV k = .tuple #[.agg #[.int .i64 a, .int .u64 b], .int .i64 c] := by
  unfold powV
  split
  · exact ⟨_, _, _, rfl⟩
  · exact resV_form _
theorem sc_prog (w : World) (x y k : Int) (hx : Fits x) (hy : Fits y) : Calls Tryd.prog 18 #[WV x, WV y, .int .i64 k] w fun e w' => e = .returned (scV x y k) ∧ Below w.heap.size w w' := by
  unfold scV
  by_cases h : k < 0 ∨ 36 < k
  · rw [if_pos h]; exact scaled_bad w x y k h
  · rw [if_neg h]
    obtain ⟨n, rfl⟩ := Int.eq_ofNat_of_zero_le (show 0 ≤ k by omega)
    rw [← scZ_round]
    exact scaled_any w x y n hx hy (by omega)
theorem sc_ref (w : World) (x y k : Int) (hx : Fits x) (hy : Fits y) : Calls Tryd.prog 33 #[WV x, WV y, .int .i64 k] w fun e w' => e = .returned (scV x y k) ∧ Below w.heap.size w w' := by
  unfold scV
  by_cases h : k < 0 ∨ 36 < k
  · rw [if_pos h]; exact rscaled_bad w _ _ _ _ k h
  · rw [if_neg h]; exact rscaled_any w x y k hx hy (by omega)
theorem pow_prog (w : World) (k : Int) : Calls Tryd.prog 35 #[.int .i64 k] w fun e w' => e = .returned (powV k) ∧ Below w.heap.size w w' := by
  unfold powV
  by_cases h : k < 0 ∨ 38 < k
  · rw [if_pos h]; exact pow_bad w k h
  · rw [if_neg h]
    obtain ⟨n, rfl⟩ := Int.eq_ofNat_of_zero_le (show 0 ≤ k by omega)
    rw [Int.toNat_natCast]
    exact pow_any w n (by omega)
theorem pow_ref (w : World) (k : Int) : Calls Tryd.prog 36 #[.int .i64 k] w fun e w' => e = .returned (powV k) ∧ Below w.heap.size w w' := by
  unfold powV
  by_cases h : k < 0 ∨ 38 < k
  · rw [if_pos h]; exact rpow_bad w k h
  · rw [if_neg h]; exact rpow_any w k (by omega)

set_option maxRecDepth 100000 in
set_option maxHeartbeats 20000000 in
theorem walk (w : World) (x y k : Int) (hx : Fits x) (hy : Fits y) (hk : -9223372036854775808 ≤ k ∧ k ≤ 9223372036854775807) (htab : Lib.TabIs Tryd.prog w "internal/strconv.uint64pow10" .u64 Lib.pow10Tab) (hg : 2 < w.heap.size) :
    Calls Tryd.prog 7 #[WV x, WV y, .int .i64 k] w fun e w' => e = .returned (.bool true) ∧ Below w.heap.size w w' := by
  have S1 := fun w => sc_prog w x y k hx hy
  have S2 := fun w => sc_ref w x y k hx hy
  have PK := fun w => pick_any w k 37 (by omega) (by decide)
  obtain ⟨m, hm⟩ : ∃ m, m = k % 37 := ⟨_, rfl⟩
  rw [← hm] at PK
  have S3 := fun w => sc_prog w x y m hx hy
  have S4 := fun w => sc_ref w x y m hx hy
  have P1 := fun w => pow_prog w k
  have P2 := fun w => pow_ref w k
  obtain ⟨ah, al, e1⟩ : ∃ hi lo : Int, WV x = .agg #[.int .i64 hi, .int .u64 lo] := ⟨_, _, rfl⟩
  obtain ⟨bh, bl, e2⟩ : ∃ hi lo : Int, WV y = .agg #[.int .i64 hi, .int .u64 lo] := ⟨_, _, rfl⟩
  obtain ⟨sh, sl, sk, es⟩ := scV_form x y k
  obtain ⟨th, tl, tk, et⟩ := scV_form x y m
  obtain ⟨ph, pl, pk, ep⟩ := powV_form k
  rw [e1, e2, es] at S1 S2
  rw [e1, e2, et] at S3 S4
  rw [ep] at P1 P2
  rw [e1, e2]
  have S1 := hid S1
  have S2 := hid S2
  have S3 := hid S3
  have S4 := hid S4
  have PK := hid PK
  have P1 := hid P1
  have P2 := hid P2
  have HT := hid htab
  clear htab e1 e2 es et ep hm hx hy hk
  have R_a := (Row.new w 24 #[.int .i64 ah, .int .u64 al]).alloc (.cells #[.int .i64 bh, .int .u64 bl] 24)
  have R_b := Row.new (w.alloc (.cells #[.int .i64 ah, .int .u64 al] 24)) 24 #[.int .i64 bh, .int .u64 bl]
  have HU := ((Up.refl w).alloc (.cells #[.int .i64 ah, .int .u64 al] 24)).alloc (.cells #[.int .i64 bh, .int .u64 bl] 24)
  simp only [alloc_size] at R_b
  go_enter Tryd.func7, Tryd.ntmps7
  go_wp2_with fail
  refine Calls.mono (S1.out _) ?_; rintro e w1 ⟨rfl, hb_w1⟩
  have z_w1 := hb_w1.size
  try simp only [alloc_size, setCell_size] at z_w1
  replace R_a := R_a.mod (Mod.of_below hb_w1 Nil) (fun hf => hf)
  replace R_b := R_b.mod (Mod.of_below hb_w1 Nil) (fun hf => hf)
  replace HU := HU.trans hb_w1
  clear hb_w1
  have R_x := Row.new (w1) 24 #[.int .i64 sh, .int .u64 sl]
  replace R_a := R_a.alloc (.cells #[.int .i64 sh, .int .u64 sl] 24)
  replace R_b := R_b.alloc (.cells #[.int .i64 sh, .int .u64 sl] 24)
  replace HU := HU.alloc (.cells #[.int .i64 sh, .int .u64 sl] 24)
  have c1_0 := R_b.cell 0
  have c1_1 := R_b.cell 1
  have c2_0 := R_a.cell 0
  have c2_1 := R_a.cell 1
  simp at c1_0 c1_1 c2_0 c2_1
  go_wp2_with fail
  clear c1_0 c1_1 c2_0 c2_1
  refine Calls.mono (S2.out _) ?_; rintro e w2 ⟨rfl, hb_w2⟩
  have z_w2 := hb_w2.size
  try simp only [alloc_size, setCell_size] at z_w2
  replace R_a := R_a.mod (Mod.of_below hb_w2 Nil) (fun hf => hf)
  replace R_b := R_b.mod (Mod.of_below hb_w2 Nil) (fun hf => hf)
  replace R_x := R_x.mod (Mod.of_below hb_w2 Nil) (fun hf => hf)
  replace HU := HU.trans hb_w2
  clear hb_w2
  have R_y := Row.new (w2) 24 #[.int .i64 sh, .int .u64 sl]
  replace R_a := R_a.alloc (.cells #[.int .i64 sh, .int .u64 sl] 24)
  replace R_b := R_b.alloc (.cells #[.int .i64 sh, .int .u64 sl] 24)
  replace R_x := R_x.alloc (.cells #[.int .i64 sh, .int .u64 sl] 24)
  replace HU := HU.alloc (.cells #[.int .i64 sh, .int .u64 sl] 24)
  go_wp2_with fail
  obtain ⟨V, h_V⟩ : ∃ V, V = (w2).alloc (.cells #[.int .i64 sh, .int .u64 sl] 24) := ⟨_, rfl⟩
  rw [← h_V]
  rw [← h_V] at R_a R_b R_x R_y HU
  have z_V : V.heap.size = _ := congrArg (fun a => a.heap.size) h_V
  try simp only [alloc_size, setCell_size] at z_V
  clear h_V
  clear z_V
  have MK : ∀ W, Up V.heap.size V W → Up V.heap.size V W ∧ W.cell? ⟨w.heap.size, 0, none⟩ = some (.int .i64 ah) ∧ W.cell? ⟨w.heap.size, 1, none⟩ = some (.int .u64 al) ∧ W.cell? ⟨w.heap.size + 1, 0, none⟩ = some (.int .i64 bh) ∧ W.cell? ⟨w.heap.size + 1, 1, none⟩ = some (.int .u64 bl) := fun W hW => by
    have k_a := R_a.below hW.below R_a.lt
    have k_b := R_b.below hW.below R_b.lt
    exact ⟨hW, by simpa using k_a.cell 0, by simpa using k_a.cell 1, by simpa using k_b.cell 0, by simpa using k_b.cell 1⟩
  have MK := hid MK
  refine wp_region_noPanic ?_
  refine wp_region_held_drew (S := fun W => Up V.heap.size V W ∧ W.cell? ⟨w.heap.size, 0, none⟩ = some (.int .i64 ah) ∧ W.cell? ⟨w.heap.size, 1, none⟩ = some (.int .u64 al) ∧ W.cell? ⟨w.heap.size + 1, 0, none⟩ = some (.int .i64 bh) ∧ W.cell? ⟨w.heap.size + 1, 1, none⟩ = some (.int .u64 bl)) (by kernel_rfl) (MK.out _ (Up.refl V).drew) (fun hHeld => ?_)
  refine wpAnyH_take (i := 0) (oi := { dst := some 34, op := Op.load 24 (Operand.tmp 3), type := 24, pos := "law.go:72", after := #[], guard := none }) (v := ?_) rfl (by kernel_rfl) (by kernel_rfl) (by kernel_rfl) (fun _ _ _ h => h) (Or.inl ⟨by rfl, ?_⟩) hHeld ?_
  rotate_left
  · intro w' hSw; (try dsimp only at hSw); go_simp <;> with_reducible rfl
  try simp only [Act.put, List.setIfInBounds_toArray, List.set_cons_zero, List.set_cons_succ]
  refine wpAnyH_take (i := 1) (oi := { dst := some 35, op := Op.load 24 (Operand.tmp 4), type := 24, pos := "law.go:72", after := #[], guard := none }) (v := ?_) rfl (by kernel_rfl) (by kernel_rfl) (by kernel_rfl) (fun _ _ _ h => h) (Or.inl ⟨by rfl, ?_⟩) hHeld ?_
  rotate_left
  · intro w' hSw; (try dsimp only at hSw); go_simp <;> with_reducible rfl
  try simp only [Act.put, List.setIfInBounds_toArray, List.set_cons_zero, List.set_cons_succ]
  refine wpAnyH_take (i := 2) (oi := { dst := some 36, op := Op.move (Operand.tmp 2), type := 3, pos := "law.go:72", after := #[], guard := none }) (v := ?_) rfl (by kernel_rfl) (by kernel_rfl) (by kernel_rfl) (fun _ _ _ h => h) (Or.inl ⟨by rfl, ?_⟩) hHeld ?_
  rotate_left
  · intro w' hSw; (try dsimp only at hSw); go_simp <;> with_reducible rfl
  try simp only [Act.put, List.setIfInBounds_toArray, List.set_cons_zero, List.set_cons_succ]
  refine wpAnyH_ready (rs := [3, 8]) (by kernel_rfl) (by simp) ?_
  refine (AllReadyH.cons (o := { dst := some 37, op := Op.call { callee := Callee.value (Operand.func 34), args := #[Operand.tmp 36, Operand.const (Value.int IntKind.i64 37)], argTypes := #[3, 3] }, type := 3, pos := "law.go:72", after := #[{ on := 2, ground := Ground.data }], guard := none }) rfl (fun K hK => ?_) (AllReadyH.cons (o := { dst := some 11, op := Op.alloc 24, type := 0, pos := "law.go:72", after := #[], guard := none }) rfl (fun K hK => ?_) AllReadyH.nil))
  · skip
    go_simp
    refine Calls.mono (PK.out _) ?_; rintro e _ ⟨rfl, rfl⟩
    refine hK.out _ _ hHeld (fun hHeld => ?_)
    clear hK K
    try simp only [Act.put, List.setIfInBounds_toArray, List.set_cons_zero, List.set_cons_succ]
    refine wpAnyH_ready (rs := [4, 8]) (by kernel_rfl) (by simp) ?_
    refine (AllReadyH.cons (o := { dst := some 38, op := Op.call { callee := Callee.value (Operand.func 18), args := #[Operand.tmp 34, Operand.tmp 35, Operand.tmp 37], argTypes := #[24, 24, 3] }, type := 26, pos := "law.go:72", after := #[{ on := 0, ground := Ground.data }, { on := 1, ground := Ground.data }, { on := 3, ground := Ground.data }, { on := 3, ground := Ground.chain }], guard := none }) rfl (fun K hK => ?_) (AllReadyH.cons (o := { dst := some 11, op := Op.alloc 24, type := 0, pos := "law.go:72", after := #[], guard := none }) rfl (fun K hK => ?_) AllReadyH.nil))
    · skip
      go_simp
      refine Calls.mono (S3.out _) ?_; rintro e v1 ⟨rfl, hbk⟩
      refine hK.out _ _ (MK.out _ (hHeld.1.trans hbk)) (fun hHeld => ?_)
      clear hK K hbk
      try simp only [Act.put, List.setIfInBounds_toArray, List.set_cons_zero, List.set_cons_succ]
      refine wpAnyH_take (i := 5) (oi := { dst := some 33, op := Op.move (Operand.tmp 38), type := 26, pos := "law.go:72", after := #[{ on := 4, ground := Ground.data }], guard := none }) (v := ?_) rfl (by kernel_rfl) (by kernel_rfl) (by kernel_rfl) (fun _ _ _ h => h) (Or.inl ⟨by rfl, ?_⟩) hHeld ?_
      rotate_left
      · intro w' hSw; (try dsimp only at hSw); go_simp <;> with_reducible rfl
      try simp only [Act.put, List.setIfInBounds_toArray, List.set_cons_zero, List.set_cons_succ]
      refine wpAnyH_take (i := 6) (oi := { dst := some 39, op := Op.extract (Operand.tmp 33) 0, type := 24, pos := "law.go:72", after := #[{ on := 5, ground := Ground.data }], guard := none }) (v := ?_) rfl (by kernel_rfl) (by kernel_rfl) (by kernel_rfl) (fun _ _ _ h => h) (Or.inl ⟨by rfl, ?_⟩) hHeld ?_
      rotate_left
      · intro w' hSw; (try dsimp only at hSw); go_simp <;> with_reducible rfl
      try simp only [Act.put, List.setIfInBounds_toArray, List.set_cons_zero, List.set_cons_succ]
      refine wpAnyH_take (i := 7) (oi := { dst := some 40, op := Op.extract (Operand.tmp 33) 1, type := 25, pos := "law.go:72", after := #[{ on := 5, ground := Ground.data }, { on := 9, ground := Ground.gcOnly Departure.lateStores }], guard := none }) (v := ?_) rfl (by kernel_rfl) (by kernel_rfl) (by kernel_rfl) (fun _ _ _ h => h) (Or.inl ⟨by rfl, ?_⟩) hHeld ?_
      rotate_left
      · intro w' hSw; (try dsimp only at hSw); go_simp <;> with_reducible rfl
      try simp only [Act.put, List.setIfInBounds_toArray, List.set_cons_zero, List.set_cons_succ]
      refine wpAnyH_ready (rs := [8]) (by kernel_rfl) (by simp) ?_
      refine (AllReadyH.cons (o := { dst := some 11, op := Op.alloc 24, type := 0, pos := "law.go:72", after := #[], guard := none }) rfl (fun K hK => ?_) AllReadyH.nil)
      go_simp
      have hG := Row.new (v1) 24 #[.int .i64 0, .int .u64 0]
      have hGu := hHeld.1.size
      refine hK.out _ _ (MK.out _ (hHeld.1.alloc _)) (fun hHeld => ?_)
      clear hK K
      try simp only [Act.put, List.setIfInBounds_toArray, List.set_cons_zero, List.set_cons_succ]
      obtain ⟨gA, hgA⟩ : ∃ g, g = (v1).heap.size := ⟨_, rfl⟩
      rw [← hgA] at hG hGu ⊢
      clear hgA
      refine wpAnyH_ready (rs := [9]) (by kernel_rfl) (by simp) ?_
      refine AllReadyH.cons (o := { dst := none, op := Op.store 24 (Operand.tmp 11) (Operand.tmp 39), type := 0, pos := "law.go:72", after := #[{ on := 8, ground := Ground.data }, { on := 6, ground := Ground.data }, { on := 4, ground := Ground.chain }, { on := 0, ground := Ground.phase }, { on := 1, ground := Ground.phase }, { on := 2, ground := Ground.phase }, { on := 3, ground := Ground.phase }, { on := 4, ground := Ground.phase }, { on := 5, ground := Ground.phase }, { on := 6, ground := Ground.phase }, { on := 7, ground := Ground.textOnly Departure.lateStores }, { on := 8, ground := Ground.phase }], guard := none }) rfl (fun K hK => ?_) AllReadyH.nil
      refine (if_pos (by rfl)).mpr ?_
      refine wp_store_row 24 _ _ rfl (gA) #[.int .i64 th, .int .u64 tl] rfl rfl 24 #[.int .i64 0, .int .u64 0] hG size_W rfl (by simp [Value.oneCell']) ?_
      replace hG := hG.putRow #[.int .i64 th, .int .u64 tl]
      refine hK.out _ _ (MK.out _ (hHeld.1.setRow hGu #[.int .i64 th, .int .u64 tl])) (fun hHeld => ?_)
      clear hK K
      try simp only [Act.put, List.setIfInBounds_toArray, List.set_cons_zero, List.set_cons_succ]
      refine wpAnyH_take (i := 10) (oi := { dst := some 12, op := Op.assign (Operand.tmp 40), type := 25, pos := "law.go:72", after := #[{ on := 7, ground := Ground.data }, { on := 9, ground := Ground.chain }, { on := 0, ground := Ground.phase }, { on := 1, ground := Ground.phase }, { on := 2, ground := Ground.phase }, { on := 3, ground := Ground.phase }, { on := 4, ground := Ground.phase }, { on := 5, ground := Ground.phase }, { on := 6, ground := Ground.phase }, { on := 7, ground := Ground.phase }, { on := 8, ground := Ground.phase }, { on := 9, ground := Ground.phase }], guard := none }) (v := ?_) rfl (by kernel_rfl) (by kernel_rfl) (by kernel_rfl) (fun _ _ _ h => h) (Or.inl ⟨by rfl, ?_⟩) hHeld ?_
      rotate_left
      · intro w' hSw; (try dsimp only at hSw); go_simp <;> with_reducible rfl
      try simp only [Act.put, List.setIfInBounds_toArray, List.set_cons_zero, List.set_cons_succ]
      refine wpAnyH_done (by kernel_rfl) ?_ _
      refine NoPanic.normal ?_
      obtain ⟨NA, hNA⟩ : ∃ X, X = (v1.alloc (.cells #[.int .i64 0, .int .u64 0] 24)).setRow (gA) #[.int .i64 th, .int .u64 tl] := ⟨_, rfl⟩
      rw [← hNA] at hG hHeld ⊢
      clear hNA
      replace R_a := R_a.below hHeld.1.below R_a.lt
      replace R_b := R_b.below hHeld.1.below R_b.lt
      replace R_x := R_x.below hHeld.1.below R_x.lt
      replace R_y := R_y.below hHeld.1.below R_y.lt
      have R_u := hG
      replace HU := HU.trans hHeld.1.below
      clear hG hHeld MK hGu
      have c3_0 := R_a.cell 0
      have c3_1 := R_a.cell 1
      have c4_0 := R_b.cell 0
      have c4_1 := R_b.cell 1
      simp at c3_0 c3_1 c4_0 c4_1
      go_upto_region 4 with fail
      clear c3_0 c3_1 c4_0 c4_1
      have MK : ∀ W, Up NA.heap.size NA W → Up NA.heap.size NA W ∧ W.cell? ⟨w.heap.size, 0, none⟩ = some (.int .i64 ah) ∧ W.cell? ⟨w.heap.size, 1, none⟩ = some (.int .u64 al) ∧ W.cell? ⟨w.heap.size + 1, 0, none⟩ = some (.int .i64 bh) ∧ W.cell? ⟨w.heap.size + 1, 1, none⟩ = some (.int .u64 bl) := fun W hW => by
        have k_a := R_a.below hW.below R_a.lt
        have k_b := R_b.below hW.below R_b.lt
        exact ⟨hW, by simpa using k_a.cell 0, by simpa using k_a.cell 1, by simpa using k_b.cell 0, by simpa using k_b.cell 1⟩
      have MK := hid MK
      refine wp_region_noPanic ?_
      refine wp_region_held_drew (S := fun W => Up NA.heap.size NA W ∧ W.cell? ⟨w.heap.size, 0, none⟩ = some (.int .i64 ah) ∧ W.cell? ⟨w.heap.size, 1, none⟩ = some (.int .u64 al) ∧ W.cell? ⟨w.heap.size + 1, 0, none⟩ = some (.int .i64 bh) ∧ W.cell? ⟨w.heap.size + 1, 1, none⟩ = some (.int .u64 bl)) (by kernel_rfl) (MK.out _ (Up.refl NA).drew) (fun hHeld => ?_)
      refine wpAnyH_take (i := 0) (oi := { dst := some 42, op := Op.load 24 (Operand.tmp 3), type := 24, pos := "law.go:73", after := #[], guard := none }) (v := ?_) rfl (by kernel_rfl) (by kernel_rfl) (by kernel_rfl) (fun _ _ _ h => h) (Or.inl ⟨by rfl, ?_⟩) hHeld ?_
      rotate_left
      · intro w' hSw; (try dsimp only at hSw); go_simp <;> with_reducible rfl
      try simp only [Act.put, List.setIfInBounds_toArray, List.set_cons_zero, List.set_cons_succ]
      refine wpAnyH_take (i := 1) (oi := { dst := some 43, op := Op.load 24 (Operand.tmp 4), type := 24, pos := "law.go:73", after := #[], guard := none }) (v := ?_) rfl (by kernel_rfl) (by kernel_rfl) (by kernel_rfl) (fun _ _ _ h => h) (Or.inl ⟨by rfl, ?_⟩) hHeld ?_
      rotate_left
      · intro w' hSw; (try dsimp only at hSw); go_simp <;> with_reducible rfl
      try simp only [Act.put, List.setIfInBounds_toArray, List.set_cons_zero, List.set_cons_succ]
      refine wpAnyH_take (i := 2) (oi := { dst := some 44, op := Op.move (Operand.tmp 2), type := 3, pos := "law.go:73", after := #[], guard := none }) (v := ?_) rfl (by kernel_rfl) (by kernel_rfl) (by kernel_rfl) (fun _ _ _ h => h) (Or.inl ⟨by rfl, ?_⟩) hHeld ?_
      rotate_left
      · intro w' hSw; (try dsimp only at hSw); go_simp <;> with_reducible rfl
      try simp only [Act.put, List.setIfInBounds_toArray, List.set_cons_zero, List.set_cons_succ]
      refine wpAnyH_ready (rs := [3, 8]) (by kernel_rfl) (by simp) ?_
      refine (AllReadyH.cons (o := { dst := some 45, op := Op.call { callee := Callee.value (Operand.func 34), args := #[Operand.tmp 44, Operand.const (Value.int IntKind.i64 37)], argTypes := #[3, 3] }, type := 3, pos := "law.go:73", after := #[{ on := 2, ground := Ground.data }], guard := none }) rfl (fun K hK => ?_) (AllReadyH.cons (o := { dst := some 13, op := Op.alloc 24, type := 0, pos := "law.go:73", after := #[], guard := none }) rfl (fun K hK => ?_) AllReadyH.nil))
      · skip
        go_simp
        refine Calls.mono (PK.out _) ?_; rintro e _ ⟨rfl, rfl⟩
        refine hK.out _ _ hHeld (fun hHeld => ?_)
        clear hK K
        try simp only [Act.put, List.setIfInBounds_toArray, List.set_cons_zero, List.set_cons_succ]
        refine wpAnyH_ready (rs := [4, 8]) (by kernel_rfl) (by simp) ?_
        refine (AllReadyH.cons (o := { dst := some 46, op := Op.call { callee := Callee.value (Operand.func 33), args := #[Operand.tmp 42, Operand.tmp 43, Operand.tmp 45], argTypes := #[24, 24, 3] }, type := 26, pos := "law.go:73", after := #[{ on := 0, ground := Ground.data }, { on := 1, ground := Ground.data }, { on := 3, ground := Ground.data }, { on := 3, ground := Ground.chain }], guard := none }) rfl (fun K hK => ?_) (AllReadyH.cons (o := { dst := some 13, op := Op.alloc 24, type := 0, pos := "law.go:73", after := #[], guard := none }) rfl (fun K hK => ?_) AllReadyH.nil))
        · skip
          go_simp
          refine Calls.mono (S4.out _) ?_; rintro e v1 ⟨rfl, hbk⟩
          refine hK.out _ _ (MK.out _ (hHeld.1.trans hbk)) (fun hHeld => ?_)
          clear hK K hbk
          try simp only [Act.put, List.setIfInBounds_toArray, List.set_cons_zero, List.set_cons_succ]
          refine wpAnyH_take (i := 5) (oi := { dst := some 41, op := Op.move (Operand.tmp 46), type := 26, pos := "law.go:73", after := #[{ on := 4, ground := Ground.data }], guard := none }) (v := ?_) rfl (by kernel_rfl) (by kernel_rfl) (by kernel_rfl) (fun _ _ _ h => h) (Or.inl ⟨by rfl, ?_⟩) hHeld ?_
          rotate_left
          · intro w' hSw; (try dsimp only at hSw); go_simp <;> with_reducible rfl
          try simp only [Act.put, List.setIfInBounds_toArray, List.set_cons_zero, List.set_cons_succ]
          refine wpAnyH_take (i := 6) (oi := { dst := some 47, op := Op.extract (Operand.tmp 41) 0, type := 24, pos := "law.go:73", after := #[{ on := 5, ground := Ground.data }], guard := none }) (v := ?_) rfl (by kernel_rfl) (by kernel_rfl) (by kernel_rfl) (fun _ _ _ h => h) (Or.inl ⟨by rfl, ?_⟩) hHeld ?_
          rotate_left
          · intro w' hSw; (try dsimp only at hSw); go_simp <;> with_reducible rfl
          try simp only [Act.put, List.setIfInBounds_toArray, List.set_cons_zero, List.set_cons_succ]
          refine wpAnyH_take (i := 7) (oi := { dst := some 48, op := Op.extract (Operand.tmp 41) 1, type := 25, pos := "law.go:73", after := #[{ on := 5, ground := Ground.data }, { on := 9, ground := Ground.gcOnly Departure.lateStores }], guard := none }) (v := ?_) rfl (by kernel_rfl) (by kernel_rfl) (by kernel_rfl) (fun _ _ _ h => h) (Or.inl ⟨by rfl, ?_⟩) hHeld ?_
          rotate_left
          · intro w' hSw; (try dsimp only at hSw); go_simp <;> with_reducible rfl
          try simp only [Act.put, List.setIfInBounds_toArray, List.set_cons_zero, List.set_cons_succ]
          refine wpAnyH_ready (rs := [8]) (by kernel_rfl) (by simp) ?_
          refine (AllReadyH.cons (o := { dst := some 13, op := Op.alloc 24, type := 0, pos := "law.go:73", after := #[], guard := none }) rfl (fun K hK => ?_) AllReadyH.nil)
          go_simp
          have hG := Row.new (v1) 24 #[.int .i64 0, .int .u64 0]
          have hGu := hHeld.1.size
          refine hK.out _ _ (MK.out _ (hHeld.1.alloc _)) (fun hHeld => ?_)
          clear hK K
          try simp only [Act.put, List.setIfInBounds_toArray, List.set_cons_zero, List.set_cons_succ]
          obtain ⟨gB, hgB⟩ : ∃ g, g = (v1).heap.size := ⟨_, rfl⟩
          rw [← hgB] at hG hGu ⊢
          clear hgB
          refine wpAnyH_ready (rs := [9]) (by kernel_rfl) (by simp) ?_
          refine AllReadyH.cons (o := { dst := none, op := Op.store 24 (Operand.tmp 13) (Operand.tmp 47), type := 0, pos := "law.go:73", after := #[{ on := 8, ground := Ground.data }, { on := 6, ground := Ground.data }, { on := 4, ground := Ground.chain }, { on := 0, ground := Ground.phase }, { on := 1, ground := Ground.phase }, { on := 2, ground := Ground.phase }, { on := 3, ground := Ground.phase }, { on := 4, ground := Ground.phase }, { on := 5, ground := Ground.phase }, { on := 6, ground := Ground.phase }, { on := 7, ground := Ground.textOnly Departure.lateStores }, { on := 8, ground := Ground.phase }], guard := none }) rfl (fun K hK => ?_) AllReadyH.nil
          refine (if_pos (by rfl)).mpr ?_
          refine wp_store_row 24 _ _ rfl (gB) #[.int .i64 th, .int .u64 tl] rfl rfl 24 #[.int .i64 0, .int .u64 0] hG size_W rfl (by simp [Value.oneCell']) ?_
          replace hG := hG.putRow #[.int .i64 th, .int .u64 tl]
          refine hK.out _ _ (MK.out _ (hHeld.1.setRow hGu #[.int .i64 th, .int .u64 tl])) (fun hHeld => ?_)
          clear hK K
          try simp only [Act.put, List.setIfInBounds_toArray, List.set_cons_zero, List.set_cons_succ]
          refine wpAnyH_take (i := 10) (oi := { dst := some 14, op := Op.assign (Operand.tmp 48), type := 25, pos := "law.go:73", after := #[{ on := 7, ground := Ground.data }, { on := 9, ground := Ground.chain }, { on := 0, ground := Ground.phase }, { on := 1, ground := Ground.phase }, { on := 2, ground := Ground.phase }, { on := 3, ground := Ground.phase }, { on := 4, ground := Ground.phase }, { on := 5, ground := Ground.phase }, { on := 6, ground := Ground.phase }, { on := 7, ground := Ground.phase }, { on := 8, ground := Ground.phase }, { on := 9, ground := Ground.phase }], guard := none }) (v := ?_) rfl (by kernel_rfl) (by kernel_rfl) (by kernel_rfl) (fun _ _ _ h => h) (Or.inl ⟨by rfl, ?_⟩) hHeld ?_
          rotate_left
          · intro w' hSw; (try dsimp only at hSw); go_simp <;> with_reducible rfl
          try simp only [Act.put, List.setIfInBounds_toArray, List.set_cons_zero, List.set_cons_succ]
          refine wpAnyH_done (by kernel_rfl) ?_ _
          refine NoPanic.normal ?_
          obtain ⟨NB, hNB⟩ : ∃ X, X = (v1.alloc (.cells #[.int .i64 0, .int .u64 0] 24)).setRow (gB) #[.int .i64 th, .int .u64 tl] := ⟨_, rfl⟩
          rw [← hNB] at hG hHeld ⊢
          clear hNB
          replace R_a := R_a.below hHeld.1.below R_a.lt
          replace R_b := R_b.below hHeld.1.below R_b.lt
          replace R_x := R_x.below hHeld.1.below R_x.lt
          replace R_y := R_y.below hHeld.1.below R_y.lt
          replace R_u := R_u.below hHeld.1.below R_u.lt
          have R_v := hG
          replace HU := HU.trans hHeld.1.below
          clear hG hHeld MK hGu
          go_wp2_with fail
          refine Calls.mono (P1.out _) ?_; rintro e w5 ⟨rfl, hb_w5⟩
          have z_w5 := hb_w5.size
          try simp only [alloc_size, setCell_size] at z_w5
          replace R_a := R_a.mod (Mod.of_below hb_w5 Nil) (fun hf => hf)
          replace R_b := R_b.mod (Mod.of_below hb_w5 Nil) (fun hf => hf)
          replace R_x := R_x.mod (Mod.of_below hb_w5 Nil) (fun hf => hf)
          replace R_y := R_y.mod (Mod.of_below hb_w5 Nil) (fun hf => hf)
          replace R_u := R_u.mod (Mod.of_below hb_w5 Nil) (fun hf => hf)
          replace R_v := R_v.mod (Mod.of_below hb_w5 Nil) (fun hf => hf)
          replace HU := HU.trans hb_w5
          clear hb_w5
          have R_p := Row.new (w5) 24 #[.int .i64 ph, .int .u64 pl]
          replace R_a := R_a.alloc (.cells #[.int .i64 ph, .int .u64 pl] 24)
          replace R_b := R_b.alloc (.cells #[.int .i64 ph, .int .u64 pl] 24)
          replace R_x := R_x.alloc (.cells #[.int .i64 ph, .int .u64 pl] 24)
          replace R_y := R_y.alloc (.cells #[.int .i64 ph, .int .u64 pl] 24)
          replace R_u := R_u.alloc (.cells #[.int .i64 ph, .int .u64 pl] 24)
          replace R_v := R_v.alloc (.cells #[.int .i64 ph, .int .u64 pl] 24)
          replace HU := HU.alloc (.cells #[.int .i64 ph, .int .u64 pl] 24)
          go_wp2_with fail
          refine Calls.mono (P2.out _) ?_; rintro e w6 ⟨rfl, hb_w6⟩
          have z_w6 := hb_w6.size
          try simp only [alloc_size, setCell_size] at z_w6
          replace R_a := R_a.mod (Mod.of_below hb_w6 Nil) (fun hf => hf)
          replace R_b := R_b.mod (Mod.of_below hb_w6 Nil) (fun hf => hf)
          replace R_x := R_x.mod (Mod.of_below hb_w6 Nil) (fun hf => hf)
          replace R_y := R_y.mod (Mod.of_below hb_w6 Nil) (fun hf => hf)
          replace R_u := R_u.mod (Mod.of_below hb_w6 Nil) (fun hf => hf)
          replace R_v := R_v.mod (Mod.of_below hb_w6 Nil) (fun hf => hf)
          replace R_p := R_p.mod (Mod.of_below hb_w6 Nil) (fun hf => hf)
          replace HU := HU.trans hb_w6
          clear hb_w6
          have R_q := Row.new (w6) 24 #[.int .i64 ph, .int .u64 pl]
          replace R_a := R_a.alloc (.cells #[.int .i64 ph, .int .u64 pl] 24)
          replace R_b := R_b.alloc (.cells #[.int .i64 ph, .int .u64 pl] 24)
          replace R_x := R_x.alloc (.cells #[.int .i64 ph, .int .u64 pl] 24)
          replace R_y := R_y.alloc (.cells #[.int .i64 ph, .int .u64 pl] 24)
          replace R_u := R_u.alloc (.cells #[.int .i64 ph, .int .u64 pl] 24)
          replace R_v := R_v.alloc (.cells #[.int .i64 ph, .int .u64 pl] 24)
          replace R_p := R_p.alloc (.cells #[.int .i64 ph, .int .u64 pl] 24)
          replace HU := HU.alloc (.cells #[.int .i64 ph, .int .u64 pl] 24)
          go_wp2_with fail
          obtain ⟨VE, h_VE⟩ : ∃ VE, VE = (w6).alloc (.cells #[.int .i64 ph, .int .u64 pl] 24) := ⟨_, rfl⟩
          rw [← h_VE]
          rw [← h_VE] at R_a R_b R_x R_y R_u R_v R_p R_q HU
          have z_VE : VE.heap.size = _ := congrArg (fun a => a.heap.size) h_VE
          try simp only [alloc_size, setCell_size] at z_VE
          clear h_VE
          refine (known_any VE (tab_below HT.out HU.below hg) (by have := HU.size; omega)).mono ?_; rintro e w7 ⟨rfl, hb_w7⟩
          have z_w7 := hb_w7.size
          try simp only [alloc_size, setCell_size] at z_w7
          replace R_a := R_a.mod (Mod.of_below hb_w7 Nil) (fun hf => hf)
          replace R_b := R_b.mod (Mod.of_below hb_w7 Nil) (fun hf => hf)
          replace R_x := R_x.mod (Mod.of_below hb_w7 Nil) (fun hf => hf)
          replace R_y := R_y.mod (Mod.of_below hb_w7 Nil) (fun hf => hf)
          replace R_u := R_u.mod (Mod.of_below hb_w7 Nil) (fun hf => hf)
          replace R_v := R_v.mod (Mod.of_below hb_w7 Nil) (fun hf => hf)
          replace R_p := R_p.mod (Mod.of_below hb_w7 Nil) (fun hf => hf)
          replace R_q := R_q.mod (Mod.of_below hb_w7 Nil) (fun hf => hf)
          replace HU := HU.trans hb_w7
          clear hb_w7
          have c5_0 := R_x.cell 0
          have c5_1 := R_x.cell 1
          have c6_0 := R_y.cell 0
          have c6_1 := R_y.cell 1
          have c7_0 := R_u.cell 0
          have c7_1 := R_u.cell 1
          have c8_0 := R_v.cell 0
          have c8_1 := R_v.cell 1
          have c9_0 := R_p.cell 0
          have c9_1 := R_p.cell 1
          have c10_0 := R_q.cell 0
          have c10_1 := R_q.cell 1
          simp at c5_0 c5_1 c6_0 c6_1 c7_0 c7_1 c8_0 c8_1 c9_0 c9_1 c10_0 c10_1
          go_wp2_with fail
          clear c5_0 c5_1 c6_0 c6_1 c7_0 c7_1 c8_0 c8_1 c9_0 c9_1 c10_0 c10_1
          go_ret
          exact ⟨rfl, HU.below⟩
        · skip
          go_simp
          have hG := Row.new (NA.drew) 24 #[.int .i64 0, .int .u64 0]
          have hGu := hHeld.1.size
          refine hK.out _ _ (MK.out _ (hHeld.1.alloc _)) (fun hHeld => ?_)
          clear hK K
          try simp only [Act.put, List.setIfInBounds_toArray, List.set_cons_zero, List.set_cons_succ]
          replace hG : Row (NA.drew.alloc (.cells #[.int .i64 0, .int .u64 0] 24)) NA.heap.size 24 #[.int .i64 0, .int .u64 0] := hG
          replace hGu : NA.heap.size ≤ NA.heap.size := Nat.le_refl _
          refine wpAnyH_ready (rs := [4]) (by kernel_rfl) (by simp) ?_
          refine (AllReadyH.cons (o := { dst := some 46, op := Op.call { callee := Callee.value (Operand.func 33), args := #[Operand.tmp 42, Operand.tmp 43, Operand.tmp 45], argTypes := #[24, 24, 3] }, type := 26, pos := "law.go:73", after := #[{ on := 0, ground := Ground.data }, { on := 1, ground := Ground.data }, { on := 3, ground := Ground.data }, { on := 3, ground := Ground.chain }], guard := none }) rfl (fun K hK => ?_) AllReadyH.nil)
          go_simp
          refine Calls.mono (S4.out _) ?_; rintro e v1 ⟨rfl, hbk⟩
          replace hG := hG.mod (Mod.of_below hbk Nil) (fun hf => hf)
          refine hK.out _ _ (MK.out _ (hHeld.1.trans hbk)) (fun hHeld => ?_)
          clear hK K hbk
          try simp only [Act.put, List.setIfInBounds_toArray, List.set_cons_zero, List.set_cons_succ]
          refine wpAnyH_take (i := 5) (oi := { dst := some 41, op := Op.move (Operand.tmp 46), type := 26, pos := "law.go:73", after := #[{ on := 4, ground := Ground.data }], guard := none }) (v := ?_) rfl (by kernel_rfl) (by kernel_rfl) (by kernel_rfl) (fun _ _ _ h => h) (Or.inl ⟨by rfl, ?_⟩) hHeld ?_
          rotate_left
          · intro w' hSw; (try dsimp only at hSw); go_simp <;> with_reducible rfl
          try simp only [Act.put, List.setIfInBounds_toArray, List.set_cons_zero, List.set_cons_succ]
          refine wpAnyH_take (i := 6) (oi := { dst := some 47, op := Op.extract (Operand.tmp 41) 0, type := 24, pos := "law.go:73", after := #[{ on := 5, ground := Ground.data }], guard := none }) (v := ?_) rfl (by kernel_rfl) (by kernel_rfl) (by kernel_rfl) (fun _ _ _ h => h) (Or.inl ⟨by rfl, ?_⟩) hHeld ?_
          rotate_left
          · intro w' hSw; (try dsimp only at hSw); go_simp <;> with_reducible rfl
          try simp only [Act.put, List.setIfInBounds_toArray, List.set_cons_zero, List.set_cons_succ]
          refine wpAnyH_take (i := 7) (oi := { dst := some 48, op := Op.extract (Operand.tmp 41) 1, type := 25, pos := "law.go:73", after := #[{ on := 5, ground := Ground.data }, { on := 9, ground := Ground.gcOnly Departure.lateStores }], guard := none }) (v := ?_) rfl (by kernel_rfl) (by kernel_rfl) (by kernel_rfl) (fun _ _ _ h => h) (Or.inl ⟨by rfl, ?_⟩) hHeld ?_
          rotate_left
          · intro w' hSw; (try dsimp only at hSw); go_simp <;> with_reducible rfl
          try simp only [Act.put, List.setIfInBounds_toArray, List.set_cons_zero, List.set_cons_succ]
          refine wpAnyH_ready (rs := [9]) (by kernel_rfl) (by simp) ?_
          refine AllReadyH.cons (o := { dst := none, op := Op.store 24 (Operand.tmp 13) (Operand.tmp 47), type := 0, pos := "law.go:73", after := #[{ on := 8, ground := Ground.data }, { on := 6, ground := Ground.data }, { on := 4, ground := Ground.chain }, { on := 0, ground := Ground.phase }, { on := 1, ground := Ground.phase }, { on := 2, ground := Ground.phase }, { on := 3, ground := Ground.phase }, { on := 4, ground := Ground.phase }, { on := 5, ground := Ground.phase }, { on := 6, ground := Ground.phase }, { on := 7, ground := Ground.textOnly Departure.lateStores }, { on := 8, ground := Ground.phase }], guard := none }) rfl (fun K hK => ?_) AllReadyH.nil
          refine (if_pos (by rfl)).mpr ?_
          refine wp_store_row 24 _ _ rfl (NA.heap.size) #[.int .i64 th, .int .u64 tl] rfl rfl 24 #[.int .i64 0, .int .u64 0] hG size_W rfl (by simp [Value.oneCell']) ?_
          replace hG := hG.putRow #[.int .i64 th, .int .u64 tl]
          refine hK.out _ _ (MK.out _ (hHeld.1.setRow hGu #[.int .i64 th, .int .u64 tl])) (fun hHeld => ?_)
          clear hK K
          try simp only [Act.put, List.setIfInBounds_toArray, List.set_cons_zero, List.set_cons_succ]
          refine wpAnyH_take (i := 10) (oi := { dst := some 14, op := Op.assign (Operand.tmp 48), type := 25, pos := "law.go:73", after := #[{ on := 7, ground := Ground.data }, { on := 9, ground := Ground.chain }, { on := 0, ground := Ground.phase }, { on := 1, ground := Ground.phase }, { on := 2, ground := Ground.phase }, { on := 3, ground := Ground.phase }, { on := 4, ground := Ground.phase }, { on := 5, ground := Ground.phase }, { on := 6, ground := Ground.phase }, { on := 7, ground := Ground.phase }, { on := 8, ground := Ground.phase }, { on := 9, ground := Ground.phase }], guard := none }) (v := ?_) rfl (by kernel_rfl) (by kernel_rfl) (by kernel_rfl) (fun _ _ _ h => h) (Or.inl ⟨by rfl, ?_⟩) hHeld ?_
          rotate_left
          · intro w' hSw; (try dsimp only at hSw); go_simp <;> with_reducible rfl
          try simp only [Act.put, List.setIfInBounds_toArray, List.set_cons_zero, List.set_cons_succ]
          refine wpAnyH_done (by kernel_rfl) ?_ _
          refine NoPanic.normal ?_
          obtain ⟨NB, hNB⟩ : ∃ X, X = (v1).setRow (NA.heap.size) #[.int .i64 th, .int .u64 tl] := ⟨_, rfl⟩
          rw [← hNB] at hG hHeld ⊢
          clear hNB
          replace R_a := R_a.below hHeld.1.below R_a.lt
          replace R_b := R_b.below hHeld.1.below R_b.lt
          replace R_x := R_x.below hHeld.1.below R_x.lt
          replace R_y := R_y.below hHeld.1.below R_y.lt
          replace R_u := R_u.below hHeld.1.below R_u.lt
          have R_v := hG
          replace HU := HU.trans hHeld.1.below
          clear hG hHeld MK hGu
          go_wp2_with fail
          refine Calls.mono (P1.out _) ?_; rintro e w5 ⟨rfl, hb_w5⟩
          have z_w5 := hb_w5.size
          try simp only [alloc_size, setCell_size] at z_w5
          replace R_a := R_a.mod (Mod.of_below hb_w5 Nil) (fun hf => hf)
          replace R_b := R_b.mod (Mod.of_below hb_w5 Nil) (fun hf => hf)
          replace R_x := R_x.mod (Mod.of_below hb_w5 Nil) (fun hf => hf)
          replace R_y := R_y.mod (Mod.of_below hb_w5 Nil) (fun hf => hf)
          replace R_u := R_u.mod (Mod.of_below hb_w5 Nil) (fun hf => hf)
          replace R_v := R_v.mod (Mod.of_below hb_w5 Nil) (fun hf => hf)
          replace HU := HU.trans hb_w5
          clear hb_w5
          have R_p := Row.new (w5) 24 #[.int .i64 ph, .int .u64 pl]
          replace R_a := R_a.alloc (.cells #[.int .i64 ph, .int .u64 pl] 24)
          replace R_b := R_b.alloc (.cells #[.int .i64 ph, .int .u64 pl] 24)
          replace R_x := R_x.alloc (.cells #[.int .i64 ph, .int .u64 pl] 24)
          replace R_y := R_y.alloc (.cells #[.int .i64 ph, .int .u64 pl] 24)
          replace R_u := R_u.alloc (.cells #[.int .i64 ph, .int .u64 pl] 24)
          replace R_v := R_v.alloc (.cells #[.int .i64 ph, .int .u64 pl] 24)
          replace HU := HU.alloc (.cells #[.int .i64 ph, .int .u64 pl] 24)
          go_wp2_with fail
          refine Calls.mono (P2.out _) ?_; rintro e w6 ⟨rfl, hb_w6⟩
          have z_w6 := hb_w6.size
          try simp only [alloc_size, setCell_size] at z_w6
          replace R_a := R_a.mod (Mod.of_below hb_w6 Nil) (fun hf => hf)
          replace R_b := R_b.mod (Mod.of_below hb_w6 Nil) (fun hf => hf)
          replace R_x := R_x.mod (Mod.of_below hb_w6 Nil) (fun hf => hf)
          replace R_y := R_y.mod (Mod.of_below hb_w6 Nil) (fun hf => hf)
          replace R_u := R_u.mod (Mod.of_below hb_w6 Nil) (fun hf => hf)
          replace R_v := R_v.mod (Mod.of_below hb_w6 Nil) (fun hf => hf)
          replace R_p := R_p.mod (Mod.of_below hb_w6 Nil) (fun hf => hf)
          replace HU := HU.trans hb_w6
          clear hb_w6
          have R_q := Row.new (w6) 24 #[.int .i64 ph, .int .u64 pl]
          replace R_a := R_a.alloc (.cells #[.int .i64 ph, .int .u64 pl] 24)
          replace R_b := R_b.alloc (.cells #[.int .i64 ph, .int .u64 pl] 24)
          replace R_x := R_x.alloc (.cells #[.int .i64 ph, .int .u64 pl] 24)
          replace R_y := R_y.alloc (.cells #[.int .i64 ph, .int .u64 pl] 24)
          replace R_u := R_u.alloc (.cells #[.int .i64 ph, .int .u64 pl] 24)
          replace R_v := R_v.alloc (.cells #[.int .i64 ph, .int .u64 pl] 24)
          replace R_p := R_p.alloc (.cells #[.int .i64 ph, .int .u64 pl] 24)
          replace HU := HU.alloc (.cells #[.int .i64 ph, .int .u64 pl] 24)
          go_wp2_with fail
          obtain ⟨VE, h_VE⟩ : ∃ VE, VE = (w6).alloc (.cells #[.int .i64 ph, .int .u64 pl] 24) := ⟨_, rfl⟩
          rw [← h_VE]
          rw [← h_VE] at R_a R_b R_x R_y R_u R_v R_p R_q HU
          have z_VE : VE.heap.size = _ := congrArg (fun a => a.heap.size) h_VE
          try simp only [alloc_size, setCell_size] at z_VE
          clear h_VE
          refine (known_any VE (tab_below HT.out HU.below hg) (by have := HU.size; omega)).mono ?_; rintro e w7 ⟨rfl, hb_w7⟩
          have z_w7 := hb_w7.size
          try simp only [alloc_size, setCell_size] at z_w7
          replace R_a := R_a.mod (Mod.of_below hb_w7 Nil) (fun hf => hf)
          replace R_b := R_b.mod (Mod.of_below hb_w7 Nil) (fun hf => hf)
          replace R_x := R_x.mod (Mod.of_below hb_w7 Nil) (fun hf => hf)
          replace R_y := R_y.mod (Mod.of_below hb_w7 Nil) (fun hf => hf)
          replace R_u := R_u.mod (Mod.of_below hb_w7 Nil) (fun hf => hf)
          replace R_v := R_v.mod (Mod.of_below hb_w7 Nil) (fun hf => hf)
          replace R_p := R_p.mod (Mod.of_below hb_w7 Nil) (fun hf => hf)
          replace R_q := R_q.mod (Mod.of_below hb_w7 Nil) (fun hf => hf)
          replace HU := HU.trans hb_w7
          clear hb_w7
          have c5_0 := R_x.cell 0
          have c5_1 := R_x.cell 1
          have c6_0 := R_y.cell 0
          have c6_1 := R_y.cell 1
          have c7_0 := R_u.cell 0
          have c7_1 := R_u.cell 1
          have c8_0 := R_v.cell 0
          have c8_1 := R_v.cell 1
          have c9_0 := R_p.cell 0
          have c9_1 := R_p.cell 1
          have c10_0 := R_q.cell 0
          have c10_1 := R_q.cell 1
          simp at c5_0 c5_1 c6_0 c6_1 c7_0 c7_1 c8_0 c8_1 c9_0 c9_1 c10_0 c10_1
          go_wp2_with fail
          clear c5_0 c5_1 c6_0 c6_1 c7_0 c7_1 c8_0 c8_1 c9_0 c9_1 c10_0 c10_1
          go_ret
          exact ⟨rfl, HU.below⟩
      · skip
        go_simp
        have hG := Row.new (NA.drew) 24 #[.int .i64 0, .int .u64 0]
        have hGu := hHeld.1.size
        refine hK.out _ _ (MK.out _ (hHeld.1.alloc _)) (fun hHeld => ?_)
        clear hK K
        try simp only [Act.put, List.setIfInBounds_toArray, List.set_cons_zero, List.set_cons_succ]
        replace hG : Row (NA.drew.alloc (.cells #[.int .i64 0, .int .u64 0] 24)) NA.heap.size 24 #[.int .i64 0, .int .u64 0] := hG
        replace hGu : NA.heap.size ≤ NA.heap.size := Nat.le_refl _
        refine wpAnyH_ready (rs := [3]) (by kernel_rfl) (by simp) ?_
        refine (AllReadyH.cons (o := { dst := some 45, op := Op.call { callee := Callee.value (Operand.func 34), args := #[Operand.tmp 44, Operand.const (Value.int IntKind.i64 37)], argTypes := #[3, 3] }, type := 3, pos := "law.go:73", after := #[{ on := 2, ground := Ground.data }], guard := none }) rfl (fun K hK => ?_) AllReadyH.nil)
        go_simp
        refine Calls.mono (PK.out _) ?_; rintro e _ ⟨rfl, rfl⟩
        refine hK.out _ _ hHeld (fun hHeld => ?_)
        clear hK K
        try simp only [Act.put, List.setIfInBounds_toArray, List.set_cons_zero, List.set_cons_succ]
        refine wpAnyH_ready (rs := [4]) (by kernel_rfl) (by simp) ?_
        refine (AllReadyH.cons (o := { dst := some 46, op := Op.call { callee := Callee.value (Operand.func 33), args := #[Operand.tmp 42, Operand.tmp 43, Operand.tmp 45], argTypes := #[24, 24, 3] }, type := 26, pos := "law.go:73", after := #[{ on := 0, ground := Ground.data }, { on := 1, ground := Ground.data }, { on := 3, ground := Ground.data }, { on := 3, ground := Ground.chain }], guard := none }) rfl (fun K hK => ?_) AllReadyH.nil)
        go_simp
        refine Calls.mono (S4.out _) ?_; rintro e v1 ⟨rfl, hbk⟩
        replace hG := hG.mod (Mod.of_below hbk Nil) (fun hf => hf)
        refine hK.out _ _ (MK.out _ (hHeld.1.trans hbk)) (fun hHeld => ?_)
        clear hK K hbk
        try simp only [Act.put, List.setIfInBounds_toArray, List.set_cons_zero, List.set_cons_succ]
        refine wpAnyH_take (i := 5) (oi := { dst := some 41, op := Op.move (Operand.tmp 46), type := 26, pos := "law.go:73", after := #[{ on := 4, ground := Ground.data }], guard := none }) (v := ?_) rfl (by kernel_rfl) (by kernel_rfl) (by kernel_rfl) (fun _ _ _ h => h) (Or.inl ⟨by rfl, ?_⟩) hHeld ?_
        rotate_left
        · intro w' hSw; (try dsimp only at hSw); go_simp <;> with_reducible rfl
        try simp only [Act.put, List.setIfInBounds_toArray, List.set_cons_zero, List.set_cons_succ]
        refine wpAnyH_take (i := 6) (oi := { dst := some 47, op := Op.extract (Operand.tmp 41) 0, type := 24, pos := "law.go:73", after := #[{ on := 5, ground := Ground.data }], guard := none }) (v := ?_) rfl (by kernel_rfl) (by kernel_rfl) (by kernel_rfl) (fun _ _ _ h => h) (Or.inl ⟨by rfl, ?_⟩) hHeld ?_
        rotate_left
        · intro w' hSw; (try dsimp only at hSw); go_simp <;> with_reducible rfl
        try simp only [Act.put, List.setIfInBounds_toArray, List.set_cons_zero, List.set_cons_succ]
        refine wpAnyH_take (i := 7) (oi := { dst := some 48, op := Op.extract (Operand.tmp 41) 1, type := 25, pos := "law.go:73", after := #[{ on := 5, ground := Ground.data }, { on := 9, ground := Ground.gcOnly Departure.lateStores }], guard := none }) (v := ?_) rfl (by kernel_rfl) (by kernel_rfl) (by kernel_rfl) (fun _ _ _ h => h) (Or.inl ⟨by rfl, ?_⟩) hHeld ?_
        rotate_left
        · intro w' hSw; (try dsimp only at hSw); go_simp <;> with_reducible rfl
        try simp only [Act.put, List.setIfInBounds_toArray, List.set_cons_zero, List.set_cons_succ]
        refine wpAnyH_ready (rs := [9]) (by kernel_rfl) (by simp) ?_
        refine AllReadyH.cons (o := { dst := none, op := Op.store 24 (Operand.tmp 13) (Operand.tmp 47), type := 0, pos := "law.go:73", after := #[{ on := 8, ground := Ground.data }, { on := 6, ground := Ground.data }, { on := 4, ground := Ground.chain }, { on := 0, ground := Ground.phase }, { on := 1, ground := Ground.phase }, { on := 2, ground := Ground.phase }, { on := 3, ground := Ground.phase }, { on := 4, ground := Ground.phase }, { on := 5, ground := Ground.phase }, { on := 6, ground := Ground.phase }, { on := 7, ground := Ground.textOnly Departure.lateStores }, { on := 8, ground := Ground.phase }], guard := none }) rfl (fun K hK => ?_) AllReadyH.nil
        refine (if_pos (by rfl)).mpr ?_
        refine wp_store_row 24 _ _ rfl (NA.heap.size) #[.int .i64 th, .int .u64 tl] rfl rfl 24 #[.int .i64 0, .int .u64 0] hG size_W rfl (by simp [Value.oneCell']) ?_
        replace hG := hG.putRow #[.int .i64 th, .int .u64 tl]
        refine hK.out _ _ (MK.out _ (hHeld.1.setRow hGu #[.int .i64 th, .int .u64 tl])) (fun hHeld => ?_)
        clear hK K
        try simp only [Act.put, List.setIfInBounds_toArray, List.set_cons_zero, List.set_cons_succ]
        refine wpAnyH_take (i := 10) (oi := { dst := some 14, op := Op.assign (Operand.tmp 48), type := 25, pos := "law.go:73", after := #[{ on := 7, ground := Ground.data }, { on := 9, ground := Ground.chain }, { on := 0, ground := Ground.phase }, { on := 1, ground := Ground.phase }, { on := 2, ground := Ground.phase }, { on := 3, ground := Ground.phase }, { on := 4, ground := Ground.phase }, { on := 5, ground := Ground.phase }, { on := 6, ground := Ground.phase }, { on := 7, ground := Ground.phase }, { on := 8, ground := Ground.phase }, { on := 9, ground := Ground.phase }], guard := none }) (v := ?_) rfl (by kernel_rfl) (by kernel_rfl) (by kernel_rfl) (fun _ _ _ h => h) (Or.inl ⟨by rfl, ?_⟩) hHeld ?_
        rotate_left
        · intro w' hSw; (try dsimp only at hSw); go_simp <;> with_reducible rfl
        try simp only [Act.put, List.setIfInBounds_toArray, List.set_cons_zero, List.set_cons_succ]
        refine wpAnyH_done (by kernel_rfl) ?_ _
        refine NoPanic.normal ?_
        obtain ⟨NB, hNB⟩ : ∃ X, X = (v1).setRow (NA.heap.size) #[.int .i64 th, .int .u64 tl] := ⟨_, rfl⟩
        rw [← hNB] at hG hHeld ⊢
        clear hNB
        replace R_a := R_a.below hHeld.1.below R_a.lt
        replace R_b := R_b.below hHeld.1.below R_b.lt
        replace R_x := R_x.below hHeld.1.below R_x.lt
        replace R_y := R_y.below hHeld.1.below R_y.lt
        replace R_u := R_u.below hHeld.1.below R_u.lt
        have R_v := hG
        replace HU := HU.trans hHeld.1.below
        clear hG hHeld MK hGu
        go_wp2_with fail
        refine Calls.mono (P1.out _) ?_; rintro e w5 ⟨rfl, hb_w5⟩
        have z_w5 := hb_w5.size
        try simp only [alloc_size, setCell_size] at z_w5
        replace R_a := R_a.mod (Mod.of_below hb_w5 Nil) (fun hf => hf)
        replace R_b := R_b.mod (Mod.of_below hb_w5 Nil) (fun hf => hf)
        replace R_x := R_x.mod (Mod.of_below hb_w5 Nil) (fun hf => hf)
        replace R_y := R_y.mod (Mod.of_below hb_w5 Nil) (fun hf => hf)
        replace R_u := R_u.mod (Mod.of_below hb_w5 Nil) (fun hf => hf)
        replace R_v := R_v.mod (Mod.of_below hb_w5 Nil) (fun hf => hf)
        replace HU := HU.trans hb_w5
        clear hb_w5
        have R_p := Row.new (w5) 24 #[.int .i64 ph, .int .u64 pl]
        replace R_a := R_a.alloc (.cells #[.int .i64 ph, .int .u64 pl] 24)
        replace R_b := R_b.alloc (.cells #[.int .i64 ph, .int .u64 pl] 24)
        replace R_x := R_x.alloc (.cells #[.int .i64 ph, .int .u64 pl] 24)
        replace R_y := R_y.alloc (.cells #[.int .i64 ph, .int .u64 pl] 24)
        replace R_u := R_u.alloc (.cells #[.int .i64 ph, .int .u64 pl] 24)
        replace R_v := R_v.alloc (.cells #[.int .i64 ph, .int .u64 pl] 24)
        replace HU := HU.alloc (.cells #[.int .i64 ph, .int .u64 pl] 24)
        go_wp2_with fail
        refine Calls.mono (P2.out _) ?_; rintro e w6 ⟨rfl, hb_w6⟩
        have z_w6 := hb_w6.size
        try simp only [alloc_size, setCell_size] at z_w6
        replace R_a := R_a.mod (Mod.of_below hb_w6 Nil) (fun hf => hf)
        replace R_b := R_b.mod (Mod.of_below hb_w6 Nil) (fun hf => hf)
        replace R_x := R_x.mod (Mod.of_below hb_w6 Nil) (fun hf => hf)
        replace R_y := R_y.mod (Mod.of_below hb_w6 Nil) (fun hf => hf)
        replace R_u := R_u.mod (Mod.of_below hb_w6 Nil) (fun hf => hf)
        replace R_v := R_v.mod (Mod.of_below hb_w6 Nil) (fun hf => hf)
        replace R_p := R_p.mod (Mod.of_below hb_w6 Nil) (fun hf => hf)
        replace HU := HU.trans hb_w6
        clear hb_w6
        have R_q := Row.new (w6) 24 #[.int .i64 ph, .int .u64 pl]
        replace R_a := R_a.alloc (.cells #[.int .i64 ph, .int .u64 pl] 24)
        replace R_b := R_b.alloc (.cells #[.int .i64 ph, .int .u64 pl] 24)
        replace R_x := R_x.alloc (.cells #[.int .i64 ph, .int .u64 pl] 24)
        replace R_y := R_y.alloc (.cells #[.int .i64 ph, .int .u64 pl] 24)
        replace R_u := R_u.alloc (.cells #[.int .i64 ph, .int .u64 pl] 24)
        replace R_v := R_v.alloc (.cells #[.int .i64 ph, .int .u64 pl] 24)
        replace R_p := R_p.alloc (.cells #[.int .i64 ph, .int .u64 pl] 24)
        replace HU := HU.alloc (.cells #[.int .i64 ph, .int .u64 pl] 24)
        go_wp2_with fail
        obtain ⟨VE, h_VE⟩ : ∃ VE, VE = (w6).alloc (.cells #[.int .i64 ph, .int .u64 pl] 24) := ⟨_, rfl⟩
        rw [← h_VE]
        rw [← h_VE] at R_a R_b R_x R_y R_u R_v R_p R_q HU
        have z_VE : VE.heap.size = _ := congrArg (fun a => a.heap.size) h_VE
        try simp only [alloc_size, setCell_size] at z_VE
        clear h_VE
        refine (known_any VE (tab_below HT.out HU.below hg) (by have := HU.size; omega)).mono ?_; rintro e w7 ⟨rfl, hb_w7⟩
        have z_w7 := hb_w7.size
        try simp only [alloc_size, setCell_size] at z_w7
        replace R_a := R_a.mod (Mod.of_below hb_w7 Nil) (fun hf => hf)
        replace R_b := R_b.mod (Mod.of_below hb_w7 Nil) (fun hf => hf)
        replace R_x := R_x.mod (Mod.of_below hb_w7 Nil) (fun hf => hf)
        replace R_y := R_y.mod (Mod.of_below hb_w7 Nil) (fun hf => hf)
        replace R_u := R_u.mod (Mod.of_below hb_w7 Nil) (fun hf => hf)
        replace R_v := R_v.mod (Mod.of_below hb_w7 Nil) (fun hf => hf)
        replace R_p := R_p.mod (Mod.of_below hb_w7 Nil) (fun hf => hf)
        replace R_q := R_q.mod (Mod.of_below hb_w7 Nil) (fun hf => hf)
        replace HU := HU.trans hb_w7
        clear hb_w7
        have c5_0 := R_x.cell 0
        have c5_1 := R_x.cell 1
        have c6_0 := R_y.cell 0
        have c6_1 := R_y.cell 1
        have c7_0 := R_u.cell 0
        have c7_1 := R_u.cell 1
        have c8_0 := R_v.cell 0
        have c8_1 := R_v.cell 1
        have c9_0 := R_p.cell 0
        have c9_1 := R_p.cell 1
        have c10_0 := R_q.cell 0
        have c10_1 := R_q.cell 1
        simp at c5_0 c5_1 c6_0 c6_1 c7_0 c7_1 c8_0 c8_1 c9_0 c9_1 c10_0 c10_1
        go_wp2_with fail
        clear c5_0 c5_1 c6_0 c6_1 c7_0 c7_1 c8_0 c8_1 c9_0 c9_1 c10_0 c10_1
        go_ret
        exact ⟨rfl, HU.below⟩
    · skip
      go_simp
      have hG := Row.new (V.drew) 24 #[.int .i64 0, .int .u64 0]
      have hGu := hHeld.1.size
      refine hK.out _ _ (MK.out _ (hHeld.1.alloc _)) (fun hHeld => ?_)
      clear hK K
      try simp only [Act.put, List.setIfInBounds_toArray, List.set_cons_zero, List.set_cons_succ]
      replace hG : Row (V.drew.alloc (.cells #[.int .i64 0, .int .u64 0] 24)) V.heap.size 24 #[.int .i64 0, .int .u64 0] := hG
      replace hGu : V.heap.size ≤ V.heap.size := Nat.le_refl _
      refine wpAnyH_ready (rs := [4]) (by kernel_rfl) (by simp) ?_
      refine (AllReadyH.cons (o := { dst := some 38, op := Op.call { callee := Callee.value (Operand.func 18), args := #[Operand.tmp 34, Operand.tmp 35, Operand.tmp 37], argTypes := #[24, 24, 3] }, type := 26, pos := "law.go:72", after := #[{ on := 0, ground := Ground.data }, { on := 1, ground := Ground.data }, { on := 3, ground := Ground.data }, { on := 3, ground := Ground.chain }], guard := none }) rfl (fun K hK => ?_) AllReadyH.nil)
      go_simp
      refine Calls.mono (S3.out _) ?_; rintro e v1 ⟨rfl, hbk⟩
      replace hG := hG.mod (Mod.of_below hbk Nil) (fun hf => hf)
      refine hK.out _ _ (MK.out _ (hHeld.1.trans hbk)) (fun hHeld => ?_)
      clear hK K hbk
      try simp only [Act.put, List.setIfInBounds_toArray, List.set_cons_zero, List.set_cons_succ]
      refine wpAnyH_take (i := 5) (oi := { dst := some 33, op := Op.move (Operand.tmp 38), type := 26, pos := "law.go:72", after := #[{ on := 4, ground := Ground.data }], guard := none }) (v := ?_) rfl (by kernel_rfl) (by kernel_rfl) (by kernel_rfl) (fun _ _ _ h => h) (Or.inl ⟨by rfl, ?_⟩) hHeld ?_
      rotate_left
      · intro w' hSw; (try dsimp only at hSw); go_simp <;> with_reducible rfl
      try simp only [Act.put, List.setIfInBounds_toArray, List.set_cons_zero, List.set_cons_succ]
      refine wpAnyH_take (i := 6) (oi := { dst := some 39, op := Op.extract (Operand.tmp 33) 0, type := 24, pos := "law.go:72", after := #[{ on := 5, ground := Ground.data }], guard := none }) (v := ?_) rfl (by kernel_rfl) (by kernel_rfl) (by kernel_rfl) (fun _ _ _ h => h) (Or.inl ⟨by rfl, ?_⟩) hHeld ?_
      rotate_left
      · intro w' hSw; (try dsimp only at hSw); go_simp <;> with_reducible rfl
      try simp only [Act.put, List.setIfInBounds_toArray, List.set_cons_zero, List.set_cons_succ]
      refine wpAnyH_take (i := 7) (oi := { dst := some 40, op := Op.extract (Operand.tmp 33) 1, type := 25, pos := "law.go:72", after := #[{ on := 5, ground := Ground.data }, { on := 9, ground := Ground.gcOnly Departure.lateStores }], guard := none }) (v := ?_) rfl (by kernel_rfl) (by kernel_rfl) (by kernel_rfl) (fun _ _ _ h => h) (Or.inl ⟨by rfl, ?_⟩) hHeld ?_
      rotate_left
      · intro w' hSw; (try dsimp only at hSw); go_simp <;> with_reducible rfl
      try simp only [Act.put, List.setIfInBounds_toArray, List.set_cons_zero, List.set_cons_succ]
      refine wpAnyH_ready (rs := [9]) (by kernel_rfl) (by simp) ?_
      refine AllReadyH.cons (o := { dst := none, op := Op.store 24 (Operand.tmp 11) (Operand.tmp 39), type := 0, pos := "law.go:72", after := #[{ on := 8, ground := Ground.data }, { on := 6, ground := Ground.data }, { on := 4, ground := Ground.chain }, { on := 0, ground := Ground.phase }, { on := 1, ground := Ground.phase }, { on := 2, ground := Ground.phase }, { on := 3, ground := Ground.phase }, { on := 4, ground := Ground.phase }, { on := 5, ground := Ground.phase }, { on := 6, ground := Ground.phase }, { on := 7, ground := Ground.textOnly Departure.lateStores }, { on := 8, ground := Ground.phase }], guard := none }) rfl (fun K hK => ?_) AllReadyH.nil
      refine (if_pos (by rfl)).mpr ?_
      refine wp_store_row 24 _ _ rfl (V.heap.size) #[.int .i64 th, .int .u64 tl] rfl rfl 24 #[.int .i64 0, .int .u64 0] hG size_W rfl (by simp [Value.oneCell']) ?_
      replace hG := hG.putRow #[.int .i64 th, .int .u64 tl]
      refine hK.out _ _ (MK.out _ (hHeld.1.setRow hGu #[.int .i64 th, .int .u64 tl])) (fun hHeld => ?_)
      clear hK K
      try simp only [Act.put, List.setIfInBounds_toArray, List.set_cons_zero, List.set_cons_succ]
      refine wpAnyH_take (i := 10) (oi := { dst := some 12, op := Op.assign (Operand.tmp 40), type := 25, pos := "law.go:72", after := #[{ on := 7, ground := Ground.data }, { on := 9, ground := Ground.chain }, { on := 0, ground := Ground.phase }, { on := 1, ground := Ground.phase }, { on := 2, ground := Ground.phase }, { on := 3, ground := Ground.phase }, { on := 4, ground := Ground.phase }, { on := 5, ground := Ground.phase }, { on := 6, ground := Ground.phase }, { on := 7, ground := Ground.phase }, { on := 8, ground := Ground.phase }, { on := 9, ground := Ground.phase }], guard := none }) (v := ?_) rfl (by kernel_rfl) (by kernel_rfl) (by kernel_rfl) (fun _ _ _ h => h) (Or.inl ⟨by rfl, ?_⟩) hHeld ?_
      rotate_left
      · intro w' hSw; (try dsimp only at hSw); go_simp <;> with_reducible rfl
      try simp only [Act.put, List.setIfInBounds_toArray, List.set_cons_zero, List.set_cons_succ]
      refine wpAnyH_done (by kernel_rfl) ?_ _
      refine NoPanic.normal ?_
      obtain ⟨NA, hNA⟩ : ∃ X, X = (v1).setRow (V.heap.size) #[.int .i64 th, .int .u64 tl] := ⟨_, rfl⟩
      rw [← hNA] at hG hHeld ⊢
      clear hNA
      replace R_a := R_a.below hHeld.1.below R_a.lt
      replace R_b := R_b.below hHeld.1.below R_b.lt
      replace R_x := R_x.below hHeld.1.below R_x.lt
      replace R_y := R_y.below hHeld.1.below R_y.lt
      have R_u := hG
      replace HU := HU.trans hHeld.1.below
      clear hG hHeld MK hGu
      have c3_0 := R_a.cell 0
      have c3_1 := R_a.cell 1
      have c4_0 := R_b.cell 0
      have c4_1 := R_b.cell 1
      simp at c3_0 c3_1 c4_0 c4_1
      go_upto_region 4 with fail
      clear c3_0 c3_1 c4_0 c4_1
      have MK : ∀ W, Up NA.heap.size NA W → Up NA.heap.size NA W ∧ W.cell? ⟨w.heap.size, 0, none⟩ = some (.int .i64 ah) ∧ W.cell? ⟨w.heap.size, 1, none⟩ = some (.int .u64 al) ∧ W.cell? ⟨w.heap.size + 1, 0, none⟩ = some (.int .i64 bh) ∧ W.cell? ⟨w.heap.size + 1, 1, none⟩ = some (.int .u64 bl) := fun W hW => by
        have k_a := R_a.below hW.below R_a.lt
        have k_b := R_b.below hW.below R_b.lt
        exact ⟨hW, by simpa using k_a.cell 0, by simpa using k_a.cell 1, by simpa using k_b.cell 0, by simpa using k_b.cell 1⟩
      have MK := hid MK
      refine wp_region_noPanic ?_
      refine wp_region_held_drew (S := fun W => Up NA.heap.size NA W ∧ W.cell? ⟨w.heap.size, 0, none⟩ = some (.int .i64 ah) ∧ W.cell? ⟨w.heap.size, 1, none⟩ = some (.int .u64 al) ∧ W.cell? ⟨w.heap.size + 1, 0, none⟩ = some (.int .i64 bh) ∧ W.cell? ⟨w.heap.size + 1, 1, none⟩ = some (.int .u64 bl)) (by kernel_rfl) (MK.out _ (Up.refl NA).drew) (fun hHeld => ?_)
      refine wpAnyH_take (i := 0) (oi := { dst := some 42, op := Op.load 24 (Operand.tmp 3), type := 24, pos := "law.go:73", after := #[], guard := none }) (v := ?_) rfl (by kernel_rfl) (by kernel_rfl) (by kernel_rfl) (fun _ _ _ h => h) (Or.inl ⟨by rfl, ?_⟩) hHeld ?_
      rotate_left
      · intro w' hSw; (try dsimp only at hSw); go_simp <;> with_reducible rfl
      try simp only [Act.put, List.setIfInBounds_toArray, List.set_cons_zero, List.set_cons_succ]
      refine wpAnyH_take (i := 1) (oi := { dst := some 43, op := Op.load 24 (Operand.tmp 4), type := 24, pos := "law.go:73", after := #[], guard := none }) (v := ?_) rfl (by kernel_rfl) (by kernel_rfl) (by kernel_rfl) (fun _ _ _ h => h) (Or.inl ⟨by rfl, ?_⟩) hHeld ?_
      rotate_left
      · intro w' hSw; (try dsimp only at hSw); go_simp <;> with_reducible rfl
      try simp only [Act.put, List.setIfInBounds_toArray, List.set_cons_zero, List.set_cons_succ]
      refine wpAnyH_take (i := 2) (oi := { dst := some 44, op := Op.move (Operand.tmp 2), type := 3, pos := "law.go:73", after := #[], guard := none }) (v := ?_) rfl (by kernel_rfl) (by kernel_rfl) (by kernel_rfl) (fun _ _ _ h => h) (Or.inl ⟨by rfl, ?_⟩) hHeld ?_
      rotate_left
      · intro w' hSw; (try dsimp only at hSw); go_simp <;> with_reducible rfl
      try simp only [Act.put, List.setIfInBounds_toArray, List.set_cons_zero, List.set_cons_succ]
      refine wpAnyH_ready (rs := [3, 8]) (by kernel_rfl) (by simp) ?_
      refine (AllReadyH.cons (o := { dst := some 45, op := Op.call { callee := Callee.value (Operand.func 34), args := #[Operand.tmp 44, Operand.const (Value.int IntKind.i64 37)], argTypes := #[3, 3] }, type := 3, pos := "law.go:73", after := #[{ on := 2, ground := Ground.data }], guard := none }) rfl (fun K hK => ?_) (AllReadyH.cons (o := { dst := some 13, op := Op.alloc 24, type := 0, pos := "law.go:73", after := #[], guard := none }) rfl (fun K hK => ?_) AllReadyH.nil))
      · skip
        go_simp
        refine Calls.mono (PK.out _) ?_; rintro e _ ⟨rfl, rfl⟩
        refine hK.out _ _ hHeld (fun hHeld => ?_)
        clear hK K
        try simp only [Act.put, List.setIfInBounds_toArray, List.set_cons_zero, List.set_cons_succ]
        refine wpAnyH_ready (rs := [4, 8]) (by kernel_rfl) (by simp) ?_
        refine (AllReadyH.cons (o := { dst := some 46, op := Op.call { callee := Callee.value (Operand.func 33), args := #[Operand.tmp 42, Operand.tmp 43, Operand.tmp 45], argTypes := #[24, 24, 3] }, type := 26, pos := "law.go:73", after := #[{ on := 0, ground := Ground.data }, { on := 1, ground := Ground.data }, { on := 3, ground := Ground.data }, { on := 3, ground := Ground.chain }], guard := none }) rfl (fun K hK => ?_) (AllReadyH.cons (o := { dst := some 13, op := Op.alloc 24, type := 0, pos := "law.go:73", after := #[], guard := none }) rfl (fun K hK => ?_) AllReadyH.nil))
        · skip
          go_simp
          refine Calls.mono (S4.out _) ?_; rintro e v1 ⟨rfl, hbk⟩
          refine hK.out _ _ (MK.out _ (hHeld.1.trans hbk)) (fun hHeld => ?_)
          clear hK K hbk
          try simp only [Act.put, List.setIfInBounds_toArray, List.set_cons_zero, List.set_cons_succ]
          refine wpAnyH_take (i := 5) (oi := { dst := some 41, op := Op.move (Operand.tmp 46), type := 26, pos := "law.go:73", after := #[{ on := 4, ground := Ground.data }], guard := none }) (v := ?_) rfl (by kernel_rfl) (by kernel_rfl) (by kernel_rfl) (fun _ _ _ h => h) (Or.inl ⟨by rfl, ?_⟩) hHeld ?_
          rotate_left
          · intro w' hSw; (try dsimp only at hSw); go_simp <;> with_reducible rfl
          try simp only [Act.put, List.setIfInBounds_toArray, List.set_cons_zero, List.set_cons_succ]
          refine wpAnyH_take (i := 6) (oi := { dst := some 47, op := Op.extract (Operand.tmp 41) 0, type := 24, pos := "law.go:73", after := #[{ on := 5, ground := Ground.data }], guard := none }) (v := ?_) rfl (by kernel_rfl) (by kernel_rfl) (by kernel_rfl) (fun _ _ _ h => h) (Or.inl ⟨by rfl, ?_⟩) hHeld ?_
          rotate_left
          · intro w' hSw; (try dsimp only at hSw); go_simp <;> with_reducible rfl
          try simp only [Act.put, List.setIfInBounds_toArray, List.set_cons_zero, List.set_cons_succ]
          refine wpAnyH_take (i := 7) (oi := { dst := some 48, op := Op.extract (Operand.tmp 41) 1, type := 25, pos := "law.go:73", after := #[{ on := 5, ground := Ground.data }, { on := 9, ground := Ground.gcOnly Departure.lateStores }], guard := none }) (v := ?_) rfl (by kernel_rfl) (by kernel_rfl) (by kernel_rfl) (fun _ _ _ h => h) (Or.inl ⟨by rfl, ?_⟩) hHeld ?_
          rotate_left
          · intro w' hSw; (try dsimp only at hSw); go_simp <;> with_reducible rfl
          try simp only [Act.put, List.setIfInBounds_toArray, List.set_cons_zero, List.set_cons_succ]
          refine wpAnyH_ready (rs := [8]) (by kernel_rfl) (by simp) ?_
          refine (AllReadyH.cons (o := { dst := some 13, op := Op.alloc 24, type := 0, pos := "law.go:73", after := #[], guard := none }) rfl (fun K hK => ?_) AllReadyH.nil)
          go_simp
          have hG := Row.new (v1) 24 #[.int .i64 0, .int .u64 0]
          have hGu := hHeld.1.size
          refine hK.out _ _ (MK.out _ (hHeld.1.alloc _)) (fun hHeld => ?_)
          clear hK K
          try simp only [Act.put, List.setIfInBounds_toArray, List.set_cons_zero, List.set_cons_succ]
          obtain ⟨gB, hgB⟩ : ∃ g, g = (v1).heap.size := ⟨_, rfl⟩
          rw [← hgB] at hG hGu ⊢
          clear hgB
          refine wpAnyH_ready (rs := [9]) (by kernel_rfl) (by simp) ?_
          refine AllReadyH.cons (o := { dst := none, op := Op.store 24 (Operand.tmp 13) (Operand.tmp 47), type := 0, pos := "law.go:73", after := #[{ on := 8, ground := Ground.data }, { on := 6, ground := Ground.data }, { on := 4, ground := Ground.chain }, { on := 0, ground := Ground.phase }, { on := 1, ground := Ground.phase }, { on := 2, ground := Ground.phase }, { on := 3, ground := Ground.phase }, { on := 4, ground := Ground.phase }, { on := 5, ground := Ground.phase }, { on := 6, ground := Ground.phase }, { on := 7, ground := Ground.textOnly Departure.lateStores }, { on := 8, ground := Ground.phase }], guard := none }) rfl (fun K hK => ?_) AllReadyH.nil
          refine (if_pos (by rfl)).mpr ?_
          refine wp_store_row 24 _ _ rfl (gB) #[.int .i64 th, .int .u64 tl] rfl rfl 24 #[.int .i64 0, .int .u64 0] hG size_W rfl (by simp [Value.oneCell']) ?_
          replace hG := hG.putRow #[.int .i64 th, .int .u64 tl]
          refine hK.out _ _ (MK.out _ (hHeld.1.setRow hGu #[.int .i64 th, .int .u64 tl])) (fun hHeld => ?_)
          clear hK K
          try simp only [Act.put, List.setIfInBounds_toArray, List.set_cons_zero, List.set_cons_succ]
          refine wpAnyH_take (i := 10) (oi := { dst := some 14, op := Op.assign (Operand.tmp 48), type := 25, pos := "law.go:73", after := #[{ on := 7, ground := Ground.data }, { on := 9, ground := Ground.chain }, { on := 0, ground := Ground.phase }, { on := 1, ground := Ground.phase }, { on := 2, ground := Ground.phase }, { on := 3, ground := Ground.phase }, { on := 4, ground := Ground.phase }, { on := 5, ground := Ground.phase }, { on := 6, ground := Ground.phase }, { on := 7, ground := Ground.phase }, { on := 8, ground := Ground.phase }, { on := 9, ground := Ground.phase }], guard := none }) (v := ?_) rfl (by kernel_rfl) (by kernel_rfl) (by kernel_rfl) (fun _ _ _ h => h) (Or.inl ⟨by rfl, ?_⟩) hHeld ?_
          rotate_left
          · intro w' hSw; (try dsimp only at hSw); go_simp <;> with_reducible rfl
          try simp only [Act.put, List.setIfInBounds_toArray, List.set_cons_zero, List.set_cons_succ]
          refine wpAnyH_done (by kernel_rfl) ?_ _
          refine NoPanic.normal ?_
          obtain ⟨NB, hNB⟩ : ∃ X, X = (v1.alloc (.cells #[.int .i64 0, .int .u64 0] 24)).setRow (gB) #[.int .i64 th, .int .u64 tl] := ⟨_, rfl⟩
          rw [← hNB] at hG hHeld ⊢
          clear hNB
          replace R_a := R_a.below hHeld.1.below R_a.lt
          replace R_b := R_b.below hHeld.1.below R_b.lt
          replace R_x := R_x.below hHeld.1.below R_x.lt
          replace R_y := R_y.below hHeld.1.below R_y.lt
          replace R_u := R_u.below hHeld.1.below R_u.lt
          have R_v := hG
          replace HU := HU.trans hHeld.1.below
          clear hG hHeld MK hGu
          go_wp2_with fail
          refine Calls.mono (P1.out _) ?_; rintro e w5 ⟨rfl, hb_w5⟩
          have z_w5 := hb_w5.size
          try simp only [alloc_size, setCell_size] at z_w5
          replace R_a := R_a.mod (Mod.of_below hb_w5 Nil) (fun hf => hf)
          replace R_b := R_b.mod (Mod.of_below hb_w5 Nil) (fun hf => hf)
          replace R_x := R_x.mod (Mod.of_below hb_w5 Nil) (fun hf => hf)
          replace R_y := R_y.mod (Mod.of_below hb_w5 Nil) (fun hf => hf)
          replace R_u := R_u.mod (Mod.of_below hb_w5 Nil) (fun hf => hf)
          replace R_v := R_v.mod (Mod.of_below hb_w5 Nil) (fun hf => hf)
          replace HU := HU.trans hb_w5
          clear hb_w5
          have R_p := Row.new (w5) 24 #[.int .i64 ph, .int .u64 pl]
          replace R_a := R_a.alloc (.cells #[.int .i64 ph, .int .u64 pl] 24)
          replace R_b := R_b.alloc (.cells #[.int .i64 ph, .int .u64 pl] 24)
          replace R_x := R_x.alloc (.cells #[.int .i64 ph, .int .u64 pl] 24)
          replace R_y := R_y.alloc (.cells #[.int .i64 ph, .int .u64 pl] 24)
          replace R_u := R_u.alloc (.cells #[.int .i64 ph, .int .u64 pl] 24)
          replace R_v := R_v.alloc (.cells #[.int .i64 ph, .int .u64 pl] 24)
          replace HU := HU.alloc (.cells #[.int .i64 ph, .int .u64 pl] 24)
          go_wp2_with fail
          refine Calls.mono (P2.out _) ?_; rintro e w6 ⟨rfl, hb_w6⟩
          have z_w6 := hb_w6.size
          try simp only [alloc_size, setCell_size] at z_w6
          replace R_a := R_a.mod (Mod.of_below hb_w6 Nil) (fun hf => hf)
          replace R_b := R_b.mod (Mod.of_below hb_w6 Nil) (fun hf => hf)
          replace R_x := R_x.mod (Mod.of_below hb_w6 Nil) (fun hf => hf)
          replace R_y := R_y.mod (Mod.of_below hb_w6 Nil) (fun hf => hf)
          replace R_u := R_u.mod (Mod.of_below hb_w6 Nil) (fun hf => hf)
          replace R_v := R_v.mod (Mod.of_below hb_w6 Nil) (fun hf => hf)
          replace R_p := R_p.mod (Mod.of_below hb_w6 Nil) (fun hf => hf)
          replace HU := HU.trans hb_w6
          clear hb_w6
          have R_q := Row.new (w6) 24 #[.int .i64 ph, .int .u64 pl]
          replace R_a := R_a.alloc (.cells #[.int .i64 ph, .int .u64 pl] 24)
          replace R_b := R_b.alloc (.cells #[.int .i64 ph, .int .u64 pl] 24)
          replace R_x := R_x.alloc (.cells #[.int .i64 ph, .int .u64 pl] 24)
          replace R_y := R_y.alloc (.cells #[.int .i64 ph, .int .u64 pl] 24)
          replace R_u := R_u.alloc (.cells #[.int .i64 ph, .int .u64 pl] 24)
          replace R_v := R_v.alloc (.cells #[.int .i64 ph, .int .u64 pl] 24)
          replace R_p := R_p.alloc (.cells #[.int .i64 ph, .int .u64 pl] 24)
          replace HU := HU.alloc (.cells #[.int .i64 ph, .int .u64 pl] 24)
          go_wp2_with fail
          obtain ⟨VE, h_VE⟩ : ∃ VE, VE = (w6).alloc (.cells #[.int .i64 ph, .int .u64 pl] 24) := ⟨_, rfl⟩
          rw [← h_VE]
          rw [← h_VE] at R_a R_b R_x R_y R_u R_v R_p R_q HU
          have z_VE : VE.heap.size = _ := congrArg (fun a => a.heap.size) h_VE
          try simp only [alloc_size, setCell_size] at z_VE
          clear h_VE
          refine (known_any VE (tab_below HT.out HU.below hg) (by have := HU.size; omega)).mono ?_; rintro e w7 ⟨rfl, hb_w7⟩
          have z_w7 := hb_w7.size
          try simp only [alloc_size, setCell_size] at z_w7
          replace R_a := R_a.mod (Mod.of_below hb_w7 Nil) (fun hf => hf)
          replace R_b := R_b.mod (Mod.of_below hb_w7 Nil) (fun hf => hf)
          replace R_x := R_x.mod (Mod.of_below hb_w7 Nil) (fun hf => hf)
          replace R_y := R_y.mod (Mod.of_below hb_w7 Nil) (fun hf => hf)
          replace R_u := R_u.mod (Mod.of_below hb_w7 Nil) (fun hf => hf)
          replace R_v := R_v.mod (Mod.of_below hb_w7 Nil) (fun hf => hf)
          replace R_p := R_p.mod (Mod.of_below hb_w7 Nil) (fun hf => hf)
          replace R_q := R_q.mod (Mod.of_below hb_w7 Nil) (fun hf => hf)
          replace HU := HU.trans hb_w7
          clear hb_w7
          have c5_0 := R_x.cell 0
          have c5_1 := R_x.cell 1
          have c6_0 := R_y.cell 0
          have c6_1 := R_y.cell 1
          have c7_0 := R_u.cell 0
          have c7_1 := R_u.cell 1
          have c8_0 := R_v.cell 0
          have c8_1 := R_v.cell 1
          have c9_0 := R_p.cell 0
          have c9_1 := R_p.cell 1
          have c10_0 := R_q.cell 0
          have c10_1 := R_q.cell 1
          simp at c5_0 c5_1 c6_0 c6_1 c7_0 c7_1 c8_0 c8_1 c9_0 c9_1 c10_0 c10_1
          go_wp2_with fail
          clear c5_0 c5_1 c6_0 c6_1 c7_0 c7_1 c8_0 c8_1 c9_0 c9_1 c10_0 c10_1
          go_ret
          exact ⟨rfl, HU.below⟩
        · skip
          go_simp
          have hG := Row.new (NA.drew) 24 #[.int .i64 0, .int .u64 0]
          have hGu := hHeld.1.size
          refine hK.out _ _ (MK.out _ (hHeld.1.alloc _)) (fun hHeld => ?_)
          clear hK K
          try simp only [Act.put, List.setIfInBounds_toArray, List.set_cons_zero, List.set_cons_succ]
          replace hG : Row (NA.drew.alloc (.cells #[.int .i64 0, .int .u64 0] 24)) NA.heap.size 24 #[.int .i64 0, .int .u64 0] := hG
          replace hGu : NA.heap.size ≤ NA.heap.size := Nat.le_refl _
          refine wpAnyH_ready (rs := [4]) (by kernel_rfl) (by simp) ?_
          refine (AllReadyH.cons (o := { dst := some 46, op := Op.call { callee := Callee.value (Operand.func 33), args := #[Operand.tmp 42, Operand.tmp 43, Operand.tmp 45], argTypes := #[24, 24, 3] }, type := 26, pos := "law.go:73", after := #[{ on := 0, ground := Ground.data }, { on := 1, ground := Ground.data }, { on := 3, ground := Ground.data }, { on := 3, ground := Ground.chain }], guard := none }) rfl (fun K hK => ?_) AllReadyH.nil)
          go_simp
          refine Calls.mono (S4.out _) ?_; rintro e v1 ⟨rfl, hbk⟩
          replace hG := hG.mod (Mod.of_below hbk Nil) (fun hf => hf)
          refine hK.out _ _ (MK.out _ (hHeld.1.trans hbk)) (fun hHeld => ?_)
          clear hK K hbk
          try simp only [Act.put, List.setIfInBounds_toArray, List.set_cons_zero, List.set_cons_succ]
          refine wpAnyH_take (i := 5) (oi := { dst := some 41, op := Op.move (Operand.tmp 46), type := 26, pos := "law.go:73", after := #[{ on := 4, ground := Ground.data }], guard := none }) (v := ?_) rfl (by kernel_rfl) (by kernel_rfl) (by kernel_rfl) (fun _ _ _ h => h) (Or.inl ⟨by rfl, ?_⟩) hHeld ?_
          rotate_left
          · intro w' hSw; (try dsimp only at hSw); go_simp <;> with_reducible rfl
          try simp only [Act.put, List.setIfInBounds_toArray, List.set_cons_zero, List.set_cons_succ]
          refine wpAnyH_take (i := 6) (oi := { dst := some 47, op := Op.extract (Operand.tmp 41) 0, type := 24, pos := "law.go:73", after := #[{ on := 5, ground := Ground.data }], guard := none }) (v := ?_) rfl (by kernel_rfl) (by kernel_rfl) (by kernel_rfl) (fun _ _ _ h => h) (Or.inl ⟨by rfl, ?_⟩) hHeld ?_
          rotate_left
          · intro w' hSw; (try dsimp only at hSw); go_simp <;> with_reducible rfl
          try simp only [Act.put, List.setIfInBounds_toArray, List.set_cons_zero, List.set_cons_succ]
          refine wpAnyH_take (i := 7) (oi := { dst := some 48, op := Op.extract (Operand.tmp 41) 1, type := 25, pos := "law.go:73", after := #[{ on := 5, ground := Ground.data }, { on := 9, ground := Ground.gcOnly Departure.lateStores }], guard := none }) (v := ?_) rfl (by kernel_rfl) (by kernel_rfl) (by kernel_rfl) (fun _ _ _ h => h) (Or.inl ⟨by rfl, ?_⟩) hHeld ?_
          rotate_left
          · intro w' hSw; (try dsimp only at hSw); go_simp <;> with_reducible rfl
          try simp only [Act.put, List.setIfInBounds_toArray, List.set_cons_zero, List.set_cons_succ]
          refine wpAnyH_ready (rs := [9]) (by kernel_rfl) (by simp) ?_
          refine AllReadyH.cons (o := { dst := none, op := Op.store 24 (Operand.tmp 13) (Operand.tmp 47), type := 0, pos := "law.go:73", after := #[{ on := 8, ground := Ground.data }, { on := 6, ground := Ground.data }, { on := 4, ground := Ground.chain }, { on := 0, ground := Ground.phase }, { on := 1, ground := Ground.phase }, { on := 2, ground := Ground.phase }, { on := 3, ground := Ground.phase }, { on := 4, ground := Ground.phase }, { on := 5, ground := Ground.phase }, { on := 6, ground := Ground.phase }, { on := 7, ground := Ground.textOnly Departure.lateStores }, { on := 8, ground := Ground.phase }], guard := none }) rfl (fun K hK => ?_) AllReadyH.nil
          refine (if_pos (by rfl)).mpr ?_
          refine wp_store_row 24 _ _ rfl (NA.heap.size) #[.int .i64 th, .int .u64 tl] rfl rfl 24 #[.int .i64 0, .int .u64 0] hG size_W rfl (by simp [Value.oneCell']) ?_
          replace hG := hG.putRow #[.int .i64 th, .int .u64 tl]
          refine hK.out _ _ (MK.out _ (hHeld.1.setRow hGu #[.int .i64 th, .int .u64 tl])) (fun hHeld => ?_)
          clear hK K
          try simp only [Act.put, List.setIfInBounds_toArray, List.set_cons_zero, List.set_cons_succ]
          refine wpAnyH_take (i := 10) (oi := { dst := some 14, op := Op.assign (Operand.tmp 48), type := 25, pos := "law.go:73", after := #[{ on := 7, ground := Ground.data }, { on := 9, ground := Ground.chain }, { on := 0, ground := Ground.phase }, { on := 1, ground := Ground.phase }, { on := 2, ground := Ground.phase }, { on := 3, ground := Ground.phase }, { on := 4, ground := Ground.phase }, { on := 5, ground := Ground.phase }, { on := 6, ground := Ground.phase }, { on := 7, ground := Ground.phase }, { on := 8, ground := Ground.phase }, { on := 9, ground := Ground.phase }], guard := none }) (v := ?_) rfl (by kernel_rfl) (by kernel_rfl) (by kernel_rfl) (fun _ _ _ h => h) (Or.inl ⟨by rfl, ?_⟩) hHeld ?_
          rotate_left
          · intro w' hSw; (try dsimp only at hSw); go_simp <;> with_reducible rfl
          try simp only [Act.put, List.setIfInBounds_toArray, List.set_cons_zero, List.set_cons_succ]
          refine wpAnyH_done (by kernel_rfl) ?_ _
          refine NoPanic.normal ?_
          obtain ⟨NB, hNB⟩ : ∃ X, X = (v1).setRow (NA.heap.size) #[.int .i64 th, .int .u64 tl] := ⟨_, rfl⟩
          rw [← hNB] at hG hHeld ⊢
          clear hNB
          replace R_a := R_a.below hHeld.1.below R_a.lt
          replace R_b := R_b.below hHeld.1.below R_b.lt
          replace R_x := R_x.below hHeld.1.below R_x.lt
          replace R_y := R_y.below hHeld.1.below R_y.lt
          replace R_u := R_u.below hHeld.1.below R_u.lt
          have R_v := hG
          replace HU := HU.trans hHeld.1.below
          clear hG hHeld MK hGu
          go_wp2_with fail
          refine Calls.mono (P1.out _) ?_; rintro e w5 ⟨rfl, hb_w5⟩
          have z_w5 := hb_w5.size
          try simp only [alloc_size, setCell_size] at z_w5
          replace R_a := R_a.mod (Mod.of_below hb_w5 Nil) (fun hf => hf)
          replace R_b := R_b.mod (Mod.of_below hb_w5 Nil) (fun hf => hf)
          replace R_x := R_x.mod (Mod.of_below hb_w5 Nil) (fun hf => hf)
          replace R_y := R_y.mod (Mod.of_below hb_w5 Nil) (fun hf => hf)
          replace R_u := R_u.mod (Mod.of_below hb_w5 Nil) (fun hf => hf)
          replace R_v := R_v.mod (Mod.of_below hb_w5 Nil) (fun hf => hf)
          replace HU := HU.trans hb_w5
          clear hb_w5
          have R_p := Row.new (w5) 24 #[.int .i64 ph, .int .u64 pl]
          replace R_a := R_a.alloc (.cells #[.int .i64 ph, .int .u64 pl] 24)
          replace R_b := R_b.alloc (.cells #[.int .i64 ph, .int .u64 pl] 24)
          replace R_x := R_x.alloc (.cells #[.int .i64 ph, .int .u64 pl] 24)
          replace R_y := R_y.alloc (.cells #[.int .i64 ph, .int .u64 pl] 24)
          replace R_u := R_u.alloc (.cells #[.int .i64 ph, .int .u64 pl] 24)
          replace R_v := R_v.alloc (.cells #[.int .i64 ph, .int .u64 pl] 24)
          replace HU := HU.alloc (.cells #[.int .i64 ph, .int .u64 pl] 24)
          go_wp2_with fail
          refine Calls.mono (P2.out _) ?_; rintro e w6 ⟨rfl, hb_w6⟩
          have z_w6 := hb_w6.size
          try simp only [alloc_size, setCell_size] at z_w6
          replace R_a := R_a.mod (Mod.of_below hb_w6 Nil) (fun hf => hf)
          replace R_b := R_b.mod (Mod.of_below hb_w6 Nil) (fun hf => hf)
          replace R_x := R_x.mod (Mod.of_below hb_w6 Nil) (fun hf => hf)
          replace R_y := R_y.mod (Mod.of_below hb_w6 Nil) (fun hf => hf)
          replace R_u := R_u.mod (Mod.of_below hb_w6 Nil) (fun hf => hf)
          replace R_v := R_v.mod (Mod.of_below hb_w6 Nil) (fun hf => hf)
          replace R_p := R_p.mod (Mod.of_below hb_w6 Nil) (fun hf => hf)
          replace HU := HU.trans hb_w6
          clear hb_w6
          have R_q := Row.new (w6) 24 #[.int .i64 ph, .int .u64 pl]
          replace R_a := R_a.alloc (.cells #[.int .i64 ph, .int .u64 pl] 24)
          replace R_b := R_b.alloc (.cells #[.int .i64 ph, .int .u64 pl] 24)
          replace R_x := R_x.alloc (.cells #[.int .i64 ph, .int .u64 pl] 24)
          replace R_y := R_y.alloc (.cells #[.int .i64 ph, .int .u64 pl] 24)
          replace R_u := R_u.alloc (.cells #[.int .i64 ph, .int .u64 pl] 24)
          replace R_v := R_v.alloc (.cells #[.int .i64 ph, .int .u64 pl] 24)
          replace R_p := R_p.alloc (.cells #[.int .i64 ph, .int .u64 pl] 24)
          replace HU := HU.alloc (.cells #[.int .i64 ph, .int .u64 pl] 24)
          go_wp2_with fail
          obtain ⟨VE, h_VE⟩ : ∃ VE, VE = (w6).alloc (.cells #[.int .i64 ph, .int .u64 pl] 24) := ⟨_, rfl⟩
          rw [← h_VE]
          rw [← h_VE] at R_a R_b R_x R_y R_u R_v R_p R_q HU
          have z_VE : VE.heap.size = _ := congrArg (fun a => a.heap.size) h_VE
          try simp only [alloc_size, setCell_size] at z_VE
          clear h_VE
          refine (known_any VE (tab_below HT.out HU.below hg) (by have := HU.size; omega)).mono ?_; rintro e w7 ⟨rfl, hb_w7⟩
          have z_w7 := hb_w7.size
          try simp only [alloc_size, setCell_size] at z_w7
          replace R_a := R_a.mod (Mod.of_below hb_w7 Nil) (fun hf => hf)
          replace R_b := R_b.mod (Mod.of_below hb_w7 Nil) (fun hf => hf)
          replace R_x := R_x.mod (Mod.of_below hb_w7 Nil) (fun hf => hf)
          replace R_y := R_y.mod (Mod.of_below hb_w7 Nil) (fun hf => hf)
          replace R_u := R_u.mod (Mod.of_below hb_w7 Nil) (fun hf => hf)
          replace R_v := R_v.mod (Mod.of_below hb_w7 Nil) (fun hf => hf)
          replace R_p := R_p.mod (Mod.of_below hb_w7 Nil) (fun hf => hf)
          replace R_q := R_q.mod (Mod.of_below hb_w7 Nil) (fun hf => hf)
          replace HU := HU.trans hb_w7
          clear hb_w7
          have c5_0 := R_x.cell 0
          have c5_1 := R_x.cell 1
          have c6_0 := R_y.cell 0
          have c6_1 := R_y.cell 1
          have c7_0 := R_u.cell 0
          have c7_1 := R_u.cell 1
          have c8_0 := R_v.cell 0
          have c8_1 := R_v.cell 1
          have c9_0 := R_p.cell 0
          have c9_1 := R_p.cell 1
          have c10_0 := R_q.cell 0
          have c10_1 := R_q.cell 1
          simp at c5_0 c5_1 c6_0 c6_1 c7_0 c7_1 c8_0 c8_1 c9_0 c9_1 c10_0 c10_1
          go_wp2_with fail
          clear c5_0 c5_1 c6_0 c6_1 c7_0 c7_1 c8_0 c8_1 c9_0 c9_1 c10_0 c10_1
          go_ret
          exact ⟨rfl, HU.below⟩
      · skip
        go_simp
        have hG := Row.new (NA.drew) 24 #[.int .i64 0, .int .u64 0]
        have hGu := hHeld.1.size
        refine hK.out _ _ (MK.out _ (hHeld.1.alloc _)) (fun hHeld => ?_)
        clear hK K
        try simp only [Act.put, List.setIfInBounds_toArray, List.set_cons_zero, List.set_cons_succ]
        replace hG : Row (NA.drew.alloc (.cells #[.int .i64 0, .int .u64 0] 24)) NA.heap.size 24 #[.int .i64 0, .int .u64 0] := hG
        replace hGu : NA.heap.size ≤ NA.heap.size := Nat.le_refl _
        refine wpAnyH_ready (rs := [3]) (by kernel_rfl) (by simp) ?_
        refine (AllReadyH.cons (o := { dst := some 45, op := Op.call { callee := Callee.value (Operand.func 34), args := #[Operand.tmp 44, Operand.const (Value.int IntKind.i64 37)], argTypes := #[3, 3] }, type := 3, pos := "law.go:73", after := #[{ on := 2, ground := Ground.data }], guard := none }) rfl (fun K hK => ?_) AllReadyH.nil)
        go_simp
        refine Calls.mono (PK.out _) ?_; rintro e _ ⟨rfl, rfl⟩
        refine hK.out _ _ hHeld (fun hHeld => ?_)
        clear hK K
        try simp only [Act.put, List.setIfInBounds_toArray, List.set_cons_zero, List.set_cons_succ]
        refine wpAnyH_ready (rs := [4]) (by kernel_rfl) (by simp) ?_
        refine (AllReadyH.cons (o := { dst := some 46, op := Op.call { callee := Callee.value (Operand.func 33), args := #[Operand.tmp 42, Operand.tmp 43, Operand.tmp 45], argTypes := #[24, 24, 3] }, type := 26, pos := "law.go:73", after := #[{ on := 0, ground := Ground.data }, { on := 1, ground := Ground.data }, { on := 3, ground := Ground.data }, { on := 3, ground := Ground.chain }], guard := none }) rfl (fun K hK => ?_) AllReadyH.nil)
        go_simp
        refine Calls.mono (S4.out _) ?_; rintro e v1 ⟨rfl, hbk⟩
        replace hG := hG.mod (Mod.of_below hbk Nil) (fun hf => hf)
        refine hK.out _ _ (MK.out _ (hHeld.1.trans hbk)) (fun hHeld => ?_)
        clear hK K hbk
        try simp only [Act.put, List.setIfInBounds_toArray, List.set_cons_zero, List.set_cons_succ]
        refine wpAnyH_take (i := 5) (oi := { dst := some 41, op := Op.move (Operand.tmp 46), type := 26, pos := "law.go:73", after := #[{ on := 4, ground := Ground.data }], guard := none }) (v := ?_) rfl (by kernel_rfl) (by kernel_rfl) (by kernel_rfl) (fun _ _ _ h => h) (Or.inl ⟨by rfl, ?_⟩) hHeld ?_
        rotate_left
        · intro w' hSw; (try dsimp only at hSw); go_simp <;> with_reducible rfl
        try simp only [Act.put, List.setIfInBounds_toArray, List.set_cons_zero, List.set_cons_succ]
        refine wpAnyH_take (i := 6) (oi := { dst := some 47, op := Op.extract (Operand.tmp 41) 0, type := 24, pos := "law.go:73", after := #[{ on := 5, ground := Ground.data }], guard := none }) (v := ?_) rfl (by kernel_rfl) (by kernel_rfl) (by kernel_rfl) (fun _ _ _ h => h) (Or.inl ⟨by rfl, ?_⟩) hHeld ?_
        rotate_left
        · intro w' hSw; (try dsimp only at hSw); go_simp <;> with_reducible rfl
        try simp only [Act.put, List.setIfInBounds_toArray, List.set_cons_zero, List.set_cons_succ]
        refine wpAnyH_take (i := 7) (oi := { dst := some 48, op := Op.extract (Operand.tmp 41) 1, type := 25, pos := "law.go:73", after := #[{ on := 5, ground := Ground.data }, { on := 9, ground := Ground.gcOnly Departure.lateStores }], guard := none }) (v := ?_) rfl (by kernel_rfl) (by kernel_rfl) (by kernel_rfl) (fun _ _ _ h => h) (Or.inl ⟨by rfl, ?_⟩) hHeld ?_
        rotate_left
        · intro w' hSw; (try dsimp only at hSw); go_simp <;> with_reducible rfl
        try simp only [Act.put, List.setIfInBounds_toArray, List.set_cons_zero, List.set_cons_succ]
        refine wpAnyH_ready (rs := [9]) (by kernel_rfl) (by simp) ?_
        refine AllReadyH.cons (o := { dst := none, op := Op.store 24 (Operand.tmp 13) (Operand.tmp 47), type := 0, pos := "law.go:73", after := #[{ on := 8, ground := Ground.data }, { on := 6, ground := Ground.data }, { on := 4, ground := Ground.chain }, { on := 0, ground := Ground.phase }, { on := 1, ground := Ground.phase }, { on := 2, ground := Ground.phase }, { on := 3, ground := Ground.phase }, { on := 4, ground := Ground.phase }, { on := 5, ground := Ground.phase }, { on := 6, ground := Ground.phase }, { on := 7, ground := Ground.textOnly Departure.lateStores }, { on := 8, ground := Ground.phase }], guard := none }) rfl (fun K hK => ?_) AllReadyH.nil
        refine (if_pos (by rfl)).mpr ?_
        refine wp_store_row 24 _ _ rfl (NA.heap.size) #[.int .i64 th, .int .u64 tl] rfl rfl 24 #[.int .i64 0, .int .u64 0] hG size_W rfl (by simp [Value.oneCell']) ?_
        replace hG := hG.putRow #[.int .i64 th, .int .u64 tl]
        refine hK.out _ _ (MK.out _ (hHeld.1.setRow hGu #[.int .i64 th, .int .u64 tl])) (fun hHeld => ?_)
        clear hK K
        try simp only [Act.put, List.setIfInBounds_toArray, List.set_cons_zero, List.set_cons_succ]
        refine wpAnyH_take (i := 10) (oi := { dst := some 14, op := Op.assign (Operand.tmp 48), type := 25, pos := "law.go:73", after := #[{ on := 7, ground := Ground.data }, { on := 9, ground := Ground.chain }, { on := 0, ground := Ground.phase }, { on := 1, ground := Ground.phase }, { on := 2, ground := Ground.phase }, { on := 3, ground := Ground.phase }, { on := 4, ground := Ground.phase }, { on := 5, ground := Ground.phase }, { on := 6, ground := Ground.phase }, { on := 7, ground := Ground.phase }, { on := 8, ground := Ground.phase }, { on := 9, ground := Ground.phase }], guard := none }) (v := ?_) rfl (by kernel_rfl) (by kernel_rfl) (by kernel_rfl) (fun _ _ _ h => h) (Or.inl ⟨by rfl, ?_⟩) hHeld ?_
        rotate_left
        · intro w' hSw; (try dsimp only at hSw); go_simp <;> with_reducible rfl
        try simp only [Act.put, List.setIfInBounds_toArray, List.set_cons_zero, List.set_cons_succ]
        refine wpAnyH_done (by kernel_rfl) ?_ _
        refine NoPanic.normal ?_
        obtain ⟨NB, hNB⟩ : ∃ X, X = (v1).setRow (NA.heap.size) #[.int .i64 th, .int .u64 tl] := ⟨_, rfl⟩
        rw [← hNB] at hG hHeld ⊢
        clear hNB
        replace R_a := R_a.below hHeld.1.below R_a.lt
        replace R_b := R_b.below hHeld.1.below R_b.lt
        replace R_x := R_x.below hHeld.1.below R_x.lt
        replace R_y := R_y.below hHeld.1.below R_y.lt
        replace R_u := R_u.below hHeld.1.below R_u.lt
        have R_v := hG
        replace HU := HU.trans hHeld.1.below
        clear hG hHeld MK hGu
        go_wp2_with fail
        refine Calls.mono (P1.out _) ?_; rintro e w5 ⟨rfl, hb_w5⟩
        have z_w5 := hb_w5.size
        try simp only [alloc_size, setCell_size] at z_w5
        replace R_a := R_a.mod (Mod.of_below hb_w5 Nil) (fun hf => hf)
        replace R_b := R_b.mod (Mod.of_below hb_w5 Nil) (fun hf => hf)
        replace R_x := R_x.mod (Mod.of_below hb_w5 Nil) (fun hf => hf)
        replace R_y := R_y.mod (Mod.of_below hb_w5 Nil) (fun hf => hf)
        replace R_u := R_u.mod (Mod.of_below hb_w5 Nil) (fun hf => hf)
        replace R_v := R_v.mod (Mod.of_below hb_w5 Nil) (fun hf => hf)
        replace HU := HU.trans hb_w5
        clear hb_w5
        have R_p := Row.new (w5) 24 #[.int .i64 ph, .int .u64 pl]
        replace R_a := R_a.alloc (.cells #[.int .i64 ph, .int .u64 pl] 24)
        replace R_b := R_b.alloc (.cells #[.int .i64 ph, .int .u64 pl] 24)
        replace R_x := R_x.alloc (.cells #[.int .i64 ph, .int .u64 pl] 24)
        replace R_y := R_y.alloc (.cells #[.int .i64 ph, .int .u64 pl] 24)
        replace R_u := R_u.alloc (.cells #[.int .i64 ph, .int .u64 pl] 24)
        replace R_v := R_v.alloc (.cells #[.int .i64 ph, .int .u64 pl] 24)
        replace HU := HU.alloc (.cells #[.int .i64 ph, .int .u64 pl] 24)
        go_wp2_with fail
        refine Calls.mono (P2.out _) ?_; rintro e w6 ⟨rfl, hb_w6⟩
        have z_w6 := hb_w6.size
        try simp only [alloc_size, setCell_size] at z_w6
        replace R_a := R_a.mod (Mod.of_below hb_w6 Nil) (fun hf => hf)
        replace R_b := R_b.mod (Mod.of_below hb_w6 Nil) (fun hf => hf)
        replace R_x := R_x.mod (Mod.of_below hb_w6 Nil) (fun hf => hf)
        replace R_y := R_y.mod (Mod.of_below hb_w6 Nil) (fun hf => hf)
        replace R_u := R_u.mod (Mod.of_below hb_w6 Nil) (fun hf => hf)
        replace R_v := R_v.mod (Mod.of_below hb_w6 Nil) (fun hf => hf)
        replace R_p := R_p.mod (Mod.of_below hb_w6 Nil) (fun hf => hf)
        replace HU := HU.trans hb_w6
        clear hb_w6
        have R_q := Row.new (w6) 24 #[.int .i64 ph, .int .u64 pl]
        replace R_a := R_a.alloc (.cells #[.int .i64 ph, .int .u64 pl] 24)
        replace R_b := R_b.alloc (.cells #[.int .i64 ph, .int .u64 pl] 24)
        replace R_x := R_x.alloc (.cells #[.int .i64 ph, .int .u64 pl] 24)
        replace R_y := R_y.alloc (.cells #[.int .i64 ph, .int .u64 pl] 24)
        replace R_u := R_u.alloc (.cells #[.int .i64 ph, .int .u64 pl] 24)
        replace R_v := R_v.alloc (.cells #[.int .i64 ph, .int .u64 pl] 24)
        replace R_p := R_p.alloc (.cells #[.int .i64 ph, .int .u64 pl] 24)
        replace HU := HU.alloc (.cells #[.int .i64 ph, .int .u64 pl] 24)
        go_wp2_with fail
        obtain ⟨VE, h_VE⟩ : ∃ VE, VE = (w6).alloc (.cells #[.int .i64 ph, .int .u64 pl] 24) := ⟨_, rfl⟩
        rw [← h_VE]
        rw [← h_VE] at R_a R_b R_x R_y R_u R_v R_p R_q HU
        have z_VE : VE.heap.size = _ := congrArg (fun a => a.heap.size) h_VE
        try simp only [alloc_size, setCell_size] at z_VE
        clear h_VE
        refine (known_any VE (tab_below HT.out HU.below hg) (by have := HU.size; omega)).mono ?_; rintro e w7 ⟨rfl, hb_w7⟩
        have z_w7 := hb_w7.size
        try simp only [alloc_size, setCell_size] at z_w7
        replace R_a := R_a.mod (Mod.of_below hb_w7 Nil) (fun hf => hf)
        replace R_b := R_b.mod (Mod.of_below hb_w7 Nil) (fun hf => hf)
        replace R_x := R_x.mod (Mod.of_below hb_w7 Nil) (fun hf => hf)
        replace R_y := R_y.mod (Mod.of_below hb_w7 Nil) (fun hf => hf)
        replace R_u := R_u.mod (Mod.of_below hb_w7 Nil) (fun hf => hf)
        replace R_v := R_v.mod (Mod.of_below hb_w7 Nil) (fun hf => hf)
        replace R_p := R_p.mod (Mod.of_below hb_w7 Nil) (fun hf => hf)
        replace R_q := R_q.mod (Mod.of_below hb_w7 Nil) (fun hf => hf)
        replace HU := HU.trans hb_w7
        clear hb_w7
        have c5_0 := R_x.cell 0
        have c5_1 := R_x.cell 1
        have c6_0 := R_y.cell 0
        have c6_1 := R_y.cell 1
        have c7_0 := R_u.cell 0
        have c7_1 := R_u.cell 1
        have c8_0 := R_v.cell 0
        have c8_1 := R_v.cell 1
        have c9_0 := R_p.cell 0
        have c9_1 := R_p.cell 1
        have c10_0 := R_q.cell 0
        have c10_1 := R_q.cell 1
        simp at c5_0 c5_1 c6_0 c6_1 c7_0 c7_1 c8_0 c8_1 c9_0 c9_1 c10_0 c10_1
        go_wp2_with fail
        clear c5_0 c5_1 c6_0 c6_1 c7_0 c7_1 c8_0 c8_1 c9_0 c9_1 c10_0 c10_1
        go_ret
        exact ⟨rfl, HU.below⟩
  · skip
    go_simp
    have hG := Row.new (V.drew) 24 #[.int .i64 0, .int .u64 0]
    have hGu := hHeld.1.size
    refine hK.out _ _ (MK.out _ (hHeld.1.alloc _)) (fun hHeld => ?_)
    clear hK K
    try simp only [Act.put, List.setIfInBounds_toArray, List.set_cons_zero, List.set_cons_succ]
    replace hG : Row (V.drew.alloc (.cells #[.int .i64 0, .int .u64 0] 24)) V.heap.size 24 #[.int .i64 0, .int .u64 0] := hG
    replace hGu : V.heap.size ≤ V.heap.size := Nat.le_refl _
    refine wpAnyH_ready (rs := [3]) (by kernel_rfl) (by simp) ?_
    refine (AllReadyH.cons (o := { dst := some 37, op := Op.call { callee := Callee.value (Operand.func 34), args := #[Operand.tmp 36, Operand.const (Value.int IntKind.i64 37)], argTypes := #[3, 3] }, type := 3, pos := "law.go:72", after := #[{ on := 2, ground := Ground.data }], guard := none }) rfl (fun K hK => ?_) AllReadyH.nil)
    go_simp
    refine Calls.mono (PK.out _) ?_; rintro e _ ⟨rfl, rfl⟩
    refine hK.out _ _ hHeld (fun hHeld => ?_)
    clear hK K
    try simp only [Act.put, List.setIfInBounds_toArray, List.set_cons_zero, List.set_cons_succ]
    refine wpAnyH_ready (rs := [4]) (by kernel_rfl) (by simp) ?_
    refine (AllReadyH.cons (o := { dst := some 38, op := Op.call { callee := Callee.value (Operand.func 18), args := #[Operand.tmp 34, Operand.tmp 35, Operand.tmp 37], argTypes := #[24, 24, 3] }, type := 26, pos := "law.go:72", after := #[{ on := 0, ground := Ground.data }, { on := 1, ground := Ground.data }, { on := 3, ground := Ground.data }, { on := 3, ground := Ground.chain }], guard := none }) rfl (fun K hK => ?_) AllReadyH.nil)
    go_simp
    refine Calls.mono (S3.out _) ?_; rintro e v1 ⟨rfl, hbk⟩
    replace hG := hG.mod (Mod.of_below hbk Nil) (fun hf => hf)
    refine hK.out _ _ (MK.out _ (hHeld.1.trans hbk)) (fun hHeld => ?_)
    clear hK K hbk
    try simp only [Act.put, List.setIfInBounds_toArray, List.set_cons_zero, List.set_cons_succ]
    refine wpAnyH_take (i := 5) (oi := { dst := some 33, op := Op.move (Operand.tmp 38), type := 26, pos := "law.go:72", after := #[{ on := 4, ground := Ground.data }], guard := none }) (v := ?_) rfl (by kernel_rfl) (by kernel_rfl) (by kernel_rfl) (fun _ _ _ h => h) (Or.inl ⟨by rfl, ?_⟩) hHeld ?_
    rotate_left
    · intro w' hSw; (try dsimp only at hSw); go_simp <;> with_reducible rfl
    try simp only [Act.put, List.setIfInBounds_toArray, List.set_cons_zero, List.set_cons_succ]
    refine wpAnyH_take (i := 6) (oi := { dst := some 39, op := Op.extract (Operand.tmp 33) 0, type := 24, pos := "law.go:72", after := #[{ on := 5, ground := Ground.data }], guard := none }) (v := ?_) rfl (by kernel_rfl) (by kernel_rfl) (by kernel_rfl) (fun _ _ _ h => h) (Or.inl ⟨by rfl, ?_⟩) hHeld ?_
    rotate_left
    · intro w' hSw; (try dsimp only at hSw); go_simp <;> with_reducible rfl
    try simp only [Act.put, List.setIfInBounds_toArray, List.set_cons_zero, List.set_cons_succ]
    refine wpAnyH_take (i := 7) (oi := { dst := some 40, op := Op.extract (Operand.tmp 33) 1, type := 25, pos := "law.go:72", after := #[{ on := 5, ground := Ground.data }, { on := 9, ground := Ground.gcOnly Departure.lateStores }], guard := none }) (v := ?_) rfl (by kernel_rfl) (by kernel_rfl) (by kernel_rfl) (fun _ _ _ h => h) (Or.inl ⟨by rfl, ?_⟩) hHeld ?_
    rotate_left
    · intro w' hSw; (try dsimp only at hSw); go_simp <;> with_reducible rfl
    try simp only [Act.put, List.setIfInBounds_toArray, List.set_cons_zero, List.set_cons_succ]
    refine wpAnyH_ready (rs := [9]) (by kernel_rfl) (by simp) ?_
    refine AllReadyH.cons (o := { dst := none, op := Op.store 24 (Operand.tmp 11) (Operand.tmp 39), type := 0, pos := "law.go:72", after := #[{ on := 8, ground := Ground.data }, { on := 6, ground := Ground.data }, { on := 4, ground := Ground.chain }, { on := 0, ground := Ground.phase }, { on := 1, ground := Ground.phase }, { on := 2, ground := Ground.phase }, { on := 3, ground := Ground.phase }, { on := 4, ground := Ground.phase }, { on := 5, ground := Ground.phase }, { on := 6, ground := Ground.phase }, { on := 7, ground := Ground.textOnly Departure.lateStores }, { on := 8, ground := Ground.phase }], guard := none }) rfl (fun K hK => ?_) AllReadyH.nil
    refine (if_pos (by rfl)).mpr ?_
    refine wp_store_row 24 _ _ rfl (V.heap.size) #[.int .i64 th, .int .u64 tl] rfl rfl 24 #[.int .i64 0, .int .u64 0] hG size_W rfl (by simp [Value.oneCell']) ?_
    replace hG := hG.putRow #[.int .i64 th, .int .u64 tl]
    refine hK.out _ _ (MK.out _ (hHeld.1.setRow hGu #[.int .i64 th, .int .u64 tl])) (fun hHeld => ?_)
    clear hK K
    try simp only [Act.put, List.setIfInBounds_toArray, List.set_cons_zero, List.set_cons_succ]
    refine wpAnyH_take (i := 10) (oi := { dst := some 12, op := Op.assign (Operand.tmp 40), type := 25, pos := "law.go:72", after := #[{ on := 7, ground := Ground.data }, { on := 9, ground := Ground.chain }, { on := 0, ground := Ground.phase }, { on := 1, ground := Ground.phase }, { on := 2, ground := Ground.phase }, { on := 3, ground := Ground.phase }, { on := 4, ground := Ground.phase }, { on := 5, ground := Ground.phase }, { on := 6, ground := Ground.phase }, { on := 7, ground := Ground.phase }, { on := 8, ground := Ground.phase }, { on := 9, ground := Ground.phase }], guard := none }) (v := ?_) rfl (by kernel_rfl) (by kernel_rfl) (by kernel_rfl) (fun _ _ _ h => h) (Or.inl ⟨by rfl, ?_⟩) hHeld ?_
    rotate_left
    · intro w' hSw; (try dsimp only at hSw); go_simp <;> with_reducible rfl
    try simp only [Act.put, List.setIfInBounds_toArray, List.set_cons_zero, List.set_cons_succ]
    refine wpAnyH_done (by kernel_rfl) ?_ _
    refine NoPanic.normal ?_
    obtain ⟨NA, hNA⟩ : ∃ X, X = (v1).setRow (V.heap.size) #[.int .i64 th, .int .u64 tl] := ⟨_, rfl⟩
    rw [← hNA] at hG hHeld ⊢
    clear hNA
    replace R_a := R_a.below hHeld.1.below R_a.lt
    replace R_b := R_b.below hHeld.1.below R_b.lt
    replace R_x := R_x.below hHeld.1.below R_x.lt
    replace R_y := R_y.below hHeld.1.below R_y.lt
    have R_u := hG
    replace HU := HU.trans hHeld.1.below
    clear hG hHeld MK hGu
    have c3_0 := R_a.cell 0
    have c3_1 := R_a.cell 1
    have c4_0 := R_b.cell 0
    have c4_1 := R_b.cell 1
    simp at c3_0 c3_1 c4_0 c4_1
    go_upto_region 4 with fail
    clear c3_0 c3_1 c4_0 c4_1
    have MK : ∀ W, Up NA.heap.size NA W → Up NA.heap.size NA W ∧ W.cell? ⟨w.heap.size, 0, none⟩ = some (.int .i64 ah) ∧ W.cell? ⟨w.heap.size, 1, none⟩ = some (.int .u64 al) ∧ W.cell? ⟨w.heap.size + 1, 0, none⟩ = some (.int .i64 bh) ∧ W.cell? ⟨w.heap.size + 1, 1, none⟩ = some (.int .u64 bl) := fun W hW => by
      have k_a := R_a.below hW.below R_a.lt
      have k_b := R_b.below hW.below R_b.lt
      exact ⟨hW, by simpa using k_a.cell 0, by simpa using k_a.cell 1, by simpa using k_b.cell 0, by simpa using k_b.cell 1⟩
    have MK := hid MK
    refine wp_region_noPanic ?_
    refine wp_region_held_drew (S := fun W => Up NA.heap.size NA W ∧ W.cell? ⟨w.heap.size, 0, none⟩ = some (.int .i64 ah) ∧ W.cell? ⟨w.heap.size, 1, none⟩ = some (.int .u64 al) ∧ W.cell? ⟨w.heap.size + 1, 0, none⟩ = some (.int .i64 bh) ∧ W.cell? ⟨w.heap.size + 1, 1, none⟩ = some (.int .u64 bl)) (by kernel_rfl) (MK.out _ (Up.refl NA).drew) (fun hHeld => ?_)
    refine wpAnyH_take (i := 0) (oi := { dst := some 42, op := Op.load 24 (Operand.tmp 3), type := 24, pos := "law.go:73", after := #[], guard := none }) (v := ?_) rfl (by kernel_rfl) (by kernel_rfl) (by kernel_rfl) (fun _ _ _ h => h) (Or.inl ⟨by rfl, ?_⟩) hHeld ?_
    rotate_left
    · intro w' hSw; (try dsimp only at hSw); go_simp <;> with_reducible rfl
    try simp only [Act.put, List.setIfInBounds_toArray, List.set_cons_zero, List.set_cons_succ]
    refine wpAnyH_take (i := 1) (oi := { dst := some 43, op := Op.load 24 (Operand.tmp 4), type := 24, pos := "law.go:73", after := #[], guard := none }) (v := ?_) rfl (by kernel_rfl) (by kernel_rfl) (by kernel_rfl) (fun _ _ _ h => h) (Or.inl ⟨by rfl, ?_⟩) hHeld ?_
    rotate_left
    · intro w' hSw; (try dsimp only at hSw); go_simp <;> with_reducible rfl
    try simp only [Act.put, List.setIfInBounds_toArray, List.set_cons_zero, List.set_cons_succ]
    refine wpAnyH_take (i := 2) (oi := { dst := some 44, op := Op.move (Operand.tmp 2), type := 3, pos := "law.go:73", after := #[], guard := none }) (v := ?_) rfl (by kernel_rfl) (by kernel_rfl) (by kernel_rfl) (fun _ _ _ h => h) (Or.inl ⟨by rfl, ?_⟩) hHeld ?_
    rotate_left
    · intro w' hSw; (try dsimp only at hSw); go_simp <;> with_reducible rfl
    try simp only [Act.put, List.setIfInBounds_toArray, List.set_cons_zero, List.set_cons_succ]
    refine wpAnyH_ready (rs := [3, 8]) (by kernel_rfl) (by simp) ?_
    refine (AllReadyH.cons (o := { dst := some 45, op := Op.call { callee := Callee.value (Operand.func 34), args := #[Operand.tmp 44, Operand.const (Value.int IntKind.i64 37)], argTypes := #[3, 3] }, type := 3, pos := "law.go:73", after := #[{ on := 2, ground := Ground.data }], guard := none }) rfl (fun K hK => ?_) (AllReadyH.cons (o := { dst := some 13, op := Op.alloc 24, type := 0, pos := "law.go:73", after := #[], guard := none }) rfl (fun K hK => ?_) AllReadyH.nil))
    · skip
      go_simp
      refine Calls.mono (PK.out _) ?_; rintro e _ ⟨rfl, rfl⟩
      refine hK.out _ _ hHeld (fun hHeld => ?_)
      clear hK K
      try simp only [Act.put, List.setIfInBounds_toArray, List.set_cons_zero, List.set_cons_succ]
      refine wpAnyH_ready (rs := [4, 8]) (by kernel_rfl) (by simp) ?_
      refine (AllReadyH.cons (o := { dst := some 46, op := Op.call { callee := Callee.value (Operand.func 33), args := #[Operand.tmp 42, Operand.tmp 43, Operand.tmp 45], argTypes := #[24, 24, 3] }, type := 26, pos := "law.go:73", after := #[{ on := 0, ground := Ground.data }, { on := 1, ground := Ground.data }, { on := 3, ground := Ground.data }, { on := 3, ground := Ground.chain }], guard := none }) rfl (fun K hK => ?_) (AllReadyH.cons (o := { dst := some 13, op := Op.alloc 24, type := 0, pos := "law.go:73", after := #[], guard := none }) rfl (fun K hK => ?_) AllReadyH.nil))
      · skip
        go_simp
        refine Calls.mono (S4.out _) ?_; rintro e v1 ⟨rfl, hbk⟩
        refine hK.out _ _ (MK.out _ (hHeld.1.trans hbk)) (fun hHeld => ?_)
        clear hK K hbk
        try simp only [Act.put, List.setIfInBounds_toArray, List.set_cons_zero, List.set_cons_succ]
        refine wpAnyH_take (i := 5) (oi := { dst := some 41, op := Op.move (Operand.tmp 46), type := 26, pos := "law.go:73", after := #[{ on := 4, ground := Ground.data }], guard := none }) (v := ?_) rfl (by kernel_rfl) (by kernel_rfl) (by kernel_rfl) (fun _ _ _ h => h) (Or.inl ⟨by rfl, ?_⟩) hHeld ?_
        rotate_left
        · intro w' hSw; (try dsimp only at hSw); go_simp <;> with_reducible rfl
        try simp only [Act.put, List.setIfInBounds_toArray, List.set_cons_zero, List.set_cons_succ]
        refine wpAnyH_take (i := 6) (oi := { dst := some 47, op := Op.extract (Operand.tmp 41) 0, type := 24, pos := "law.go:73", after := #[{ on := 5, ground := Ground.data }], guard := none }) (v := ?_) rfl (by kernel_rfl) (by kernel_rfl) (by kernel_rfl) (fun _ _ _ h => h) (Or.inl ⟨by rfl, ?_⟩) hHeld ?_
        rotate_left
        · intro w' hSw; (try dsimp only at hSw); go_simp <;> with_reducible rfl
        try simp only [Act.put, List.setIfInBounds_toArray, List.set_cons_zero, List.set_cons_succ]
        refine wpAnyH_take (i := 7) (oi := { dst := some 48, op := Op.extract (Operand.tmp 41) 1, type := 25, pos := "law.go:73", after := #[{ on := 5, ground := Ground.data }, { on := 9, ground := Ground.gcOnly Departure.lateStores }], guard := none }) (v := ?_) rfl (by kernel_rfl) (by kernel_rfl) (by kernel_rfl) (fun _ _ _ h => h) (Or.inl ⟨by rfl, ?_⟩) hHeld ?_
        rotate_left
        · intro w' hSw; (try dsimp only at hSw); go_simp <;> with_reducible rfl
        try simp only [Act.put, List.setIfInBounds_toArray, List.set_cons_zero, List.set_cons_succ]
        refine wpAnyH_ready (rs := [8]) (by kernel_rfl) (by simp) ?_
        refine (AllReadyH.cons (o := { dst := some 13, op := Op.alloc 24, type := 0, pos := "law.go:73", after := #[], guard := none }) rfl (fun K hK => ?_) AllReadyH.nil)
        go_simp
        have hG := Row.new (v1) 24 #[.int .i64 0, .int .u64 0]
        have hGu := hHeld.1.size
        refine hK.out _ _ (MK.out _ (hHeld.1.alloc _)) (fun hHeld => ?_)
        clear hK K
        try simp only [Act.put, List.setIfInBounds_toArray, List.set_cons_zero, List.set_cons_succ]
        obtain ⟨gB, hgB⟩ : ∃ g, g = (v1).heap.size := ⟨_, rfl⟩
        rw [← hgB] at hG hGu ⊢
        clear hgB
        refine wpAnyH_ready (rs := [9]) (by kernel_rfl) (by simp) ?_
        refine AllReadyH.cons (o := { dst := none, op := Op.store 24 (Operand.tmp 13) (Operand.tmp 47), type := 0, pos := "law.go:73", after := #[{ on := 8, ground := Ground.data }, { on := 6, ground := Ground.data }, { on := 4, ground := Ground.chain }, { on := 0, ground := Ground.phase }, { on := 1, ground := Ground.phase }, { on := 2, ground := Ground.phase }, { on := 3, ground := Ground.phase }, { on := 4, ground := Ground.phase }, { on := 5, ground := Ground.phase }, { on := 6, ground := Ground.phase }, { on := 7, ground := Ground.textOnly Departure.lateStores }, { on := 8, ground := Ground.phase }], guard := none }) rfl (fun K hK => ?_) AllReadyH.nil
        refine (if_pos (by rfl)).mpr ?_
        refine wp_store_row 24 _ _ rfl (gB) #[.int .i64 th, .int .u64 tl] rfl rfl 24 #[.int .i64 0, .int .u64 0] hG size_W rfl (by simp [Value.oneCell']) ?_
        replace hG := hG.putRow #[.int .i64 th, .int .u64 tl]
        refine hK.out _ _ (MK.out _ (hHeld.1.setRow hGu #[.int .i64 th, .int .u64 tl])) (fun hHeld => ?_)
        clear hK K
        try simp only [Act.put, List.setIfInBounds_toArray, List.set_cons_zero, List.set_cons_succ]
        refine wpAnyH_take (i := 10) (oi := { dst := some 14, op := Op.assign (Operand.tmp 48), type := 25, pos := "law.go:73", after := #[{ on := 7, ground := Ground.data }, { on := 9, ground := Ground.chain }, { on := 0, ground := Ground.phase }, { on := 1, ground := Ground.phase }, { on := 2, ground := Ground.phase }, { on := 3, ground := Ground.phase }, { on := 4, ground := Ground.phase }, { on := 5, ground := Ground.phase }, { on := 6, ground := Ground.phase }, { on := 7, ground := Ground.phase }, { on := 8, ground := Ground.phase }, { on := 9, ground := Ground.phase }], guard := none }) (v := ?_) rfl (by kernel_rfl) (by kernel_rfl) (by kernel_rfl) (fun _ _ _ h => h) (Or.inl ⟨by rfl, ?_⟩) hHeld ?_
        rotate_left
        · intro w' hSw; (try dsimp only at hSw); go_simp <;> with_reducible rfl
        try simp only [Act.put, List.setIfInBounds_toArray, List.set_cons_zero, List.set_cons_succ]
        refine wpAnyH_done (by kernel_rfl) ?_ _
        refine NoPanic.normal ?_
        obtain ⟨NB, hNB⟩ : ∃ X, X = (v1.alloc (.cells #[.int .i64 0, .int .u64 0] 24)).setRow (gB) #[.int .i64 th, .int .u64 tl] := ⟨_, rfl⟩
        rw [← hNB] at hG hHeld ⊢
        clear hNB
        replace R_a := R_a.below hHeld.1.below R_a.lt
        replace R_b := R_b.below hHeld.1.below R_b.lt
        replace R_x := R_x.below hHeld.1.below R_x.lt
        replace R_y := R_y.below hHeld.1.below R_y.lt
        replace R_u := R_u.below hHeld.1.below R_u.lt
        have R_v := hG
        replace HU := HU.trans hHeld.1.below
        clear hG hHeld MK hGu
        go_wp2_with fail
        refine Calls.mono (P1.out _) ?_; rintro e w5 ⟨rfl, hb_w5⟩
        have z_w5 := hb_w5.size
        try simp only [alloc_size, setCell_size] at z_w5
        replace R_a := R_a.mod (Mod.of_below hb_w5 Nil) (fun hf => hf)
        replace R_b := R_b.mod (Mod.of_below hb_w5 Nil) (fun hf => hf)
        replace R_x := R_x.mod (Mod.of_below hb_w5 Nil) (fun hf => hf)
        replace R_y := R_y.mod (Mod.of_below hb_w5 Nil) (fun hf => hf)
        replace R_u := R_u.mod (Mod.of_below hb_w5 Nil) (fun hf => hf)
        replace R_v := R_v.mod (Mod.of_below hb_w5 Nil) (fun hf => hf)
        replace HU := HU.trans hb_w5
        clear hb_w5
        have R_p := Row.new (w5) 24 #[.int .i64 ph, .int .u64 pl]
        replace R_a := R_a.alloc (.cells #[.int .i64 ph, .int .u64 pl] 24)
        replace R_b := R_b.alloc (.cells #[.int .i64 ph, .int .u64 pl] 24)
        replace R_x := R_x.alloc (.cells #[.int .i64 ph, .int .u64 pl] 24)
        replace R_y := R_y.alloc (.cells #[.int .i64 ph, .int .u64 pl] 24)
        replace R_u := R_u.alloc (.cells #[.int .i64 ph, .int .u64 pl] 24)
        replace R_v := R_v.alloc (.cells #[.int .i64 ph, .int .u64 pl] 24)
        replace HU := HU.alloc (.cells #[.int .i64 ph, .int .u64 pl] 24)
        go_wp2_with fail
        refine Calls.mono (P2.out _) ?_; rintro e w6 ⟨rfl, hb_w6⟩
        have z_w6 := hb_w6.size
        try simp only [alloc_size, setCell_size] at z_w6
        replace R_a := R_a.mod (Mod.of_below hb_w6 Nil) (fun hf => hf)
        replace R_b := R_b.mod (Mod.of_below hb_w6 Nil) (fun hf => hf)
        replace R_x := R_x.mod (Mod.of_below hb_w6 Nil) (fun hf => hf)
        replace R_y := R_y.mod (Mod.of_below hb_w6 Nil) (fun hf => hf)
        replace R_u := R_u.mod (Mod.of_below hb_w6 Nil) (fun hf => hf)
        replace R_v := R_v.mod (Mod.of_below hb_w6 Nil) (fun hf => hf)
        replace R_p := R_p.mod (Mod.of_below hb_w6 Nil) (fun hf => hf)
        replace HU := HU.trans hb_w6
        clear hb_w6
        have R_q := Row.new (w6) 24 #[.int .i64 ph, .int .u64 pl]
        replace R_a := R_a.alloc (.cells #[.int .i64 ph, .int .u64 pl] 24)
        replace R_b := R_b.alloc (.cells #[.int .i64 ph, .int .u64 pl] 24)
        replace R_x := R_x.alloc (.cells #[.int .i64 ph, .int .u64 pl] 24)
        replace R_y := R_y.alloc (.cells #[.int .i64 ph, .int .u64 pl] 24)
        replace R_u := R_u.alloc (.cells #[.int .i64 ph, .int .u64 pl] 24)
        replace R_v := R_v.alloc (.cells #[.int .i64 ph, .int .u64 pl] 24)
        replace R_p := R_p.alloc (.cells #[.int .i64 ph, .int .u64 pl] 24)
        replace HU := HU.alloc (.cells #[.int .i64 ph, .int .u64 pl] 24)
        go_wp2_with fail
        obtain ⟨VE, h_VE⟩ : ∃ VE, VE = (w6).alloc (.cells #[.int .i64 ph, .int .u64 pl] 24) := ⟨_, rfl⟩
        rw [← h_VE]
        rw [← h_VE] at R_a R_b R_x R_y R_u R_v R_p R_q HU
        have z_VE : VE.heap.size = _ := congrArg (fun a => a.heap.size) h_VE
        try simp only [alloc_size, setCell_size] at z_VE
        clear h_VE
        refine (known_any VE (tab_below HT.out HU.below hg) (by have := HU.size; omega)).mono ?_; rintro e w7 ⟨rfl, hb_w7⟩
        have z_w7 := hb_w7.size
        try simp only [alloc_size, setCell_size] at z_w7
        replace R_a := R_a.mod (Mod.of_below hb_w7 Nil) (fun hf => hf)
        replace R_b := R_b.mod (Mod.of_below hb_w7 Nil) (fun hf => hf)
        replace R_x := R_x.mod (Mod.of_below hb_w7 Nil) (fun hf => hf)
        replace R_y := R_y.mod (Mod.of_below hb_w7 Nil) (fun hf => hf)
        replace R_u := R_u.mod (Mod.of_below hb_w7 Nil) (fun hf => hf)
        replace R_v := R_v.mod (Mod.of_below hb_w7 Nil) (fun hf => hf)
        replace R_p := R_p.mod (Mod.of_below hb_w7 Nil) (fun hf => hf)
        replace R_q := R_q.mod (Mod.of_below hb_w7 Nil) (fun hf => hf)
        replace HU := HU.trans hb_w7
        clear hb_w7
        have c5_0 := R_x.cell 0
        have c5_1 := R_x.cell 1
        have c6_0 := R_y.cell 0
        have c6_1 := R_y.cell 1
        have c7_0 := R_u.cell 0
        have c7_1 := R_u.cell 1
        have c8_0 := R_v.cell 0
        have c8_1 := R_v.cell 1
        have c9_0 := R_p.cell 0
        have c9_1 := R_p.cell 1
        have c10_0 := R_q.cell 0
        have c10_1 := R_q.cell 1
        simp at c5_0 c5_1 c6_0 c6_1 c7_0 c7_1 c8_0 c8_1 c9_0 c9_1 c10_0 c10_1
        go_wp2_with fail
        clear c5_0 c5_1 c6_0 c6_1 c7_0 c7_1 c8_0 c8_1 c9_0 c9_1 c10_0 c10_1
        go_ret
        exact ⟨rfl, HU.below⟩
      · skip
        go_simp
        have hG := Row.new (NA.drew) 24 #[.int .i64 0, .int .u64 0]
        have hGu := hHeld.1.size
        refine hK.out _ _ (MK.out _ (hHeld.1.alloc _)) (fun hHeld => ?_)
        clear hK K
        try simp only [Act.put, List.setIfInBounds_toArray, List.set_cons_zero, List.set_cons_succ]
        replace hG : Row (NA.drew.alloc (.cells #[.int .i64 0, .int .u64 0] 24)) NA.heap.size 24 #[.int .i64 0, .int .u64 0] := hG
        replace hGu : NA.heap.size ≤ NA.heap.size := Nat.le_refl _
        refine wpAnyH_ready (rs := [4]) (by kernel_rfl) (by simp) ?_
        refine (AllReadyH.cons (o := { dst := some 46, op := Op.call { callee := Callee.value (Operand.func 33), args := #[Operand.tmp 42, Operand.tmp 43, Operand.tmp 45], argTypes := #[24, 24, 3] }, type := 26, pos := "law.go:73", after := #[{ on := 0, ground := Ground.data }, { on := 1, ground := Ground.data }, { on := 3, ground := Ground.data }, { on := 3, ground := Ground.chain }], guard := none }) rfl (fun K hK => ?_) AllReadyH.nil)
        go_simp
        refine Calls.mono (S4.out _) ?_; rintro e v1 ⟨rfl, hbk⟩
        replace hG := hG.mod (Mod.of_below hbk Nil) (fun hf => hf)
        refine hK.out _ _ (MK.out _ (hHeld.1.trans hbk)) (fun hHeld => ?_)
        clear hK K hbk
        try simp only [Act.put, List.setIfInBounds_toArray, List.set_cons_zero, List.set_cons_succ]
        refine wpAnyH_take (i := 5) (oi := { dst := some 41, op := Op.move (Operand.tmp 46), type := 26, pos := "law.go:73", after := #[{ on := 4, ground := Ground.data }], guard := none }) (v := ?_) rfl (by kernel_rfl) (by kernel_rfl) (by kernel_rfl) (fun _ _ _ h => h) (Or.inl ⟨by rfl, ?_⟩) hHeld ?_
        rotate_left
        · intro w' hSw; (try dsimp only at hSw); go_simp <;> with_reducible rfl
        try simp only [Act.put, List.setIfInBounds_toArray, List.set_cons_zero, List.set_cons_succ]
        refine wpAnyH_take (i := 6) (oi := { dst := some 47, op := Op.extract (Operand.tmp 41) 0, type := 24, pos := "law.go:73", after := #[{ on := 5, ground := Ground.data }], guard := none }) (v := ?_) rfl (by kernel_rfl) (by kernel_rfl) (by kernel_rfl) (fun _ _ _ h => h) (Or.inl ⟨by rfl, ?_⟩) hHeld ?_
        rotate_left
        · intro w' hSw; (try dsimp only at hSw); go_simp <;> with_reducible rfl
        try simp only [Act.put, List.setIfInBounds_toArray, List.set_cons_zero, List.set_cons_succ]
        refine wpAnyH_take (i := 7) (oi := { dst := some 48, op := Op.extract (Operand.tmp 41) 1, type := 25, pos := "law.go:73", after := #[{ on := 5, ground := Ground.data }, { on := 9, ground := Ground.gcOnly Departure.lateStores }], guard := none }) (v := ?_) rfl (by kernel_rfl) (by kernel_rfl) (by kernel_rfl) (fun _ _ _ h => h) (Or.inl ⟨by rfl, ?_⟩) hHeld ?_
        rotate_left
        · intro w' hSw; (try dsimp only at hSw); go_simp <;> with_reducible rfl
        try simp only [Act.put, List.setIfInBounds_toArray, List.set_cons_zero, List.set_cons_succ]
        refine wpAnyH_ready (rs := [9]) (by kernel_rfl) (by simp) ?_
        refine AllReadyH.cons (o := { dst := none, op := Op.store 24 (Operand.tmp 13) (Operand.tmp 47), type := 0, pos := "law.go:73", after := #[{ on := 8, ground := Ground.data }, { on := 6, ground := Ground.data }, { on := 4, ground := Ground.chain }, { on := 0, ground := Ground.phase }, { on := 1, ground := Ground.phase }, { on := 2, ground := Ground.phase }, { on := 3, ground := Ground.phase }, { on := 4, ground := Ground.phase }, { on := 5, ground := Ground.phase }, { on := 6, ground := Ground.phase }, { on := 7, ground := Ground.textOnly Departure.lateStores }, { on := 8, ground := Ground.phase }], guard := none }) rfl (fun K hK => ?_) AllReadyH.nil
        refine (if_pos (by rfl)).mpr ?_
        refine wp_store_row 24 _ _ rfl (NA.heap.size) #[.int .i64 th, .int .u64 tl] rfl rfl 24 #[.int .i64 0, .int .u64 0] hG size_W rfl (by simp [Value.oneCell']) ?_
        replace hG := hG.putRow #[.int .i64 th, .int .u64 tl]
        refine hK.out _ _ (MK.out _ (hHeld.1.setRow hGu #[.int .i64 th, .int .u64 tl])) (fun hHeld => ?_)
        clear hK K
        try simp only [Act.put, List.setIfInBounds_toArray, List.set_cons_zero, List.set_cons_succ]
        refine wpAnyH_take (i := 10) (oi := { dst := some 14, op := Op.assign (Operand.tmp 48), type := 25, pos := "law.go:73", after := #[{ on := 7, ground := Ground.data }, { on := 9, ground := Ground.chain }, { on := 0, ground := Ground.phase }, { on := 1, ground := Ground.phase }, { on := 2, ground := Ground.phase }, { on := 3, ground := Ground.phase }, { on := 4, ground := Ground.phase }, { on := 5, ground := Ground.phase }, { on := 6, ground := Ground.phase }, { on := 7, ground := Ground.phase }, { on := 8, ground := Ground.phase }, { on := 9, ground := Ground.phase }], guard := none }) (v := ?_) rfl (by kernel_rfl) (by kernel_rfl) (by kernel_rfl) (fun _ _ _ h => h) (Or.inl ⟨by rfl, ?_⟩) hHeld ?_
        rotate_left
        · intro w' hSw; (try dsimp only at hSw); go_simp <;> with_reducible rfl
        try simp only [Act.put, List.setIfInBounds_toArray, List.set_cons_zero, List.set_cons_succ]
        refine wpAnyH_done (by kernel_rfl) ?_ _
        refine NoPanic.normal ?_
        obtain ⟨NB, hNB⟩ : ∃ X, X = (v1).setRow (NA.heap.size) #[.int .i64 th, .int .u64 tl] := ⟨_, rfl⟩
        rw [← hNB] at hG hHeld ⊢
        clear hNB
        replace R_a := R_a.below hHeld.1.below R_a.lt
        replace R_b := R_b.below hHeld.1.below R_b.lt
        replace R_x := R_x.below hHeld.1.below R_x.lt
        replace R_y := R_y.below hHeld.1.below R_y.lt
        replace R_u := R_u.below hHeld.1.below R_u.lt
        have R_v := hG
        replace HU := HU.trans hHeld.1.below
        clear hG hHeld MK hGu
        go_wp2_with fail
        refine Calls.mono (P1.out _) ?_; rintro e w5 ⟨rfl, hb_w5⟩
        have z_w5 := hb_w5.size
        try simp only [alloc_size, setCell_size] at z_w5
        replace R_a := R_a.mod (Mod.of_below hb_w5 Nil) (fun hf => hf)
        replace R_b := R_b.mod (Mod.of_below hb_w5 Nil) (fun hf => hf)
        replace R_x := R_x.mod (Mod.of_below hb_w5 Nil) (fun hf => hf)
        replace R_y := R_y.mod (Mod.of_below hb_w5 Nil) (fun hf => hf)
        replace R_u := R_u.mod (Mod.of_below hb_w5 Nil) (fun hf => hf)
        replace R_v := R_v.mod (Mod.of_below hb_w5 Nil) (fun hf => hf)
        replace HU := HU.trans hb_w5
        clear hb_w5
        have R_p := Row.new (w5) 24 #[.int .i64 ph, .int .u64 pl]
        replace R_a := R_a.alloc (.cells #[.int .i64 ph, .int .u64 pl] 24)
        replace R_b := R_b.alloc (.cells #[.int .i64 ph, .int .u64 pl] 24)
        replace R_x := R_x.alloc (.cells #[.int .i64 ph, .int .u64 pl] 24)
        replace R_y := R_y.alloc (.cells #[.int .i64 ph, .int .u64 pl] 24)
        replace R_u := R_u.alloc (.cells #[.int .i64 ph, .int .u64 pl] 24)
        replace R_v := R_v.alloc (.cells #[.int .i64 ph, .int .u64 pl] 24)
        replace HU := HU.alloc (.cells #[.int .i64 ph, .int .u64 pl] 24)
        go_wp2_with fail
        refine Calls.mono (P2.out _) ?_; rintro e w6 ⟨rfl, hb_w6⟩
        have z_w6 := hb_w6.size
        try simp only [alloc_size, setCell_size] at z_w6
        replace R_a := R_a.mod (Mod.of_below hb_w6 Nil) (fun hf => hf)
        replace R_b := R_b.mod (Mod.of_below hb_w6 Nil) (fun hf => hf)
        replace R_x := R_x.mod (Mod.of_below hb_w6 Nil) (fun hf => hf)
        replace R_y := R_y.mod (Mod.of_below hb_w6 Nil) (fun hf => hf)
        replace R_u := R_u.mod (Mod.of_below hb_w6 Nil) (fun hf => hf)
        replace R_v := R_v.mod (Mod.of_below hb_w6 Nil) (fun hf => hf)
        replace R_p := R_p.mod (Mod.of_below hb_w6 Nil) (fun hf => hf)
        replace HU := HU.trans hb_w6
        clear hb_w6
        have R_q := Row.new (w6) 24 #[.int .i64 ph, .int .u64 pl]
        replace R_a := R_a.alloc (.cells #[.int .i64 ph, .int .u64 pl] 24)
        replace R_b := R_b.alloc (.cells #[.int .i64 ph, .int .u64 pl] 24)
        replace R_x := R_x.alloc (.cells #[.int .i64 ph, .int .u64 pl] 24)
        replace R_y := R_y.alloc (.cells #[.int .i64 ph, .int .u64 pl] 24)
        replace R_u := R_u.alloc (.cells #[.int .i64 ph, .int .u64 pl] 24)
        replace R_v := R_v.alloc (.cells #[.int .i64 ph, .int .u64 pl] 24)
        replace R_p := R_p.alloc (.cells #[.int .i64 ph, .int .u64 pl] 24)
        replace HU := HU.alloc (.cells #[.int .i64 ph, .int .u64 pl] 24)
        go_wp2_with fail
        obtain ⟨VE, h_VE⟩ : ∃ VE, VE = (w6).alloc (.cells #[.int .i64 ph, .int .u64 pl] 24) := ⟨_, rfl⟩
        rw [← h_VE]
        rw [← h_VE] at R_a R_b R_x R_y R_u R_v R_p R_q HU
        have z_VE : VE.heap.size = _ := congrArg (fun a => a.heap.size) h_VE
        try simp only [alloc_size, setCell_size] at z_VE
        clear h_VE
        refine (known_any VE (tab_below HT.out HU.below hg) (by have := HU.size; omega)).mono ?_; rintro e w7 ⟨rfl, hb_w7⟩
        have z_w7 := hb_w7.size
        try simp only [alloc_size, setCell_size] at z_w7
        replace R_a := R_a.mod (Mod.of_below hb_w7 Nil) (fun hf => hf)
        replace R_b := R_b.mod (Mod.of_below hb_w7 Nil) (fun hf => hf)
        replace R_x := R_x.mod (Mod.of_below hb_w7 Nil) (fun hf => hf)
        replace R_y := R_y.mod (Mod.of_below hb_w7 Nil) (fun hf => hf)
        replace R_u := R_u.mod (Mod.of_below hb_w7 Nil) (fun hf => hf)
        replace R_v := R_v.mod (Mod.of_below hb_w7 Nil) (fun hf => hf)
        replace R_p := R_p.mod (Mod.of_below hb_w7 Nil) (fun hf => hf)
        replace R_q := R_q.mod (Mod.of_below hb_w7 Nil) (fun hf => hf)
        replace HU := HU.trans hb_w7
        clear hb_w7
        have c5_0 := R_x.cell 0
        have c5_1 := R_x.cell 1
        have c6_0 := R_y.cell 0
        have c6_1 := R_y.cell 1
        have c7_0 := R_u.cell 0
        have c7_1 := R_u.cell 1
        have c8_0 := R_v.cell 0
        have c8_1 := R_v.cell 1
        have c9_0 := R_p.cell 0
        have c9_1 := R_p.cell 1
        have c10_0 := R_q.cell 0
        have c10_1 := R_q.cell 1
        simp at c5_0 c5_1 c6_0 c6_1 c7_0 c7_1 c8_0 c8_1 c9_0 c9_1 c10_0 c10_1
        go_wp2_with fail
        clear c5_0 c5_1 c6_0 c6_1 c7_0 c7_1 c8_0 c8_1 c9_0 c9_1 c10_0 c10_1
        go_ret
        exact ⟨rfl, HU.below⟩
    · skip
      go_simp
      have hG := Row.new (NA.drew) 24 #[.int .i64 0, .int .u64 0]
      have hGu := hHeld.1.size
      refine hK.out _ _ (MK.out _ (hHeld.1.alloc _)) (fun hHeld => ?_)
      clear hK K
      try simp only [Act.put, List.setIfInBounds_toArray, List.set_cons_zero, List.set_cons_succ]
      replace hG : Row (NA.drew.alloc (.cells #[.int .i64 0, .int .u64 0] 24)) NA.heap.size 24 #[.int .i64 0, .int .u64 0] := hG
      replace hGu : NA.heap.size ≤ NA.heap.size := Nat.le_refl _
      refine wpAnyH_ready (rs := [3]) (by kernel_rfl) (by simp) ?_
      refine (AllReadyH.cons (o := { dst := some 45, op := Op.call { callee := Callee.value (Operand.func 34), args := #[Operand.tmp 44, Operand.const (Value.int IntKind.i64 37)], argTypes := #[3, 3] }, type := 3, pos := "law.go:73", after := #[{ on := 2, ground := Ground.data }], guard := none }) rfl (fun K hK => ?_) AllReadyH.nil)
      go_simp
      refine Calls.mono (PK.out _) ?_; rintro e _ ⟨rfl, rfl⟩
      refine hK.out _ _ hHeld (fun hHeld => ?_)
      clear hK K
      try simp only [Act.put, List.setIfInBounds_toArray, List.set_cons_zero, List.set_cons_succ]
      refine wpAnyH_ready (rs := [4]) (by kernel_rfl) (by simp) ?_
      refine (AllReadyH.cons (o := { dst := some 46, op := Op.call { callee := Callee.value (Operand.func 33), args := #[Operand.tmp 42, Operand.tmp 43, Operand.tmp 45], argTypes := #[24, 24, 3] }, type := 26, pos := "law.go:73", after := #[{ on := 0, ground := Ground.data }, { on := 1, ground := Ground.data }, { on := 3, ground := Ground.data }, { on := 3, ground := Ground.chain }], guard := none }) rfl (fun K hK => ?_) AllReadyH.nil)
      go_simp
      refine Calls.mono (S4.out _) ?_; rintro e v1 ⟨rfl, hbk⟩
      replace hG := hG.mod (Mod.of_below hbk Nil) (fun hf => hf)
      refine hK.out _ _ (MK.out _ (hHeld.1.trans hbk)) (fun hHeld => ?_)
      clear hK K hbk
      try simp only [Act.put, List.setIfInBounds_toArray, List.set_cons_zero, List.set_cons_succ]
      refine wpAnyH_take (i := 5) (oi := { dst := some 41, op := Op.move (Operand.tmp 46), type := 26, pos := "law.go:73", after := #[{ on := 4, ground := Ground.data }], guard := none }) (v := ?_) rfl (by kernel_rfl) (by kernel_rfl) (by kernel_rfl) (fun _ _ _ h => h) (Or.inl ⟨by rfl, ?_⟩) hHeld ?_
      rotate_left
      · intro w' hSw; (try dsimp only at hSw); go_simp <;> with_reducible rfl
      try simp only [Act.put, List.setIfInBounds_toArray, List.set_cons_zero, List.set_cons_succ]
      refine wpAnyH_take (i := 6) (oi := { dst := some 47, op := Op.extract (Operand.tmp 41) 0, type := 24, pos := "law.go:73", after := #[{ on := 5, ground := Ground.data }], guard := none }) (v := ?_) rfl (by kernel_rfl) (by kernel_rfl) (by kernel_rfl) (fun _ _ _ h => h) (Or.inl ⟨by rfl, ?_⟩) hHeld ?_
      rotate_left
      · intro w' hSw; (try dsimp only at hSw); go_simp <;> with_reducible rfl
      try simp only [Act.put, List.setIfInBounds_toArray, List.set_cons_zero, List.set_cons_succ]
      refine wpAnyH_take (i := 7) (oi := { dst := some 48, op := Op.extract (Operand.tmp 41) 1, type := 25, pos := "law.go:73", after := #[{ on := 5, ground := Ground.data }, { on := 9, ground := Ground.gcOnly Departure.lateStores }], guard := none }) (v := ?_) rfl (by kernel_rfl) (by kernel_rfl) (by kernel_rfl) (fun _ _ _ h => h) (Or.inl ⟨by rfl, ?_⟩) hHeld ?_
      rotate_left
      · intro w' hSw; (try dsimp only at hSw); go_simp <;> with_reducible rfl
      try simp only [Act.put, List.setIfInBounds_toArray, List.set_cons_zero, List.set_cons_succ]
      refine wpAnyH_ready (rs := [9]) (by kernel_rfl) (by simp) ?_
      refine AllReadyH.cons (o := { dst := none, op := Op.store 24 (Operand.tmp 13) (Operand.tmp 47), type := 0, pos := "law.go:73", after := #[{ on := 8, ground := Ground.data }, { on := 6, ground := Ground.data }, { on := 4, ground := Ground.chain }, { on := 0, ground := Ground.phase }, { on := 1, ground := Ground.phase }, { on := 2, ground := Ground.phase }, { on := 3, ground := Ground.phase }, { on := 4, ground := Ground.phase }, { on := 5, ground := Ground.phase }, { on := 6, ground := Ground.phase }, { on := 7, ground := Ground.textOnly Departure.lateStores }, { on := 8, ground := Ground.phase }], guard := none }) rfl (fun K hK => ?_) AllReadyH.nil
      refine (if_pos (by rfl)).mpr ?_
      refine wp_store_row 24 _ _ rfl (NA.heap.size) #[.int .i64 th, .int .u64 tl] rfl rfl 24 #[.int .i64 0, .int .u64 0] hG size_W rfl (by simp [Value.oneCell']) ?_
      replace hG := hG.putRow #[.int .i64 th, .int .u64 tl]
      refine hK.out _ _ (MK.out _ (hHeld.1.setRow hGu #[.int .i64 th, .int .u64 tl])) (fun hHeld => ?_)
      clear hK K
      try simp only [Act.put, List.setIfInBounds_toArray, List.set_cons_zero, List.set_cons_succ]
      refine wpAnyH_take (i := 10) (oi := { dst := some 14, op := Op.assign (Operand.tmp 48), type := 25, pos := "law.go:73", after := #[{ on := 7, ground := Ground.data }, { on := 9, ground := Ground.chain }, { on := 0, ground := Ground.phase }, { on := 1, ground := Ground.phase }, { on := 2, ground := Ground.phase }, { on := 3, ground := Ground.phase }, { on := 4, ground := Ground.phase }, { on := 5, ground := Ground.phase }, { on := 6, ground := Ground.phase }, { on := 7, ground := Ground.phase }, { on := 8, ground := Ground.phase }, { on := 9, ground := Ground.phase }], guard := none }) (v := ?_) rfl (by kernel_rfl) (by kernel_rfl) (by kernel_rfl) (fun _ _ _ h => h) (Or.inl ⟨by rfl, ?_⟩) hHeld ?_
      rotate_left
      · intro w' hSw; (try dsimp only at hSw); go_simp <;> with_reducible rfl
      try simp only [Act.put, List.setIfInBounds_toArray, List.set_cons_zero, List.set_cons_succ]
      refine wpAnyH_done (by kernel_rfl) ?_ _
      refine NoPanic.normal ?_
      obtain ⟨NB, hNB⟩ : ∃ X, X = (v1).setRow (NA.heap.size) #[.int .i64 th, .int .u64 tl] := ⟨_, rfl⟩
      rw [← hNB] at hG hHeld ⊢
      clear hNB
      replace R_a := R_a.below hHeld.1.below R_a.lt
      replace R_b := R_b.below hHeld.1.below R_b.lt
      replace R_x := R_x.below hHeld.1.below R_x.lt
      replace R_y := R_y.below hHeld.1.below R_y.lt
      replace R_u := R_u.below hHeld.1.below R_u.lt
      have R_v := hG
      replace HU := HU.trans hHeld.1.below
      clear hG hHeld MK hGu
      go_wp2_with fail
      refine Calls.mono (P1.out _) ?_; rintro e w5 ⟨rfl, hb_w5⟩
      have z_w5 := hb_w5.size
      try simp only [alloc_size, setCell_size] at z_w5
      replace R_a := R_a.mod (Mod.of_below hb_w5 Nil) (fun hf => hf)
      replace R_b := R_b.mod (Mod.of_below hb_w5 Nil) (fun hf => hf)
      replace R_x := R_x.mod (Mod.of_below hb_w5 Nil) (fun hf => hf)
      replace R_y := R_y.mod (Mod.of_below hb_w5 Nil) (fun hf => hf)
      replace R_u := R_u.mod (Mod.of_below hb_w5 Nil) (fun hf => hf)
      replace R_v := R_v.mod (Mod.of_below hb_w5 Nil) (fun hf => hf)
      replace HU := HU.trans hb_w5
      clear hb_w5
      have R_p := Row.new (w5) 24 #[.int .i64 ph, .int .u64 pl]
      replace R_a := R_a.alloc (.cells #[.int .i64 ph, .int .u64 pl] 24)
      replace R_b := R_b.alloc (.cells #[.int .i64 ph, .int .u64 pl] 24)
      replace R_x := R_x.alloc (.cells #[.int .i64 ph, .int .u64 pl] 24)
      replace R_y := R_y.alloc (.cells #[.int .i64 ph, .int .u64 pl] 24)
      replace R_u := R_u.alloc (.cells #[.int .i64 ph, .int .u64 pl] 24)
      replace R_v := R_v.alloc (.cells #[.int .i64 ph, .int .u64 pl] 24)
      replace HU := HU.alloc (.cells #[.int .i64 ph, .int .u64 pl] 24)
      go_wp2_with fail
      refine Calls.mono (P2.out _) ?_; rintro e w6 ⟨rfl, hb_w6⟩
      have z_w6 := hb_w6.size
      try simp only [alloc_size, setCell_size] at z_w6
      replace R_a := R_a.mod (Mod.of_below hb_w6 Nil) (fun hf => hf)
      replace R_b := R_b.mod (Mod.of_below hb_w6 Nil) (fun hf => hf)
      replace R_x := R_x.mod (Mod.of_below hb_w6 Nil) (fun hf => hf)
      replace R_y := R_y.mod (Mod.of_below hb_w6 Nil) (fun hf => hf)
      replace R_u := R_u.mod (Mod.of_below hb_w6 Nil) (fun hf => hf)
      replace R_v := R_v.mod (Mod.of_below hb_w6 Nil) (fun hf => hf)
      replace R_p := R_p.mod (Mod.of_below hb_w6 Nil) (fun hf => hf)
      replace HU := HU.trans hb_w6
      clear hb_w6
      have R_q := Row.new (w6) 24 #[.int .i64 ph, .int .u64 pl]
      replace R_a := R_a.alloc (.cells #[.int .i64 ph, .int .u64 pl] 24)
      replace R_b := R_b.alloc (.cells #[.int .i64 ph, .int .u64 pl] 24)
      replace R_x := R_x.alloc (.cells #[.int .i64 ph, .int .u64 pl] 24)
      replace R_y := R_y.alloc (.cells #[.int .i64 ph, .int .u64 pl] 24)
      replace R_u := R_u.alloc (.cells #[.int .i64 ph, .int .u64 pl] 24)
      replace R_v := R_v.alloc (.cells #[.int .i64 ph, .int .u64 pl] 24)
      replace R_p := R_p.alloc (.cells #[.int .i64 ph, .int .u64 pl] 24)
      replace HU := HU.alloc (.cells #[.int .i64 ph, .int .u64 pl] 24)
      go_wp2_with fail
      obtain ⟨VE, h_VE⟩ : ∃ VE, VE = (w6).alloc (.cells #[.int .i64 ph, .int .u64 pl] 24) := ⟨_, rfl⟩
      rw [← h_VE]
      rw [← h_VE] at R_a R_b R_x R_y R_u R_v R_p R_q HU
      have z_VE : VE.heap.size = _ := congrArg (fun a => a.heap.size) h_VE
      try simp only [alloc_size, setCell_size] at z_VE
      clear h_VE
      refine (known_any VE (tab_below HT.out HU.below hg) (by have := HU.size; omega)).mono ?_; rintro e w7 ⟨rfl, hb_w7⟩
      have z_w7 := hb_w7.size
      try simp only [alloc_size, setCell_size] at z_w7
      replace R_a := R_a.mod (Mod.of_below hb_w7 Nil) (fun hf => hf)
      replace R_b := R_b.mod (Mod.of_below hb_w7 Nil) (fun hf => hf)
      replace R_x := R_x.mod (Mod.of_below hb_w7 Nil) (fun hf => hf)
      replace R_y := R_y.mod (Mod.of_below hb_w7 Nil) (fun hf => hf)
      replace R_u := R_u.mod (Mod.of_below hb_w7 Nil) (fun hf => hf)
      replace R_v := R_v.mod (Mod.of_below hb_w7 Nil) (fun hf => hf)
      replace R_p := R_p.mod (Mod.of_below hb_w7 Nil) (fun hf => hf)
      replace R_q := R_q.mod (Mod.of_below hb_w7 Nil) (fun hf => hf)
      replace HU := HU.trans hb_w7
      clear hb_w7
      have c5_0 := R_x.cell 0
      have c5_1 := R_x.cell 1
      have c6_0 := R_y.cell 0
      have c6_1 := R_y.cell 1
      have c7_0 := R_u.cell 0
      have c7_1 := R_u.cell 1
      have c8_0 := R_v.cell 0
      have c8_1 := R_v.cell 1
      have c9_0 := R_p.cell 0
      have c9_1 := R_p.cell 1
      have c10_0 := R_q.cell 0
      have c10_1 := R_q.cell 1
      simp at c5_0 c5_1 c6_0 c6_1 c7_0 c7_1 c8_0 c8_1 c9_0 c9_1 c10_0 c10_1
      go_wp2_with fail
      clear c5_0 c5_1 c6_0 c6_1 c7_0 c7_1 c8_0 c8_1 c9_0 c9_1 c10_0 c10_1
      go_ret
      exact ⟨rfl, HU.below⟩

set_option maxRecDepth 100000 in
theorem contract (H : Type) (enc : TypeId × Value → H) (W : World) (base : Nat) (args : Array Value) (ds gs : List (DataW H)) (before : List MemPlace)
    (hval : ∀ (j : Nat) t v, Tryd.f7.params[j]? = some t → args[j]? = some v → Value.okWide Tryd.prog W .any base t v)
    (hW : DataW.Whole enc Tryd.prog Tryd.f7.params.toList Rows.wideScaledSpec.vars false W args.toList ds gs before) (hL : laidMetH Tryd.prog Rows.wideScaledRow.laid W) :
    Calls Tryd.prog 7 args W fun e W' => ∃ v, e = .returned v ∧ Rows.wideScaledSpec.post enc Tryd.prog Tryd.f7 false true false false W args v W' := by
  obtain ⟨ht, hg⟩ := table_of hL
  have hW' := hW
  obtain ⟨p, q, hA0, hV, rfl, hfz, hnd⟩ := hW
  have hA : DataW.TrodAll enc Tryd.prog W 0 (fun _ => true) true Tryd.f7.params.toList args.toList ds p := hA0
  rw [Tryd.params7] at hA hval
  obtain ⟨v0, v1, v2, d0, d1, d2, p0, p1, p2, rfl, rfl, rfl, h0, h1, h2⟩ := trodAll_three hA
  obtain ⟨rfl, rfl⟩ := trodVars_none hV
  obtain ⟨x0, rfl, hx0⟩ := open_wide (hval 0 24 v0 rfl rfl) h0
  obtain ⟨x1, rfl, hx1⟩ := open_wide (hval 1 24 v1 rfl rfl) h1
  obtain ⟨x2, rfl, rfl, rfl, wx2⟩ := open_int Tryd.underlying3 (hval 2 3 v2 rfl rfl) h2
  have hx2 := wf_i64 wx2
  refine (walk W x0 x1 x2 hx0 hx1 hx2 ht hg).mono fun e W' ⟨he, hbl⟩ => ⟨.bool true, he, ?_⟩
  exact law_post laidOut (by kernel_rfl) Tryd.underlying4 (readable_of (by kernel_rfl)) rfl rfl hW' hbl

theorem laid_met (os : Os) : laidMet Tryd.prog Rows.wideScaledRow.laid ((laidWorld os).forCall (fun _ _ => 0) ⟨#[], #[.agg #[.int .i64 0, .int .u64 0], .agg #[.int .i64 0, .int .u64 0], .int .i64 0], []⟩).memory := laidMet_of_run' 8 (by kernel_rfl) (by kernel_rfl)
theorem reads (os : Os) {H : Type} (enc : TypeId × Value → H) : ∃ places, DataW.whole enc Tryd.prog ((laidWorld os).forCall (fun _ _ => 0) ⟨#[], #[.agg #[.int .i64 0, .int .u64 0], .agg #[.int .i64 0, .int .u64 0], .int .i64 0], []⟩).memory Tryd.f7.params.toList Rows.wideScaledSpec.vars false (#[.agg #[.int .i64 0, .int .u64 0], .agg #[.int .i64 0, .int .u64 0], .int .i64 0] : Array Value).toList 8 = some ([.agg [.lit (.int .i64 0), .lit (.int .u64 0)], .agg [.lit (.int .i64 0), .lit (.int .u64 0)], .lit (.int .i64 0)], [], places) :=
  ⟨[], by kernel_rfl⟩

set_option maxRecDepth 100000 in
theorem lifted (os : Os) (started : os.Started) (H : Type) (enc : TypeId × Value → H) (F : Stop.Interp) :
    ReturnsInHanded {} Tryd.checked os 7 .any ((OpenSpec.ofChange Rows.wideScaledSpec).preRow enc Tryd.prog Tryd.f7 Rows.wideScaledRow.domain false Rows.wideScaledRow.laid) (((OpenSpec.ofChange Rows.wideScaledSpec).at F).post enc Tryd.prog Tryd.f7 false true false false) := by
  obtain ⟨places, hx⟩ := reads os enc
  refine returnsInHanded_of_row (C := Tryd.checked) (s := OpenSpec.ofChange Rows.wideScaledSpec) own started (by kernel_rfl) Tryd.func7
    (witness_row_atRef (enc := enc) (C := Tryd.checked) false (laidWorld os) #[.agg #[.int .i64 0, .int .u64 0], .agg #[.int .i64 0, .int .u64 0], .int .i64 0] rfl (by kernel_rfl) (by kernel_rfl) (by kernel_rfl)
      (OpenSpec.preRow_of_cond 8 hx (by kernel_rfl) (fun k hk => by cases hk) (by kernel_rfl) (laid_met os))) ?_
  intro W base args ds gs before hval hW _ _ _ hL _ _
  exact contract H enc W base args ds gs before hval hW hL

theorem said : Rows.WideScaledSaid :=
  OpenClaim.holds_of_cond 7 Tryd.f7 rfl rfl rfl rfl rfl rfl rfl ⟨rfl, rfl, rfl, rfl, rfl⟩ rfl rfl rfl rfl rfl (by kernel_rfl) Tryd.func7 (by kernel_rfl)
    (of_decide_eq_true (by kernel_rfl)) (by unfold Func.isWrapper; first | (rw [if_pos (by decide +kernel)]; kernel_rfl) | (rw [if_neg (by decide +kernel)]; exact ⟨rfl, rfl⟩))
    (fun os started H enc _ F => by rw [OpenClaim.pre_eq_preRow]; exact lifted os started H enc F)

/-- No parameter wants a stand-in: what the card asks. -/
theorem plain (f : FuncId) (fn : Func) (hf : Tryd.pinned.checked.prog.funcNamed "bursar/bursarlaw2.WideScaled" = some f) (hfn : Tryd.pinned.checked.prog.funcs[f]? = some fn) :
    true = Tryd.pinned.checked.prog.looks [] ∧ ∀ (j : Nat) t, fn.params[j]? = some t → Tryd.pinned.checked.prog.wantsStandIn t = false := by
  obtain rfl : f = 7 := Option.some.inj ((show Tryd.prog.funcNamed "bursar/bursarlaw2.WideScaled" = some 7 by kernel_rfl).symm.trans hf) |>.symm
  obtain rfl : fn = Tryd.f7 := (Option.some.inj (Tryd.func7.symm.trans hfn)).symm
  refine ⟨by kernel_rfl, fun j t ht => ?_⟩
  rw [Tryd.params7] at ht
  have hm : t ∈ [24, 24, 3] := by simpa using Array.mem_of_getElem? ht
  have hall : ([24, 24, 3].all fun u => !Tryd.prog.wantsStandIn u) = true := by kernel_rfl
  exact (show Tryd.prog.wantsStandIn t = false by simpa using List.all_eq_true.1 hall t hm)

/-- THE CARD -/
theorem proved : Rows.WideScaledCardSaid :=
  Claim7.holds_tied_plain_at .later [] _ _ _ _ said (fun _ h => by cases h) (by kernel_rfl) (fun _ h => by cases h) wideScaled_row_tie rfl ⟨rfl, rfl⟩ (by kernel_rfl) rfl plain (by kernel_rfl)

end Go.Proofs.YtfalllekhcocgaaDoor.wideScaled
