/-
  Sums and products hang on no order; a product of a sum is the sum of the products, where all of these have a place. No condition.
-/
import Derived.Test.YtfalllekhcocgaaDoorLawW
namespace Go.Proofs.YtfalllekhcocgaaDoor.wideRing
open Go.ChangeShapes Go.WideShapes Go.ChangeAt Go.RowKit

theorem resV_split (z : Int) : ∃ a b k : Int, resV z = .tuple #[.agg #[.int .i64 a, .int .u64 b], .int .i64 k] ∧ ((k = 0 ∧ Fits z ∧ WV z = .agg #[.int .i64 a, .int .u64 b]) ∨ k = 20) := by
  by_cases h : Fits z
  · rw [resV_fit h]
    exact ⟨_, _, _, rfl, .inl ⟨rfl, h, rfl⟩⟩
  · rw [resV_over h]
    exact ⟨_, _, _, rfl, .inr rfl⟩

set_option maxRecDepth 100000 in
set_option maxHeartbeats 4000000 in
theorem walk (w : World) (x y z : Int) (hx : Fits x) (hy : Fits y) (hz : Fits z) (htab : Lib.TabIs Tryd.prog w "internal/strconv.uint64pow10" .u64 Lib.pow10Tab) (hg : 2 < w.heap.size) :
    Calls Tryd.prog 11 #[WV x, WV y, WV z] w fun e w' => e = .returned (.bool true) ∧ Below w.heap.size w w' := by
  have M1 := fun w => mul_any w x y hx hy
  have M2 := fun w => mul_any w y x hy hx
  have M3 := fun w => mul_any w x z hx hz
  have A1 := fun w => add_any w y z hy hz
  have M4 := fun w (h : Fits (y + z)) => mul_any w x (y + z) hx h
  have A2 := fun w (h1 : Fits (x * y)) (h2 : Fits (x * z)) => add_any w (x * y) (x * z) h1 h2
  rw [← Int.mul_add] at A2
  obtain ⟨ah, al, e1, _, _, _⟩ := WV_of hx
  obtain ⟨bh, bl, e2, _, _, _⟩ := WV_of hy
  obtain ⟨ch, cl, e3, _, _, _⟩ := WV_of hz
  rw [Int.mul_comm y x] at M2
  obtain ⟨ph, pl, k, hp, hp'⟩ := resV_split (x * y)
  obtain ⟨qh, ql, k2, hq, hq'⟩ := resV_split (x * z)
  obtain ⟨sh, sl, k3, hs, hs'⟩ := resV_split (y + z)
  obtain ⟨uh, ul, k4, hu, _⟩ := resV_split (x * (y + z))
  rw [e1, e2, hp] at M1 M2
  rw [e1, e3, hq] at M3
  rw [e2, e3, hs] at A1
  rw [hu, e1] at M4
  rw [hu] at A2
  rw [e1, e2, e3]
  have M1 := hid M1
  have M2 := hid M2
  have M3 := hid M3
  have A1 := hid A1
  have M4 := hid M4
  have A2 := hid A2
  have HT := hid htab
  have HP := hid hp'
  have HQ := hid hq'
  have HS := hid hs'
  clear htab hp hq hs hu hp' hq' hs' e1 e2 e3
  have R_a := ((Row.new w 24 #[.int .i64 ah, .int .u64 al]).alloc (.cells #[.int .i64 bh, .int .u64 bl] 24)).alloc (.cells #[.int .i64 ch, .int .u64 cl] 24)
  have R_b := (Row.new (w.alloc (.cells #[.int .i64 ah, .int .u64 al] 24)) 24 #[.int .i64 bh, .int .u64 bl]).alloc (.cells #[.int .i64 ch, .int .u64 cl] 24)
  have R_c := Row.new ((w.alloc (.cells #[.int .i64 ah, .int .u64 al] 24)).alloc (.cells #[.int .i64 bh, .int .u64 bl] 24)) 24 #[.int .i64 ch, .int .u64 cl]
  have HU := (((Up.refl w).alloc (.cells #[.int .i64 ah, .int .u64 al] 24)).alloc (.cells #[.int .i64 bh, .int .u64 bl] 24)).alloc (.cells #[.int .i64 ch, .int .u64 cl] 24)
  simp only [alloc_size] at R_b R_c
  go_enter Tryd.func11, Tryd.ntmps11
  go_wp2_with fail
  refine Calls.mono (M1.out _) ?_; rintro e w1 ⟨rfl, hb_w1⟩
  have z_w1 := hb_w1.size
  try simp only [alloc_size, setCell_size] at z_w1
  replace R_a := R_a.mod (Mod.of_below hb_w1 Nil) (fun hf => hf)
  replace R_b := R_b.mod (Mod.of_below hb_w1 Nil) (fun hf => hf)
  replace R_c := R_c.mod (Mod.of_below hb_w1 Nil) (fun hf => hf)
  replace HU := HU.trans hb_w1
  clear hb_w1
  have R_x := Row.new (w1) 24 #[.int .i64 ph, .int .u64 pl]
  replace R_a := R_a.alloc (.cells #[.int .i64 ph, .int .u64 pl] 24)
  replace R_b := R_b.alloc (.cells #[.int .i64 ph, .int .u64 pl] 24)
  replace R_c := R_c.alloc (.cells #[.int .i64 ph, .int .u64 pl] 24)
  replace HU := HU.alloc (.cells #[.int .i64 ph, .int .u64 pl] 24)
  have c1_0 := R_b.cell 0
  have c1_1 := R_b.cell 1
  have c2_0 := R_a.cell 0
  have c2_1 := R_a.cell 1
  simp at c1_0 c1_1 c2_0 c2_1
  go_wp2_with fail
  clear c1_0 c1_1 c2_0 c2_1
  refine Calls.mono (M2.out _) ?_; rintro e w2 ⟨rfl, hb_w2⟩
  have z_w2 := hb_w2.size
  try simp only [alloc_size, setCell_size] at z_w2
  replace R_a := R_a.mod (Mod.of_below hb_w2 Nil) (fun hf => hf)
  replace R_b := R_b.mod (Mod.of_below hb_w2 Nil) (fun hf => hf)
  replace R_c := R_c.mod (Mod.of_below hb_w2 Nil) (fun hf => hf)
  replace R_x := R_x.mod (Mod.of_below hb_w2 Nil) (fun hf => hf)
  replace HU := HU.trans hb_w2
  clear hb_w2
  have R_y := Row.new (w2) 24 #[.int .i64 ph, .int .u64 pl]
  replace R_a := R_a.alloc (.cells #[.int .i64 ph, .int .u64 pl] 24)
  replace R_b := R_b.alloc (.cells #[.int .i64 ph, .int .u64 pl] 24)
  replace R_c := R_c.alloc (.cells #[.int .i64 ph, .int .u64 pl] 24)
  replace R_x := R_x.alloc (.cells #[.int .i64 ph, .int .u64 pl] 24)
  replace HU := HU.alloc (.cells #[.int .i64 ph, .int .u64 pl] 24)
  go_wp2_with fail
  obtain ⟨V, h_V⟩ : ∃ V, V = (w2).alloc (.cells #[.int .i64 ph, .int .u64 pl] 24) := ⟨_, rfl⟩
  rw [← h_V]
  rw [← h_V] at R_a R_b R_c R_x R_y HU
  have z_V : V.heap.size = _ := congrArg (fun a => a.heap.size) h_V
  try simp only [alloc_size, setCell_size] at z_V
  clear h_V
  refine (known_any V (tab_below HT.out HU.below hg) (by have := HU.size; omega)).mono ?_; rintro e w3 ⟨rfl, hb_w3⟩
  have z_w3 := hb_w3.size
  try simp only [alloc_size, setCell_size] at z_w3
  replace R_a := R_a.mod (Mod.of_below hb_w3 Nil) (fun hf => hf)
  replace R_b := R_b.mod (Mod.of_below hb_w3 Nil) (fun hf => hf)
  replace R_c := R_c.mod (Mod.of_below hb_w3 Nil) (fun hf => hf)
  replace R_x := R_x.mod (Mod.of_below hb_w3 Nil) (fun hf => hf)
  replace R_y := R_y.mod (Mod.of_below hb_w3 Nil) (fun hf => hf)
  replace HU := HU.trans hb_w3
  clear hb_w3
  have c3_0 := R_x.cell 0
  have c3_1 := R_x.cell 1
  have c4_0 := R_y.cell 0
  have c4_1 := R_y.cell 1
  have c5_0 := R_a.cell 0
  have c5_1 := R_a.cell 1
  have c6_0 := R_c.cell 0
  have c6_1 := R_c.cell 1
  simp at c3_0 c3_1 c4_0 c4_1 c5_0 c5_1 c6_0 c6_1
  go_wp2_with fail
  clear c3_0 c3_1 c4_0 c4_1 c5_0 c5_1 c6_0 c6_1
  refine Calls.mono (M3.out _) ?_; rintro e w4 ⟨rfl, hb_w4⟩
  have z_w4 := hb_w4.size
  try simp only [alloc_size, setCell_size] at z_w4
  replace R_a := R_a.mod (Mod.of_below hb_w4 Nil) (fun hf => hf)
  replace R_b := R_b.mod (Mod.of_below hb_w4 Nil) (fun hf => hf)
  replace R_c := R_c.mod (Mod.of_below hb_w4 Nil) (fun hf => hf)
  replace R_x := R_x.mod (Mod.of_below hb_w4 Nil) (fun hf => hf)
  replace R_y := R_y.mod (Mod.of_below hb_w4 Nil) (fun hf => hf)
  replace HU := HU.trans hb_w4
  clear hb_w4
  have R_z := Row.new (w4) 24 #[.int .i64 qh, .int .u64 ql]
  replace R_a := R_a.alloc (.cells #[.int .i64 qh, .int .u64 ql] 24)
  replace R_b := R_b.alloc (.cells #[.int .i64 qh, .int .u64 ql] 24)
  replace R_c := R_c.alloc (.cells #[.int .i64 qh, .int .u64 ql] 24)
  replace R_x := R_x.alloc (.cells #[.int .i64 qh, .int .u64 ql] 24)
  replace R_y := R_y.alloc (.cells #[.int .i64 qh, .int .u64 ql] 24)
  replace HU := HU.alloc (.cells #[.int .i64 qh, .int .u64 ql] 24)
  have c7_0 := R_b.cell 0
  have c7_1 := R_b.cell 1
  have c8_0 := R_c.cell 0
  have c8_1 := R_c.cell 1
  simp at c7_0 c7_1 c8_0 c8_1
  go_wp2_with fail
  clear c7_0 c7_1 c8_0 c8_1
  refine Calls.mono (A1.out _) ?_; rintro e w5 ⟨rfl, hb_w5⟩
  have z_w5 := hb_w5.size
  try simp only [alloc_size, setCell_size] at z_w5
  replace R_a := R_a.mod (Mod.of_below hb_w5 Nil) (fun hf => hf)
  replace R_b := R_b.mod (Mod.of_below hb_w5 Nil) (fun hf => hf)
  replace R_c := R_c.mod (Mod.of_below hb_w5 Nil) (fun hf => hf)
  replace R_x := R_x.mod (Mod.of_below hb_w5 Nil) (fun hf => hf)
  replace R_y := R_y.mod (Mod.of_below hb_w5 Nil) (fun hf => hf)
  replace R_z := R_z.mod (Mod.of_below hb_w5 Nil) (fun hf => hf)
  replace HU := HU.trans hb_w5
  clear hb_w5
  have R_s := Row.new (w5) 24 #[.int .i64 sh, .int .u64 sl]
  replace R_a := R_a.alloc (.cells #[.int .i64 sh, .int .u64 sl] 24)
  replace R_b := R_b.alloc (.cells #[.int .i64 sh, .int .u64 sl] 24)
  replace R_c := R_c.alloc (.cells #[.int .i64 sh, .int .u64 sl] 24)
  replace R_x := R_x.alloc (.cells #[.int .i64 sh, .int .u64 sl] 24)
  replace R_y := R_y.alloc (.cells #[.int .i64 sh, .int .u64 sl] 24)
  replace R_z := R_z.alloc (.cells #[.int .i64 sh, .int .u64 sl] 24)
  replace HU := HU.alloc (.cells #[.int .i64 sh, .int .u64 sl] 24)
  have c9_0 := R_a.cell 0
  have c9_1 := R_a.cell 1
  have c10_0 := R_x.cell 0
  have c10_1 := R_x.cell 1
  have c11_0 := R_z.cell 0
  have c11_1 := R_z.cell 1
  have c12_0 := R_s.cell 0
  have c12_1 := R_s.cell 1
  simp at c9_0 c9_1 c10_0 c10_1 c11_0 c11_1 c12_0 c12_1
  obtain ⟨V2, h_V2⟩ : ∃ V2, V2 = w5.alloc (.cells #[.int .i64 sh, .int .u64 sl] 24) := ⟨_, rfl⟩
  rcases HP.out with ⟨rfl, f1, g1⟩ | rfl
  · rcases HQ.out with ⟨rfl, f2, g2⟩ | rfl
    · rcases HS.out with ⟨rfl, f3, g3⟩ | rfl
      · have m4 := fun w => M4.out w f3
        have a2 := fun w => A2.out w f1 f2
        rw [g3] at m4
        rw [g1, g2] at a2
        have m4 := hid m4
        have a2 := hid a2
        clear f1 g1 f2 g2 f3 g3
        go_wp2_with fail
        refine Calls.mono (m4.out _) ?_; rintro e w6 ⟨rfl, hb_w6⟩
        have z_w6 := hb_w6.size
        try simp only [alloc_size, setCell_size] at z_w6
        replace R_a := R_a.mod (Mod.of_below hb_w6 Nil) (fun hf => hf)
        replace R_b := R_b.mod (Mod.of_below hb_w6 Nil) (fun hf => hf)
        replace R_c := R_c.mod (Mod.of_below hb_w6 Nil) (fun hf => hf)
        replace R_x := R_x.mod (Mod.of_below hb_w6 Nil) (fun hf => hf)
        replace R_y := R_y.mod (Mod.of_below hb_w6 Nil) (fun hf => hf)
        replace R_z := R_z.mod (Mod.of_below hb_w6 Nil) (fun hf => hf)
        replace R_s := R_s.mod (Mod.of_below hb_w6 Nil) (fun hf => hf)
        replace HU := HU.trans hb_w6
        clear hb_w6
        have R_u := Row.new (w6) 24 #[.int .i64 uh, .int .u64 ul]
        replace R_a := R_a.alloc (.cells #[.int .i64 uh, .int .u64 ul] 24)
        replace R_b := R_b.alloc (.cells #[.int .i64 uh, .int .u64 ul] 24)
        replace R_c := R_c.alloc (.cells #[.int .i64 uh, .int .u64 ul] 24)
        replace R_x := R_x.alloc (.cells #[.int .i64 uh, .int .u64 ul] 24)
        replace R_y := R_y.alloc (.cells #[.int .i64 uh, .int .u64 ul] 24)
        replace R_z := R_z.alloc (.cells #[.int .i64 uh, .int .u64 ul] 24)
        replace R_s := R_s.alloc (.cells #[.int .i64 uh, .int .u64 ul] 24)
        replace HU := HU.alloc (.cells #[.int .i64 uh, .int .u64 ul] 24)
        have c13_0 := R_x.cell 0
        have c13_1 := R_x.cell 1
        have c14_0 := R_z.cell 0
        have c14_1 := R_z.cell 1
        simp at c13_0 c13_1 c14_0 c14_1
        go_wp2_with fail
        clear c13_0 c13_1 c14_0 c14_1
        refine Calls.mono (a2.out _) ?_; rintro e w7 ⟨rfl, hb_w7⟩
        have z_w7 := hb_w7.size
        try simp only [alloc_size, setCell_size] at z_w7
        replace R_a := R_a.mod (Mod.of_below hb_w7 Nil) (fun hf => hf)
        replace R_b := R_b.mod (Mod.of_below hb_w7 Nil) (fun hf => hf)
        replace R_c := R_c.mod (Mod.of_below hb_w7 Nil) (fun hf => hf)
        replace R_x := R_x.mod (Mod.of_below hb_w7 Nil) (fun hf => hf)
        replace R_y := R_y.mod (Mod.of_below hb_w7 Nil) (fun hf => hf)
        replace R_z := R_z.mod (Mod.of_below hb_w7 Nil) (fun hf => hf)
        replace R_s := R_s.mod (Mod.of_below hb_w7 Nil) (fun hf => hf)
        replace R_u := R_u.mod (Mod.of_below hb_w7 Nil) (fun hf => hf)
        replace HU := HU.trans hb_w7
        clear hb_w7
        have R_v := Row.new (w7) 24 #[.int .i64 uh, .int .u64 ul]
        replace R_a := R_a.alloc (.cells #[.int .i64 uh, .int .u64 ul] 24)
        replace R_b := R_b.alloc (.cells #[.int .i64 uh, .int .u64 ul] 24)
        replace R_c := R_c.alloc (.cells #[.int .i64 uh, .int .u64 ul] 24)
        replace R_x := R_x.alloc (.cells #[.int .i64 uh, .int .u64 ul] 24)
        replace R_y := R_y.alloc (.cells #[.int .i64 uh, .int .u64 ul] 24)
        replace R_z := R_z.alloc (.cells #[.int .i64 uh, .int .u64 ul] 24)
        replace R_s := R_s.alloc (.cells #[.int .i64 uh, .int .u64 ul] 24)
        replace R_u := R_u.alloc (.cells #[.int .i64 uh, .int .u64 ul] 24)
        replace HU := HU.alloc (.cells #[.int .i64 uh, .int .u64 ul] 24)
        have c15_0 := R_u.cell 0
        have c15_1 := R_u.cell 1
        simp at c15_0 c15_1
        go_wp2_with fail
        clear c15_0 c15_1
        go_ret
        exact ⟨rfl, HU.below⟩
      · go_wp2_with fail
        go_ret
        exact ⟨rfl, HU.below⟩
    · go_wp2_with fail
      go_ret
      exact ⟨rfl, HU.below⟩
  · go_wp2_with fail
    go_ret
    exact ⟨rfl, HU.below⟩

set_option maxRecDepth 100000 in
theorem contract (H : Type) (enc : TypeId × Value → H) (W : World) (base : Nat) (args : Array Value) (ds gs : List (DataW H)) (before : List MemPlace)
    (hval : ∀ (j : Nat) t v, Tryd.f11.params[j]? = some t → args[j]? = some v → Value.okWide Tryd.prog W .any base t v)
    (hW : DataW.Whole enc Tryd.prog Tryd.f11.params.toList Rows.wideRingSpec.vars false W args.toList ds gs before) (hL : laidMetH Tryd.prog Rows.wideRingRow.laid W) :
    Calls Tryd.prog 11 args W fun e W' => ∃ v, e = .returned v ∧ Rows.wideRingSpec.post enc Tryd.prog Tryd.f11 false true false false W args v W' := by
  obtain ⟨ht, hg⟩ := table_of hL
  have hW' := hW
  obtain ⟨p, q, hA0, hV, rfl, hfz, hnd⟩ := hW
  have hA : DataW.TrodAll enc Tryd.prog W 0 (fun _ => true) true Tryd.f11.params.toList args.toList ds p := hA0
  rw [Tryd.params11] at hA hval
  obtain ⟨v0, v1, v2, d0, d1, d2, p0, p1, p2, rfl, rfl, rfl, h0, h1, h2⟩ := trodAll_three hA
  obtain ⟨rfl, rfl⟩ := trodVars_none hV
  obtain ⟨x0, rfl, hx0⟩ := open_wide (hval 0 24 v0 rfl rfl) h0
  obtain ⟨x1, rfl, hx1⟩ := open_wide (hval 1 24 v1 rfl rfl) h1
  obtain ⟨x2, rfl, hx2⟩ := open_wide (hval 2 24 v2 rfl rfl) h2
  refine (walk W x0 x1 x2 hx0 hx1 hx2 ht hg).mono fun e W' ⟨he, hbl⟩ => ⟨.bool true, he, ?_⟩
  exact law_post laidOut (by kernel_rfl) Tryd.underlying4 (readable_of (by kernel_rfl)) rfl rfl hW' hbl

theorem laid_met (os : Os) : laidMet Tryd.prog Rows.wideRingRow.laid ((laidWorld os).forCall (fun _ _ => 0) ⟨#[], #[.agg #[.int .i64 0, .int .u64 0], .agg #[.int .i64 0, .int .u64 0], .agg #[.int .i64 0, .int .u64 0]], []⟩).memory := laidMet_of_run' 8 (by kernel_rfl) (by kernel_rfl)
theorem reads (os : Os) {H : Type} (enc : TypeId × Value → H) : ∃ places, DataW.whole enc Tryd.prog ((laidWorld os).forCall (fun _ _ => 0) ⟨#[], #[.agg #[.int .i64 0, .int .u64 0], .agg #[.int .i64 0, .int .u64 0], .agg #[.int .i64 0, .int .u64 0]], []⟩).memory Tryd.f11.params.toList Rows.wideRingSpec.vars false (#[.agg #[.int .i64 0, .int .u64 0], .agg #[.int .i64 0, .int .u64 0], .agg #[.int .i64 0, .int .u64 0]] : Array Value).toList 8 = some ([.agg [.lit (.int .i64 0), .lit (.int .u64 0)], .agg [.lit (.int .i64 0), .lit (.int .u64 0)], .agg [.lit (.int .i64 0), .lit (.int .u64 0)]], [], places) :=
  ⟨[], by kernel_rfl⟩

set_option maxRecDepth 100000 in
theorem lifted (os : Os) (started : os.Started) (H : Type) (enc : TypeId × Value → H) (F : Stop.Interp) :
    ReturnsInHanded {} Tryd.checked os 11 .any ((OpenSpec.ofChange Rows.wideRingSpec).preRow enc Tryd.prog Tryd.f11 Rows.wideRingRow.domain false Rows.wideRingRow.laid) (((OpenSpec.ofChange Rows.wideRingSpec).at F).post enc Tryd.prog Tryd.f11 false true false false) := by
  obtain ⟨places, hx⟩ := reads os enc
  refine returnsInHanded_of_row (C := Tryd.checked) (s := OpenSpec.ofChange Rows.wideRingSpec) own started (by kernel_rfl) Tryd.func11
    (witness_row_atRef (enc := enc) (C := Tryd.checked) false (laidWorld os) #[.agg #[.int .i64 0, .int .u64 0], .agg #[.int .i64 0, .int .u64 0], .agg #[.int .i64 0, .int .u64 0]] rfl (by kernel_rfl) (by kernel_rfl) (by kernel_rfl)
      (OpenSpec.preRow_of_cond 8 hx (by kernel_rfl) (fun k hk => by cases hk) (by kernel_rfl) (laid_met os))) ?_
  intro W base args ds gs before hval hW _ _ _ hL _ _
  exact contract H enc W base args ds gs before hval hW hL

theorem said : Rows.WideRingSaid :=
  OpenClaim.holds_of_cond 11 Tryd.f11 rfl rfl rfl rfl rfl rfl rfl ⟨rfl, rfl, rfl, rfl, rfl⟩ rfl rfl rfl rfl rfl (by kernel_rfl) Tryd.func11 (by kernel_rfl)
    (of_decide_eq_true (by kernel_rfl)) (by unfold Func.isWrapper; first | (rw [if_pos (by decide +kernel)]; kernel_rfl) | (rw [if_neg (by decide +kernel)]; exact ⟨rfl, rfl⟩))
    (fun os started H enc _ F => by rw [OpenClaim.pre_eq_preRow]; exact lifted os started H enc F)

/-- No parameter wants a stand-in: what the card asks. -/
theorem plain (f : FuncId) (fn : Func) (hf : Tryd.pinned.checked.prog.funcNamed "bursar/bursarlaw2.WideRing" = some f) (hfn : Tryd.pinned.checked.prog.funcs[f]? = some fn) :
    true = Tryd.pinned.checked.prog.looks [] ∧ ∀ (j : Nat) t, fn.params[j]? = some t → Tryd.pinned.checked.prog.wantsStandIn t = false := by
  obtain rfl : f = 11 := Option.some.inj ((show Tryd.prog.funcNamed "bursar/bursarlaw2.WideRing" = some 11 by kernel_rfl).symm.trans hf) |>.symm
  obtain rfl : fn = Tryd.f11 := (Option.some.inj (Tryd.func11.symm.trans hfn)).symm
  refine ⟨by kernel_rfl, fun j t ht => ?_⟩
  rw [Tryd.params11] at ht
  have hm : t ∈ [24, 24, 24] := by simpa using Array.mem_of_getElem? ht
  have hall : ([24, 24, 24].all fun u => !Tryd.prog.wantsStandIn u) = true := by kernel_rfl
  exact (show Tryd.prog.wantsStandIn t = false by simpa using List.all_eq_true.1 hall t hm)

/-- THE CARD -/
theorem proved : Rows.WideRingCardSaid :=
  Claim7.holds_tied_plain_at .later [] _ _ _ _ said (fun _ h => by cases h) (by kernel_rfl) (fun _ h => by cases h) wideRing_row_tie rfl ⟨rfl, rfl⟩ (by kernel_rfl) rfl plain (by kernel_rfl)

end Go.Proofs.YtfalllekhcocgaaDoor.wideRing
