/-
  Sums, differences, what is negated, compared, and of which sign, are as the document says, of any two numbers. No condition.
-/
import Derived.Test.YtfalllekhcocgaaDoorLawW
import Derived.Test.YtfalllekhcocgaaDoorRefM
namespace Go.Proofs.YtfalllekhcocgaaDoor.wideAdds
open Go.ChangeShapes Go.WideShapes Go.ChangeAt Go.RowKit

set_option maxRecDepth 100000 in
set_option maxHeartbeats 4000000 in
theorem walk (w : World) (x y n : Int) (hx : Fits x) (hy : Fits y) (hn : -9223372036854775808 ≤ n ∧ n ≤ 9223372036854775807) (htab : Lib.TabIs Tryd.prog w "internal/strconv.uint64pow10" .u64 Lib.pow10Tab) (hg : 2 < w.heap.size) :
    Calls Tryd.prog 4 #[WV x, WV y, .int .i64 n] w fun e w' => e = .returned (.bool true) ∧ Below w.heap.size w w' := by
  have h0 : Fits 0 := by decide
  have A1 := fun w => add_any w x y hx hy
  have A2 := fun w => raddw_any w x y hx hy
  have S1 := fun w => sub_any w x y hx hy
  have S2 := fun w => rsubw_any w x y hx hy
  have N1 := fun w => neg_any w x hx
  have N2 := fun w => rnegw_any w x hx
  have C1 := fun w => cmp_any w x y hx hy
  have C2 := fun w => rcmpw_any w x y hx hy
  have G1 := fun w => sign_any w x hx
  have G2 := fun w => rcmpw_any w x 0 hx h0
  have O1 := fun w => of_any w n (by omega)
  have O2 := fun w => widened_any w n (by omega)
  obtain ⟨ah, al, e1, _, _, _⟩ := WV_of hx
  obtain ⟨bh, bl, e2, _, _, _⟩ := WV_of hy
  have e0 : WV 0 = .agg #[.int .i64 0, .int .u64 0] := by kernel_rfl
  obtain ⟨oh, ol, e4⟩ : ∃ hi lo : Int, WV n = .agg #[.int .i64 hi, .int .u64 lo] := ⟨_, _, rfl⟩
  obtain ⟨sh, sl, sk, es⟩ := resV_form (x + y)
  obtain ⟨dh, dl, dk, ed⟩ := resV_form (x - y)
  obtain ⟨nh, nl, nk, en⟩ := resV_form (-x)
  obtain ⟨c, hc⟩ : ∃ c, c = cmp3 x y := ⟨_, rfl⟩
  obtain ⟨g, hgs⟩ : ∃ c, c = cmp3 x 0 := ⟨_, rfl⟩
  rw [e1, e2, es] at A1 A2
  rw [e1, e2, ed] at S1 S2
  rw [e1, en] at N1 N2
  rw [e1, e2, ← hc] at C1 C2
  rw [e1, ← hgs] at G1
  rw [e1, e0, ← hgs] at G2
  rw [e4] at O1 O2
  rw [e1, e2]
  have A1 := hid A1
  have A2 := hid A2
  have S1 := hid S1
  have S2 := hid S2
  have N1 := hid N1
  have N2 := hid N2
  have C1 := hid C1
  have C2 := hid C2
  have G1 := hid G1
  have G2 := hid G2
  have O1 := hid O1
  have O2 := hid O2
  have HT := hid htab
  clear htab e0 e1 e2 e4 es ed en hc hgs h0 hn
  have R_a := (Row.new w 24 #[.int .i64 ah, .int .u64 al]).alloc (.cells #[.int .i64 bh, .int .u64 bl] 24)
  have R_b := Row.new (w.alloc (.cells #[.int .i64 ah, .int .u64 al] 24)) 24 #[.int .i64 bh, .int .u64 bl]
  have HU := ((Up.refl w).alloc (.cells #[.int .i64 ah, .int .u64 al] 24)).alloc (.cells #[.int .i64 bh, .int .u64 bl] 24)
  simp only [alloc_size] at R_b
  go_enter Tryd.func4, Tryd.ntmps4
  go_wp2_with fail
  refine Calls.mono (A1.out _) ?_; rintro e w1 ⟨rfl, hb_w1⟩
  have z_w1 := hb_w1.size
  try simp only [alloc_size, setCell_size] at z_w1
  replace R_a := R_a.mod (Mod.of_below hb_w1 Nil) (fun hf => hf)
  replace R_b := R_b.mod (Mod.of_below hb_w1 Nil) (fun hf => hf)
  replace HU := HU.trans hb_w1
  clear hb_w1
  have R_x := Row.new (w1) 24 #[.int .i64 sh, .int .u64 sl]
  replace R_a := R_a.alloc (.cells #[.int .i64 sh, .int .u64 sl] 24)
  replace R_b := R_b.alloc (.cells #[.int .i64 sh, .int .u64 sl] 24)
  replace HU := HU.alloc (.cells #[.int .i64 sh, .int .u64 sl] 24)
  have c1_0 := R_b.cell 0
  have c1_1 := R_b.cell 1
  have c2_0 := R_a.cell 0
  have c2_1 := R_a.cell 1
  simp at c1_0 c1_1 c2_0 c2_1
  go_wp2_with fail
  clear c1_0 c1_1 c2_0 c2_1
  refine Calls.mono (A2.out _) ?_; rintro e w2 ⟨rfl, hb_w2⟩
  have z_w2 := hb_w2.size
  try simp only [alloc_size, setCell_size] at z_w2
  replace R_a := R_a.mod (Mod.of_below hb_w2 Nil) (fun hf => hf)
  replace R_b := R_b.mod (Mod.of_below hb_w2 Nil) (fun hf => hf)
  replace R_x := R_x.mod (Mod.of_below hb_w2 Nil) (fun hf => hf)
  replace HU := HU.trans hb_w2
  clear hb_w2
  have R_y := Row.new (w2) 24 #[.int .i64 sh, .int .u64 sl]
  replace R_a := R_a.alloc (.cells #[.int .i64 sh, .int .u64 sl] 24)
  replace R_b := R_b.alloc (.cells #[.int .i64 sh, .int .u64 sl] 24)
  replace R_x := R_x.alloc (.cells #[.int .i64 sh, .int .u64 sl] 24)
  replace HU := HU.alloc (.cells #[.int .i64 sh, .int .u64 sl] 24)
  have c3_0 := R_b.cell 0
  have c3_1 := R_b.cell 1
  have c4_0 := R_a.cell 0
  have c4_1 := R_a.cell 1
  simp at c3_0 c3_1 c4_0 c4_1
  go_wp2_with fail
  clear c3_0 c3_1 c4_0 c4_1
  refine Calls.mono (S1.out _) ?_; rintro e w3 ⟨rfl, hb_w3⟩
  have z_w3 := hb_w3.size
  try simp only [alloc_size, setCell_size] at z_w3
  replace R_a := R_a.mod (Mod.of_below hb_w3 Nil) (fun hf => hf)
  replace R_b := R_b.mod (Mod.of_below hb_w3 Nil) (fun hf => hf)
  replace R_x := R_x.mod (Mod.of_below hb_w3 Nil) (fun hf => hf)
  replace R_y := R_y.mod (Mod.of_below hb_w3 Nil) (fun hf => hf)
  replace HU := HU.trans hb_w3
  clear hb_w3
  have R_u := Row.new (w3) 24 #[.int .i64 dh, .int .u64 dl]
  replace R_a := R_a.alloc (.cells #[.int .i64 dh, .int .u64 dl] 24)
  replace R_b := R_b.alloc (.cells #[.int .i64 dh, .int .u64 dl] 24)
  replace R_x := R_x.alloc (.cells #[.int .i64 dh, .int .u64 dl] 24)
  replace R_y := R_y.alloc (.cells #[.int .i64 dh, .int .u64 dl] 24)
  replace HU := HU.alloc (.cells #[.int .i64 dh, .int .u64 dl] 24)
  have c5_0 := R_b.cell 0
  have c5_1 := R_b.cell 1
  have c6_0 := R_a.cell 0
  have c6_1 := R_a.cell 1
  simp at c5_0 c5_1 c6_0 c6_1
  go_wp2_with fail
  clear c5_0 c5_1 c6_0 c6_1
  refine Calls.mono (S2.out _) ?_; rintro e w4 ⟨rfl, hb_w4⟩
  have z_w4 := hb_w4.size
  try simp only [alloc_size, setCell_size] at z_w4
  replace R_a := R_a.mod (Mod.of_below hb_w4 Nil) (fun hf => hf)
  replace R_b := R_b.mod (Mod.of_below hb_w4 Nil) (fun hf => hf)
  replace R_x := R_x.mod (Mod.of_below hb_w4 Nil) (fun hf => hf)
  replace R_y := R_y.mod (Mod.of_below hb_w4 Nil) (fun hf => hf)
  replace R_u := R_u.mod (Mod.of_below hb_w4 Nil) (fun hf => hf)
  replace HU := HU.trans hb_w4
  clear hb_w4
  have R_v := Row.new (w4) 24 #[.int .i64 dh, .int .u64 dl]
  replace R_a := R_a.alloc (.cells #[.int .i64 dh, .int .u64 dl] 24)
  replace R_b := R_b.alloc (.cells #[.int .i64 dh, .int .u64 dl] 24)
  replace R_x := R_x.alloc (.cells #[.int .i64 dh, .int .u64 dl] 24)
  replace R_y := R_y.alloc (.cells #[.int .i64 dh, .int .u64 dl] 24)
  replace R_u := R_u.alloc (.cells #[.int .i64 dh, .int .u64 dl] 24)
  replace HU := HU.alloc (.cells #[.int .i64 dh, .int .u64 dl] 24)
  have c7_0 := R_a.cell 0
  have c7_1 := R_a.cell 1
  simp at c7_0 c7_1
  go_wp2_with fail
  clear c7_0 c7_1
  refine Calls.mono (N1.out _) ?_; rintro e w5 ⟨rfl, hb_w5⟩
  have z_w5 := hb_w5.size
  try simp only [alloc_size, setCell_size] at z_w5
  replace R_a := R_a.mod (Mod.of_below hb_w5 Nil) (fun hf => hf)
  replace R_b := R_b.mod (Mod.of_below hb_w5 Nil) (fun hf => hf)
  replace R_x := R_x.mod (Mod.of_below hb_w5 Nil) (fun hf => hf)
  replace R_y := R_y.mod (Mod.of_below hb_w5 Nil) (fun hf => hf)
  replace R_u := R_u.mod (Mod.of_below hb_w5 Nil) (fun hf => hf)
  replace R_v := R_v.mod (Mod.of_below hb_w5 Nil) (fun hf => hf)
  replace HU := HU.trans hb_w5
  clear hb_w5
  have R_p := Row.new (w5) 24 #[.int .i64 nh, .int .u64 nl]
  replace R_a := R_a.alloc (.cells #[.int .i64 nh, .int .u64 nl] 24)
  replace R_b := R_b.alloc (.cells #[.int .i64 nh, .int .u64 nl] 24)
  replace R_x := R_x.alloc (.cells #[.int .i64 nh, .int .u64 nl] 24)
  replace R_y := R_y.alloc (.cells #[.int .i64 nh, .int .u64 nl] 24)
  replace R_u := R_u.alloc (.cells #[.int .i64 nh, .int .u64 nl] 24)
  replace R_v := R_v.alloc (.cells #[.int .i64 nh, .int .u64 nl] 24)
  replace HU := HU.alloc (.cells #[.int .i64 nh, .int .u64 nl] 24)
  have c8_0 := R_a.cell 0
  have c8_1 := R_a.cell 1
  simp at c8_0 c8_1
  go_wp2_with fail
  clear c8_0 c8_1
  refine Calls.mono (N2.out _) ?_; rintro e w6 ⟨rfl, hb_w6⟩
  have z_w6 := hb_w6.size
  try simp only [alloc_size, setCell_size] at z_w6
  replace R_a := R_a.mod (Mod.of_below hb_w6 Nil) (fun hf => hf)
  replace R_b := R_b.mod (Mod.of_below hb_w6 Nil) (fun hf => hf)
  replace R_x := R_x.mod (Mod.of_below hb_w6 Nil) (fun hf => hf)
  replace R_y := R_y.mod (Mod.of_below hb_w6 Nil) (fun hf => hf)
  replace R_u := R_u.mod (Mod.of_below hb_w6 Nil) (fun hf => hf)
  replace R_v := R_v.mod (Mod.of_below hb_w6 Nil) (fun hf => hf)
  replace R_p := R_p.mod (Mod.of_below hb_w6 Nil) (fun hf => hf)
  replace HU := HU.trans hb_w6
  clear hb_w6
  have R_q := Row.new (w6) 24 #[.int .i64 nh, .int .u64 nl]
  replace R_a := R_a.alloc (.cells #[.int .i64 nh, .int .u64 nl] 24)
  replace R_b := R_b.alloc (.cells #[.int .i64 nh, .int .u64 nl] 24)
  replace R_x := R_x.alloc (.cells #[.int .i64 nh, .int .u64 nl] 24)
  replace R_y := R_y.alloc (.cells #[.int .i64 nh, .int .u64 nl] 24)
  replace R_u := R_u.alloc (.cells #[.int .i64 nh, .int .u64 nl] 24)
  replace R_v := R_v.alloc (.cells #[.int .i64 nh, .int .u64 nl] 24)
  replace R_p := R_p.alloc (.cells #[.int .i64 nh, .int .u64 nl] 24)
  replace HU := HU.alloc (.cells #[.int .i64 nh, .int .u64 nl] 24)
  go_wp2_with fail
  obtain ⟨V, h_V⟩ : ∃ V, V = (w6).alloc (.cells #[.int .i64 nh, .int .u64 nl] 24) := ⟨_, rfl⟩
  rw [← h_V]
  rw [← h_V] at R_a R_b R_x R_y R_u R_v R_p R_q HU
  have z_V : V.heap.size = _ := congrArg (fun a => a.heap.size) h_V
  try simp only [alloc_size, setCell_size] at z_V
  clear h_V
  have HLT : w.heap.size < V.heap.size ∧ w.heap.size + 1 < V.heap.size ∧ w1.heap.size < V.heap.size ∧ w2.heap.size < V.heap.size ∧ w3.heap.size < V.heap.size ∧ w4.heap.size < V.heap.size ∧ w5.heap.size < V.heap.size ∧ w6.heap.size < V.heap.size := ⟨R_a.lt, R_b.lt, R_x.lt, R_y.lt, R_u.lt, R_v.lt, R_p.lt, R_q.lt⟩
  have MK : ∀ W, Up V.heap.size V W → Up V.heap.size V W ∧ W.cell? ⟨w.heap.size, 0, none⟩ = some (.int .i64 ah) ∧ W.cell? ⟨w.heap.size, 1, none⟩ = some (.int .u64 al) ∧ W.cell? ⟨w.heap.size + 1, 0, none⟩ = some (.int .i64 bh) ∧ W.cell? ⟨w.heap.size + 1, 1, none⟩ = some (.int .u64 bl) ∧ W.cell? ⟨w1.heap.size, 0, none⟩ = some (.int .i64 sh) ∧ W.cell? ⟨w1.heap.size, 1, none⟩ = some (.int .u64 sl) ∧ W.cell? ⟨w2.heap.size, 0, none⟩ = some (.int .i64 sh) ∧ W.cell? ⟨w2.heap.size, 1, none⟩ = some (.int .u64 sl) ∧ W.cell? ⟨w3.heap.size, 0, none⟩ = some (.int .i64 dh) ∧ W.cell? ⟨w3.heap.size, 1, none⟩ = some (.int .u64 dl) ∧ W.cell? ⟨w4.heap.size, 0, none⟩ = some (.int .i64 dh) ∧ W.cell? ⟨w4.heap.size, 1, none⟩ = some (.int .u64 dl) ∧ W.cell? ⟨w5.heap.size, 0, none⟩ = some (.int .i64 nh) ∧ W.cell? ⟨w5.heap.size, 1, none⟩ = some (.int .u64 nl) ∧ W.cell? ⟨w6.heap.size, 0, none⟩ = some (.int .i64 nh) ∧ W.cell? ⟨w6.heap.size, 1, none⟩ = some (.int .u64 nl) := fun W hW => by
    have k_a := R_a.below hW.below R_a.lt
    have k_b := R_b.below hW.below R_b.lt
    have k_x := R_x.below hW.below R_x.lt
    have k_y := R_y.below hW.below R_y.lt
    have k_u := R_u.below hW.below R_u.lt
    have k_v := R_v.below hW.below R_v.lt
    have k_p := R_p.below hW.below R_p.lt
    have k_q := R_q.below hW.below R_q.lt
    exact ⟨hW, by simpa using k_a.cell 0, by simpa using k_a.cell 1, by simpa using k_b.cell 0, by simpa using k_b.cell 1, by simpa using k_x.cell 0, by simpa using k_x.cell 1, by simpa using k_y.cell 0, by simpa using k_y.cell 1, by simpa using k_u.cell 0, by simpa using k_u.cell 1, by simpa using k_v.cell 0, by simpa using k_v.cell 1, by simpa using k_p.cell 0, by simpa using k_p.cell 1, by simpa using k_q.cell 0, by simpa using k_q.cell 1⟩
  have MK := hid MK
  have HUV := hid HU
  clear HLT HU R_a R_b R_x R_y R_u R_v R_p R_q
  refine wp_region_noPanic ?_
  refine wp_region_held_drew (S := fun W => Up V.heap.size V W ∧ W.cell? ⟨w.heap.size, 0, none⟩ = some (.int .i64 ah) ∧ W.cell? ⟨w.heap.size, 1, none⟩ = some (.int .u64 al) ∧ W.cell? ⟨w.heap.size + 1, 0, none⟩ = some (.int .i64 bh) ∧ W.cell? ⟨w.heap.size + 1, 1, none⟩ = some (.int .u64 bl) ∧ W.cell? ⟨w1.heap.size, 0, none⟩ = some (.int .i64 sh) ∧ W.cell? ⟨w1.heap.size, 1, none⟩ = some (.int .u64 sl) ∧ W.cell? ⟨w2.heap.size, 0, none⟩ = some (.int .i64 sh) ∧ W.cell? ⟨w2.heap.size, 1, none⟩ = some (.int .u64 sl) ∧ W.cell? ⟨w3.heap.size, 0, none⟩ = some (.int .i64 dh) ∧ W.cell? ⟨w3.heap.size, 1, none⟩ = some (.int .u64 dl) ∧ W.cell? ⟨w4.heap.size, 0, none⟩ = some (.int .i64 dh) ∧ W.cell? ⟨w4.heap.size, 1, none⟩ = some (.int .u64 dl) ∧ W.cell? ⟨w5.heap.size, 0, none⟩ = some (.int .i64 nh) ∧ W.cell? ⟨w5.heap.size, 1, none⟩ = some (.int .u64 nl) ∧ W.cell? ⟨w6.heap.size, 0, none⟩ = some (.int .i64 nh) ∧ W.cell? ⟨w6.heap.size, 1, none⟩ = some (.int .u64 nl)) (by kernel_rfl) (MK.out _ (Up.refl V).drew) (fun hHeld => ?_)
  refine wpAnyH_ready (rs := [0]) (by kernel_rfl) (by simp) ?_
  refine AllReadyH.cons (o := { dst := some 53, op := Op.call { callee := Callee.value (Operand.func 20), args := #[], argTypes := #[] }, type := 4, pos := "law.go:44", after := #[], guard := none }) rfl (fun K hK => ?_) AllReadyH.nil
  go_simp
  refine (known_any _ (tab_below HT.out (HUV.out.trans hHeld.1.below).below hg) (by have h1 := hHeld.1.size; have h2 := HUV.out.size; omega)).mono ?_; rintro e wk ⟨rfl, hbk⟩
  refine hK.out _ _ (MK.out _ (hHeld.1.trans hbk)) (fun hHeld => ?_)
  clear hK K
  try simp only [Act.put, List.setIfInBounds_toArray, List.set_cons_zero, List.set_cons_succ]
  refine wpAnyH_take (i := 1) (oi := { dst := some 54, op := Op.move (Operand.tmp 53), type := 4, pos := "law.go:44", after := #[{ on := 0, ground := Ground.data }, { on := 0, ground := Ground.chain }], guard := none }) (v := ?_) rfl (by kernel_rfl) (by kernel_rfl) (by kernel_rfl) (fun _ _ _ h => h) (Or.inl ⟨by rfl, ?_⟩) hHeld ?_
  rotate_left
  · intro w' hSw; (try dsimp only at hSw); go_simp <;> with_reducible rfl
  try simp only [Act.put, List.setIfInBounds_toArray, List.set_cons_zero, List.set_cons_succ]
  refine wpAnyH_take (i := 2) (oi := { dst := some 55, op := Op.load 24 (Operand.tmp 7), type := 24, pos := "law.go:44", after := #[{ on := 1, ground := Ground.guard }], guard := some (1, true) }) (v := ?_) rfl (by kernel_rfl) (by kernel_rfl) (by kernel_rfl) (fun _ _ _ h => h) (Or.inl ⟨by rfl, ?_⟩) hHeld ?_
  rotate_left
  · intro w' hSw; (try dsimp only at hSw); go_simp <;> with_reducible rfl
  try simp only [Act.put, List.setIfInBounds_toArray, List.set_cons_zero, List.set_cons_succ]
  refine wpAnyH_take (i := 3) (oi := { dst := some 56, op := Op.load 24 (Operand.tmp 9), type := 24, pos := "law.go:44", after := #[{ on := 1, ground := Ground.guard }], guard := some (1, true) }) (v := ?_) rfl (by kernel_rfl) (by kernel_rfl) (by kernel_rfl) (fun _ _ _ h => h) (Or.inl ⟨by rfl, ?_⟩) hHeld ?_
  rotate_left
  · intro w' hSw; (try dsimp only at hSw); go_simp <;> with_reducible rfl
  try simp only [Act.put, List.setIfInBounds_toArray, List.set_cons_zero, List.set_cons_succ]
  refine wpAnyH_take (i := 4) (oi := { dst := some 57, op := Op.binOp BinOp.eql 24 (Operand.tmp 55) (Operand.tmp 56) 24, type := 4, pos := "law.go:44", after := #[{ on := 2, ground := Ground.data }, { on := 3, ground := Ground.data }, { on := 1, ground := Ground.guard }], guard := some (1, true) }) (v := ?_) rfl (by kernel_rfl) (by kernel_rfl) (by kernel_rfl) (fun _ _ _ h => h) (Or.inl ⟨by rfl, ?_⟩) hHeld ?_
  rotate_left
  · intro w' hSw; (try dsimp only at hSw); go_simp <;> with_reducible rfl
  try simp only [Act.put, List.setIfInBounds_toArray, List.set_cons_zero, List.set_cons_succ]
  refine wpAnyH_take (i := 5) (oi := { dst := some 58, op := Op.pick (Operand.tmp 54) (Operand.tmp 57) (Operand.const (Value.bool false)), type := 4, pos := "law.go:44", after := #[{ on := 1, ground := Ground.data }, { on := 4, ground := Ground.data }], guard := none }) (v := ?_) rfl (by kernel_rfl) (by kernel_rfl) (by kernel_rfl) (fun _ _ _ h => h) (Or.inl ⟨by rfl, ?_⟩) hHeld ?_
  rotate_left
  · intro w' hSw; (try dsimp only at hSw); go_simp <;> with_reducible rfl
  try simp only [Act.put, List.setIfInBounds_toArray, List.set_cons_zero, List.set_cons_succ]
  refine wpAnyH_take (i := 6) (oi := { dst := some 59, op := Op.move (Operand.tmp 58), type := 4, pos := "law.go:44", after := #[{ on := 5, ground := Ground.data }, { on := 1, ground := Ground.chain }], guard := none }) (v := ?_) rfl (by kernel_rfl) (by kernel_rfl) (by kernel_rfl) (fun _ _ _ h => h) (Or.inl ⟨by rfl, ?_⟩) hHeld ?_
  rotate_left
  · intro w' hSw; (try dsimp only at hSw); go_simp <;> with_reducible rfl
  try simp only [Act.put, List.setIfInBounds_toArray, List.set_cons_zero, List.set_cons_succ]
  refine wpAnyH_take (i := 7) (oi := { dst := some 60, op := Op.move (Operand.tmp 8), type := 25, pos := "law.go:44", after := #[{ on := 6, ground := Ground.guard }], guard := some (6, true) }) (v := ?_) rfl (by kernel_rfl) (by kernel_rfl) (by kernel_rfl) (fun _ _ _ h => h) (Or.inl ⟨by rfl, ?_⟩) hHeld ?_
  rotate_left
  · intro w' hSw; (try dsimp only at hSw); go_simp <;> with_reducible rfl
  try simp only [Act.put, List.setIfInBounds_toArray, List.set_cons_zero, List.set_cons_succ]
  refine wpAnyH_take (i := 8) (oi := { dst := some 61, op := Op.move (Operand.tmp 10), type := 25, pos := "law.go:44", after := #[{ on := 6, ground := Ground.guard }], guard := some (6, true) }) (v := ?_) rfl (by kernel_rfl) (by kernel_rfl) (by kernel_rfl) (fun _ _ _ h => h) (Or.inl ⟨by rfl, ?_⟩) hHeld ?_
  rotate_left
  · intro w' hSw; (try dsimp only at hSw); go_simp <;> with_reducible rfl
  try simp only [Act.put, List.setIfInBounds_toArray, List.set_cons_zero, List.set_cons_succ]
  refine wpAnyH_take (i := 9) (oi := { dst := some 62, op := Op.binOp BinOp.eql 25 (Operand.tmp 60) (Operand.tmp 61) 25, type := 4, pos := "law.go:44", after := #[{ on := 7, ground := Ground.data }, { on := 8, ground := Ground.data }, { on := 6, ground := Ground.guard }], guard := some (6, true) }) (v := ?_) rfl (by kernel_rfl) (by kernel_rfl) (by kernel_rfl) (fun _ _ _ h => h) (Or.inl ⟨by rfl, ?_⟩) hHeld ?_
  rotate_left
  · intro w' hSw; (try dsimp only at hSw); go_simp <;> with_reducible rfl
  try simp only [Act.put, List.setIfInBounds_toArray, List.set_cons_zero, List.set_cons_succ]
  refine wpAnyH_take (i := 10) (oi := { dst := some 63, op := Op.pick (Operand.tmp 59) (Operand.tmp 62) (Operand.const (Value.bool false)), type := 4, pos := "law.go:44", after := #[{ on := 6, ground := Ground.data }, { on := 9, ground := Ground.data }], guard := none }) (v := ?_) rfl (by kernel_rfl) (by kernel_rfl) (by kernel_rfl) (fun _ _ _ h => h) (Or.inl ⟨by rfl, ?_⟩) hHeld ?_
  rotate_left
  · intro w' hSw; (try dsimp only at hSw); go_simp <;> with_reducible rfl
  try simp only [Act.put, List.setIfInBounds_toArray, List.set_cons_zero, List.set_cons_succ]
  refine wpAnyH_take (i := 11) (oi := { dst := some 64, op := Op.move (Operand.tmp 63), type := 4, pos := "law.go:44", after := #[{ on := 10, ground := Ground.data }, { on := 6, ground := Ground.chain }], guard := none }) (v := ?_) rfl (by kernel_rfl) (by kernel_rfl) (by kernel_rfl) (fun _ _ _ h => h) (Or.inl ⟨by rfl, ?_⟩) hHeld ?_
  rotate_left
  · intro w' hSw; (try dsimp only at hSw); go_simp <;> with_reducible rfl
  try simp only [Act.put, List.setIfInBounds_toArray, List.set_cons_zero, List.set_cons_succ]
  refine wpAnyH_take (i := 12) (oi := { dst := some 65, op := Op.load 24 (Operand.tmp 11), type := 24, pos := "law.go:44", after := #[{ on := 11, ground := Ground.guard }], guard := some (11, true) }) (v := ?_) rfl (by kernel_rfl) (by kernel_rfl) (by kernel_rfl) (fun _ _ _ h => h) (Or.inl ⟨by rfl, ?_⟩) hHeld ?_
  rotate_left
  · intro w' hSw; (try dsimp only at hSw); go_simp <;> with_reducible rfl
  try simp only [Act.put, List.setIfInBounds_toArray, List.set_cons_zero, List.set_cons_succ]
  refine wpAnyH_take (i := 13) (oi := { dst := some 66, op := Op.load 24 (Operand.tmp 13), type := 24, pos := "law.go:44", after := #[{ on := 11, ground := Ground.guard }], guard := some (11, true) }) (v := ?_) rfl (by kernel_rfl) (by kernel_rfl) (by kernel_rfl) (fun _ _ _ h => h) (Or.inl ⟨by rfl, ?_⟩) hHeld ?_
  rotate_left
  · intro w' hSw; (try dsimp only at hSw); go_simp <;> with_reducible rfl
  try simp only [Act.put, List.setIfInBounds_toArray, List.set_cons_zero, List.set_cons_succ]
  refine wpAnyH_take (i := 14) (oi := { dst := some 67, op := Op.binOp BinOp.eql 24 (Operand.tmp 65) (Operand.tmp 66) 24, type := 4, pos := "law.go:44", after := #[{ on := 12, ground := Ground.data }, { on := 13, ground := Ground.data }, { on := 11, ground := Ground.guard }], guard := some (11, true) }) (v := ?_) rfl (by kernel_rfl) (by kernel_rfl) (by kernel_rfl) (fun _ _ _ h => h) (Or.inl ⟨by rfl, ?_⟩) hHeld ?_
  rotate_left
  · intro w' hSw; (try dsimp only at hSw); go_simp <;> with_reducible rfl
  try simp only [Act.put, List.setIfInBounds_toArray, List.set_cons_zero, List.set_cons_succ]
  refine wpAnyH_take (i := 15) (oi := { dst := some 68, op := Op.pick (Operand.tmp 64) (Operand.tmp 67) (Operand.const (Value.bool false)), type := 4, pos := "law.go:44", after := #[{ on := 11, ground := Ground.data }, { on := 14, ground := Ground.data }], guard := none }) (v := ?_) rfl (by kernel_rfl) (by kernel_rfl) (by kernel_rfl) (fun _ _ _ h => h) (Or.inl ⟨by rfl, ?_⟩) hHeld ?_
  rotate_left
  · intro w' hSw; (try dsimp only at hSw); go_simp <;> with_reducible rfl
  try simp only [Act.put, List.setIfInBounds_toArray, List.set_cons_zero, List.set_cons_succ]
  refine wpAnyH_take (i := 16) (oi := { dst := some 69, op := Op.move (Operand.tmp 68), type := 4, pos := "law.go:44", after := #[{ on := 15, ground := Ground.data }, { on := 11, ground := Ground.chain }], guard := none }) (v := ?_) rfl (by kernel_rfl) (by kernel_rfl) (by kernel_rfl) (fun _ _ _ h => h) (Or.inl ⟨by rfl, ?_⟩) hHeld ?_
  rotate_left
  · intro w' hSw; (try dsimp only at hSw); go_simp <;> with_reducible rfl
  try simp only [Act.put, List.setIfInBounds_toArray, List.set_cons_zero, List.set_cons_succ]
  refine wpAnyH_take (i := 17) (oi := { dst := some 70, op := Op.move (Operand.tmp 12), type := 25, pos := "law.go:44", after := #[{ on := 16, ground := Ground.guard }], guard := some (16, true) }) (v := ?_) rfl (by kernel_rfl) (by kernel_rfl) (by kernel_rfl) (fun _ _ _ h => h) (Or.inl ⟨by rfl, ?_⟩) hHeld ?_
  rotate_left
  · intro w' hSw; (try dsimp only at hSw); go_simp <;> with_reducible rfl
  try simp only [Act.put, List.setIfInBounds_toArray, List.set_cons_zero, List.set_cons_succ]
  refine wpAnyH_take (i := 18) (oi := { dst := some 71, op := Op.move (Operand.tmp 14), type := 25, pos := "law.go:44", after := #[{ on := 16, ground := Ground.guard }], guard := some (16, true) }) (v := ?_) rfl (by kernel_rfl) (by kernel_rfl) (by kernel_rfl) (fun _ _ _ h => h) (Or.inl ⟨by rfl, ?_⟩) hHeld ?_
  rotate_left
  · intro w' hSw; (try dsimp only at hSw); go_simp <;> with_reducible rfl
  try simp only [Act.put, List.setIfInBounds_toArray, List.set_cons_zero, List.set_cons_succ]
  refine wpAnyH_take (i := 19) (oi := { dst := some 72, op := Op.binOp BinOp.eql 25 (Operand.tmp 70) (Operand.tmp 71) 25, type := 4, pos := "law.go:44", after := #[{ on := 17, ground := Ground.data }, { on := 18, ground := Ground.data }, { on := 16, ground := Ground.guard }], guard := some (16, true) }) (v := ?_) rfl (by kernel_rfl) (by kernel_rfl) (by kernel_rfl) (fun _ _ _ h => h) (Or.inl ⟨by rfl, ?_⟩) hHeld ?_
  rotate_left
  · intro w' hSw; (try dsimp only at hSw); go_simp <;> with_reducible rfl
  try simp only [Act.put, List.setIfInBounds_toArray, List.set_cons_zero, List.set_cons_succ]
  refine wpAnyH_take (i := 20) (oi := { dst := some 73, op := Op.pick (Operand.tmp 69) (Operand.tmp 72) (Operand.const (Value.bool false)), type := 4, pos := "law.go:44", after := #[{ on := 16, ground := Ground.data }, { on := 19, ground := Ground.data }], guard := none }) (v := ?_) rfl (by kernel_rfl) (by kernel_rfl) (by kernel_rfl) (fun _ _ _ h => h) (Or.inl ⟨by rfl, ?_⟩) hHeld ?_
  rotate_left
  · intro w' hSw; (try dsimp only at hSw); go_simp <;> with_reducible rfl
  try simp only [Act.put, List.setIfInBounds_toArray, List.set_cons_zero, List.set_cons_succ]
  refine wpAnyH_take (i := 21) (oi := { dst := some 74, op := Op.move (Operand.tmp 73), type := 4, pos := "law.go:44", after := #[{ on := 20, ground := Ground.data }, { on := 16, ground := Ground.chain }], guard := none }) (v := ?_) rfl (by kernel_rfl) (by kernel_rfl) (by kernel_rfl) (fun _ _ _ h => h) (Or.inl ⟨by rfl, ?_⟩) hHeld ?_
  rotate_left
  · intro w' hSw; (try dsimp only at hSw); go_simp <;> with_reducible rfl
  try simp only [Act.put, List.setIfInBounds_toArray, List.set_cons_zero, List.set_cons_succ]
  refine wpAnyH_take (i := 22) (oi := { dst := some 75, op := Op.load 24 (Operand.tmp 15), type := 24, pos := "law.go:44", after := #[{ on := 21, ground := Ground.guard }], guard := some (21, true) }) (v := ?_) rfl (by kernel_rfl) (by kernel_rfl) (by kernel_rfl) (fun _ _ _ h => h) (Or.inl ⟨by rfl, ?_⟩) hHeld ?_
  rotate_left
  · intro w' hSw; (try dsimp only at hSw); go_simp <;> with_reducible rfl
  try simp only [Act.put, List.setIfInBounds_toArray, List.set_cons_zero, List.set_cons_succ]
  refine wpAnyH_take (i := 23) (oi := { dst := some 76, op := Op.load 24 (Operand.tmp 17), type := 24, pos := "law.go:44", after := #[{ on := 21, ground := Ground.guard }], guard := some (21, true) }) (v := ?_) rfl (by kernel_rfl) (by kernel_rfl) (by kernel_rfl) (fun _ _ _ h => h) (Or.inl ⟨by rfl, ?_⟩) hHeld ?_
  rotate_left
  · intro w' hSw; (try dsimp only at hSw); go_simp <;> with_reducible rfl
  try simp only [Act.put, List.setIfInBounds_toArray, List.set_cons_zero, List.set_cons_succ]
  refine wpAnyH_take (i := 24) (oi := { dst := some 77, op := Op.binOp BinOp.eql 24 (Operand.tmp 75) (Operand.tmp 76) 24, type := 4, pos := "law.go:44", after := #[{ on := 22, ground := Ground.data }, { on := 23, ground := Ground.data }, { on := 21, ground := Ground.guard }], guard := some (21, true) }) (v := ?_) rfl (by kernel_rfl) (by kernel_rfl) (by kernel_rfl) (fun _ _ _ h => h) (Or.inl ⟨by rfl, ?_⟩) hHeld ?_
  rotate_left
  · intro w' hSw; (try dsimp only at hSw); go_simp <;> with_reducible rfl
  try simp only [Act.put, List.setIfInBounds_toArray, List.set_cons_zero, List.set_cons_succ]
  refine wpAnyH_take (i := 25) (oi := { dst := some 78, op := Op.pick (Operand.tmp 74) (Operand.tmp 77) (Operand.const (Value.bool false)), type := 4, pos := "law.go:44", after := #[{ on := 21, ground := Ground.data }, { on := 24, ground := Ground.data }], guard := none }) (v := ?_) rfl (by kernel_rfl) (by kernel_rfl) (by kernel_rfl) (fun _ _ _ h => h) (Or.inl ⟨by rfl, ?_⟩) hHeld ?_
  rotate_left
  · intro w' hSw; (try dsimp only at hSw); go_simp <;> with_reducible rfl
  try simp only [Act.put, List.setIfInBounds_toArray, List.set_cons_zero, List.set_cons_succ]
  refine wpAnyH_take (i := 26) (oi := { dst := some 79, op := Op.move (Operand.tmp 78), type := 4, pos := "law.go:44", after := #[{ on := 25, ground := Ground.data }, { on := 21, ground := Ground.chain }], guard := none }) (v := ?_) rfl (by kernel_rfl) (by kernel_rfl) (by kernel_rfl) (fun _ _ _ h => h) (Or.inl ⟨by rfl, ?_⟩) hHeld ?_
  rotate_left
  · intro w' hSw; (try dsimp only at hSw); go_simp <;> with_reducible rfl
  try simp only [Act.put, List.setIfInBounds_toArray, List.set_cons_zero, List.set_cons_succ]
  refine wpAnyH_take (i := 27) (oi := { dst := some 80, op := Op.move (Operand.tmp 16), type := 25, pos := "law.go:44", after := #[{ on := 26, ground := Ground.guard }], guard := some (26, true) }) (v := ?_) rfl (by kernel_rfl) (by kernel_rfl) (by kernel_rfl) (fun _ _ _ h => h) (Or.inl ⟨by rfl, ?_⟩) hHeld ?_
  rotate_left
  · intro w' hSw; (try dsimp only at hSw); go_simp <;> with_reducible rfl
  try simp only [Act.put, List.setIfInBounds_toArray, List.set_cons_zero, List.set_cons_succ]
  refine wpAnyH_take (i := 28) (oi := { dst := some 81, op := Op.move (Operand.tmp 18), type := 25, pos := "law.go:44", after := #[{ on := 26, ground := Ground.guard }], guard := some (26, true) }) (v := ?_) rfl (by kernel_rfl) (by kernel_rfl) (by kernel_rfl) (fun _ _ _ h => h) (Or.inl ⟨by rfl, ?_⟩) hHeld ?_
  rotate_left
  · intro w' hSw; (try dsimp only at hSw); go_simp <;> with_reducible rfl
  try simp only [Act.put, List.setIfInBounds_toArray, List.set_cons_zero, List.set_cons_succ]
  refine wpAnyH_take (i := 29) (oi := { dst := some 82, op := Op.binOp BinOp.eql 25 (Operand.tmp 80) (Operand.tmp 81) 25, type := 4, pos := "law.go:44", after := #[{ on := 27, ground := Ground.data }, { on := 28, ground := Ground.data }, { on := 26, ground := Ground.guard }], guard := some (26, true) }) (v := ?_) rfl (by kernel_rfl) (by kernel_rfl) (by kernel_rfl) (fun _ _ _ h => h) (Or.inl ⟨by rfl, ?_⟩) hHeld ?_
  rotate_left
  · intro w' hSw; (try dsimp only at hSw); go_simp <;> with_reducible rfl
  try simp only [Act.put, List.setIfInBounds_toArray, List.set_cons_zero, List.set_cons_succ]
  refine wpAnyH_take (i := 30) (oi := { dst := some 83, op := Op.pick (Operand.tmp 79) (Operand.tmp 82) (Operand.const (Value.bool false)), type := 4, pos := "law.go:44", after := #[{ on := 26, ground := Ground.data }, { on := 29, ground := Ground.data }], guard := none }) (v := ?_) rfl (by kernel_rfl) (by kernel_rfl) (by kernel_rfl) (fun _ _ _ h => h) (Or.inl ⟨by rfl, ?_⟩) hHeld ?_
  rotate_left
  · intro w' hSw; (try dsimp only at hSw); go_simp <;> with_reducible rfl
  try simp only [Act.put, List.setIfInBounds_toArray, List.set_cons_zero, List.set_cons_succ]
  refine wpAnyH_take (i := 31) (oi := { dst := some 84, op := Op.move (Operand.tmp 83), type := 4, pos := "law.go:44", after := #[{ on := 30, ground := Ground.data }, { on := 26, ground := Ground.chain }], guard := none }) (v := ?_) rfl (by kernel_rfl) (by kernel_rfl) (by kernel_rfl) (fun _ _ _ h => h) (Or.inl ⟨by rfl, ?_⟩) hHeld ?_
  rotate_left
  · intro w' hSw; (try dsimp only at hSw); go_simp <;> with_reducible rfl
  try simp only [Act.put, List.setIfInBounds_toArray, List.set_cons_zero, List.set_cons_succ]
  refine wpAnyH_take (i := 32) (oi := { dst := some 85, op := Op.load 24 (Operand.tmp 3), type := 24, pos := "law.go:44", after := #[{ on := 31, ground := Ground.guard }], guard := some (31, true) }) (v := ?_) rfl (by kernel_rfl) (by kernel_rfl) (by kernel_rfl) (fun _ _ _ h => h) (Or.inl ⟨by rfl, ?_⟩) hHeld ?_
  rotate_left
  · intro w' hSw; (try dsimp only at hSw); go_simp <;> with_reducible rfl
  try simp only [Act.put, List.setIfInBounds_toArray, List.set_cons_zero, List.set_cons_succ]
  refine wpAnyH_take (i := 33) (oi := { dst := some 86, op := Op.load 24 (Operand.tmp 4), type := 24, pos := "law.go:44", after := #[{ on := 31, ground := Ground.guard }], guard := some (31, true) }) (v := ?_) rfl (by kernel_rfl) (by kernel_rfl) (by kernel_rfl) (fun _ _ _ h => h) (Or.inl ⟨by rfl, ?_⟩) hHeld ?_
  rotate_left
  · intro w' hSw; (try dsimp only at hSw); go_simp <;> with_reducible rfl
  try simp only [Act.put, List.setIfInBounds_toArray, List.set_cons_zero, List.set_cons_succ]
  refine wpAnyH_take (i := 35) (oi := { dst := some 88, op := Op.load 24 (Operand.tmp 3), type := 24, pos := "law.go:44", after := #[{ on := 31, ground := Ground.guard }], guard := some (31, true) }) (v := ?_) rfl (by kernel_rfl) (by kernel_rfl) (by kernel_rfl) (fun _ _ _ h => h) (Or.inl ⟨by rfl, ?_⟩) hHeld ?_
  rotate_left
  · intro w' hSw; (try dsimp only at hSw); go_simp <;> with_reducible rfl
  try simp only [Act.put, List.setIfInBounds_toArray, List.set_cons_zero, List.set_cons_succ]
  refine wpAnyH_take (i := 36) (oi := { dst := some 89, op := Op.load 24 (Operand.tmp 4), type := 24, pos := "law.go:44", after := #[{ on := 31, ground := Ground.guard }], guard := some (31, true) }) (v := ?_) rfl (by kernel_rfl) (by kernel_rfl) (by kernel_rfl) (fun _ _ _ h => h) (Or.inl ⟨by rfl, ?_⟩) hHeld ?_
  rotate_left
  · intro w' hSw; (try dsimp only at hSw); go_simp <;> with_reducible rfl
  try simp only [Act.put, List.setIfInBounds_toArray, List.set_cons_zero, List.set_cons_succ]
  refine wpAnyH_ready (rs := [34]) (by kernel_rfl) (by simp) ?_
  refine AllReadyH.cons (o := { dst := some 87, op := Op.call { callee := Callee.value (Operand.func 27), args := #[Operand.tmp 85, Operand.tmp 86], argTypes := #[24, 24] }, type := 3, pos := "law.go:44", after := #[{ on := 32, ground := Ground.data }, { on := 33, ground := Ground.data }, { on := 31, ground := Ground.chain }, { on := 31, ground := Ground.guard }], guard := some (31, true) }) rfl (fun K hK => ?_) AllReadyH.nil
  go_simp
  refine Calls.mono (C1.out _) ?_; rintro e wk ⟨rfl, hbk⟩
  refine hK.out _ _ (MK.out _ (hHeld.1.trans hbk)) (fun hHeld => ?_)
  clear hK K
  try simp only [Act.put, List.setIfInBounds_toArray, List.set_cons_zero, List.set_cons_succ]
  refine wpAnyH_ready (rs := [37]) (by kernel_rfl) (by simp) ?_
  refine AllReadyH.cons (o := { dst := some 90, op := Op.call { callee := Callee.value (Operand.func 28), args := #[Operand.tmp 88, Operand.tmp 89], argTypes := #[24, 24] }, type := 3, pos := "law.go:44", after := #[{ on := 35, ground := Ground.data }, { on := 36, ground := Ground.data }, { on := 34, ground := Ground.chain }, { on := 31, ground := Ground.guard }], guard := some (31, true) }) rfl (fun K hK => ?_) AllReadyH.nil
  go_simp
  refine Calls.mono (C2.out _) ?_; rintro e wk ⟨rfl, hbk⟩
  refine hK.out _ _ (MK.out _ (hHeld.1.trans hbk)) (fun hHeld => ?_)
  clear hK K
  try simp only [Act.put, List.setIfInBounds_toArray, List.set_cons_zero, List.set_cons_succ]
  refine wpAnyH_take (i := 38) (oi := { dst := some 91, op := Op.binOp BinOp.eql 3 (Operand.tmp 87) (Operand.tmp 90) 3, type := 4, pos := "law.go:44", after := #[{ on := 34, ground := Ground.data }, { on := 37, ground := Ground.data }, { on := 31, ground := Ground.guard }], guard := some (31, true) }) (v := ?_) rfl (by kernel_rfl) (by kernel_rfl) (by kernel_rfl) (fun _ _ _ h => h) (Or.inl ⟨by rfl, ?_⟩) hHeld ?_
  rotate_left
  · intro w' hSw; (try dsimp only at hSw); go_simp <;> with_reducible rfl
  try simp only [Act.put, List.setIfInBounds_toArray, List.set_cons_zero, List.set_cons_succ]
  refine wpAnyH_take (i := 39) (oi := { dst := some 92, op := Op.pick (Operand.tmp 84) (Operand.tmp 91) (Operand.const (Value.bool false)), type := 4, pos := "law.go:44", after := #[{ on := 31, ground := Ground.data }, { on := 38, ground := Ground.data }], guard := none }) (v := ?_) rfl (by kernel_rfl) (by kernel_rfl) (by kernel_rfl) (fun _ _ _ h => h) (Or.inl ⟨by rfl, ?_⟩) hHeld ?_
  rotate_left
  · intro w' hSw; (try dsimp only at hSw); go_simp <;> with_reducible rfl
  try simp only [Act.put, List.setIfInBounds_toArray, List.set_cons_zero, List.set_cons_succ]
  refine wpAnyH_take (i := 40) (oi := { dst := some 93, op := Op.move (Operand.tmp 92), type := 4, pos := "law.go:44", after := #[{ on := 39, ground := Ground.data }, { on := 37, ground := Ground.chain }], guard := none }) (v := ?_) rfl (by kernel_rfl) (by kernel_rfl) (by kernel_rfl) (fun _ _ _ h => h) (Or.inl ⟨by rfl, ?_⟩) hHeld ?_
  rotate_left
  · intro w' hSw; (try dsimp only at hSw); go_simp <;> with_reducible rfl
  try simp only [Act.put, List.setIfInBounds_toArray, List.set_cons_zero, List.set_cons_succ]
  refine wpAnyH_take (i := 41) (oi := { dst := some 94, op := Op.load 24 (Operand.tmp 3), type := 24, pos := "law.go:44", after := #[{ on := 40, ground := Ground.guard }], guard := some (40, true) }) (v := ?_) rfl (by kernel_rfl) (by kernel_rfl) (by kernel_rfl) (fun _ _ _ h => h) (Or.inl ⟨by rfl, ?_⟩) hHeld ?_
  rotate_left
  · intro w' hSw; (try dsimp only at hSw); go_simp <;> with_reducible rfl
  try simp only [Act.put, List.setIfInBounds_toArray, List.set_cons_zero, List.set_cons_succ]
  refine wpAnyH_take (i := 43) (oi := { dst := some 96, op := Op.load 24 (Operand.tmp 3), type := 24, pos := "law.go:44", after := #[{ on := 40, ground := Ground.guard }], guard := some (40, true) }) (v := ?_) rfl (by kernel_rfl) (by kernel_rfl) (by kernel_rfl) (fun _ _ _ h => h) (Or.inl ⟨by rfl, ?_⟩) hHeld ?_
  rotate_left
  · intro w' hSw; (try dsimp only at hSw); go_simp <;> with_reducible rfl
  try simp only [Act.put, List.setIfInBounds_toArray, List.set_cons_zero, List.set_cons_succ]
  refine wpAnyH_take (i := 44) (oi := { dst := some 97, op := Op.build 24 #[], type := 24, pos := "law.go:44", after := #[{ on := 40, ground := Ground.guard }], guard := some (40, true) }) (v := ?_) rfl (by kernel_rfl) (by kernel_rfl) (by kernel_rfl) (fun _ _ _ h => h) (Or.inl ⟨by rfl, ?_⟩) hHeld ?_
  rotate_left
  · intro w' hSw; (try dsimp only at hSw); go_simp <;> with_reducible rfl
  try simp only [Act.put, List.setIfInBounds_toArray, List.set_cons_zero, List.set_cons_succ]
  refine wpAnyH_ready (rs := [42]) (by kernel_rfl) (by simp) ?_
  refine AllReadyH.cons (o := { dst := some 95, op := Op.call { callee := Callee.value (Operand.func 29), args := #[Operand.tmp 94], argTypes := #[24] }, type := 3, pos := "law.go:44", after := #[{ on := 41, ground := Ground.data }, { on := 40, ground := Ground.chain }, { on := 40, ground := Ground.guard }], guard := some (40, true) }) rfl (fun K hK => ?_) AllReadyH.nil
  go_simp
  refine Calls.mono (G1.out _) ?_; rintro e wk ⟨rfl, hbk⟩
  refine hK.out _ _ (MK.out _ (hHeld.1.trans hbk)) (fun hHeld => ?_)
  clear hK K
  try simp only [Act.put, List.setIfInBounds_toArray, List.set_cons_zero, List.set_cons_succ]
  refine wpAnyH_ready (rs := [45]) (by kernel_rfl) (by simp) ?_
  refine AllReadyH.cons (o := { dst := some 98, op := Op.call { callee := Callee.value (Operand.func 28), args := #[Operand.tmp 96, Operand.tmp 97], argTypes := #[24, 24] }, type := 3, pos := "law.go:44", after := #[{ on := 43, ground := Ground.data }, { on := 44, ground := Ground.data }, { on := 42, ground := Ground.chain }, { on := 40, ground := Ground.guard }], guard := some (40, true) }) rfl (fun K hK => ?_) AllReadyH.nil
  go_simp
  refine Calls.mono (G2.out _) ?_; rintro e wk ⟨rfl, hbk⟩
  refine hK.out _ _ (MK.out _ (hHeld.1.trans hbk)) (fun hHeld => ?_)
  clear hK K
  try simp only [Act.put, List.setIfInBounds_toArray, List.set_cons_zero, List.set_cons_succ]
  refine wpAnyH_take (i := 46) (oi := { dst := some 99, op := Op.binOp BinOp.eql 3 (Operand.tmp 95) (Operand.tmp 98) 3, type := 4, pos := "law.go:44", after := #[{ on := 42, ground := Ground.data }, { on := 45, ground := Ground.data }, { on := 40, ground := Ground.guard }], guard := some (40, true) }) (v := ?_) rfl (by kernel_rfl) (by kernel_rfl) (by kernel_rfl) (fun _ _ _ h => h) (Or.inl ⟨by rfl, ?_⟩) hHeld ?_
  rotate_left
  · intro w' hSw; (try dsimp only at hSw); go_simp <;> with_reducible rfl
  try simp only [Act.put, List.setIfInBounds_toArray, List.set_cons_zero, List.set_cons_succ]
  refine wpAnyH_take (i := 47) (oi := { dst := some 100, op := Op.pick (Operand.tmp 93) (Operand.tmp 99) (Operand.const (Value.bool false)), type := 4, pos := "law.go:44", after := #[{ on := 40, ground := Ground.data }, { on := 46, ground := Ground.data }], guard := none }) (v := ?_) rfl (by kernel_rfl) (by kernel_rfl) (by kernel_rfl) (fun _ _ _ h => h) (Or.inl ⟨by rfl, ?_⟩) hHeld ?_
  rotate_left
  · intro w' hSw; (try dsimp only at hSw); go_simp <;> with_reducible rfl
  try simp only [Act.put, List.setIfInBounds_toArray, List.set_cons_zero, List.set_cons_succ]
  refine wpAnyH_take (i := 48) (oi := { dst := some 101, op := Op.move (Operand.tmp 100), type := 4, pos := "law.go:44", after := #[{ on := 47, ground := Ground.data }, { on := 45, ground := Ground.chain }], guard := none }) (v := ?_) rfl (by kernel_rfl) (by kernel_rfl) (by kernel_rfl) (fun _ _ _ h => h) (Or.inl ⟨by rfl, ?_⟩) hHeld ?_
  rotate_left
  · intro w' hSw; (try dsimp only at hSw); go_simp <;> with_reducible rfl
  try simp only [Act.put, List.setIfInBounds_toArray, List.set_cons_zero, List.set_cons_succ]
  refine wpAnyH_take (i := 49) (oi := { dst := some 102, op := Op.move (Operand.tmp 2), type := 2, pos := "law.go:44", after := #[{ on := 48, ground := Ground.guard }], guard := some (48, true) }) (v := ?_) rfl (by kernel_rfl) (by kernel_rfl) (by kernel_rfl) (fun _ _ _ h => h) (Or.inl ⟨by rfl, ?_⟩) hHeld ?_
  rotate_left
  · intro w' hSw; (try dsimp only at hSw); go_simp <;> with_reducible rfl
  try simp only [Act.put, List.setIfInBounds_toArray, List.set_cons_zero, List.set_cons_succ]
  refine wpAnyH_take (i := 51) (oi := { dst := some 104, op := Op.move (Operand.tmp 2), type := 2, pos := "law.go:44", after := #[{ on := 48, ground := Ground.guard }], guard := some (48, true) }) (v := ?_) rfl (by kernel_rfl) (by kernel_rfl) (by kernel_rfl) (fun _ _ _ h => h) (Or.inl ⟨by rfl, ?_⟩) hHeld ?_
  rotate_left
  · intro w' hSw; (try dsimp only at hSw); go_simp <;> with_reducible rfl
  try simp only [Act.put, List.setIfInBounds_toArray, List.set_cons_zero, List.set_cons_succ]
  refine wpAnyH_ready (rs := [50]) (by kernel_rfl) (by simp) ?_
  refine AllReadyH.cons (o := { dst := some 103, op := Op.call { callee := Callee.value (Operand.func 17), args := #[Operand.tmp 102], argTypes := #[2] }, type := 24, pos := "law.go:44", after := #[{ on := 49, ground := Ground.data }, { on := 48, ground := Ground.chain }, { on := 48, ground := Ground.guard }], guard := some (48, true) }) rfl (fun K hK => ?_) AllReadyH.nil
  go_simp
  refine Calls.mono (O1.out _) ?_; rintro e wk ⟨rfl, hbk⟩
  refine hK.out _ _ (MK.out _ (hHeld.1.trans hbk)) (fun hHeld => ?_)
  clear hK K
  try simp only [Act.put, List.setIfInBounds_toArray, List.set_cons_zero, List.set_cons_succ]
  refine wpAnyH_ready (rs := [52]) (by kernel_rfl) (by simp) ?_
  refine AllReadyH.cons (o := { dst := some 105, op := Op.call { callee := Callee.value (Operand.func 30), args := #[Operand.tmp 104], argTypes := #[2] }, type := 24, pos := "law.go:44", after := #[{ on := 51, ground := Ground.data }, { on := 50, ground := Ground.chain }, { on := 48, ground := Ground.guard }], guard := some (48, true) }) rfl (fun K hK => ?_) AllReadyH.nil
  go_simp
  refine Calls.mono (O2.out _) ?_; rintro e wk ⟨rfl, hbk⟩
  refine hK.out _ _ (MK.out _ (hHeld.1.trans hbk)) (fun hHeld => ?_)
  clear hK K
  try simp only [Act.put, List.setIfInBounds_toArray, List.set_cons_zero, List.set_cons_succ]
  refine wpAnyH_take (i := 53) (oi := { dst := some 106, op := Op.binOp BinOp.eql 24 (Operand.tmp 103) (Operand.tmp 105) 24, type := 4, pos := "law.go:44", after := #[{ on := 50, ground := Ground.data }, { on := 52, ground := Ground.data }, { on := 48, ground := Ground.guard }], guard := some (48, true) }) (v := ?_) rfl (by kernel_rfl) (by kernel_rfl) (by kernel_rfl) (fun _ _ _ h => h) (Or.inl ⟨by rfl, ?_⟩) hHeld ?_
  rotate_left
  · intro w' hSw; (try dsimp only at hSw); go_simp <;> with_reducible rfl
  try simp only [Act.put, List.setIfInBounds_toArray, List.set_cons_zero, List.set_cons_succ]
  refine wpAnyH_take (i := 54) (oi := { dst := some 107, op := Op.pick (Operand.tmp 101) (Operand.tmp 106) (Operand.const (Value.bool false)), type := 4, pos := "law.go:44", after := #[{ on := 48, ground := Ground.data }, { on := 53, ground := Ground.data }], guard := none }) (v := ?_) rfl (by kernel_rfl) (by kernel_rfl) (by kernel_rfl) (fun _ _ _ h => h) (Or.inl ⟨by rfl, ?_⟩) hHeld ?_
  rotate_left
  · intro w' hSw; (try dsimp only at hSw); go_simp <;> with_reducible rfl
  try simp only [Act.put, List.setIfInBounds_toArray, List.set_cons_zero, List.set_cons_succ]
  refine wpAnyH_take (i := 55) (oi := { dst := some 6, op := Op.assign (Operand.tmp 107), type := 4, pos := "law.go:44", after := #[{ on := 54, ground := Ground.data }, { on := 52, ground := Ground.chain }, { on := 0, ground := Ground.phase }, { on := 1, ground := Ground.phase }, { on := 2, ground := Ground.phase }, { on := 3, ground := Ground.phase }, { on := 4, ground := Ground.phase }, { on := 5, ground := Ground.phase }, { on := 6, ground := Ground.phase }, { on := 7, ground := Ground.phase }, { on := 8, ground := Ground.phase }, { on := 9, ground := Ground.phase }, { on := 10, ground := Ground.phase }, { on := 11, ground := Ground.phase }, { on := 12, ground := Ground.phase }, { on := 13, ground := Ground.phase }, { on := 14, ground := Ground.phase }, { on := 15, ground := Ground.phase }, { on := 16, ground := Ground.phase }, { on := 17, ground := Ground.phase }, { on := 18, ground := Ground.phase }, { on := 19, ground := Ground.phase }, { on := 20, ground := Ground.phase }, { on := 21, ground := Ground.phase }, { on := 22, ground := Ground.phase }, { on := 23, ground := Ground.phase }, { on := 24, ground := Ground.phase }, { on := 25, ground := Ground.phase }, { on := 26, ground := Ground.phase }, { on := 27, ground := Ground.phase }, { on := 28, ground := Ground.phase }, { on := 29, ground := Ground.phase }, { on := 30, ground := Ground.phase }, { on := 31, ground := Ground.phase }, { on := 32, ground := Ground.phase }, { on := 33, ground := Ground.phase }, { on := 34, ground := Ground.phase }, { on := 35, ground := Ground.phase }, { on := 36, ground := Ground.phase }, { on := 37, ground := Ground.phase }, { on := 38, ground := Ground.phase }, { on := 39, ground := Ground.phase }, { on := 40, ground := Ground.phase }, { on := 41, ground := Ground.phase }, { on := 42, ground := Ground.phase }, { on := 43, ground := Ground.phase }, { on := 44, ground := Ground.phase }, { on := 45, ground := Ground.phase }, { on := 46, ground := Ground.phase }, { on := 47, ground := Ground.phase }, { on := 48, ground := Ground.phase }, { on := 49, ground := Ground.phase }, { on := 50, ground := Ground.phase }, { on := 51, ground := Ground.phase }, { on := 52, ground := Ground.phase }, { on := 53, ground := Ground.phase }, { on := 54, ground := Ground.phase }], guard := none }) (v := ?_) rfl (by kernel_rfl) (by kernel_rfl) (by kernel_rfl) (fun _ _ _ h => h) (Or.inl ⟨by rfl, ?_⟩) hHeld ?_
  rotate_left
  · intro w' hSw; (try dsimp only at hSw); go_simp <;> with_reducible rfl
  try simp only [Act.put, List.setIfInBounds_toArray, List.set_cons_zero, List.set_cons_succ]
  refine wpAnyH_done (by kernel_rfl) ?_ _
  refine NoPanic.normal ?_
  go_wp2_with fail
  go_ret
  exact ⟨rfl, (HUV.out.trans hHeld.1.below).below⟩

set_option maxRecDepth 100000 in
theorem contract (H : Type) (enc : TypeId × Value → H) (W : World) (base : Nat) (args : Array Value) (ds gs : List (DataW H)) (before : List MemPlace)
    (hval : ∀ (j : Nat) t v, Tryd.f4.params[j]? = some t → args[j]? = some v → Value.okWide Tryd.prog W .any base t v)
    (hW : DataW.Whole enc Tryd.prog Tryd.f4.params.toList Rows.wideAddsSpec.vars false W args.toList ds gs before) (hL : laidMetH Tryd.prog Rows.wideAddsRow.laid W) :
    Calls Tryd.prog 4 args W fun e W' => ∃ v, e = .returned v ∧ Rows.wideAddsSpec.post enc Tryd.prog Tryd.f4 false true false false W args v W' := by
  obtain ⟨ht, hg⟩ := table_of hL
  have hW' := hW
  obtain ⟨p, q, hA0, hV, rfl, hfz, hnd⟩ := hW
  have hA : DataW.TrodAll enc Tryd.prog W 0 (fun _ => true) true Tryd.f4.params.toList args.toList ds p := hA0
  rw [Tryd.params4] at hA hval
  obtain ⟨v0, v1, v2, d0, d1, d2, p0, p1, p2, rfl, rfl, rfl, h0, h1, h2⟩ := trodAll_three hA
  obtain ⟨rfl, rfl⟩ := trodVars_none hV
  obtain ⟨x0, rfl, hx0⟩ := open_wide (hval 0 24 v0 rfl rfl) h0
  obtain ⟨x1, rfl, hx1⟩ := open_wide (hval 1 24 v1 rfl rfl) h1
  obtain ⟨x2, rfl, rfl, rfl, wx2⟩ := open_int Tryd.underlying2 (hval 2 2 v2 rfl rfl) h2
  have hx2 := wf_i64 wx2
  refine (walk W x0 x1 x2 hx0 hx1 hx2 ht hg).mono fun e W' ⟨he, hbl⟩ => ⟨.bool true, he, ?_⟩
  exact law_post laidOut (by kernel_rfl) Tryd.underlying4 (readable_of (by kernel_rfl)) rfl rfl hW' hbl

theorem laid_met (os : Os) : laidMet Tryd.prog Rows.wideAddsRow.laid ((laidWorld os).forCall (fun _ _ => 0) ⟨#[], #[.agg #[.int .i64 0, .int .u64 0], .agg #[.int .i64 0, .int .u64 0], .int .i64 0], []⟩).memory := laidMet_of_run' 8 (by kernel_rfl) (by kernel_rfl)
theorem reads (os : Os) {H : Type} (enc : TypeId × Value → H) : ∃ places, DataW.whole enc Tryd.prog ((laidWorld os).forCall (fun _ _ => 0) ⟨#[], #[.agg #[.int .i64 0, .int .u64 0], .agg #[.int .i64 0, .int .u64 0], .int .i64 0], []⟩).memory Tryd.f4.params.toList Rows.wideAddsSpec.vars false (#[.agg #[.int .i64 0, .int .u64 0], .agg #[.int .i64 0, .int .u64 0], .int .i64 0] : Array Value).toList 8 = some ([.agg [.lit (.int .i64 0), .lit (.int .u64 0)], .agg [.lit (.int .i64 0), .lit (.int .u64 0)], .lit (.int .i64 0)], [], places) :=
  ⟨[], by kernel_rfl⟩

set_option maxRecDepth 100000 in
theorem lifted (os : Os) (started : os.Started) (H : Type) (enc : TypeId × Value → H) (F : Stop.Interp) :
    ReturnsInHanded {} Tryd.checked os 4 .any ((OpenSpec.ofChange Rows.wideAddsSpec).preRow enc Tryd.prog Tryd.f4 Rows.wideAddsRow.domain false Rows.wideAddsRow.laid) (((OpenSpec.ofChange Rows.wideAddsSpec).at F).post enc Tryd.prog Tryd.f4 false true false false) := by
  obtain ⟨places, hx⟩ := reads os enc
  refine returnsInHanded_of_row (C := Tryd.checked) (s := OpenSpec.ofChange Rows.wideAddsSpec) own started (by kernel_rfl) Tryd.func4
    (witness_row_atRef (enc := enc) (C := Tryd.checked) false (laidWorld os) #[.agg #[.int .i64 0, .int .u64 0], .agg #[.int .i64 0, .int .u64 0], .int .i64 0] rfl (by kernel_rfl) (by kernel_rfl) (by kernel_rfl)
      (OpenSpec.preRow_of_cond 8 hx (by kernel_rfl) (fun k hk => by cases hk) (by kernel_rfl) (laid_met os))) ?_
  intro W base args ds gs before hval hW _ _ _ hL _ _
  exact contract H enc W base args ds gs before hval hW hL

theorem said : Rows.WideAddsSaid :=
  OpenClaim.holds_of_cond 4 Tryd.f4 rfl rfl rfl rfl rfl rfl rfl ⟨rfl, rfl, rfl, rfl, rfl⟩ rfl rfl rfl rfl rfl (by kernel_rfl) Tryd.func4 (by kernel_rfl)
    (of_decide_eq_true (by kernel_rfl)) (by unfold Func.isWrapper; first | (rw [if_pos (by decide +kernel)]; kernel_rfl) | (rw [if_neg (by decide +kernel)]; exact ⟨rfl, rfl⟩))
    (fun os started H enc _ F => by rw [OpenClaim.pre_eq_preRow]; exact lifted os started H enc F)

/-- No parameter wants a stand-in: what the card asks. -/
theorem plain (f : FuncId) (fn : Func) (hf : Tryd.pinned.checked.prog.funcNamed "bursar/bursarlaw2.WideAdds" = some f) (hfn : Tryd.pinned.checked.prog.funcs[f]? = some fn) :
    true = Tryd.pinned.checked.prog.looks [] ∧ ∀ (j : Nat) t, fn.params[j]? = some t → Tryd.pinned.checked.prog.wantsStandIn t = false := by
  obtain rfl : f = 4 := Option.some.inj ((show Tryd.prog.funcNamed "bursar/bursarlaw2.WideAdds" = some 4 by kernel_rfl).symm.trans hf) |>.symm
  obtain rfl : fn = Tryd.f4 := (Option.some.inj (Tryd.func4.symm.trans hfn)).symm
  refine ⟨by kernel_rfl, fun j t ht => ?_⟩
  rw [Tryd.params4] at ht
  have hm : t ∈ [24, 24, 2] := by simpa using Array.mem_of_getElem? ht
  have hall : ([24, 24, 2].all fun u => !Tryd.prog.wantsStandIn u) = true := by kernel_rfl
  exact (show Tryd.prog.wantsStandIn t = false by simpa using List.all_eq_true.1 hall t hm)

/-- THE CARD -/
theorem proved : Rows.WideAddsCardSaid :=
  Claim7.holds_tied_plain_at .later [] _ _ _ _ said (fun _ h => by cases h) (by kernel_rfl) (fun _ h => by cases h) wideAdds_row_tie rfl ⟨rfl, rfl⟩ (by kernel_rfl) rfl plain (by kernel_rfl)

end Go.Proofs.YtfalllekhcocgaaDoor.wideAdds
