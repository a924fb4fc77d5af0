/-
  Quotients and rests are as the document says, of any two numbers. No condition.
-/
import Derived.Test.YtfalllekhcocgaaDoorLawW
import Derived.Test.YtfalllekhcocgaaDoorRefO
namespace Go.Proofs.YtfalllekhcocgaaDoor.wideDivs
open Go.ChangeShapes Go.WideShapes Go.ChangeAt Go.RowKit

set_option maxRecDepth 100000 in
set_option maxHeartbeats 4000000 in
theorem walk (w : World) (x y : Int) (hx : Fits x) (hy : Fits y) (htab : Lib.TabIs Tryd.prog w "internal/strconv.uint64pow10" .u64 Lib.pow10Tab) (hg : 2 < w.heap.size) :
    Calls Tryd.prog 6 #[WV x, WV y] w fun e w' => e = .returned (.bool true) ∧ Below w.heap.size w w' := by
  have M1 := fun w => divc_any w x y hx hy
  have M2 := fun w => rdivc_any w x y hx hy
  obtain ⟨ah, al, e1, _, _, _⟩ := WV_of hx
  obtain ⟨bh, bl, e2, _, _, _⟩ := WV_of hy
  obtain ⟨qh, ql, rh, rl, k, hp⟩ := divV_form x y
  rw [e1, e2, hp] at M1 M2
  rw [e1, e2]
  have M1 := hid M1
  have M2 := hid M2
  have HT := hid htab
  clear htab hp e1 e2
  have R_a := (Row.new w 24 #[.int .i64 ah, .int .u64 al]).alloc (.cells #[.int .i64 bh, .int .u64 bl] 24)
  have R_b := Row.new (w.alloc (.cells #[.int .i64 ah, .int .u64 al] 24)) 24 #[.int .i64 bh, .int .u64 bl]
  have HU := ((Up.refl w).alloc (.cells #[.int .i64 ah, .int .u64 al] 24)).alloc (.cells #[.int .i64 bh, .int .u64 bl] 24)
  simp only [alloc_size] at R_b
  go_enter Tryd.func6, Tryd.ntmps6
  go_wp2_with fail
  refine Calls.mono (M1.out _) ?_; rintro e w1 ⟨rfl, hb_w1⟩
  have z_w1 := hb_w1.size
  try simp only [alloc_size, setCell_size] at z_w1
  replace R_a := R_a.mod (Mod.of_below hb_w1 Nil) (fun hf => hf)
  replace R_b := R_b.mod (Mod.of_below hb_w1 Nil) (fun hf => hf)
  replace HU := HU.trans hb_w1
  clear hb_w1
  have R_q := Row.new (w1) 24 #[.int .i64 qh, .int .u64 ql]
  replace R_a := R_a.alloc (.cells #[.int .i64 qh, .int .u64 ql] 24)
  replace R_b := R_b.alloc (.cells #[.int .i64 qh, .int .u64 ql] 24)
  replace HU := HU.alloc (.cells #[.int .i64 qh, .int .u64 ql] 24)
  have R_r := Row.new ((w1).alloc (.cells #[.int .i64 qh, .int .u64 ql] 24)) 24 #[.int .i64 rh, .int .u64 rl]
  have hz : ((w1).alloc (.cells #[.int .i64 qh, .int .u64 ql] 24)).heap.size = w1.heap.size + 1 := by simp only [alloc_size, setCell_size]
  rw [hz] at R_r
  clear hz
  replace R_a := R_a.alloc (.cells #[.int .i64 rh, .int .u64 rl] 24)
  replace R_b := R_b.alloc (.cells #[.int .i64 rh, .int .u64 rl] 24)
  replace R_q := R_q.alloc (.cells #[.int .i64 rh, .int .u64 rl] 24)
  replace HU := HU.alloc (.cells #[.int .i64 rh, .int .u64 rl] 24)
  have c1_0 := R_b.cell 0
  have c1_1 := R_b.cell 1
  have c2_0 := R_a.cell 0
  have c2_1 := R_a.cell 1
  simp at c1_0 c1_1 c2_0 c2_1
  go_wp2_with fail
  clear c1_0 c1_1 c2_0 c2_1
  refine Calls.mono (M2.out _) ?_; rintro e w2 ⟨rfl, hb_w2⟩
  have z_w2 := hb_w2.size
  try simp only [alloc_size, setCell_size] at z_w2
  replace R_a := R_a.mod (Mod.of_below hb_w2 Nil) (fun hf => hf)
  replace R_b := R_b.mod (Mod.of_below hb_w2 Nil) (fun hf => hf)
  replace R_q := R_q.mod (Mod.of_below hb_w2 Nil) (fun hf => hf)
  replace R_r := R_r.mod (Mod.of_below hb_w2 Nil) (fun hf => hf)
  replace HU := HU.trans hb_w2
  clear hb_w2
  have R_p := Row.new (w2) 24 #[.int .i64 qh, .int .u64 ql]
  replace R_a := R_a.alloc (.cells #[.int .i64 qh, .int .u64 ql] 24)
  replace R_b := R_b.alloc (.cells #[.int .i64 qh, .int .u64 ql] 24)
  replace R_q := R_q.alloc (.cells #[.int .i64 qh, .int .u64 ql] 24)
  replace R_r := R_r.alloc (.cells #[.int .i64 qh, .int .u64 ql] 24)
  replace HU := HU.alloc (.cells #[.int .i64 qh, .int .u64 ql] 24)
  have R_s := Row.new ((w2).alloc (.cells #[.int .i64 qh, .int .u64 ql] 24)) 24 #[.int .i64 rh, .int .u64 rl]
  have hz : ((w2).alloc (.cells #[.int .i64 qh, .int .u64 ql] 24)).heap.size = w2.heap.size + 1 := by simp only [alloc_size, setCell_size]
  rw [hz] at R_s
  clear hz
  replace R_a := R_a.alloc (.cells #[.int .i64 rh, .int .u64 rl] 24)
  replace R_b := R_b.alloc (.cells #[.int .i64 rh, .int .u64 rl] 24)
  replace R_q := R_q.alloc (.cells #[.int .i64 rh, .int .u64 rl] 24)
  replace R_r := R_r.alloc (.cells #[.int .i64 rh, .int .u64 rl] 24)
  replace R_p := R_p.alloc (.cells #[.int .i64 rh, .int .u64 rl] 24)
  replace HU := HU.alloc (.cells #[.int .i64 rh, .int .u64 rl] 24)
  go_wp2_with fail
  obtain ⟨V, h_V⟩ : ∃ V, V = ((w2).alloc (.cells #[.int .i64 qh, .int .u64 ql] 24)).alloc (.cells #[.int .i64 rh, .int .u64 rl] 24) := ⟨_, rfl⟩
  rw [← h_V]
  rw [← h_V] at R_a R_b R_q R_r R_p R_s HU
  have z_V : V.heap.size = _ := congrArg (fun a => a.heap.size) h_V
  try simp only [alloc_size, setCell_size] at z_V
  clear h_V
  refine (known_any V (tab_below HT.out HU.below hg) (by have := HU.size; omega)).mono ?_; rintro e w3 ⟨rfl, hb_w3⟩
  have z_w3 := hb_w3.size
  try simp only [alloc_size, setCell_size] at z_w3
  replace R_a := R_a.mod (Mod.of_below hb_w3 Nil) (fun hf => hf)
  replace R_b := R_b.mod (Mod.of_below hb_w3 Nil) (fun hf => hf)
  replace R_q := R_q.mod (Mod.of_below hb_w3 Nil) (fun hf => hf)
  replace R_r := R_r.mod (Mod.of_below hb_w3 Nil) (fun hf => hf)
  replace R_p := R_p.mod (Mod.of_below hb_w3 Nil) (fun hf => hf)
  replace R_s := R_s.mod (Mod.of_below hb_w3 Nil) (fun hf => hf)
  replace HU := HU.trans hb_w3
  clear hb_w3
  have c3_0 := R_q.cell 0
  have c3_1 := R_q.cell 1
  have c4_0 := R_r.cell 0
  have c4_1 := R_r.cell 1
  have c5_0 := R_p.cell 0
  have c5_1 := R_p.cell 1
  have c6_0 := R_s.cell 0
  have c6_1 := R_s.cell 1
  simp at c3_0 c3_1 c4_0 c4_1 c5_0 c5_1 c6_0 c6_1
  go_wp2_with fail
  clear c3_0 c3_1 c4_0 c4_1 c5_0 c5_1 c6_0 c6_1
  go_ret
  exact ⟨rfl, HU.below⟩

set_option maxRecDepth 100000 in
theorem contract (H : Type) (enc : TypeId × Value → H) (W : World) (base : Nat) (args : Array Value) (ds gs : List (DataW H)) (before : List MemPlace)
    (hval : ∀ (j : Nat) t v, Tryd.f6.params[j]? = some t → args[j]? = some v → Value.okWide Tryd.prog W .any base t v)
    (hW : DataW.Whole enc Tryd.prog Tryd.f6.params.toList Rows.wideDivsSpec.vars false W args.toList ds gs before) (hL : laidMetH Tryd.prog Rows.wideDivsRow.laid W) :
    Calls Tryd.prog 6 args W fun e W' => ∃ v, e = .returned v ∧ Rows.wideDivsSpec.post enc Tryd.prog Tryd.f6 false true false false W args v W' := by
  obtain ⟨ht, hg⟩ := table_of hL
  have hW' := hW
  obtain ⟨p, q, hA0, hV, rfl, hfz, hnd⟩ := hW
  have hA : DataW.TrodAll enc Tryd.prog W 0 (fun _ => true) true Tryd.f6.params.toList args.toList ds p := hA0
  rw [Tryd.params6] at hA hval
  obtain ⟨v0, v1, d0, d1, p0, p1, rfl, rfl, rfl, h0, h1⟩ := trodAll_two hA
  obtain ⟨rfl, rfl⟩ := trodVars_none hV
  obtain ⟨x0, rfl, hx0⟩ := open_wide (hval 0 24 v0 rfl rfl) h0
  obtain ⟨x1, rfl, hx1⟩ := open_wide (hval 1 24 v1 rfl rfl) h1
  refine (walk W x0 x1 hx0 hx1 ht hg).mono fun e W' ⟨he, hbl⟩ => ⟨.bool true, he, ?_⟩
  exact law_post laidOut (by kernel_rfl) Tryd.underlying4 (readable_of (by kernel_rfl)) rfl rfl hW' hbl

theorem laid_met (os : Os) : laidMet Tryd.prog Rows.wideDivsRow.laid ((laidWorld os).forCall (fun _ _ => 0) ⟨#[], #[.agg #[.int .i64 0, .int .u64 0], .agg #[.int .i64 0, .int .u64 0]], []⟩).memory := laidMet_of_run' 8 (by kernel_rfl) (by kernel_rfl)
theorem reads (os : Os) {H : Type} (enc : TypeId × Value → H) : ∃ places, DataW.whole enc Tryd.prog ((laidWorld os).forCall (fun _ _ => 0) ⟨#[], #[.agg #[.int .i64 0, .int .u64 0], .agg #[.int .i64 0, .int .u64 0]], []⟩).memory Tryd.f6.params.toList Rows.wideDivsSpec.vars false (#[.agg #[.int .i64 0, .int .u64 0], .agg #[.int .i64 0, .int .u64 0]] : Array Value).toList 8 = some ([.agg [.lit (.int .i64 0), .lit (.int .u64 0)], .agg [.lit (.int .i64 0), .lit (.int .u64 0)]], [], places) :=
  ⟨[], by kernel_rfl⟩

set_option maxRecDepth 100000 in
theorem lifted (os : Os) (started : os.Started) (H : Type) (enc : TypeId × Value → H) (F : Stop.Interp) :
    ReturnsInHanded {} Tryd.checked os 6 .any ((OpenSpec.ofChange Rows.wideDivsSpec).preRow enc Tryd.prog Tryd.f6 Rows.wideDivsRow.domain false Rows.wideDivsRow.laid) (((OpenSpec.ofChange Rows.wideDivsSpec).at F).post enc Tryd.prog Tryd.f6 false true false false) := by
  obtain ⟨places, hx⟩ := reads os enc
  refine returnsInHanded_of_row (C := Tryd.checked) (s := OpenSpec.ofChange Rows.wideDivsSpec) own started (by kernel_rfl) Tryd.func6
    (witness_row_atRef (enc := enc) (C := Tryd.checked) false (laidWorld os) #[.agg #[.int .i64 0, .int .u64 0], .agg #[.int .i64 0, .int .u64 0]] rfl (by kernel_rfl) (by kernel_rfl) (by kernel_rfl)
      (OpenSpec.preRow_of_cond 8 hx (by kernel_rfl) (fun k hk => by cases hk) (by kernel_rfl) (laid_met os))) ?_
  intro W base args ds gs before hval hW _ _ _ hL _ _
  exact contract H enc W base args ds gs before hval hW hL

theorem said : Rows.WideDivsSaid :=
  OpenClaim.holds_of_cond 6 Tryd.f6 rfl rfl rfl rfl rfl rfl rfl ⟨rfl, rfl, rfl, rfl, rfl⟩ rfl rfl rfl rfl rfl (by kernel_rfl) Tryd.func6 (by kernel_rfl)
    (of_decide_eq_true (by kernel_rfl)) (by unfold Func.isWrapper; first | (rw [if_pos (by decide +kernel)]; kernel_rfl) | (rw [if_neg (by decide +kernel)]; exact ⟨rfl, rfl⟩))
    (fun os started H enc _ F => by rw [OpenClaim.pre_eq_preRow]; exact lifted os started H enc F)

/-- No parameter wants a stand-in: what the card asks. -/
theorem plain (f : FuncId) (fn : Func) (hf : Tryd.pinned.checked.prog.funcNamed "bursar/bursarlaw2.WideDivs" = some f) (hfn : Tryd.pinned.checked.prog.funcs[f]? = some fn) :
    true = Tryd.pinned.checked.prog.looks [] ∧ ∀ (j : Nat) t, fn.params[j]? = some t → Tryd.pinned.checked.prog.wantsStandIn t = false := by
  obtain rfl : f = 6 := Option.some.inj ((show Tryd.prog.funcNamed "bursar/bursarlaw2.WideDivs" = some 6 by kernel_rfl).symm.trans hf) |>.symm
  obtain rfl : fn = Tryd.f6 := (Option.some.inj (Tryd.func6.symm.trans hfn)).symm
  refine ⟨by kernel_rfl, fun j t ht => ?_⟩
  rw [Tryd.params6] at ht
  have hm : t ∈ [24, 24] := by simpa using Array.mem_of_getElem? ht
  have hall : ([24, 24].all fun u => !Tryd.prog.wantsStandIn u) = true := by kernel_rfl
  exact (show Tryd.prog.wantsStandIn t = false by simpa using List.all_eq_true.1 hall t hm)

/-- THE CARD -/
theorem proved : Rows.WideDivsCardSaid :=
  Claim7.holds_tied_plain_at .later [] _ _ _ _ said (fun _ h => by cases h) (by kernel_rfl) (fun _ h => by cases h) wideDivs_row_tie rfl ⟨rfl, rfl⟩ (by kernel_rfl) rfl plain (by kernel_rfl)

end Go.Proofs.YtfalllekhcocgaaDoor.wideDivs
