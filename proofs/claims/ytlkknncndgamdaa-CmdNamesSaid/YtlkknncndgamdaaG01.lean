/-
  CmdG
-/
import Derived.Test.YtlkknncndgamdaaE02
set_option linter.unusedSimpArgs false
set_option linter.unusedVariables false

namespace Go.Proofs.Ytlkknncndgamdaa.Sep
open Go.RowKit
open Go.Proofs.Ytlkknncndgamdaa.Mem (Dist Blk Chg below0)

structure RepD where
  code : Int
  val : Int
  hi : Int
  lo : Int
  sc : Int
deriving DecidableEq
structure RepD.ok (r : RepD) : Prop where
  code : I64 r.code
  val : U64 r.val
  hi : I64 r.hi
  lo : U64 r.lo
  sc : I64 r.sc
def RepD.right (r : RepD) : Bool := (decide (0 ≤ r.code) && decide (r.code ≤ 99)) && scB r.sc
def layR (r : RepD) : List UInt8 := [UInt8.ofNat r.code.toNat] ++ layU r.val ++ layD r.hi r.lo r.sc
/-- what ReadReply answers -/
def RepRead (l : List UInt8) (r : RepD) (e : Nat) : Prop := ∃ (n0 : Nat) (l0 : List UInt8) (f0 n1 : Nat) (l1 : List UInt8) (f1 : Nat) (hi : Int) (lo sc : Nat) (l' : List UInt8) (f' : Nat), rbyte 99 l 0 = (n0, l0, f0) ∧ rnum 18446744073709551615 l0 f0 = (n1, l1, f1) ∧ rdec l1 f1 = ((hi, lo, sc), l', f') ∧ ((rend l' f' ≠ 0 ∧ r = ⟨0, 0, 0, 0, 0⟩ ∧ e = rend l' f') ∨ (rend l' f' = 0 ∧ r = ⟨(n0 : Int), (n1 : Int), hi, (lo : Int), (sc : Int)⟩ ∧ e = 0))
theorem repread_any (l : List UInt8) : ∃ r e, RepRead l r e := by
  obtain ⟨⟨n0, l0, f0⟩, h0⟩ : ∃ R, rbyte 99 l 0 = R := ⟨_, rfl⟩
  obtain ⟨⟨n1, l1, f1⟩, h1⟩ : ∃ R, rnum 18446744073709551615 l0 f0 = R := ⟨_, rfl⟩
  obtain ⟨⟨⟨hi, lo, sc⟩, l2, f2⟩, h2⟩ : ∃ R, rdec l1 f1 = R := ⟨_, rfl⟩
  by_cases he : rend l2 f2 = 0
  · exact ⟨_, 0, n0, l0, f0, n1, l1, f1, hi, lo, sc, l2, f2, h0, h1, h2, .inr ⟨he, rfl, rfl⟩⟩
  · exact ⟨_, _, n0, l0, f0, n1, l1, f1, hi, lo, sc, l2, f2, h0, h1, h2, .inl ⟨he, rfl, rfl⟩⟩
theorem right_iff {r : RepD} (h : r.right = true) : 0 ≤ r.code ∧ r.code ≤ 99 ∧ 0 ≤ r.sc ∧ r.sc ≤ 18 := by
  unfold RepD.right at h
  simp only [Bool.and_eq_true, decide_eq_true_eq] at h
  have := scB_iff h.2
  exact ⟨h.1.1, h.1.2, this.1, this.2⟩
theorem repread_lay {r : RepD} (ho : r.ok) (h : r.right = true) : RepRead (layR r) r 0 := by
  obtain ⟨h1, h2, h3, h4⟩ := right_iff h
  have e0 : (UInt8.ofNat r.code.toNat).toNat = r.code.toNat := byte_of _ (by omega)
  have hv := ho.val
  have hl := ho.lo
  unfold U64 at hv hl
  refine ⟨r.code.toNat, layU r.val ++ layD r.hi r.lo r.sc, 0, r.val.toNat, layD r.hi r.lo r.sc, 0, r.hi, r.lo.toNat, r.sc.toNat, [], 0, ?_, ?_, ?_, .inr ⟨rfl, ?_, rfl⟩⟩
  · unfold layR
    rw [List.append_assoc]
    exact (rbyte_lay 99 _ _ (by omega)).trans (by rw [e0]; rfl)
  · exact rnum_lay _ _ _ (by omega) (by omega)
  · have := rdec_lay (r := []) ho.hi ho.lo ⟨h3, h4⟩
    rwa [List.append_nil] at this
  · rw [show ((r.code.toNat : Nat) : Int) = r.code by omega, show ((r.val.toNat : Nat) : Int) = r.val by omega, show ((r.lo.toNat : Nat) : Int) = r.lo by omega, show ((r.sc.toNat : Nat) : Int) = r.sc by omega]
theorem layR_len {r : RepD} (ho : r.ok) : (layR r).length ≤ 32 := by
  unfold layR
  have := layU_len ho.val
  have := layD_len (sc := r.sc) ho.hi ho.lo
  simp only [List.length_append, List.length_cons, List.length_nil]
  omega

set_option maxRecDepth 100000 in
theorem layr_does (x : RepD) (ho : x.ok) (hr : x.right = true) : Does Try.prog 10 #[.agg #[.int .i64 x.code, .int .u64 x.val, .int .i64 x.hi, .int .u64 x.lo, .int .i64 x.sc]] [] (fun (v : Value) => .tuple #[v, .int .i64 0]) (fun (v : Value) => [Vec 5 1 encB v (layR x)]) := by
  obtain ⟨h1, h2, h3, h4⟩ := right_iff hr
  obtain ⟨L0, hL0⟩ : ∃ L0, [UInt8.ofNat x.code.toNat] = L0 := ⟨_, rfl⟩
  obtain ⟨L1, hL1⟩ : ∃ L1, L0 ++ layU x.val = L1 := ⟨_, rfl⟩
  obtain ⟨L2, hL2⟩ : ∃ L2, L1 ++ layD x.hi x.lo x.sc = L2 := ⟨_, rfl⟩
  have hE : L2 = layR x := by rw [← hL2, ← hL1, ← hL0]; rfl
  have n0 : L0.length = 1 := by rw [← hL0]; rfl
  have n1 : L1.length ≤ 11 := by have := layU_len ho.val; rw [← hL1, List.length_append]; omega
  have n2 : L2.length ≤ 32 := by rw [hE]; exact layR_len ho
  refine d_ins (args := [.agg #[.int .i64 x.code, .int .u64 x.val, .int .i64 x.hi, .int .u64 x.lo, .int .i64 x.sc]]) 35 Try.func10 rfl rfl rfl ?_; intro w rs
  refine d_reg ?_
  refine h_q hflS rfl ?_
  refine h_act (post := fun g1 => [cell g1 37 #[.int .i64 x.code, .int .u64 x.val, .int .i64 x.hi, .int .u64 x.lo, .int .i64 x.sc]]) rfl (a_box (cs := #[.int .i64 x.code, .int .u64 x.val, .int .i64 x.hi, .int .u64 x.lo, .int .i64 x.sc]) rfl rfl rfl) ?_; rintro g1
  refine h_q hflS rfl ?_
  refine h_done (d_seq (d_reg ?_))
  refine h_q hflS rfl ?_
  refine h_val rfl (.int .i64 x.code) (fun b w hb hH => exec_load rfl rfl (reads_one ty_api_Errno rfl) (hH.row 0 rfl) hb) ?_
  refine h_val rfl (.bool false) (fun b w hb hH => exec_cmp rfl rfl rfl (cmp_lss_f (by omega)) hb) ?_
  refine h_q hflS rfl ?_
  refine h_val rfl (.int .i64 x.code) (fun b w hb hH => exec_load rfl rfl (reads_one ty_api_Errno rfl) (hH.row 0 rfl) hb) ?_
  refine h_val rfl (.bool false) (fun b w hb hH => exec_cmp rfl rfl rfl (cmp_gtr_f (by omega)) hb) ?_
  refine h_q hflS rfl ?_
  refine h_val rfl (.agg #[.int .i64 x.hi, .int .u64 x.lo, .int .i64 x.sc]) (fun b w hb hH => exec_load rfl rfl (reads_agg (cs := [.int .i64 x.code, .int .u64 x.val, .int .i64 x.hi, .int .u64 x.lo, .int .i64 x.sc]) ty_api_Dec rfl) (hH.row 0 rfl) hb) ?_
  refine h_act (post := fun _ => [cell g1 37 #[.int .i64 x.code, .int .u64 x.val, .int .i64 x.hi, .int .u64 x.lo, .int .i64 x.sc]]) rfl (a_call (ent_of Try.func31 (by kernel_rfl) rfl) (fun w hH => decRight_any w x.hi x.lo x.sc true (by simp [scB]; omega)) rfl rfl rfl) ?_; rintro ⟨⟩
  refine h_q hflS rfl ?_
  refine h_done (d_else rfl (d_skip (f_to (d_reg ?_))))
  refine h_q hflS rfl ?_
  refine h_act (post := fun g => [WtT g ([]), cell g1 37 #[.int .i64 x.code, .int .u64 x.val, .int .i64 x.hi, .int .u64 x.lo, .int .i64 x.sc]]) rfl (a_does (os' := fun g => [WtT g ([]), cell g1 37 #[.int .i64 x.code, .int .u64 x.val, .int .i64 x.hi, .int .u64 x.lo, .int .i64 x.sc]]) [] 0 (ent_of Try.func20 (by kernel_rfl) rfl) (wt_new) rfl rfl rfl (fun _ => rfl) rfl rfl rfl) ?_; rintro g
  refine h_q hflS rfl ?_
  refine h_done (d_reg ?_)
  refine h_q hflS rfl ?_
  refine h_val rfl (.int .i64 x.code) (fun b w hb hH => exec_load rfl rfl (reads_one ty_api_Errno rfl) (hH.row 1 rfl) hb) ?_
  refine h_val rfl (.int .u8 x.code) (fun b w hb hH => exec_conv Try.underlying23 Try.underlying5 (IntWalk.u8_in _ (by omega)) rfl rfl hb) ?_
  refine h_act (post := fun _ => [WtT g L0, cell g1 37 #[.int .i64 x.code, .int .u64 x.val, .int .i64 x.hi, .int .u64 x.lo, .int .i64 x.sc]]) rfl (a_does (os' := fun _ => [WtT g L0, cell g1 37 #[.int .i64 x.code, .int .u64 x.val, .int .i64 x.hi, .int .u64 x.lo, .int .i64 x.sc]]) [0] 0 (ent_of Try.func21 (by kernel_rfl) rfl) (wt_byte g ([]) x.code (by omega) L0 (by rw [← hL0]; rfl) (by simp)) rfl rfl rfl (fun _ => rfl) rfl rfl rfl) ?_; rintro ⟨⟩
  refine h_done (d_reg ?_)
  refine h_q hflS rfl ?_
  refine h_val rfl (.int .u64 x.val) (fun b w hb hH => exec_load rfl rfl (reads_one ty_uint64 rfl) (hH.row 1 rfl) hb) ?_
  refine h_act (post := fun _ => [WtT g L1, cell g1 37 #[.int .i64 x.code, .int .u64 x.val, .int .i64 x.hi, .int .u64 x.lo, .int .i64 x.sc]]) rfl (a_does (os' := fun _ => [WtT g L1, cell g1 37 #[.int .i64 x.code, .int .u64 x.val, .int .i64 x.hi, .int .u64 x.lo, .int .i64 x.sc]]) [0] 0 (ent_of Try.func24 (by kernel_rfl) rfl) (wt_num g L0 x.val ho.val L1 hL1 (by omega)) rfl rfl rfl (fun _ => rfl) rfl rfl rfl) ?_; rintro ⟨⟩
  refine h_done (d_reg ?_)
  refine h_q hflS rfl ?_
  refine h_val rfl (.agg #[.int .i64 x.hi, .int .u64 x.lo, .int .i64 x.sc]) (fun b w hb hH => exec_load rfl rfl (reads_agg (cs := [.int .i64 x.code, .int .u64 x.val, .int .i64 x.hi, .int .u64 x.lo, .int .i64 x.sc]) ty_api_Dec rfl) (hH.row 1 rfl) hb) ?_
  refine h_act (post := fun _ => [WtT g L2, cell g1 37 #[.int .i64 x.code, .int .u64 x.val, .int .i64 x.hi, .int .u64 x.lo, .int .i64 x.sc]]) rfl (a_does (os' := fun _ => [WtT g L2, cell g1 37 #[.int .i64 x.code, .int .u64 x.val, .int .i64 x.hi, .int .u64 x.lo, .int .i64 x.sc]]) [0] 0 (ent_of Try.func25 (by kernel_rfl) rfl) (layAmount_does g L1 x.hi x.lo x.sc ho.hi ho.lo ⟨h3, h4⟩ L2 hL2 (by omega)) rfl rfl rfl (fun _ => rfl) rfl rfl rfl) ?_; rintro ⟨⟩
  refine h_done (d_reg ?_)
  refine h_q hflS rfl ?_
  refine h_act (post := fun v => [Vec 5 1 encB v L2, WtT g L2, cell g1 37 #[.int .i64 x.code, .int .u64 x.val, .int .i64 x.hi, .int .u64 x.lo, .int .i64 x.sc]]) rfl (a_does (os' := fun v => [Vec 5 1 encB v L2, WtT g L2, cell g1 37 #[.int .i64 x.code, .int .u64 x.val, .int .i64 x.hi, .int .u64 x.lo, .int .i64 x.sc]]) [0] 0 (ent_of Try.func27 (by kernel_rfl) rfl) (wt_bytes g L2 (by omega)) rfl rfl rfl (fun _ => rfl) rfl rfl rfl) ?_; rintro v
  refine h_q hflS rfl ?_
  refine h_done (d_ret ?_)
  exact f_fin2 (.tmp rfl) (.tmp rfl) (fun w h => tells v rfl [0] rfl h (fun z hz => ⟨z, .refl _, by rw [← hE]; exact hz⟩)) rfl

theorem notright {x : RepD} (hr : x.right = false) : x.code < 0 ∨ 99 < x.code ∨ (0 ≤ x.code ∧ x.code ≤ 99 ∧ scB x.sc = false) := by
  unfold RepD.right at hr
  simp only [Bool.and_eq_false_iff, decide_eq_false_iff_not] at hr
  rcases hr with (h0 | h0) | h0
  · omega
  · omega
  · by_cases p : x.code < 0
    · exact .inl p
    · by_cases q : 99 < x.code
      · exact .inr (.inl q)
      · exact .inr (.inr ⟨by omega, by omega, h0⟩)
theorem scB_not {n : Int} (h : scB n = false) : n < 0 ∨ 18 < n := by
  unfold scB at h
  simp only [Bool.and_eq_false_iff, decide_eq_false_iff_not] at h
  omega

set_option maxRecDepth 100000 in
theorem layr_bad (w : World) (x : RepD) (ho : x.ok) (hr : x.right = false) : Calls Try.prog 10 #[.agg #[.int .i64 x.code, .int .u64 x.val, .int .i64 x.hi, .int .u64 x.lo, .int .i64 x.sc]] w fun e w' => e = .returned (.tuple #[.slice none 0 0, .int .i64 1]) ∧ Below w.heap.size w w' := by
  refine d_in (args := [.agg #[.int .i64 x.code, .int .u64 x.val, .int .i64 x.hi, .int .u64 x.lo, .int .i64 x.sc]]) 35 Try.func10 rfl rfl rfl ?_
  refine d_reg ?_
  refine h_q hflS rfl ?_
  refine h_act (post := fun g1 => [cell g1 37 #[.int .i64 x.code, .int .u64 x.val, .int .i64 x.hi, .int .u64 x.lo, .int .i64 x.sc]]) rfl (a_box (cs := #[.int .i64 x.code, .int .u64 x.val, .int .i64 x.hi, .int .u64 x.lo, .int .i64 x.sc]) rfl rfl rfl) ?_; rintro g1
  refine h_q hflS rfl ?_
  refine h_done (d_seq ?_)
  rcases notright hr with h1 | h1 | ⟨h1, h2, h3⟩
  · skip
    refine d_reg ?_
    refine h_q hflS rfl ?_
    refine h_val rfl (.int .i64 x.code) (fun b w hb hH => exec_load rfl rfl (reads_one ty_api_Errno rfl) (hH.row 0 rfl) hb) ?_
    refine h_val rfl (.bool true) (fun b w hb hH => exec_cmp rfl rfl rfl (cmp_lss_t (by omega)) hb) ?_
    refine h_q hflS rfl ?_
    refine h_done (d_then rfl (d_reg ?_))
    refine h_q hflS rfl ?_
    refine h_done (d_ret (f_then_ret ?_))
    exact f_fin2 (.tmp rfl) (.tmp rfl) (fun w h => ⟨rfl, below0 h.up⟩) rfl
  · skip
    refine d_reg ?_
    refine h_q hflS rfl ?_
    refine h_val rfl (.int .i64 x.code) (fun b w hb hH => exec_load rfl rfl (reads_one ty_api_Errno rfl) (hH.row 0 rfl) hb) ?_
    refine h_val rfl (.bool false) (fun b w hb hH => exec_cmp rfl rfl rfl (cmp_lss_f (by omega)) hb) ?_
    refine h_q hflS rfl ?_
    refine h_val rfl (.int .i64 x.code) (fun b w hb hH => exec_load rfl rfl (reads_one ty_api_Errno rfl) (hH.row 0 rfl) hb) ?_
    refine h_val rfl (.bool true) (fun b w hb hH => exec_cmp rfl rfl rfl (cmp_gtr_t (by omega)) hb) ?_
    refine h_q hflS rfl ?_
    refine h_done (d_then rfl (d_reg ?_))
    refine h_q hflS rfl ?_
    refine h_done (d_ret (f_then_ret ?_))
    exact f_fin2 (.tmp rfl) (.tmp rfl) (fun w h => ⟨rfl, below0 h.up⟩) rfl
  · skip
    refine d_reg ?_
    refine h_q hflS rfl ?_
    refine h_val rfl (.int .i64 x.code) (fun b w hb hH => exec_load rfl rfl (reads_one ty_api_Errno rfl) (hH.row 0 rfl) hb) ?_
    refine h_val rfl (.bool false) (fun b w hb hH => exec_cmp rfl rfl rfl (cmp_lss_f (by omega)) hb) ?_
    refine h_q hflS rfl ?_
    refine h_val rfl (.int .i64 x.code) (fun b w hb hH => exec_load rfl rfl (reads_one ty_api_Errno rfl) (hH.row 0 rfl) hb) ?_
    refine h_val rfl (.bool false) (fun b w hb hH => exec_cmp rfl rfl rfl (cmp_gtr_f (by omega)) hb) ?_
    refine h_q hflS rfl ?_
    refine h_val rfl (.agg #[.int .i64 x.hi, .int .u64 x.lo, .int .i64 x.sc]) (fun b w hb hH => exec_load rfl rfl (reads_agg (cs := [.int .i64 x.code, .int .u64 x.val, .int .i64 x.hi, .int .u64 x.lo, .int .i64 x.sc]) ty_api_Dec rfl) (hH.row 0 rfl) hb) ?_
    refine h_act (post := fun _ => [cell g1 37 #[.int .i64 x.code, .int .u64 x.val, .int .i64 x.hi, .int .u64 x.lo, .int .i64 x.sc]]) rfl (a_call (ent_of Try.func31 (by kernel_rfl) rfl) (fun w hH => decRight_any w x.hi x.lo x.sc false h3) rfl rfl rfl) ?_; rintro ⟨⟩
    refine h_q hflS rfl ?_
    refine h_done (d_then rfl (d_reg ?_))
    refine h_q hflS rfl ?_
    refine h_done (d_ret (f_then_ret ?_))
    exact f_fin2 (.tmp rfl) (.tmp rfl) (fun w h => ⟨rfl, below0 h.up⟩) rfl

set_option maxRecDepth 100000 in
theorem rlayr_does (x : RepD) (ho : x.ok) (hr : x.right = true) : Does Try.prog 18 #[.agg #[.int .i64 x.code, .int .u64 x.val, .int .i64 x.hi, .int .u64 x.lo, .int .i64 x.sc]] [] (fun (v : Value) => .tuple #[v, .int .i64 0]) (fun (v : Value) => [Vec 5 1 encB v (layR x)]) := by
  obtain ⟨h1, h2, h3, h4⟩ := right_iff hr
  have hv := layU_len ho.val
  have hd := layD_len (sc := x.sc) ho.hi ho.lo
  obtain ⟨x0, hx0⟩ : ∃ x0, UInt8.ofNat x.code.toNat = x0 := ⟨_, rfl⟩
  have hx : (x.code : Int) = (x0.toNat : Int) := by rw [← hx0, byte_of _ (by omega)]; omega
  refine d_ins (args := [.agg #[.int .i64 x.code, .int .u64 x.val, .int .i64 x.hi, .int .u64 x.lo, .int .i64 x.sc]]) 36 Try.func18 rfl rfl rfl ?_; intro w rs
  refine d_reg ?_
  refine h_q hflS rfl ?_
  refine h_act (post := fun g1 => [cell g1 37 #[.int .i64 x.code, .int .u64 x.val, .int .i64 x.hi, .int .u64 x.lo, .int .i64 x.sc]]) rfl (a_box (cs := #[.int .i64 x.code, .int .u64 x.val, .int .i64 x.hi, .int .u64 x.lo, .int .i64 x.sc]) rfl rfl rfl) ?_; rintro g1
  refine h_q hflS rfl ?_
  refine h_done (d_seq (d_reg ?_))
  refine h_q hflS rfl ?_
  refine h_val rfl (.int .i64 x.code) (fun b w hb hH => exec_load rfl rfl (reads_one ty_api_Errno rfl) (hH.row 0 rfl) hb) ?_
  refine h_val rfl (.bool false) (fun b w hb hH => exec_cmp rfl rfl rfl (cmp_lss_f (by omega)) hb) ?_
  refine h_q hflS rfl ?_
  refine h_val rfl (.int .i64 x.code) (fun b w hb hH => exec_load rfl rfl (reads_one ty_api_Errno rfl) (hH.row 0 rfl) hb) ?_
  refine h_val rfl (.bool false) (fun b w hb hH => exec_cmp rfl rfl rfl (cmp_gtr_f (by omega)) hb) ?_
  refine h_q hflS rfl ?_
  refine h_val rfl (.int .i64 x.sc) (fun b w hb hH => exec_load rfl rfl (reads_one ty_int rfl) (hH.row 0 rfl) hb) ?_
  refine h_val rfl (.bool false) (fun b w hb hH => exec_cmp rfl rfl rfl (cmp_lss_f (by omega)) hb) ?_
  refine h_q hflS rfl ?_
  refine h_val rfl (.int .i64 x.sc) (fun b w hb hH => exec_load rfl rfl (reads_one ty_int rfl) (hH.row 0 rfl) hb) ?_
  refine h_val rfl (.bool false) (fun b w hb hH => exec_cmp rfl rfl rfl (cmp_gtr_f (by omega)) hb) ?_
  refine h_q hflS rfl ?_
  refine h_done (d_else rfl (d_skip (f_to (d_seq ?_))))
  refine d_emps 3 rfl ?_
  refine d_parS 12 5 [⟨.quiet, [none, none, none, none, none], fun _ => .pointer (some ⟨g1, 0, none⟩), []⟩, ⟨.quiet, [none, none, none, none, none], fun _ => .int .i64 x.code, [0]⟩, ⟨.quiet, [none, none, none, none, none], fun _ => .int .u8 (x0.toNat : Int), [1]⟩, ⟨.act 0, [some false, none, some false, some false, some false], fun _ => undef, [2]⟩, ⟨.quiet, [none, none, none, none, none], fun _ => .pointer (some ⟨g1, 1, none⟩), []⟩, ⟨.quiet, [none, none, none, none, none], fun _ => .int .u64 x.val, [4]⟩, ⟨.act 1, [none, some false, some false, some false, some false], fun _ => undef, [5]⟩, ⟨.act 2, [some true, some true, some false, some false, some false], fun _ => undef, [3, 6]⟩, ⟨.quiet, [none, none, none, none, none], fun _ => .pointer (some ⟨g1, 2, none⟩), []⟩, ⟨.quiet, [none, none, none, none, none], fun _ => .agg #[.int .i64 x.hi, .int .u64 x.lo, .int .i64 x.sc], [8]⟩, ⟨.act 3, [some true, some true, some true, some false, some false], fun _ => undef, [9]⟩, ⟨.act 4, [some true, some true, some true, some true, some false], fun _ => undef, [7, 10]⟩] [(1, .pointer (some ⟨g1, 0, none⟩)), (2, .slice none 0 0), (3, .int .i64 0)] (fun ρ => match ρ with | [r0, r1, r2, r3, r4] => [selS r3 (fun vb => Vec 5 1 encB vb (layD x.hi x.lo x.sc)) (emp), selS r1 (fun va => Vec 5 1 encB va (layU x.val)) (emp), selS r4 (fun u4 => Vec 5 1 encB u4 (layR x)) (selS r2 (fun u3 => Vec 5 1 encB u3 ([x0] ++ layU x.val)) (selS r0 (fun u2 => Vec 5 1 encB u2 ([x0])) (emp))), cell g1 37 #[.int .i64 x.code, .int .u64 x.val, .int .i64 x.hi, .int .u64 x.lo, .int .i64 x.sc]] | _ => []) (by kernel_rfl) (by kernel_rfl) ⟨rfl, rfl, rfl, trivial⟩ rfl ?_ ?_
  · skip
    refine s_cons (by intro r0_ r1_ r2_ r3_ r4_; exact ⟨rfl, fun b w hH hb => exec_q1 hflS rfl hb⟩) ?_
    refine s_cons (by intro r0_ r1_ r2_ r3_ r4_; exact ⟨rfl, fun b w hH hb => exec_load rfl rfl (reads_one ty_api_Errno rfl) (hH.row 3 rfl) hb⟩) ?_
    refine s_cons (by intro r0_ r1_ r2_ r3_ r4_; exact ⟨rfl, fun b w hH hb => exec_conv Try.underlying23 Try.underlying5 (by rw [IntWalk.u8_in _ (by omega)]; exact hx) rfl rfl hb⟩) ?_
    refine s_cons (by intro r1_; exact ⟨rfl, Acts.s (Acts.place (val := fun u2 : Value => u2) (t := fun u2 => Vec 5 1 encB u2 ([x0])) (os' := fun u2 => [emp, selS r1_ (fun va => Vec 5 1 encB va (layU x.val)) (emp), Vec 5 1 encB u2 ([x0]), cell g1 37 #[.int .i64 x.code, .int .u64 x.val, .int .i64 x.hi, .int .u64 x.lo, .int .i64 x.sc]]) 2 rfl (by refine a_build1 (e := 5) (t := 22) (enc := encB) (x := .tmp 26) (c := .int .u8 ((x0).toNat : Int)) ?_ ?_ x0 ?_ ?_ ?_; exact sl_uint8; exact okB; exact rfl; exact rfl; exact rfl) (fun _ => rfl)) (fun _ => rfl)⟩) ?_
    refine s_cons (by intro r0_ r1_ r2_ r3_ r4_; exact ⟨rfl, fun b w hH hb => exec_q1 hflS rfl hb⟩) ?_
    refine s_cons (by intro r0_ r1_ r2_ r3_ r4_; exact ⟨rfl, fun b w hH hb => exec_load rfl rfl (reads_one ty_uint64 rfl) (hH.row 3 rfl) hb⟩) ?_
    refine s_cons (by intro r0_; exact ⟨rfl, Acts.s (a_does (os' := fun va => [emp, Vec 5 1 encB va (layU x.val), selS r0_ (fun u2 => Vec 5 1 encB u2 ([x0])) (emp), cell g1 37 #[.int .i64 x.code, .int .u64 x.val, .int .i64 x.hi, .int .u64 x.lo, .int .i64 x.sc]]) [1] 1 (ent_of Try.func45 (by kernel_rfl) rfl) (r1_num x.val ho.val) rfl rfl rfl (fun _ => rfl) rfl rfl rfl) (fun _ => rfl)⟩) ?_
    refine s_cons (by intro u2 va; exact ⟨rfl, Acts.s (a_append 2 sl_uint8 okB rfl (layU x.val) (fun w hH => hH.vec 1 rfl okB) (by simp; omega) rfl rfl rfl rfl) (fun _ => rfl)⟩) ?_
    refine s_cons (by intro r0_ r1_ r2_ r3_ r4_; exact ⟨rfl, fun b w hH hb => exec_q1 hflS rfl hb⟩) ?_
    refine s_cons (by intro r0_ r1_ r2_ r3_ r4_; exact ⟨rfl, fun b w hH hb => exec_load rfl rfl (reads_agg (cs := [.int .i64 x.code, .int .u64 x.val, .int .i64 x.hi, .int .u64 x.lo, .int .i64 x.sc]) ty_api_Dec rfl) (hH.row 3 rfl) hb⟩) ?_
    refine s_cons (by intro u2 va u3; exact ⟨rfl, Acts.s (a_does (os' := fun vb => [Vec 5 1 encB vb (layD x.hi x.lo x.sc), Vec 5 1 encB va (layU x.val), Vec 5 1 encB u3 ([x0] ++ layU x.val), cell g1 37 #[.int .i64 x.code, .int .u64 x.val, .int .i64 x.hi, .int .u64 x.lo, .int .i64 x.sc]]) [0] 1 (ent_of Try.func46 (by kernel_rfl) rfl) (rAmount_does x.hi x.lo x.sc ho.hi ho.lo ⟨h3, h4⟩) rfl rfl rfl (fun _ => rfl) rfl rfl rfl) (fun _ => rfl)⟩) ?_
    refine s_cons (by intro u2 va u3 vb; exact ⟨rfl, Acts.s (a_append 2 sl_uint8 okB rfl (layD x.hi x.lo x.sc) (fun w hH => hH.vec 0 rfl okB) (by simp; omega) rfl rfl rfl (by rw [← hx0]; rfl)) (fun _ => rfl)⟩) ?_
    exact s_nil
  intro u2 va u3 vb u4
  refine WL2.keep (env' := [(2, .slice none 0 0), (3, .int .i64 0), (35, u4)]) ⟨rfl, rfl, rfl, trivial⟩ ?_
  refine h_q hflS rfl ?_
  refine h_nil (f_to (d_ret ?_))
  exact f_fin2 (.tmp rfl) (.tmp rfl) (fun w h => tells u4 rfl [2] rfl h same_parts) rfl

set_option maxRecDepth 100000 in
theorem rlayr_bad (w : World) (x : RepD) (ho : x.ok) (hr : x.right = false) : Calls Try.prog 18 #[.agg #[.int .i64 x.code, .int .u64 x.val, .int .i64 x.hi, .int .u64 x.lo, .int .i64 x.sc]] w fun e w' => e = .returned (.tuple #[.slice none 0 0, .int .i64 1]) ∧ Below w.heap.size w w' := by
  refine d_in (args := [.agg #[.int .i64 x.code, .int .u64 x.val, .int .i64 x.hi, .int .u64 x.lo, .int .i64 x.sc]]) 36 Try.func18 rfl rfl rfl ?_
  refine d_reg ?_
  refine h_q hflS rfl ?_
  refine h_act (post := fun g1 => [cell g1 37 #[.int .i64 x.code, .int .u64 x.val, .int .i64 x.hi, .int .u64 x.lo, .int .i64 x.sc]]) rfl (a_box (cs := #[.int .i64 x.code, .int .u64 x.val, .int .i64 x.hi, .int .u64 x.lo, .int .i64 x.sc]) rfl rfl rfl) ?_; rintro g1
  refine h_q hflS rfl ?_
  refine h_done (d_seq ?_)
  have hc : x.code < 0 ∨ 99 < x.code ∨ (0 ≤ x.code ∧ x.code ≤ 99 ∧ x.sc < 0) ∨ (0 ≤ x.code ∧ x.code ≤ 99 ∧ 0 ≤ x.sc ∧ 18 < x.sc) := by rcases notright hr with h1 | h1 | ⟨h1, h2, h3⟩; exact .inl h1; exact .inr (.inl h1); have := scB_not h3; omega
  rcases hc with h1 | h1 | ⟨h1, h2, h3⟩ | ⟨h1, h2, h3, h4⟩
  · skip
    refine d_reg ?_
    refine h_q hflS rfl ?_
    refine h_val rfl (.int .i64 x.code) (fun b w hb hH => exec_load rfl rfl (reads_one ty_api_Errno rfl) (hH.row 0 rfl) hb) ?_
    refine h_val rfl (.bool true) (fun b w hb hH => exec_cmp rfl rfl rfl (cmp_lss_t (by omega)) hb) ?_
    refine h_q hflS rfl ?_
    refine h_done (d_then rfl (d_reg ?_))
    refine h_q hflS rfl ?_
    refine h_done (d_ret (f_then_ret ?_))
    exact f_fin2 (.tmp rfl) (.tmp rfl) (fun w h => ⟨rfl, below0 h.up⟩) rfl
  · skip
    refine d_reg ?_
    refine h_q hflS rfl ?_
    refine h_val rfl (.int .i64 x.code) (fun b w hb hH => exec_load rfl rfl (reads_one ty_api_Errno rfl) (hH.row 0 rfl) hb) ?_
    refine h_val rfl (.bool false) (fun b w hb hH => exec_cmp rfl rfl rfl (cmp_lss_f (by omega)) hb) ?_
    refine h_q hflS rfl ?_
    refine h_val rfl (.int .i64 x.code) (fun b w hb hH => exec_load rfl rfl (reads_one ty_api_Errno rfl) (hH.row 0 rfl) hb) ?_
    refine h_val rfl (.bool true) (fun b w hb hH => exec_cmp rfl rfl rfl (cmp_gtr_t (by omega)) hb) ?_
    refine h_q hflS rfl ?_
    refine h_done (d_then rfl (d_reg ?_))
    refine h_q hflS rfl ?_
    refine h_done (d_ret (f_then_ret ?_))
    exact f_fin2 (.tmp rfl) (.tmp rfl) (fun w h => ⟨rfl, below0 h.up⟩) rfl
  · skip
    refine d_reg ?_
    refine h_q hflS rfl ?_
    refine h_val rfl (.int .i64 x.code) (fun b w hb hH => exec_load rfl rfl (reads_one ty_api_Errno rfl) (hH.row 0 rfl) hb) ?_
    refine h_val rfl (.bool false) (fun b w hb hH => exec_cmp rfl rfl rfl (cmp_lss_f (by omega)) hb) ?_
    refine h_q hflS rfl ?_
    refine h_val rfl (.int .i64 x.code) (fun b w hb hH => exec_load rfl rfl (reads_one ty_api_Errno rfl) (hH.row 0 rfl) hb) ?_
    refine h_val rfl (.bool false) (fun b w hb hH => exec_cmp rfl rfl rfl (cmp_gtr_f (by omega)) hb) ?_
    refine h_q hflS rfl ?_
    refine h_val rfl (.int .i64 x.sc) (fun b w hb hH => exec_load rfl rfl (reads_one ty_int rfl) (hH.row 0 rfl) hb) ?_
    refine h_val rfl (.bool true) (fun b w hb hH => exec_cmp rfl rfl rfl (cmp_lss_t (by omega)) hb) ?_
    refine h_q hflS rfl ?_
    refine h_done (d_then rfl (d_reg ?_))
    refine h_q hflS rfl ?_
    refine h_done (d_ret (f_then_ret ?_))
    exact f_fin2 (.tmp rfl) (.tmp rfl) (fun w h => ⟨rfl, below0 h.up⟩) rfl
  · skip
    refine d_reg ?_
    refine h_q hflS rfl ?_
    refine h_val rfl (.int .i64 x.code) (fun b w hb hH => exec_load rfl rfl (reads_one ty_api_Errno rfl) (hH.row 0 rfl) hb) ?_
    refine h_val rfl (.bool false) (fun b w hb hH => exec_cmp rfl rfl rfl (cmp_lss_f (by omega)) hb) ?_
    refine h_q hflS rfl ?_
    refine h_val rfl (.int .i64 x.code) (fun b w hb hH => exec_load rfl rfl (reads_one ty_api_Errno rfl) (hH.row 0 rfl) hb) ?_
    refine h_val rfl (.bool false) (fun b w hb hH => exec_cmp rfl rfl rfl (cmp_gtr_f (by omega)) hb) ?_
    refine h_q hflS rfl ?_
    refine h_val rfl (.int .i64 x.sc) (fun b w hb hH => exec_load rfl rfl (reads_one ty_int rfl) (hH.row 0 rfl) hb) ?_
    refine h_val rfl (.bool false) (fun b w hb hH => exec_cmp rfl rfl rfl (cmp_lss_f (by omega)) hb) ?_
    refine h_q hflS rfl ?_
    refine h_val rfl (.int .i64 x.sc) (fun b w hb hH => exec_load rfl rfl (reads_one ty_int rfl) (hH.row 0 rfl) hb) ?_
    refine h_val rfl (.bool true) (fun b w hb hH => exec_cmp rfl rfl rfl (cmp_gtr_t (by omega)) hb) ?_
    refine h_q hflS rfl ?_
    refine h_done (d_then rfl (d_reg ?_))
    refine h_q hflS rfl ?_
    refine h_done (d_ret (f_then_ret ?_))
    exact f_fin2 (.tmp rfl) (.tmp rfl) (fun w h => ⟨rfl, below0 h.up⟩) rfl

set_option maxRecDepth 100000 in
theorem readReply_any (w : World) (v : Value) (l : List UInt8) (hv : Sl8 w v l) (hl : l.length ≤ 140737488355328) (x : RepD) (en : Nat) (hD : RepRead l x en) : Calls Try.prog 11 #[v] w fun e w' => e = .returned (.tuple #[.agg #[.int .i64 x.code, .int .u64 x.val, .int .i64 x.hi, .int .u64 x.lo, .int .i64 x.sc], .int .i64 (en : Int)]) ∧ Below w.heap.size w w' := by
  obtain ⟨n0, l0, f0, n1, l1, f1, hi, lo, sc, l', f', e0, e1, e2, hq⟩ := hD
  have hn0 := rbyte_lt 99 l 0
  rw [e0] at hn0
  have hn0 : n0 < 256 := hn0
  refine d_in (args := [v]) 26 Try.func11 rfl rfl rfl ?_
  refine d_reg ?_
  refine h_q hflS rfl ?_
  refine h_act (post := fun g1 => [cell g1 37 #[.int .i64 0, .int .u64 0, .int .i64 0, .int .u64 0, .int .i64 0]]) rfl (a_alloc ze_api_Reply rfl) ?_; rintro g1
  refine h_q hflS rfl ?_
  refine h_done (d_reg ?_)
  refine h_q hflS rfl ?_
  refine h_act (post := fun g => [RdT g l 0, cell g1 37 #[.int .i64 0, .int .u64 0, .int .i64 0, .int .u64 0, .int .i64 0]]) rfl (a_doesU (Below.refl _ _) (fun _ h => h.elim) (os' := fun g => [RdT g l 0, cell g1 37 #[.int .i64 0, .int .u64 0, .int .i64 0, .int .u64 0, .int .i64 0]]) [] 0 (ent_of Try.func28 (by kernel_rfl) rfl) (rd_new w v l hv hl) rfl rfl rfl (fun _ => rfl) rfl rfl rfl) ?_; rintro g
  refine h_q hflS rfl ?_
  refine h_done (d_reg ?_)
  refine h_q hflS rfl ?_
  refine h_act (post := fun g2 => [cell g2 37 #[.int .i64 0, .int .u64 0, .int .i64 0, .int .u64 0, .int .i64 0], RdT g l 0, cell g1 37 #[.int .i64 0, .int .u64 0, .int .i64 0, .int .u64 0, .int .i64 0]]) rfl (a_alloc ze_api_Reply rfl) ?_; rintro g2
  refine h_done (d_reg ?_)
  refine h_q hflS rfl ?_
  refine h_act (post := fun _ => [cell g2 37 #[.int .i64 0, .int .u64 0, .int .i64 0, .int .u64 0, .int .i64 0], RdT g l0 f0, cell g1 37 #[.int .i64 0, .int .u64 0, .int .i64 0, .int .u64 0, .int .i64 0]]) rfl (a_does (os' := fun _ => [cell g2 37 #[.int .i64 0, .int .u64 0, .int .i64 0, .int .u64 0, .int .i64 0], RdT g l0 f0, cell g1 37 #[.int .i64 0, .int .u64 0, .int .i64 0, .int .u64 0, .int .i64 0]]) [1] 0 (ent_of Try.func32 (by kernel_rfl) rfl) (rd_byte g l 0 99 (by decide) (n0, l0, f0) e0) rfl rfl rfl (fun _ => rfl) rfl rfl rfl) ?_; rintro ⟨⟩
  refine h_val rfl (.int .i64 (n0 : Int)) (fun b w hb hH => exec_conv Try.underlying5 Try.underlying23 (IntWalk.i64_in _ (by omega)) rfl rfl hb) ?_
  refine h_q hflS rfl ?_
  refine h_acts (post := fun _ => [cell g2 37 #[.int .i64 (n0 : Int), .int .u64 0, .int .i64 0, .int .u64 0, .int .i64 0], RdT g l0 f0, cell g1 37 #[.int .i64 0, .int .u64 0, .int .i64 0, .int .u64 0, .int .i64 0]]) rfl rfl (a_store 0 (v := .int .i64 (n0 : Int)) #[.int .i64 (n0 : Int), .int .u64 0, .int .i64 0, .int .u64 0, .int .i64 0] ty_api_Errno.2 rfl rfl rfl rfl rfl rfl rfl rfl rfl) ?_; rintro ⟨⟩
  refine h_done (d_reg ?_)
  refine h_q hflS rfl ?_
  refine h_act (post := fun _ => [cell g2 37 #[.int .i64 (n0 : Int), .int .u64 0, .int .i64 0, .int .u64 0, .int .i64 0], RdT g l1 f1, cell g1 37 #[.int .i64 0, .int .u64 0, .int .i64 0, .int .u64 0, .int .i64 0]]) rfl (a_does (os' := fun _ => [cell g2 37 #[.int .i64 (n0 : Int), .int .u64 0, .int .i64 0, .int .u64 0, .int .i64 0], RdT g l1 f1, cell g1 37 #[.int .i64 0, .int .u64 0, .int .i64 0, .int .u64 0, .int .i64 0]]) [1] 0 (ent_of Try.func33 (by kernel_rfl) rfl) (rd_num g l0 f0 18446744073709551615 (by decide) (n1, l1, f1) e1) rfl rfl rfl (fun _ => rfl) rfl rfl rfl) ?_; rintro ⟨⟩
  refine h_q hflS rfl ?_
  refine h_acts (post := fun _ => [cell g2 37 #[.int .i64 (n0 : Int), .int .u64 (n1 : Int), .int .i64 0, .int .u64 0, .int .i64 0], RdT g l1 f1, cell g1 37 #[.int .i64 0, .int .u64 0, .int .i64 0, .int .u64 0, .int .i64 0]]) rfl rfl (a_store 0 (v := .int .u64 (n1 : Int)) #[.int .i64 (n0 : Int), .int .u64 (n1 : Int), .int .i64 0, .int .u64 0, .int .i64 0] ty_uint64.2 rfl rfl rfl rfl rfl rfl rfl rfl rfl) ?_; rintro ⟨⟩
  refine h_done (d_reg ?_)
  refine h_q hflS rfl ?_
  refine h_act (post := fun _ => [cell g2 37 #[.int .i64 (n0 : Int), .int .u64 (n1 : Int), .int .i64 0, .int .u64 0, .int .i64 0], RdT g l' f', cell g1 37 #[.int .i64 0, .int .u64 0, .int .i64 0, .int .u64 0, .int .i64 0]]) rfl (a_does (os' := fun _ => [cell g2 37 #[.int .i64 (n0 : Int), .int .u64 (n1 : Int), .int .i64 0, .int .u64 0, .int .i64 0], RdT g l' f', cell g1 37 #[.int .i64 0, .int .u64 0, .int .i64 0, .int .u64 0, .int .i64 0]]) [1] 0 (ent_of Try.func34 (by kernel_rfl) rfl) (readAmount_does g l1 f1 ((hi, lo, sc), l', f') e2) rfl rfl rfl (fun _ => rfl) rfl rfl rfl) ?_; rintro ⟨⟩
  refine h_q hflS rfl ?_
  refine h_acts (post := fun _ => [cell g2 37 #[.int .i64 (n0 : Int), .int .u64 (n1 : Int), .int .i64 hi, .int .u64 (lo : Int), .int .i64 (sc : Int)], RdT g l' f', cell g1 37 #[.int .i64 0, .int .u64 0, .int .i64 0, .int .u64 0, .int .i64 0]]) rfl rfl (a_store 0 (v := .agg #[.int .i64 hi, .int .u64 (lo : Int), .int .i64 (sc : Int)]) #[.int .i64 (n0 : Int), .int .u64 (n1 : Int), .int .i64 hi, .int .u64 (lo : Int), .int .i64 (sc : Int)] ty_api_Dec.2 rfl rfl rfl rfl rfl rfl rfl rfl rfl) ?_; rintro ⟨⟩
  refine h_done (d_seq ?_)
  rcases hq with ⟨q2, rfl, rfl⟩ | ⟨q2, rfl, rfl⟩
  · skip
    refine d_reg ?_
    refine h_q hflS rfl ?_
    refine h_act (post := fun _ => [cell g2 37 #[.int .i64 (n0 : Int), .int .u64 (n1 : Int), .int .i64 hi, .int .u64 (lo : Int), .int .i64 (sc : Int)], RdT g l' f', cell g1 37 #[.int .i64 0, .int .u64 0, .int .i64 0, .int .u64 0, .int .i64 0]]) rfl (a_does (os' := fun _ => [cell g2 37 #[.int .i64 (n0 : Int), .int .u64 (n1 : Int), .int .i64 hi, .int .u64 (lo : Int), .int .i64 (sc : Int)], RdT g l' f', cell g1 37 #[.int .i64 0, .int .u64 0, .int .i64 0, .int .u64 0, .int .i64 0]]) [1] 0 (ent_of Try.func30 (by kernel_rfl) rfl) (rd_end g l' f' (rend l' f') rfl) rfl rfl rfl (fun _ => rfl) rfl rfl rfl) ?_; rintro ⟨⟩
    refine h_q hflS rfl ?_
    refine h_done (d_reg ?_)
    refine h_q hflS rfl ?_
    refine h_val rfl (.bool true) (fun b w hb hH => exec_cmp rfl rfl rfl (cmp_neq_t (by omega)) hb) ?_
    refine h_done (d_then rfl (d_reg ?_))
    refine h_q hflS rfl ?_
    refine h_val rfl (.agg #[.int .i64 0, .int .u64 0, .int .i64 0, .int .u64 0, .int .i64 0]) (fun b w hb hH => exec_build rfl rfl (by kernel_rfl) hb) ?_
    refine h_q hflS rfl ?_
    refine h_acts (post := fun _ => [cell g2 37 #[.int .i64 (n0 : Int), .int .u64 (n1 : Int), .int .i64 hi, .int .u64 (lo : Int), .int .i64 (sc : Int)], RdT g l' f', cell g1 37 #[.int .i64 0, .int .u64 0, .int .i64 0, .int .u64 0, .int .i64 0]]) rfl rfl (a_store 2 (v := .agg #[.int .i64 0, .int .u64 0, .int .i64 0, .int .u64 0, .int .i64 0]) #[.int .i64 0, .int .u64 0, .int .i64 0, .int .u64 0, .int .i64 0] ty_api_Reply.2 rfl rfl rfl rfl rfl rfl rfl rfl rfl) ?_; rintro ⟨⟩
    refine h_q hflS rfl ?_
    refine h_done (d_ret (f_then_ret ?_))
    exact f_fin2 (.cell 2 (v := .agg #[.int .i64 0, .int .u64 0, .int .i64 0, .int .u64 0, .int .i64 0]) (reads_agg (cs := [.int .i64 0, .int .u64 0, .int .i64 0, .int .u64 0, .int .i64 0]) ty_api_Reply rfl) rfl rfl) (.tmp rfl) (fun w h => ⟨rfl, below0 h.up⟩) rfl
  · skip
    refine d_reg ?_
    refine h_q hflS rfl ?_
    refine h_act (post := fun _ => [cell g2 37 #[.int .i64 (n0 : Int), .int .u64 (n1 : Int), .int .i64 hi, .int .u64 (lo : Int), .int .i64 (sc : Int)], RdT g l' f', cell g1 37 #[.int .i64 0, .int .u64 0, .int .i64 0, .int .u64 0, .int .i64 0]]) rfl (a_does (os' := fun _ => [cell g2 37 #[.int .i64 (n0 : Int), .int .u64 (n1 : Int), .int .i64 hi, .int .u64 (lo : Int), .int .i64 (sc : Int)], RdT g l' f', cell g1 37 #[.int .i64 0, .int .u64 0, .int .i64 0, .int .u64 0, .int .i64 0]]) [1] 0 (ent_of Try.func30 (by kernel_rfl) rfl) (rd_end g l' f' 0 q2) rfl rfl rfl (fun _ => rfl) rfl rfl rfl) ?_; rintro ⟨⟩
    refine h_q hflS rfl ?_
    refine h_done (d_reg ?_)
    refine h_q hflS rfl ?_
    refine h_val rfl (.bool false) (fun b w hb hH => exec_cmp rfl rfl rfl (cmp_neq_f (by decide)) hb) ?_
    refine h_done (d_else rfl (d_skip (f_to (d_reg ?_))))
    refine h_q hflS rfl ?_
    refine h_val rfl (.agg #[.int .i64 (n0 : Int), .int .u64 (n1 : Int), .int .i64 hi, .int .u64 (lo : Int), .int .i64 (sc : Int)]) (fun b w hb hH => exec_load rfl rfl (reads_agg (cs := [.int .i64 (n0 : Int), .int .u64 (n1 : Int), .int .i64 hi, .int .u64 (lo : Int), .int .i64 (sc : Int)]) ty_api_Reply rfl) (hH.row 0 rfl) hb) ?_
    refine h_acts (post := fun _ => [cell g2 37 #[.int .i64 (n0 : Int), .int .u64 (n1 : Int), .int .i64 hi, .int .u64 (lo : Int), .int .i64 (sc : Int)], RdT g l' f', cell g1 37 #[.int .i64 (n0 : Int), .int .u64 (n1 : Int), .int .i64 hi, .int .u64 (lo : Int), .int .i64 (sc : Int)]]) rfl rfl (a_store 2 (v := .agg #[.int .i64 (n0 : Int), .int .u64 (n1 : Int), .int .i64 hi, .int .u64 (lo : Int), .int .i64 (sc : Int)]) #[.int .i64 (n0 : Int), .int .u64 (n1 : Int), .int .i64 hi, .int .u64 (lo : Int), .int .i64 (sc : Int)] ty_api_Reply.2 rfl rfl rfl rfl rfl rfl rfl rfl rfl) ?_; rintro ⟨⟩
    refine h_q hflS rfl ?_
    refine h_done (d_ret ?_)
    exact f_fin2 (.cell 2 (v := .agg #[.int .i64 (n0 : Int), .int .u64 (n1 : Int), .int .i64 hi, .int .u64 (lo : Int), .int .i64 (sc : Int)]) (reads_agg (cs := [.int .i64 (n0 : Int), .int .u64 (n1 : Int), .int .i64 hi, .int .u64 (lo : Int), .int .i64 (sc : Int)]) ty_api_Reply rfl) rfl rfl) (.tmp rfl) (fun w h => ⟨rfl, below0 h.up⟩) rfl

set_option maxRecDepth 100000 in
theorem rreadReply_sl (w : World) (A : Option Addr) (cp : Nat) (l : List UInt8) (hv : Sl8 w (.slice A l.length cp) l) (hl : l.length ≤ 140737488355328) (x : RepD) (en : Nat) (hD : RepRead l x en) : Calls Try.prog 19 #[.slice A l.length cp] w fun e w' => e = .returned (.tuple #[.agg #[.int .i64 x.code, .int .u64 x.val, .int .i64 x.hi, .int .u64 x.lo, .int .i64 x.sc], .int .i64 (en : Int)]) ∧ Below w.heap.size w w' := by
  obtain ⟨n0, l0, f0, n1, l1, f1, hi, lo, sc, l', f', e0, e1, e2, hq⟩ := hD
  have hn0 := rbyte_lt 99 l 0
  rw [e0] at hn0
  have hn0 : n0 < 256 := hn0
  refine d_in (args := [.slice A l.length cp]) 27 Try.func19 rfl rfl rfl ?_
  refine d_reg ?_
  refine h_q hflS rfl ?_
  refine h_act (post := fun g1 => [cell g1 37 #[.int .i64 0, .int .u64 0, .int .i64 0, .int .u64 0, .int .i64 0]]) rfl (a_alloc ze_api_Reply rfl) ?_; rintro g1
  refine h_q hflS rfl ?_
  refine h_done (d_reg ?_)
  refine h_q hflS rfl ?_
  refine h_val rfl (.agg #[.slice A l.length cp, .int .i64 0, .int .i64 0]) (fun b w hb hH => exec_build rfl rfl (by kernel_rfl) hb) ?_
  refine h_act (post := fun gr => [cell gr 67 #[.slice A l.length cp, .int .i64 0, .int .i64 0], cell g1 37 #[.int .i64 0, .int .u64 0, .int .i64 0, .int .u64 0, .int .i64 0]]) rfl (a_box (cs := #[.slice A l.length cp, .int .i64 0, .int .i64 0]) rfl rfl rfl) ?_; rintro gr
  refine h_q hflS rfl ?_
  refine h_done ?_
  refine d_close [0] rfl (rr_mk (B := .slice A l.length cp) (b := l) (g := gr)) rfl ?_
  refine d_reg ?_
  refine h_q hflS rfl ?_
  refine h_act (post := fun g2 => [cell g2 37 #[.int .i64 0, .int .u64 0, .int .i64 0, .int .u64 0, .int .i64 0], RrT (.slice A l.length cp) l gr l 0, cell g1 37 #[.int .i64 0, .int .u64 0, .int .i64 0, .int .u64 0, .int .i64 0]]) rfl (a_alloc ze_api_Reply rfl) ?_; rintro g2
  refine h_done (d_reg ?_)
  refine h_q hflS rfl ?_
  refine h_act (post := fun _ => [cell g2 37 #[.int .i64 0, .int .u64 0, .int .i64 0, .int .u64 0, .int .i64 0], RrT (.slice A l.length cp) l gr l0 f0, cell g1 37 #[.int .i64 0, .int .u64 0, .int .i64 0, .int .u64 0, .int .i64 0]]) rfl (a_doesU (Below.refl _ _) (fun _ h => h.elim) (os' := fun _ => [cell g2 37 #[.int .i64 0, .int .u64 0, .int .i64 0, .int .u64 0, .int .i64 0], RrT (.slice A l.length cp) l gr l0 f0, cell g1 37 #[.int .i64 0, .int .u64 0, .int .i64 0, .int .u64 0, .int .i64 0]]) [1] 0 (ent_of Try.func35 (by kernel_rfl) rfl) (rr_byte hv hl 99 (by decide) (n0, l0, f0) e0) rfl rfl rfl (fun _ => rfl) rfl rfl rfl) ?_; rintro ⟨⟩
  refine h_val rfl (.int .i64 (n0 : Int)) (fun b w hb hH => exec_conv Try.underlying5 Try.underlying23 (IntWalk.i64_in _ (by omega)) rfl rfl hb) ?_
  refine h_q hflS rfl ?_
  refine h_acts (post := fun _ => [cell g2 37 #[.int .i64 (n0 : Int), .int .u64 0, .int .i64 0, .int .u64 0, .int .i64 0], RrT (.slice A l.length cp) l gr l0 f0, cell g1 37 #[.int .i64 0, .int .u64 0, .int .i64 0, .int .u64 0, .int .i64 0]]) rfl rfl (a_store 0 (v := .int .i64 (n0 : Int)) #[.int .i64 (n0 : Int), .int .u64 0, .int .i64 0, .int .u64 0, .int .i64 0] ty_api_Errno.2 rfl rfl rfl rfl rfl rfl rfl rfl rfl) ?_; rintro ⟨⟩
  refine h_done (d_reg ?_)
  refine h_q hflS rfl ?_
  refine h_act (post := fun _ => [cell g2 37 #[.int .i64 (n0 : Int), .int .u64 0, .int .i64 0, .int .u64 0, .int .i64 0], RrT (.slice A l.length cp) l gr l1 f1, cell g1 37 #[.int .i64 0, .int .u64 0, .int .i64 0, .int .u64 0, .int .i64 0]]) rfl (a_doesU (Below.refl _ _) (fun _ h => h.elim) (os' := fun _ => [cell g2 37 #[.int .i64 (n0 : Int), .int .u64 0, .int .i64 0, .int .u64 0, .int .i64 0], RrT (.slice A l.length cp) l gr l1 f1, cell g1 37 #[.int .i64 0, .int .u64 0, .int .i64 0, .int .u64 0, .int .i64 0]]) [1] 0 (ent_of Try.func37 (by kernel_rfl) rfl) (rr_num hv hl 18446744073709551615 (by decide) (n1, l1, f1) e1) rfl rfl rfl (fun _ => rfl) rfl rfl rfl) ?_; rintro ⟨⟩
  refine h_q hflS rfl ?_
  refine h_acts (post := fun _ => [cell g2 37 #[.int .i64 (n0 : Int), .int .u64 (n1 : Int), .int .i64 0, .int .u64 0, .int .i64 0], RrT (.slice A l.length cp) l gr l1 f1, cell g1 37 #[.int .i64 0, .int .u64 0, .int .i64 0, .int .u64 0, .int .i64 0]]) rfl rfl (a_store 0 (v := .int .u64 (n1 : Int)) #[.int .i64 (n0 : Int), .int .u64 (n1 : Int), .int .i64 0, .int .u64 0, .int .i64 0] ty_uint64.2 rfl rfl rfl rfl rfl rfl rfl rfl rfl) ?_; rintro ⟨⟩
  refine h_done (d_reg ?_)
  refine h_q hflS rfl ?_
  refine h_act (post := fun _ => [cell g2 37 #[.int .i64 (n0 : Int), .int .u64 (n1 : Int), .int .i64 0, .int .u64 0, .int .i64 0], RrT (.slice A l.length cp) l gr l' f', cell g1 37 #[.int .i64 0, .int .u64 0, .int .i64 0, .int .u64 0, .int .i64 0]]) rfl (a_doesU (Below.refl _ _) (fun _ h => h.elim) (os' := fun _ => [cell g2 37 #[.int .i64 (n0 : Int), .int .u64 (n1 : Int), .int .i64 0, .int .u64 0, .int .i64 0], RrT (.slice A l.length cp) l gr l' f', cell g1 37 #[.int .i64 0, .int .u64 0, .int .i64 0, .int .u64 0, .int .i64 0]]) [1] 0 (ent_of Try.func39 (by kernel_rfl) rfl) (rReadAmount_does w _ l hv hl gr l1 f1 ((hi, lo, sc), l', f') e2) rfl rfl rfl (fun _ => rfl) rfl rfl rfl) ?_; rintro ⟨⟩
  refine h_q hflS rfl ?_
  refine h_acts (post := fun _ => [cell g2 37 #[.int .i64 (n0 : Int), .int .u64 (n1 : Int), .int .i64 hi, .int .u64 (lo : Int), .int .i64 (sc : Int)], RrT (.slice A l.length cp) l gr l' f', cell g1 37 #[.int .i64 0, .int .u64 0, .int .i64 0, .int .u64 0, .int .i64 0]]) rfl rfl (a_store 0 (v := .agg #[.int .i64 hi, .int .u64 (lo : Int), .int .i64 (sc : Int)]) #[.int .i64 (n0 : Int), .int .u64 (n1 : Int), .int .i64 hi, .int .u64 (lo : Int), .int .i64 (sc : Int)] ty_api_Dec.2 rfl rfl rfl rfl rfl rfl rfl rfl rfl) ?_; rintro ⟨⟩
  refine h_done (d_seq ?_)
  rcases hq with ⟨q2, rfl, rfl⟩ | ⟨q2, rfl, rfl⟩
  · skip
    refine d_reg ?_
    refine h_q hflS rfl ?_
    refine h_act (post := fun _ => [cell g2 37 #[.int .i64 (n0 : Int), .int .u64 (n1 : Int), .int .i64 hi, .int .u64 (lo : Int), .int .i64 (sc : Int)], RrT (.slice A l.length cp) l gr l' f', cell g1 37 #[.int .i64 0, .int .u64 0, .int .i64 0, .int .u64 0, .int .i64 0]]) rfl (a_doesU (Below.refl _ _) (fun _ h => h.elim) (os' := fun _ => [cell g2 37 #[.int .i64 (n0 : Int), .int .u64 (n1 : Int), .int .i64 hi, .int .u64 (lo : Int), .int .i64 (sc : Int)], RrT (.slice A l.length cp) l gr l' f', cell g1 37 #[.int .i64 0, .int .u64 0, .int .i64 0, .int .u64 0, .int .i64 0]]) [1] 0 (ent_of Try.func41 (by kernel_rfl) rfl) (rr_end hv hl (rend l' f') rfl) rfl rfl rfl (fun _ => rfl) rfl rfl rfl) ?_; rintro ⟨⟩
    refine h_q hflS rfl ?_
    refine h_done (d_reg ?_)
    refine h_q hflS rfl ?_
    refine h_val rfl (.bool true) (fun b w hb hH => exec_cmp rfl rfl rfl (cmp_neq_t (by omega)) hb) ?_
    refine h_done (d_then rfl (d_reg ?_))
    refine h_q hflS rfl ?_
    refine h_val rfl (.agg #[.int .i64 0, .int .u64 0, .int .i64 0, .int .u64 0, .int .i64 0]) (fun b w hb hH => exec_build rfl rfl (by kernel_rfl) hb) ?_
    refine h_q hflS rfl ?_
    refine h_acts (post := fun _ => [cell g2 37 #[.int .i64 (n0 : Int), .int .u64 (n1 : Int), .int .i64 hi, .int .u64 (lo : Int), .int .i64 (sc : Int)], RrT (.slice A l.length cp) l gr l' f', cell g1 37 #[.int .i64 0, .int .u64 0, .int .i64 0, .int .u64 0, .int .i64 0]]) rfl rfl (a_store 2 (v := .agg #[.int .i64 0, .int .u64 0, .int .i64 0, .int .u64 0, .int .i64 0]) #[.int .i64 0, .int .u64 0, .int .i64 0, .int .u64 0, .int .i64 0] ty_api_Reply.2 rfl rfl rfl rfl rfl rfl rfl rfl rfl) ?_; rintro ⟨⟩
    refine h_q hflS rfl ?_
    refine h_done (d_ret (f_then_ret ?_))
    exact f_fin2 (.cell 2 (v := .agg #[.int .i64 0, .int .u64 0, .int .i64 0, .int .u64 0, .int .i64 0]) (reads_agg (cs := [.int .i64 0, .int .u64 0, .int .i64 0, .int .u64 0, .int .i64 0]) ty_api_Reply rfl) rfl rfl) (.tmp rfl) (fun w h => ⟨rfl, below0 h.up⟩) rfl
  · skip
    refine d_reg ?_
    refine h_q hflS rfl ?_
    refine h_act (post := fun _ => [cell g2 37 #[.int .i64 (n0 : Int), .int .u64 (n1 : Int), .int .i64 hi, .int .u64 (lo : Int), .int .i64 (sc : Int)], RrT (.slice A l.length cp) l gr l' f', cell g1 37 #[.int .i64 0, .int .u64 0, .int .i64 0, .int .u64 0, .int .i64 0]]) rfl (a_doesU (Below.refl _ _) (fun _ h => h.elim) (os' := fun _ => [cell g2 37 #[.int .i64 (n0 : Int), .int .u64 (n1 : Int), .int .i64 hi, .int .u64 (lo : Int), .int .i64 (sc : Int)], RrT (.slice A l.length cp) l gr l' f', cell g1 37 #[.int .i64 0, .int .u64 0, .int .i64 0, .int .u64 0, .int .i64 0]]) [1] 0 (ent_of Try.func41 (by kernel_rfl) rfl) (rr_end hv hl 0 q2) rfl rfl rfl (fun _ => rfl) rfl rfl rfl) ?_; rintro ⟨⟩
    refine h_q hflS rfl ?_
    refine h_done (d_reg ?_)
    refine h_q hflS rfl ?_
    refine h_val rfl (.bool false) (fun b w hb hH => exec_cmp rfl rfl rfl (cmp_neq_f (by decide)) hb) ?_
    refine h_done (d_else rfl (d_skip (f_to (d_reg ?_))))
    refine h_q hflS rfl ?_
    refine h_val rfl (.agg #[.int .i64 (n0 : Int), .int .u64 (n1 : Int), .int .i64 hi, .int .u64 (lo : Int), .int .i64 (sc : Int)]) (fun b w hb hH => exec_load rfl rfl (reads_agg (cs := [.int .i64 (n0 : Int), .int .u64 (n1 : Int), .int .i64 hi, .int .u64 (lo : Int), .int .i64 (sc : Int)]) ty_api_Reply rfl) (hH.row 0 rfl) hb) ?_
    refine h_acts (post := fun _ => [cell g2 37 #[.int .i64 (n0 : Int), .int .u64 (n1 : Int), .int .i64 hi, .int .u64 (lo : Int), .int .i64 (sc : Int)], RrT (.slice A l.length cp) l gr l' f', cell g1 37 #[.int .i64 (n0 : Int), .int .u64 (n1 : Int), .int .i64 hi, .int .u64 (lo : Int), .int .i64 (sc : Int)]]) rfl rfl (a_store 2 (v := .agg #[.int .i64 (n0 : Int), .int .u64 (n1 : Int), .int .i64 hi, .int .u64 (lo : Int), .int .i64 (sc : Int)]) #[.int .i64 (n0 : Int), .int .u64 (n1 : Int), .int .i64 hi, .int .u64 (lo : Int), .int .i64 (sc : Int)] ty_api_Reply.2 rfl rfl rfl rfl rfl rfl rfl rfl rfl) ?_; rintro ⟨⟩
    refine h_q hflS rfl ?_
    refine h_done (d_ret ?_)
    exact f_fin2 (.cell 2 (v := .agg #[.int .i64 (n0 : Int), .int .u64 (n1 : Int), .int .i64 hi, .int .u64 (lo : Int), .int .i64 (sc : Int)]) (reads_agg (cs := [.int .i64 (n0 : Int), .int .u64 (n1 : Int), .int .i64 hi, .int .u64 (lo : Int), .int .i64 (sc : Int)]) ty_api_Reply rfl) rfl rfl) (.tmp rfl) (fun w h => ⟨rfl, below0 h.up⟩) rfl

theorem rreadReply_any (w : World) (v : Value) (l : List UInt8) (hv : Sl8 w v l) (hl : l.length ≤ 140737488355328) (x : RepD) (en : Nat) (hD : RepRead l x en) : Calls Try.prog 19 #[v] w fun e w' => e = .returned (.tuple #[.agg #[.int .i64 x.code, .int .u64 x.val, .int .i64 x.hi, .int .u64 x.lo, .int .i64 x.sc], .int .i64 (en : Int)]) ∧ Below w.heap.size w w' := by
  obtain ⟨A, cp, e, hb⟩ := hv
  subst e
  exact rreadReply_sl w A cp l ⟨A, cp, rfl, hb⟩ hl x en hD
end Go.Proofs.Ytlkknncndgamdaa.Sep
