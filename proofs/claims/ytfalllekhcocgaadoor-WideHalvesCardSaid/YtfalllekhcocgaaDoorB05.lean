/-
  PlainW · WordW · ParseW · Strs
-/
import Derived.Test.YtfalllekhcocgaaDoorA02
import Derived.Test.YtfalllekhcocgaaDoorA09
import Derived.Test.YtfalllekhcocgaaDoorB03
import Derived.Test.YtfalllekhcocgaaDoorB04
import Derived.Shelf.Pu.ParseUintPublic10
import Derived.Shelf.Strings.Prefix
import Derived.Shelf.Strings.Repeat
set_option linter.unusedSimpArgs false
set_option linter.unusedVariables false

namespace Go.Proofs.YtfalllekhcocgaaDoor
open Go.RowKit

theorem head_all (l : List UInt8) : l = [] ∨ (l ≠ [] ∧ 1 < l.length ∧ ∃ b, l[0]? = some b ∧ b.toNat = 48) ∨ (l ≠ [] ∧ l.length ≤ 1 ∧ ∃ b, l[0]? = some b ∧ b.toNat = 48) ∨ (l ≠ [] ∧ ∃ b, l[0]? = some b ∧ b.toNat ≠ 48) := by
  cases l with
  | nil => exact .inl rfl
  | cons c r =>
    by_cases hc : c.toNat = 48
    · by_cases h : (c :: r).length ≤ 1
      · exact .inr (.inr (.inl ⟨by simp, h, c, rfl, hc⟩))
      · exact .inr (.inl ⟨by simp, by omega, c, rfl, hc⟩)
    · exact .inr (.inr (.inr ⟨by simp, c, rfl, hc⟩))

theorem plainW_any (w : World) (l : List UInt8) (hlen : l.length ≤ 9223372036854775807) : Calls Tryd.prog 46 #[.string (bs l)] w fun e w' => e = .returned (.bool (decide (plainN l))) ∧ Below w.heap.size w w' := by
  refine d_in (args := [.string (bs l)]) 32 Tryd.func46 rfl rfl rfl ?_
  refine d_reg ?_
  refine h_q hflW rfl ?_
  refine h_done (d_seq ?_)
  rcases head_all l with hl | ⟨hne, h1, b0, hb0, e0⟩ | ⟨hne, h1, b0, hb0, e0⟩ | ⟨hne, b0, hb0, e0⟩
  · skip
    have hno : ¬ plainN l := fun hp => hp.1 hl
    refine d_reg ?_
    refine h_q hflW rfl ?_
    refine h_same (beq_iff_eq.2 hl) rfl rfl rfl rfl ?_
    refine h_q hflW rfl ?_
    refine h_done (d_then rfl (d_reg ?_))
    refine h_q hflW rfl ?_
    refine h_done (d_ret (f_then_ret ?_))
    exact f_fin1 (.tmp rfl) (fun w h => ⟨by rw [decide_eq_false hno], h.up.below⟩) rfl
  · skip
    have hno : ¬ plainN l := fun hp => hp.2.2 h1 (head_48 hb0 e0)
    refine d_reg ?_
    refine h_q hflW rfl ?_
    refine h_same (beq_false_of_ne hne) rfl rfl rfl rfl ?_
    refine h_q hflW rfl ?_
    refine h_val rfl (.int .u8 (b0.toNat : Int)) (fun b w hb hH => by exact exec_index (i := 0) Tryd.underlying9 hb0 rfl rfl rfl hb) ?_
    refine h_cmp (cmp_eql_t (by omega)) rfl rfl rfl rfl ?_
    refine h_q hflW rfl ?_
    refine h_builtin (v := .int .i64 (l.length : Int)) (fun w cs => run_len_bs Tryd.underlying9 _ _ w cs) rfl rfl rfl ?_
    refine h_cmp (cmp_gtr_t (by omega)) rfl rfl rfl rfl ?_
    refine h_q hflW rfl ?_
    refine h_done (d_then rfl (d_reg ?_))
    refine h_q hflW rfl ?_
    refine h_done (d_ret (f_then_ret ?_))
    exact f_fin1 (.tmp rfl) (fun w h => ⟨by rw [decide_eq_false hno], h.up.below⟩) rfl
  · skip
    have hh : 1 < l.length → l.head? ≠ some 48 := fun h => absurd h (by omega)
    refine d_reg ?_
    refine h_q hflW rfl ?_
    refine h_same (beq_false_of_ne hne) rfl rfl rfl rfl ?_
    refine h_q hflW rfl ?_
    refine h_val rfl (.int .u8 (b0.toNat : Int)) (fun b w hb hH => by exact exec_index (i := 0) Tryd.underlying9 hb0 rfl rfl rfl hb) ?_
    refine h_cmp (cmp_eql_t (by omega)) rfl rfl rfl rfl ?_
    refine h_q hflW rfl ?_
    refine h_builtin (v := .int .i64 (l.length : Int)) (fun w cs => run_len_bs Tryd.underlying9 _ _ w cs) rfl rfl rfl ?_
    refine h_cmp (cmp_gtr_f (by omega)) rfl rfl rfl rfl ?_
    refine h_q hflW rfl ?_
    refine h_done (d_else rfl (d_skip (f_to (d_seq (d_reg ?_)))))
    refine h_q hflW rfl ?_
    refine h_builtin (v := .int .i64 (l.length : Int)) (fun w cs => run_len_bs Tryd.underlying9 _ _ w cs) rfl rfl rfl ?_
    refine h_q hflW rfl ?_
    refine h_done (d_block ?_)
    refine d_loop (α := Nat) (fun i => [(0, .string (bs l)), (2, .bool false), (17, .int .i64 (l.length : Int)), (18, .int .i64 (i : Int))]) (fun i => []) (fun i => i ≤ l.length ∧ allD (l.take i)) (fun i => l.length - i) 0 ⟨by omega, by simp [allD]⟩ ⟨rfl, rfl, rfl, rfl, trivial⟩ rfl ?_
    rintro i ⟨hi, ha⟩
    refine WC2.at_ (env' := [(0, .string (bs l)), (2, .bool false), (17, .int .i64 (l.length : Int)), (18, .int .i64 (i : Int))]) (rs' := []) ⟨rfl, rfl, rfl, rfl, trivial⟩ rfl ?_
    by_cases hil : i < l.length
    · skip
      obtain ⟨ch, hch⟩ : ∃ ch, l[i]? = some ch := ⟨_, List.getElem?_eq_getElem hil⟩
      refine d_reg ?_
      refine h_cmp (cmp_lss_t (by omega)) rfl rfl rfl rfl ?_
      refine h_done (d_seq (d_then rfl (d_skip (f_to (d_seq (d_block (d_reg ?_)))))))
      refine h_q hflW rfl ?_
      refine h_done ?_
      rcases dig_ways ch with hw | hw | hw
      · skip
        have hno : ¬ plainN l := fun hp => not_allD hch (by unfold isD; omega) hp.2.1
        refine d_reg ?_
        refine h_q hflW rfl ?_
        refine h_val rfl (.int .u8 (ch.toNat : Int)) (fun b w hb hH => by exact exec_index (i := i) Tryd.underlying9 hch rfl rfl rfl hb) ?_
        refine h_cmp (cmp_lss_t (by omega)) rfl rfl rfl rfl ?_
        refine h_q hflW rfl ?_
        refine h_done (d_then rfl (d_reg ?_))
        refine h_q hflW rfl ?_
        refine h_done (d_ret (f_block_ret (f_then_ret (f_then_ret (f_block_ret (f_then_ret ?_))))))
        exact f_fin1 (.tmp rfl) (fun w h => ⟨by rw [decide_eq_false hno], h.up.below⟩) rfl
      · skip
        have hno : ¬ plainN l := fun hp => not_allD hch (by unfold isD; omega) hp.2.1
        refine d_reg ?_
        refine h_q hflW rfl ?_
        refine h_val rfl (.int .u8 (ch.toNat : Int)) (fun b w hb hH => by exact exec_index (i := i) Tryd.underlying9 hch rfl rfl rfl hb) ?_
        refine h_cmp (cmp_lss_f (by omega)) rfl rfl rfl rfl ?_
        refine h_q hflW rfl ?_
        refine h_val rfl (.int .u8 (ch.toNat : Int)) (fun b w hb hH => by exact exec_index (i := i) Tryd.underlying9 hch rfl rfl rfl hb) ?_
        refine h_cmp (cmp_gtr_t (by omega)) rfl rfl rfl rfl ?_
        refine h_q hflW rfl ?_
        refine h_done (d_then rfl (d_reg ?_))
        refine h_q hflW rfl ?_
        refine h_done (d_ret (f_block_ret (f_then_ret (f_then_ret (f_block_ret (f_then_ret ?_))))))
        exact f_fin1 (.tmp rfl) (fun w h => ⟨by rw [decide_eq_false hno], h.up.below⟩) rfl
      · skip
        refine d_reg ?_
        refine h_q hflW rfl ?_
        refine h_val rfl (.int .u8 (ch.toNat : Int)) (fun b w hb hH => by exact exec_index (i := i) Tryd.underlying9 hch rfl rfl rfl hb) ?_
        refine h_cmp (cmp_lss_f (by unfold isD at hw; omega)) rfl rfl rfl rfl ?_
        refine h_q hflW rfl ?_
        refine h_val rfl (.int .u8 (ch.toNat : Int)) (fun b w hb hH => by exact exec_index (i := i) Tryd.underlying9 hch rfl rfl rfl hb) ?_
        refine h_cmp (cmp_gtr_f (by unfold isD at hw; omega)) rfl rfl rfl rfl ?_
        refine h_q hflW rfl ?_
        refine h_done (d_else rfl (d_skip (f_block (f_to (d_reg1 ?_)))))
        refine h_ar (z' := ((i + 1 : Nat) : Int)) (by rw [IntWalk.i64_in _ (by omega)]; omega) rfl rfl rfl rfl rfl ?_
        refine h_q hflW rfl ?_
        refine h_nil ?_
        exact f_again (i + 1) 0 ⟨by omega, allD_step hch ha hw⟩ (by omega) ⟨rfl, rfl, rfl, rfl, trivial⟩ rfl
    · skip
      have hp : plainN l := ⟨hne, take_all hil ▸ ha, hh⟩
      refine d_reg ?_
      refine h_cmp (cmp_lss_f (by omega)) rfl rfl rfl rfl ?_
      refine h_done (d_seq (d_else rfl (d_exit (f_then_exit (f_then_exit (f_block_exit (f_to (d_reg ?_))))))))
      refine h_q hflW rfl ?_
      refine h_done (d_ret ?_)
      exact f_fin1 (.tmp rfl) (fun w h => ⟨by rw [decide_eq_true hp], h.up.below⟩) rfl
  · skip
    have hh : 1 < l.length → l.head? ≠ some 48 := fun _ => head_no48 hb0 e0
    refine d_reg ?_
    refine h_q hflW rfl ?_
    refine h_same (beq_false_of_ne hne) rfl rfl rfl rfl ?_
    refine h_q hflW rfl ?_
    refine h_val rfl (.int .u8 (b0.toNat : Int)) (fun b w hb hH => by exact exec_index (i := 0) Tryd.underlying9 hb0 rfl rfl rfl hb) ?_
    refine h_cmp (cmp_eql_f (by omega)) rfl rfl rfl rfl ?_
    refine h_q hflW rfl ?_
    refine h_done (d_else rfl (d_skip (f_to (d_seq (d_reg ?_)))))
    refine h_q hflW rfl ?_
    refine h_builtin (v := .int .i64 (l.length : Int)) (fun w cs => run_len_bs Tryd.underlying9 _ _ w cs) rfl rfl rfl ?_
    refine h_q hflW rfl ?_
    refine h_done (d_block ?_)
    refine d_loop (α := Nat) (fun i => [(0, .string (bs l)), (2, .bool false), (17, .int .i64 (l.length : Int)), (18, .int .i64 (i : Int))]) (fun i => []) (fun i => i ≤ l.length ∧ allD (l.take i)) (fun i => l.length - i) 0 ⟨by omega, by simp [allD]⟩ ⟨rfl, rfl, rfl, rfl, trivial⟩ rfl ?_
    rintro i ⟨hi, ha⟩
    refine WC2.at_ (env' := [(0, .string (bs l)), (2, .bool false), (17, .int .i64 (l.length : Int)), (18, .int .i64 (i : Int))]) (rs' := []) ⟨rfl, rfl, rfl, rfl, trivial⟩ rfl ?_
    by_cases hil : i < l.length
    · skip
      obtain ⟨ch, hch⟩ : ∃ ch, l[i]? = some ch := ⟨_, List.getElem?_eq_getElem hil⟩
      refine d_reg ?_
      refine h_cmp (cmp_lss_t (by omega)) rfl rfl rfl rfl ?_
      refine h_done (d_seq (d_then rfl (d_skip (f_to (d_seq (d_block (d_reg ?_)))))))
      refine h_q hflW rfl ?_
      refine h_done ?_
      rcases dig_ways ch with hw | hw | hw
      · skip
        have hno : ¬ plainN l := fun hp => not_allD hch (by unfold isD; omega) hp.2.1
        refine d_reg ?_
        refine h_q hflW rfl ?_
        refine h_val rfl (.int .u8 (ch.toNat : Int)) (fun b w hb hH => by exact exec_index (i := i) Tryd.underlying9 hch rfl rfl rfl hb) ?_
        refine h_cmp (cmp_lss_t (by omega)) rfl rfl rfl rfl ?_
        refine h_q hflW rfl ?_
        refine h_done (d_then rfl (d_reg ?_))
        refine h_q hflW rfl ?_
        refine h_done (d_ret (f_block_ret (f_then_ret (f_then_ret (f_block_ret (f_then_ret ?_))))))
        exact f_fin1 (.tmp rfl) (fun w h => ⟨by rw [decide_eq_false hno], h.up.below⟩) rfl
      · skip
        have hno : ¬ plainN l := fun hp => not_allD hch (by unfold isD; omega) hp.2.1
        refine d_reg ?_
        refine h_q hflW rfl ?_
        refine h_val rfl (.int .u8 (ch.toNat : Int)) (fun b w hb hH => by exact exec_index (i := i) Tryd.underlying9 hch rfl rfl rfl hb) ?_
        refine h_cmp (cmp_lss_f (by omega)) rfl rfl rfl rfl ?_
        refine h_q hflW rfl ?_
        refine h_val rfl (.int .u8 (ch.toNat : Int)) (fun b w hb hH => by exact exec_index (i := i) Tryd.underlying9 hch rfl rfl rfl hb) ?_
        refine h_cmp (cmp_gtr_t (by omega)) rfl rfl rfl rfl ?_
        refine h_q hflW rfl ?_
        refine h_done (d_then rfl (d_reg ?_))
        refine h_q hflW rfl ?_
        refine h_done (d_ret (f_block_ret (f_then_ret (f_then_ret (f_block_ret (f_then_ret ?_))))))
        exact f_fin1 (.tmp rfl) (fun w h => ⟨by rw [decide_eq_false hno], h.up.below⟩) rfl
      · skip
        refine d_reg ?_
        refine h_q hflW rfl ?_
        refine h_val rfl (.int .u8 (ch.toNat : Int)) (fun b w hb hH => by exact exec_index (i := i) Tryd.underlying9 hch rfl rfl rfl hb) ?_
        refine h_cmp (cmp_lss_f (by unfold isD at hw; omega)) rfl rfl rfl rfl ?_
        refine h_q hflW rfl ?_
        refine h_val rfl (.int .u8 (ch.toNat : Int)) (fun b w hb hH => by exact exec_index (i := i) Tryd.underlying9 hch rfl rfl rfl hb) ?_
        refine h_cmp (cmp_gtr_f (by unfold isD at hw; omega)) rfl rfl rfl rfl ?_
        refine h_q hflW rfl ?_
        refine h_done (d_else rfl (d_skip (f_block (f_to (d_reg1 ?_)))))
        refine h_ar (z' := ((i + 1 : Nat) : Int)) (by rw [IntWalk.i64_in _ (by omega)]; omega) rfl rfl rfl rfl rfl ?_
        refine h_q hflW rfl ?_
        refine h_nil ?_
        exact f_again (i + 1) 0 ⟨by omega, allD_step hch ha hw⟩ (by omega) ⟨rfl, rfl, rfl, rfl, trivial⟩ rfl
    · skip
      have hp : plainN l := ⟨hne, take_all hil ▸ ha, hh⟩
      refine d_reg ?_
      refine h_cmp (cmp_lss_f (by omega)) rfl rfl rfl rfl ?_
      refine h_done (d_seq (d_else rfl (d_exit (f_then_exit (f_then_exit (f_block_exit (f_to (d_reg ?_))))))))
      refine h_q hflW rfl ?_
      refine h_done (d_ret ?_)
      exact f_fin1 (.tmp rfl) (fun w h => ⟨by rw [decide_eq_true hp], h.up.below⟩) rfl
end Go.Proofs.YtfalllekhcocgaaDoor

namespace Go.Proofs.YtfalllekhcocgaaDoor
open Go.RowKit Go.Shelf

def renPu : Ren := ⟨fun x => if x = 14 then 77 else if x = 16 then 95 else if x = 17 then 96 else if x = 19 then 105 else if x = 20 then 106 else if x = 21 then 107 else if x = 22 then 108 else if x = 23 then 109 else if x = 24 then 110 else if x = 25 then 117 else if x = 26 then 118 else if x = 27 then 119 else if x = 28 then 122 else if x = 29 then 123 else if x = 30 then 98 else if x = 31 then 99 else if x = 32 then 100 else if x = 33 then 101 else if x = 34 then 111 else if x = 35 then 97 else if x = 36 then 112 else if x = 37 then 113 else if x = 38 then 114 else if x = 39 then 120 else if x = 40 then 121 else x,
  fun x => if x = 0 then 0 else if x = 2 then 2 else if x = 3 then 3 else if x = 4 then 4 else if x = 5 then 5 else if x = 9 then 9 else if x = 20 then 20 else if x = 21 then 21 else if x = 22 then 22 else if x = 24 then 99 else if x = 67 then 112 else if x = 25 then 100 else if x = 34 then 132 else if x = 36 then 59 else if x = 37 then 46 else if x = 39 then 134 else if x = 44 then 148 else if x = 47 then 131 else if x = 48 then 151 else if x = 50 then 153 else if x = 52 then 124 else if x = 55 then 126 else if x = 59 then 139 else if x = 60 then 128 else if x = 61 then 140 else if x = 65 then 154 else if x = 66 then 155 else x,
  fun x => if x = 0 then 3 else if x = 1 then 4 else if x = 2 then 2 else if x = 3 then 6 else if x = 4 then 7 else x⟩
theorem laysPu : LaysPu.n14 Tryd.prog renPu := {
  mixed := by kernel_rfl
  f14 := by kernel_rfl
  f16 := by kernel_rfl
  f17 := by kernel_rfl
  f19 := by kernel_rfl
  f20 := by kernel_rfl
  f21 := by kernel_rfl
  f22 := by kernel_rfl
  f23 := by kernel_rfl
  f24 := by kernel_rfl
  f25 := by kernel_rfl
  f26 := by kernel_rfl
  f27 := by kernel_rfl
  f28 := by kernel_rfl
  f29 := by kernel_rfl
  f30 := by kernel_rfl
  f31 := by kernel_rfl
  f32 := by kernel_rfl
  f33 := by kernel_rfl
  f34 := by kernel_rfl
  f35 := by kernel_rfl
  f36 := by kernel_rfl
  f37 := by kernel_rfl
  f38 := by kernel_rfl
  f39 := by kernel_rfl
  f40 := by kernel_rfl
  t0 := Tryd.underlying0
  a0 := Tryd.isAgg0
  z0 := Tryd.sizeOf0
  v0 := Tryd.zeroValue0
  i0 := by kernel_rfl
  t2 := Tryd.underlying2
  a2 := Tryd.isAgg2
  z2 := Tryd.sizeOf2
  v2 := Tryd.zeroValue2
  i2 := by kernel_rfl
  t3 := Tryd.underlying3
  a3 := Tryd.isAgg3
  z3 := Tryd.sizeOf3
  v3 := Tryd.zeroValue3
  i3 := by kernel_rfl
  t4 := Tryd.underlying4
  a4 := Tryd.isAgg4
  z4 := Tryd.sizeOf4
  v4 := Tryd.zeroValue4
  i4 := by kernel_rfl
  t5 := Tryd.underlying5
  a5 := Tryd.isAgg5
  z5 := Tryd.sizeOf5
  v5 := Tryd.zeroValue5
  i5 := by kernel_rfl
  t9 := Tryd.underlying9
  a9 := Tryd.isAgg9
  z9 := Tryd.sizeOf9
  v9 := Tryd.zeroValue9
  i9 := by kernel_rfl
  t20 := Tryd.underlying20
  a20 := Tryd.isAgg20
  z20 := Tryd.sizeOf20
  v20 := Tryd.zeroValue20
  i20 := by kernel_rfl
  t21 := Tryd.underlying21
  a21 := Tryd.isAgg21
  z21 := Tryd.sizeOf21
  v21 := Tryd.zeroValue21
  i21 := by kernel_rfl
  t22 := Tryd.underlying22
  a22 := Tryd.isAgg22
  z22 := Tryd.sizeOf22
  v22 := Tryd.zeroValue22
  i22 := by kernel_rfl
  t24 := Tryd.underlying99
  a24 := Tryd.isAgg99
  z24 := Tryd.sizeOf99
  v24 := Tryd.zeroValue99
  i24 := by kernel_rfl
  t25 := Tryd.underlying100
  a25 := Tryd.isAgg100
  z25 := Tryd.sizeOf100
  v25 := Tryd.zeroValue100
  i25 := by kernel_rfl
  t34 := Tryd.underlying132
  a34 := Tryd.isAgg132
  z34 := Tryd.sizeOf132
  v34 := Tryd.zeroValue132
  i34 := by kernel_rfl
  c34 := by kernel_rfl
  t36 := Tryd.underlying59
  a36 := Tryd.isAgg59
  z36 := Tryd.sizeOf59
  v36 := Tryd.zeroValue59
  i36 := by kernel_rfl
  t37 := Tryd.underlying46
  a37 := Tryd.isAgg46
  z37 := Tryd.sizeOf46
  v37 := Tryd.zeroValue46
  i37 := by kernel_rfl
  t39 := Tryd.underlying134
  a39 := Tryd.isAgg134
  z39 := Tryd.sizeOf134
  v39 := Tryd.zeroValue134
  i39 := by kernel_rfl
  t44 := Tryd.underlying148
  a44 := Tryd.isAgg148
  z44 := Tryd.sizeOf148
  v44 := Tryd.zeroValue148
  i44 := by kernel_rfl
  t47 := Tryd.underlying131
  a47 := Tryd.isAgg131
  z47 := Tryd.sizeOf131
  v47 := Tryd.zeroValue131
  i47 := by kernel_rfl
  t48 := Tryd.underlying151
  a48 := Tryd.isAgg151
  z48 := Tryd.sizeOf151
  v48 := Tryd.zeroValue151
  i48 := by kernel_rfl
  t50 := Tryd.underlying153
  a50 := Tryd.isAgg153
  z50 := Tryd.sizeOf153
  v50 := Tryd.zeroValue153
  i50 := by kernel_rfl
  t52 := Tryd.underlying124
  a52 := Tryd.isAgg124
  z52 := Tryd.sizeOf124
  v52 := Tryd.zeroValue124
  i52 := by kernel_rfl
  t55 := Tryd.underlying126
  a55 := Tryd.isAgg126
  z55 := Tryd.sizeOf126
  v55 := Tryd.zeroValue126
  i55 := by kernel_rfl
  t59 := Tryd.underlying139
  a59 := Tryd.isAgg139
  z59 := Tryd.sizeOf139
  v59 := Tryd.zeroValue139
  i59 := by kernel_rfl
  t60 := Tryd.underlying128
  a60 := Tryd.isAgg128
  z60 := Tryd.sizeOf128
  v60 := Tryd.zeroValue128
  i60 := by kernel_rfl
  t61 := Tryd.underlying140
  a61 := Tryd.isAgg140
  z61 := Tryd.sizeOf140
  t65 := Tryd.underlying154
  a65 := Tryd.isAgg154
  z65 := Tryd.sizeOf154
  v65 := Tryd.zeroValue154
  i65 := by kernel_rfl
  t66 := Tryd.underlying155
  a66 := Tryd.isAgg155
  z66 := Tryd.sizeOf155
  v66 := Tryd.zeroValue155
  i66 := by kernel_rfl
  t67 := Tryd.underlying112
  a67 := Tryd.isAgg112
  z67 := Tryd.sizeOf112
  v67 := Tryd.zeroValue112
  i67 := by kernel_rfl
  g0 := by kernel_rfl
  m0 := by kernel_rfl
  g1 := by kernel_rfl
  m1 := by kernel_rfl
  g2 := by kernel_rfl
  m2 := by kernel_rfl
  g3 := by kernel_rfl
  m3 := by kernel_rfl
  g4 := by kernel_rfl
  m4 := by kernel_rfl }
def renHas : Ren := ⟨fun x => if x = 206 then 94 else x,
  fun x => if x = 3 then 3 else if x = 4 then 4 else if x = 9 then 9 else x,
  fun x => x⟩
theorem laysHas : Lays.n206 Tryd.prog renHas := {
  mixed := by kernel_rfl
  f206 := by kernel_rfl
  t3 := Tryd.underlying3
  a3 := Tryd.isAgg3
  z3 := Tryd.sizeOf3
  v3 := Tryd.zeroValue3
  t4 := Tryd.underlying4
  a4 := Tryd.isAgg4
  z4 := Tryd.sizeOf4
  v4 := Tryd.zeroValue4
  t9 := Tryd.underlying9
  a9 := Tryd.isAgg9
  z9 := Tryd.sizeOf9
  v9 := Tryd.zeroValue9 }

theorem hasP (w : World) (l : List UInt8) (b : Bool) (h : Lib.hasPrefix l [45] = b) : Calls Tryd.prog 94 #[.string (bs l), .string (bs [45])] w fun e w' => e = .returned (.bool b) ∧ Below w.heap.size w w' := by
  have := as_same' (Any.stringslite_HasPrefix laysHas (bs l) (bs [45]) w)
  rw [bs_data, bs_data, h] at this
  exact this
/-- a minus ahead, and what is behind it -/
def cutS (l : List UInt8) : Bool × List UInt8 := match l with
  | 45 :: r => (true, r)
  | l => (false, l)
theorem cut_ways (l : List UInt8) : (∃ r, l = 45 :: r ∧ cutS l = (true, r) ∧ Lib.hasPrefix l [45] = true) ∨ (cutS l = (false, l) ∧ Lib.hasPrefix l [45] = false) := by
  cases l with
  | nil => exact .inr ⟨rfl, rfl⟩
  | cons c r =>
    by_cases h : c = 45
    · subst h
      exact .inl ⟨r, rfl, rfl, by simp [Lib.hasPrefix, List.isPrefixOf]⟩
    · refine .inr ⟨?_, ?_⟩
      · unfold cutS
        split
        · rename_i e; exact absurd (List.cons.inj e).1 h
        · rfl
      · have : ((45 : UInt8) == c) = false := by simpa using fun e => h e.symm
        simp [Lib.hasPrefix, List.isPrefixOf, this]

theorem cutp_t (w : World) (r : List UInt8) (h : Lib.hasPrefix (45 :: r) [45] = true) (hlen : (45 :: r).length ≤ 9223372036854775807) : Calls Tryd.prog 76 #[.string (bs (45 :: r)), .string (bs ([45]))] w fun e w' => e = .returned (.tuple #[.string (bs r), .bool true]) ∧ Below w.heap.size w w' := by
  refine d_in (args := [.string (bs (45 :: r)), .string (bs ([45]))]) 15 Tryd.func76 rfl rfl rfl ?_
  refine d_reg ?_
  refine h_q hflW rfl ?_
  refine h_done (d_seq (d_reg ?_))
  refine h_q hflW rfl ?_
  refine h_call (ent_of Tryd.func94 (by kernel_rfl) rfl) (fun w hH => hasP _ (45 :: r) true h) rfl rfl rfl rfl ?_
  refine h_q hflW rfl ?_
  refine h_done (d_else rfl (d_skip (f_to (d_reg ?_))))
  refine h_q hflW rfl ?_
  refine h_builtin (v := .int .i64 1) (fun w cs => (run_len_bs Tryd.underlying9 _ _ w cs).trans (by rw [show (([45] : List UInt8).length : Int) = 1 from rfl])) rfl rfl rfl ?_
  refine h_cut (i := 1) (j := (45 :: r).length) (r := r) Tryd.underlying9 (by simp) (by simp) (by omega) rfl rfl rfl ⟨_, rfl⟩ rfl ?_
  refine h_q hflW rfl ?_
  refine h_done (d_ret ?_)
  exact f_fin2 (.tmp rfl) (.tmp rfl) (fun w h => ⟨rfl, h.up.below⟩) rfl

theorem cutp_f (w : World) (l : List UInt8) (h : Lib.hasPrefix l [45] = false) : Calls Tryd.prog 76 #[.string (bs l), .string (bs ([45]))] w fun e w' => e = .returned (.tuple #[.string (bs l), .bool false]) ∧ Below w.heap.size w w' := by
  refine d_in (args := [.string (bs l), .string (bs ([45]))]) 15 Tryd.func76 rfl rfl rfl ?_
  refine d_reg ?_
  refine h_q hflW rfl ?_
  refine h_done (d_seq (d_reg ?_))
  refine h_q hflW rfl ?_
  refine h_call (ent_of Tryd.func94 (by kernel_rfl) rfl) (fun w hH => hasP _ l false h) rfl rfl rfl rfl ?_
  refine h_q hflW rfl ?_
  refine h_done (d_then rfl (d_reg ?_))
  refine h_q hflW rfl ?_
  refine h_done (d_ret (f_then_ret ?_))
  exact f_fin2 (.tmp rfl) (.tmp rfl) (fun w h => ⟨rfl, h.up.below⟩) rfl

theorem cutp_any (w : World) (l : List UInt8) (hlen : l.length ≤ 9223372036854775807) : Calls Tryd.prog 76 #[.string (bs l), .string (bs [45])] w fun e w' => e = .returned (.tuple #[.string (bs (cutS l).2), .bool (cutS l).1]) ∧ Below w.heap.size w w' := by
  rcases cut_ways l with ⟨r, rfl, h, h'⟩ | ⟨h, h'⟩
  · rw [h]; exact cutp_t w r h' hlen
  · rw [h]; exact cutp_f w l h'

theorem cutE (w : World) (l D : List UInt8) (m : Bool) (hc : cutS l = (m, D)) (hlen : l.length ≤ 9223372036854775807) : Calls Tryd.prog 76 #[.string (bs l), .string (bs [45])] w fun e w' => e = .returned (.tuple #[.string (bs D), .bool m]) ∧ Below w.heap.size w w' := by
  have := cutp_any w l hlen
  rw [hc] at this
  exact this

theorem cutPrefix_any (w : World) (l : List UInt8) (D : List UInt8) (m : Bool) (hc : cutS l = (m, D)) (hlen : l.length ≤ 9223372036854775807) : Calls Tryd.prog 45 #[.string (bs l), .string (bs ([45]))] w fun e w' => e = .returned (.tuple #[.string (bs D), .bool m]) ∧ Below w.heap.size w w' := by
  refine d_in (args := [.string (bs l), .string (bs ([45]))]) 11 Tryd.func45 rfl rfl rfl ?_
  refine d_reg ?_
  refine h_q hflW rfl ?_
  refine h_done (d_reg ?_)
  refine h_q hflW rfl ?_
  refine h_call (ent_of Tryd.func76 (by kernel_rfl) rfl) (fun w hH => cutE _ l D m hc hlen) rfl rfl rfl rfl ?_
  refine h_q hflW rfl ?_
  refine h_done (d_ret ?_)
  exact f_fin2 (.tmp rfl) (.tmp rfl) (fun w h => ⟨rfl, h.up.below⟩) rfl

theorem eqNil : EqNil Tryd.prog 99 .nilIface true := fun x w => by
  have t := Tryd.underlying99
  go_simp
theorem eqIface (T : TypeId) (p : Value) : EqNil Tryd.prog 99 (.iface T p) false := fun x w => by
  have t := Tryd.underlying99
  go_simp
/-- the error for numbers that are too great is laid -/
def ErrIs (w : World) : Prop := 4 < w.heap.size ∧ ∃ ev, w.cell? ⟨4, 0, none⟩ = some ev ∧ (ev = .nilIface ∨ ∃ te pe, ev = .iface te pe)
theorem ErrIs.up {w W : World} (h : ErrIs w) (hb : Below w.heap.size w W) : ErrIs W := by
  obtain ⟨h1, ev, h2, h3⟩ := h
  exact ⟨Nat.lt_of_lt_of_le h1 hb.size, ev, (hb.cell (show (⟨4, 0, none⟩ : Addr).block < w.heap.size from h1)).trans h2, h3⟩
theorem pu_ok (w : World) (l : List UInt8) (ha : allD l) (hne : l ≠ []) (hl : l.length ≤ 9223372036854775806) (hv : nv l ≤ 18446744073709551615) : Calls Tryd.prog 77 #[.string (bs l), .int .i64 10, .int .i64 64] w fun e w' => e = .returned (.tuple #[.int .u64 (nv l : Int), .nilIface]) ∧ Below w.heap.size w w' := by
  have := Any.strconv_ParseUint_10_at64_ok laysPu (bs l) (by rw [bs_size]; exact hl) (nv l) (by rw [bs_data, parseB_digits ha hne, if_pos hv]) w
  refine this.mono fun e w' ⟨he, hw⟩ => ⟨he, ?_⟩
  rcases hw with rfl | rfl
  · exact Below.refl _ _
  · exact Lib.bytesWorld_below _ _ _
theorem pu_range (w : World) (l : List UInt8) (ha : allD l) (hne : l ≠ []) (hl : l.length ≤ 281474976710656) (hv : ¬ nv l ≤ 18446744073709551615) (hE : ErrIs w) : Calls Tryd.prog 77 #[.string (bs l), .int .i64 10, .int .i64 64] w fun e w' => (∃ v, e = .returned v ∧ ∃ N : Nat, v = .tuple #[.int .u64 18446744073709551615, .iface 134 (.pointer (some ⟨N, 0, none⟩))]) ∧ Below w.heap.size w w' := by
  obtain ⟨_, ev, h2, h3⟩ := hE
  have := Any.strconv_ParseUint_10_at64_range laysPu (bs l) (by rw [bs_size]; exact hl) (by rw [bs_data, parseB_digits ha hne, if_neg hv]) ev w h2 h3
  exact this.mono fun e w' ⟨N, he, _, _, hb⟩ => ⟨⟨_, he, N, rfl⟩, hb⟩

theorem word_nil (w : World) (l : List UInt8) (hl : l = []) : Calls Tryd.prog 47 #[.string (bs l)] w fun e w' => e = .returned (.tuple #[.int .u64 (nv l : Int), .bool true]) ∧ Below w.heap.size w w' := by
  refine d_in (args := [.string (bs l)]) 19 Tryd.func47 rfl rfl rfl ?_
  refine d_reg ?_
  refine h_q hflW rfl ?_
  refine h_done (d_seq (d_reg ?_))
  refine h_q hflW rfl ?_
  refine h_same (beq_iff_eq.2 hl) rfl rfl rfl rfl ?_
  refine h_done (d_then rfl (d_reg ?_))
  refine h_q hflW rfl ?_
  refine h_done (d_ret (f_then_ret ?_))
  exact f_fin2 (.tmp rfl) (.tmp rfl) (fun w h => ⟨by rw [hl]; rfl, h.up.below⟩) rfl

theorem word_ok (w : World) (l : List UInt8) (hne : l ≠ []) (ha : allD l) (hl : l.length ≤ 20) (hv : nv l ≤ 18446744073709551615) : Calls Tryd.prog 47 #[.string (bs l)] w fun e w' => e = .returned (.tuple #[.int .u64 (nv l : Int), .bool true]) ∧ Below w.heap.size w w' := by
  refine d_in (args := [.string (bs l)]) 19 Tryd.func47 rfl rfl rfl ?_
  refine d_reg ?_
  refine h_q hflW rfl ?_
  refine h_done (d_seq (d_reg ?_))
  refine h_q hflW rfl ?_
  refine h_same (beq_false_of_ne hne) rfl rfl rfl rfl ?_
  refine h_done (d_else rfl (d_skip (f_to (d_seq (d_reg ?_)))))
  refine h_q hflW rfl ?_
  refine h_builtin (v := .int .i64 (l.length : Int)) (fun w cs => run_len_bs Tryd.underlying9 _ _ w cs) rfl rfl rfl ?_
  refine h_cmp (cmp_gtr_f (by omega)) rfl rfl rfl rfl ?_
  refine h_done (d_else rfl (d_skip (f_to (d_reg ?_))))
  refine h_q hflW rfl ?_
  refine h_call (ent_of Tryd.func77 (by kernel_rfl) rfl) (fun w hH => pu_ok _ l ha hne (by omega) hv) rfl rfl rfl rfl ?_
  refine h_q hflW rfl ?_
  refine h_done (d_seq ?_)
  refine d_par 5 0 [⟨.quiet, 0, fun _ => .int .u64 (nv l : Int), []⟩, ⟨.quiet, 0, fun _ => .nilIface, []⟩, ⟨.quiet, 0, fun _ => .bool true, [1]⟩, ⟨.quiet, 0, fun _ => .int .u64 (nv l : Int), [0]⟩, ⟨.quiet, 0, fun _ => .bool true, [2]⟩] [(4, .int .u64 (nv l : Int)), (5, .nilIface)] (by kernel_rfl) (by kernel_rfl) ⟨rfl, rfl, trivial⟩ ?_ ?_
  · skip
    refine o_cons (o_q hflW (fun _ _ => rfl) (fun _ _ => rfl)) ?_
    refine o_cons (o_q hflW (fun _ _ => rfl) (fun _ _ => rfl)) ?_
    refine o_cons (o_val (fun _ _ => rfl) (fun w hH σ g b W hU hb => by have e0 := hb.get 17 _ rfl; exact exec_eqnil eqNil rfl rfl hb)) ?_
    refine o_cons (o_q hflW (fun _ _ => rfl) (fun _ _ => rfl)) ?_
    refine o_cons (o_q hflW (fun _ _ => rfl) (fun _ _ => rfl)) ?_
    exact o_nil
  intro σ1 gs1
  refine WL2.keep (env' := [(2, .int .u64 (nv l : Int)), (3, .bool true)]) ⟨rfl, rfl, trivial⟩ ?_
  refine h_nil (f_to (d_ret ?_))
  exact f_fin2 (.tmp rfl) (.tmp rfl) (fun w h => ⟨rfl, h.up.below⟩) rfl

theorem word_long (w : World) (l : List UInt8) (hne : l ≠ []) (hl : 20 < l.length) : Calls Tryd.prog 47 #[.string (bs l)] w fun e w' => e = .returned (.tuple #[.int .u64 0, .bool false]) ∧ Below w.heap.size w w' := by
  refine d_in (args := [.string (bs l)]) 19 Tryd.func47 rfl rfl rfl ?_
  refine d_reg ?_
  refine h_q hflW rfl ?_
  refine h_done (d_seq (d_reg ?_))
  refine h_q hflW rfl ?_
  refine h_same (beq_false_of_ne hne) rfl rfl rfl rfl ?_
  refine h_done (d_else rfl (d_skip (f_to (d_seq (d_reg ?_)))))
  refine h_q hflW rfl ?_
  refine h_builtin (v := .int .i64 (l.length : Int)) (fun w cs => run_len_bs Tryd.underlying9 _ _ w cs) rfl rfl rfl ?_
  refine h_cmp (cmp_gtr_t (by omega)) rfl rfl rfl rfl ?_
  refine h_done (d_then rfl (d_reg ?_))
  refine h_q hflW rfl ?_
  refine h_done (d_ret (f_then_ret ?_))
  exact f_fin2 (.tmp rfl) (.tmp rfl) (fun w h => ⟨rfl, h.up.below⟩) rfl

theorem word_great (w : World) (l : List UInt8) (hne : l ≠ []) (ha : allD l) (hl : l.length ≤ 20) (hv : ¬ nv l ≤ 18446744073709551615) (hE : ErrIs w) : Calls Tryd.prog 47 #[.string (bs l)] w fun e w' => e = .returned (.tuple #[.int .u64 18446744073709551615, .bool false]) ∧ Below w.heap.size w w' := by
  refine d_in (args := [.string (bs l)]) 19 Tryd.func47 rfl rfl rfl ?_
  refine d_reg ?_
  refine h_q hflW rfl ?_
  refine h_done (d_seq (d_reg ?_))
  refine h_q hflW rfl ?_
  refine h_same (beq_false_of_ne hne) rfl rfl rfl rfl ?_
  refine h_done (d_else rfl (d_skip (f_to (d_seq (d_reg ?_)))))
  refine h_q hflW rfl ?_
  refine h_builtin (v := .int .i64 (l.length : Int)) (fun w cs => run_len_bs Tryd.underlying9 _ _ w cs) rfl rfl rfl ?_
  refine h_cmp (cmp_gtr_f (by omega)) rfl rfl rfl rfl ?_
  refine h_done (d_else rfl (d_skip (f_to (d_reg ?_))))
  refine h_q hflW rfl ?_
  refine h_callx (ent_of Tryd.func77 (by kernel_rfl) rfl) (X := fun v => ∃ N : Nat, v = .tuple #[.int .u64 18446744073709551615, .iface 134 (.pointer (some ⟨N, 0, none⟩))]) (fun w hH => pu_range _ l ha hne (by omega) hv (hE.up hH.up.below)) rfl rfl rfl rfl ?_; rintro _ ⟨N, rfl⟩
  refine h_q hflW rfl ?_
  refine h_done (d_seq ?_)
  refine d_par 5 0 [⟨.quiet, 0, fun _ => .int .u64 18446744073709551615, []⟩, ⟨.quiet, 0, fun _ => .iface 134 (.pointer (some ⟨N, 0, none⟩)), []⟩, ⟨.quiet, 0, fun _ => .bool false, [1]⟩, ⟨.quiet, 0, fun _ => .int .u64 18446744073709551615, [0]⟩, ⟨.quiet, 0, fun _ => .bool false, [2]⟩] [(4, .int .u64 18446744073709551615), (5, .iface 134 (.pointer (some ⟨N, 0, none⟩)))] (by kernel_rfl) (by kernel_rfl) ⟨rfl, rfl, trivial⟩ ?_ ?_
  · skip
    refine o_cons (o_q hflW (fun _ _ => rfl) (fun _ _ => rfl)) ?_
    refine o_cons (o_q hflW (fun _ _ => rfl) (fun _ _ => rfl)) ?_
    refine o_cons (o_val (fun _ _ => rfl) (fun w hH σ g b W hU hb => by have e0 := hb.get 17 _ rfl; exact exec_eqnil (eqIface _ _) rfl rfl hb)) ?_
    refine o_cons (o_q hflW (fun _ _ => rfl) (fun _ _ => rfl)) ?_
    refine o_cons (o_q hflW (fun _ _ => rfl) (fun _ _ => rfl)) ?_
    exact o_nil
  intro σ1 gs1
  refine WL2.keep (env' := [(2, .int .u64 18446744073709551615), (3, .bool false)]) ⟨rfl, rfl, trivial⟩ ?_
  refine h_nil (f_to (d_ret ?_))
  exact f_fin2 (.tmp rfl) (.tmp rfl) (fun w h => ⟨rfl, h.up.below⟩) rfl

theorem word_fits (w : World) (l : List UInt8) (ha : allD l) (hl : l.length ≤ 20) (hv : nv l ≤ 18446744073709551615) : Calls Tryd.prog 47 #[.string (bs l)] w fun e w' => e = .returned (.tuple #[.int .u64 (nv l : Int), .bool true]) ∧ Below w.heap.size w w' := by
  by_cases hne : l = []
  · exact word_nil w l hne
  · exact word_ok w l hne ha hl hv
theorem word_no (w : World) (l : List UInt8) (ha : allD l) (hv : ¬ nv l ≤ 18446744073709551615) (hE : ErrIs w) : Calls Tryd.prog 47 #[.string (bs l)] w fun e w' => (∃ v, e = .returned v ∧ ∃ u : Int, v = .tuple #[.int .u64 u, .bool false]) ∧ Below w.heap.size w w' := by
  have hne : l ≠ [] := by rintro rfl; exact hv (by decide)
  by_cases hl : l.length ≤ 20
  · exact (word_great w l hne ha hl hv hE).mono fun e w' ⟨he, hb⟩ => ⟨⟨_, he, _, rfl⟩, hb⟩
  · exact (word_long w l hne (by omega)).mono fun e w' ⟨he, hb⟩ => ⟨⟨_, he, _, rfl⟩, hb⟩
end Go.Proofs.YtfalllekhcocgaaDoor

namespace Go.Proofs.YtfalllekhcocgaaDoor
open Go.RowKit

/-- the number that a text is, or none -/
def parseV (l : List UInt8) : Value := if plainN (cutS l).2 ∧ ¬ ((cutS l).1 = true ∧ (cutS l).2 = [48]) then resV (if (cutS l).1 then -(nv (cutS l).2 : Int) else (nv (cutS l).2 : Int)) else .tuple #[WV 0, .int .i64 23]
theorem parseV_no {l D : List UInt8} {m : Bool} (hc : cutS l = (m, D)) (h : ¬ (plainN D ∧ ¬ (m = true ∧ D = [48]))) : parseV l = .tuple #[WV 0, .int .i64 23] := by unfold parseV; rw [hc, if_neg h]
theorem parseV_ok {l D : List UInt8} {m : Bool} (hc : cutS l = (m, D)) (h : plainN D) (h' : ¬ (m = true ∧ D = [48])) : parseV l = resV (if m then -(nv D : Int) else (nv D : Int)) := by unfold parseV; rw [hc, if_pos ⟨h, h'⟩]
theorem zero_ways (D : List UInt8) : ¬ plainN D ∨ (plainN D ∧ D = [48]) ∨ (plainN D ∧ D ≠ [48]) := by
  by_cases h : plainN D
  · by_cases h' : D = [48]
    · exact .inr (.inl ⟨h, h'⟩)
    · exact .inr (.inr ⟨h, h'⟩)
  · exact .inl h
theorem plainE (w : World) (D : List UInt8) (b : Bool) (hlen : D.length ≤ 9223372036854775807) (h : decide (plainN D) = b) : Calls Tryd.prog 46 #[.string (bs D)] w fun e w' => e = .returned (.bool b) ∧ Below w.heap.size w w' := by
  rw [← h]; exact plainW_any w D hlen
theorem cut_len {l D : List UInt8} {m : Bool} (hc : cutS l = (m, D)) : D.length ≤ l.length := by
  rcases cut_ways l with ⟨r, rfl, h, _⟩ | ⟨h, _⟩
  · rw [hc] at h; cases h; simp
  · rw [hc] at h; cases h; exact Nat.le_refl _
/-- the number, its high and its low digits -/
structure Cut19 (D : List UInt8) (k H L M : Nat) : Prop where
  k_eq : k = D.length - 19
  hH : H = nv (D.take k)
  hL : L = nv (D.drop k)
  hM : M = nv D
  mul : M = H * 10000000000000000000 + L
  low : L < 10000000000000000000
  dt : allD (D.take k)
  dd : allD (D.drop k)
  ld : (D.drop k).length ≤ 19
theorem cut19 {D : List UInt8} (hp : plainN D) : ∃ k H L M, Cut19 D k H L M := by
  refine ⟨D.length - 19, nv (D.take (D.length - 19)), nv (D.drop (D.length - 19)), nv D, rfl, rfl, rfl, rfl, ?_, ?_, fun x hx => hp.2.1 x (List.mem_of_mem_take hx), fun x hx => hp.2.1 x (List.mem_of_mem_drop hx), by simp; omega⟩
  · by_cases h : D.length ≤ 19
    · rw [show D.length - 19 = 0 by omega]
      simp [nv, nvA_nil]
    · have := nv_app (D.take (D.length - 19)) (D.drop (D.length - 19))
      rw [List.take_append_drop, show (D.drop (D.length - 19)).length = 19 by simp; omega] at this
      rw [this]
  · have h1 := nv_lt (l := D.drop (D.length - 19)) fun x hx => hp.2.1 x (List.mem_of_mem_drop hx)
    have h2 : 10 ^ (D.drop (D.length - 19)).length ≤ 10 ^ 19 := Nat.pow_le_pow_right (by decide) (by simp; omega)
    have h3 : 10 ^ 19 = 10000000000000000000 := by decide
    omega
theorem high_len {D : List UInt8} {k H L M : Nat} (hp : plainN D) (hc : Cut19 D k H L M) (hf : H ≤ 18446744073709551615) : (D.take k).length ≤ 20 := by
  by_cases h : D.length ≤ 19
  · rw [List.length_take]; omega
  · have hk := hc.k_eq
    cases hD : D.take k with
    | nil => simp
    | cons c r =>
      have hc0 : c.toNat ≠ 48 := by
        intro e
        have := hp.2.2 (by omega)
        apply this
        have h0 : (D.take k)[0]? = some c := by rw [hD]; rfl
        rw [List.getElem?_take] at h0
        split at h0
        · exact head_48 h0 e
        · cases h0
      have := nv_pos (r := r) (hc.dt c (by rw [hD]; simp)) hc0
      rw [← hD, ← hc.hH] at this
      have h2 : r.length < 20 := by
        refine Nat.lt_of_not_le fun h => ?_
        have : 10 ^ 20 ≤ 10 ^ r.length := Nat.pow_le_pow_right (by decide) h
        have h20 : 10 ^ 20 = 100000000000000000000 := by decide
        omega
      simp; omega
theorem addPw (H L M : Nat) (hM : M = H * 10000000000000000000 + L) (hL : L < 10000000000000000000) (w : World) : (callFunc 50 #[.int .u64 ((H : Int) * 10000000000000000000 % 18446744073709551616), .int .u64 (L : Int), .int .u64 0]).run Tryd.prog w = .ok (.value (.tuple #[.int .u64 ((M : Int) % 18446744073709551616), .int .u64 (((H : Int) * 10000000000000000000 % 18446744073709551616 + L) / 18446744073709551616)])) w := by
  have := add64 ((H : Int) * 10000000000000000000 % 18446744073709551616) (L : Int) 0 (by omega) (by omega) (by decide) (by decide) w
  rw [this]
  rw [show ((H : Int) * 10000000000000000000 % 18446744073709551616 + L + 0) % 18446744073709551616 = (M : Int) % 18446744073709551616 by omega, show ((H : Int) * 10000000000000000000 % 18446744073709551616 + (L : Int) + 0) / 18446744073709551616 = ((H : Int) * 10000000000000000000 % 18446744073709551616 + L) / 18446744073709551616 by omega]
theorem mulPw (w : World) (H : Nat) (hf : H ≤ 18446744073709551615) : Calls Tryd.prog 48 #[.int .u64 (H : Int), .int .u64 10000000000000000000] w fun e w' => e = .returned (.tuple #[.int .u64 ((H : Int) * 10000000000000000000 / 18446744073709551616), .int .u64 ((H : Int) * 10000000000000000000 % 18446744073709551616)]) ∧ Below w.heap.size w w' := as_same' ((mul64 (H : Int) 10000000000000000000 (by omega) (by decide) w).mono fun e w' ⟨he, hw⟩ => ⟨he, hw.symm⟩)
theorem tenPw (w : World) : Calls Tryd.prog 49 #[.int .i64 19] w fun e w' => e = .returned (.int .u64 10000000000000000000) ∧ Below w.heap.size w w' := ten_any w 19 (by decide)
theorem signPw (w : World) (H L M : Nat) (m : Bool) (hM : M = H * 10000000000000000000 + L) (hL : L < 10000000000000000000) (hf : H ≤ 18446744073709551615) : Calls Tryd.prog 43 #[.agg #[.int .u64 ((M : Int) / 18446744073709551616), .int .u64 ((M : Int) % 18446744073709551616)], .bool m] w fun e w' => e = .returned (resV (if m then -(M : Int) else (M : Int))) ∧ Below w.heap.size w w' := signed_any w (M : Int) m (by unfold Big; omega)
theorem notFits {H L M : Nat} {m : Bool} (hM : M = H * 10000000000000000000 + L) (hf : ¬ H ≤ 18446744073709551615) : ¬ Fits (if m then -(M : Int) else (M : Int)) := by
  unfold Fits; split <;> omega

theorem parse_f (w : World) (l D : List UInt8) (hc : cutS l = (false, D)) (hlen : l.length ≤ 9223372036854775807) (hE : ErrIs w) : Calls Tryd.prog 19 #[.string (bs l)] w fun e w' => e = .returned (parseV l) ∧ Below w.heap.size w w' := by
  refine d_in (args := [.string (bs l)]) 72 Tryd.func19 rfl rfl rfl ?_
  refine d_reg ?_
  refine h_alloc zeWide rfl rfl ?_; intro g2_1
  refine h_q hflW rfl ?_
  refine h_done (d_reg ?_)
  refine h_q hflW rfl ?_
  refine h_call (ent_of Tryd.func45 (by kernel_rfl) rfl) (fun w hH => cutPrefix_any _ l D false hc hlen) rfl rfl rfl rfl ?_
  refine h_q hflW rfl ?_
  refine h_done (d_seq ?_)
  by_cases hp : plainN D; rotate_left
  · skip
    refine d_reg ?_
    refine h_q hflW rfl ?_
    refine h_call (ent_of Tryd.func46 (by kernel_rfl) rfl) (fun w hH => plainE _ D false (Nat.le_trans (cut_len hc) hlen) (by simp [hp])) rfl rfl rfl rfl ?_
    refine h_q hflW rfl ?_
    refine h_done (d_then rfl (d_reg ?_))
    refine h_build (cs := #[.int .i64 0, .int .u64 0]) (by kernel_rfl) rfl rfl rfl ?_
    refine h_store 0 (v := .agg #[.int .i64 0, .int .u64 0]) (#[.int .i64 0, .int .u64 0]) tyWide.2 rfl rfl rfl rfl rfl rfl rfl rfl rfl rfl ?_
    refine h_q hflW rfl ?_
    refine h_done (d_ret (f_then_ret ?_))
    exact f_fin2 (.cell 0 (v := .agg #[.int .i64 0, .int .u64 0]) (reads_agg (cs := [.int .i64 0, .int .u64 0]) tyWide rfl) rfl rfl) (.tmp rfl) (fun w h => ⟨by rw [parseV_no hc (fun h => hp h.1)]; rfl, h.up.below⟩) rfl
  · skip
    have hz : ¬ (false = true ∧ D = [48]) := by simp
    refine d_reg ?_
    refine h_q hflW rfl ?_
    refine h_call (ent_of Tryd.func46 (by kernel_rfl) rfl) (fun w hH => plainE _ D true (Nat.le_trans (cut_len hc) hlen) (by simp [hp])) rfl rfl rfl rfl ?_
    refine h_q hflW rfl ?_
    refine h_done (d_else rfl (d_skip (f_to ?_)))
    obtain ⟨k, H, L, M, hk⟩ := cut19 hp
    have hkl := hk.k_eq
    have hDl := cut_len hc
    refine d_reg ?_
    refine h_q hflW rfl ?_
    refine h_builtin (v := .int .i64 (D.length : Int)) (fun w cs => run_len_bs Tryd.underlying9 _ _ w cs) rfl rfl rfl ?_
    refine h_ar (z' := (D.length : Int) - 19) (IntWalk.i64_in _ (by omega)) rfl rfl rfl rfl rfl ?_
    refine h_builtin (v := .int .i64 (k : Int)) (fun w cs => run_max2 (by split <;> omega) _ _ w cs) rfl rfl rfl ?_
    refine h_q hflW rfl ?_
    refine h_done (d_reg ?_)
    refine h_q hflW rfl ?_
    refine h_cut (i := k) (j := D.length) (r := D.drop k) Tryd.underlying9 (by simp) (by omega) (Nat.le_refl _) rfl rfl rfl ⟨_, rfl⟩ rfl ?_
    refine h_call (ent_of Tryd.func47 (by kernel_rfl) rfl) (fun w hH => (hk.hL ▸ word_fits _ (D.drop k) hk.dd (by have := hk.ld; omega) (by rw [← hk.hL]; have := hk.low; omega))) rfl rfl rfl rfl ?_
    refine h_q hflW rfl ?_
    refine h_done ?_
    by_cases hf : H ≤ 18446744073709551615
    · skip
      obtain ⟨ra, rb, re, hr⟩ := resV_form (if false then -(M : Int) else (M : Int))
      refine d_reg ?_
      refine h_q hflW rfl ?_
      refine h_cut (i := 0) (j := k) (r := D.take k) Tryd.underlying9 rfl (by omega) (by omega) rfl rfl rfl rfl ⟨_, rfl⟩ ?_
      refine h_call (ent_of Tryd.func47 (by kernel_rfl) rfl) (fun w hH => (hk.hH ▸ word_fits _ (D.take k) hk.dt (high_len hp hk hf) (by rw [← hk.hH]; exact hf))) rfl rfl rfl rfl ?_
      refine h_q hflW rfl ?_
      refine h_done (d_seq (d_reg ?_))
      refine h_q hflW rfl ?_
      refine h_done ?_
      refine WC2.keep (env' := [(2, .pointer (some ⟨g2_1, 0, none⟩)), (3, .int .i64 0), (5, .bool false), (7, .int .u64 (L : Int)), (9, .int .u64 (H : Int)), (49, .bool false)]) ⟨rfl, rfl, rfl, rfl, rfl, rfl, trivial⟩ ?_
      refine d_else rfl (d_skip (f_to (d_reg ?_)))
      refine h_q hflW rfl ?_
      refine h_call (ent_of Tryd.func49 (by kernel_rfl) rfl) (fun w hH => tenPw _) rfl rfl rfl rfl ?_
      refine h_call (ent_of Tryd.func48 (by kernel_rfl) rfl) (fun w hH => mulPw _ H hf) rfl rfl rfl rfl ?_
      refine h_q hflW rfl ?_
      refine h_done (d_reg ?_)
      refine h_q hflW rfl ?_
      refine h_val rfl (.tuple #[.int .u64 ((M : Int) % 18446744073709551616), .int .u64 (((H : Int) * 10000000000000000000 % 18446744073709551616 + L) / 18446744073709551616)]) (fun b w hb hH => by exact exec_ext (addPw H L M hk.mul hk.low) rfl rfl rfl hb) ?_
      refine h_q hflW rfl ?_
      refine h_done (d_reg ?_)
      refine h_q hflW rfl ?_
      refine h_ar (z' := (M : Int) / 18446744073709551616) (by rw [IntWalk.u64_in _ (by have := hk.mul; have := hk.low; omega)]; have := hk.mul; omega) rfl rfl rfl rfl rfl ?_
      refine h_q hflW rfl ?_
      refine h_build (cs := #[.int .u64 ((M : Int) / 18446744073709551616), .int .u64 ((M : Int) % 18446744073709551616)]) (by kernel_rfl) rfl rfl rfl ?_
      refine h_q hflW rfl ?_
      refine h_call (ent_of Tryd.func43 (by kernel_rfl) rfl) (fun w hH => (hr ▸ signPw _ H L M false hk.mul hk.low hf)) rfl rfl rfl rfl ?_
      refine h_q hflW rfl ?_
      refine h_store 0 (v := .agg #[.int .i64 ra, .int .u64 rb]) (#[.int .i64 ra, .int .u64 rb]) tyWide.2 rfl rfl rfl rfl rfl rfl rfl rfl rfl rfl ?_
      refine h_q hflW rfl ?_
      refine h_done (d_ret ?_)
      exact f_fin2 (.cell 0 (v := .agg #[.int .i64 ra, .int .u64 rb]) (reads_agg (cs := [.int .i64 ra, .int .u64 rb]) tyWide rfl) rfl rfl) (.tmp rfl) (fun w h => ⟨by rw [parseV_ok hc hp hz, ← hk.hM]; exact congrArg _ hr.symm, h.up.below⟩) rfl
    · skip
      refine d_reg ?_
      refine h_q hflW rfl ?_
      refine h_cut (i := 0) (j := k) (r := D.take k) Tryd.underlying9 rfl (by omega) (by omega) rfl rfl rfl rfl ⟨_, rfl⟩ ?_
      refine h_callx (ent_of Tryd.func47 (by kernel_rfl) rfl) (X := fun v => ∃ u : Int, v = .tuple #[.int .u64 u, .bool false]) (fun w hH => word_no _ (D.take k) hk.dt (by rw [← hk.hH]; exact hf) (hE.up hH.up.below)) rfl rfl rfl rfl ?_; rintro _ ⟨u, rfl⟩
      refine h_q hflW rfl ?_
      refine h_done (d_seq (d_reg ?_))
      refine h_q hflW rfl ?_
      refine h_done ?_
      refine WC2.keep (env' := [(2, .pointer (some ⟨g2_1, 0, none⟩)), (3, .int .i64 0), (5, .bool false), (7, .int .u64 (L : Int)), (9, .int .u64 u), (49, .bool true)]) ⟨rfl, rfl, rfl, rfl, rfl, rfl, trivial⟩ ?_
      refine d_then rfl (d_reg ?_)
      refine h_build (cs := #[.int .i64 0, .int .u64 0]) (by kernel_rfl) rfl rfl rfl ?_
      refine h_store 0 (v := .agg #[.int .i64 0, .int .u64 0]) (#[.int .i64 0, .int .u64 0]) tyWide.2 rfl rfl rfl rfl rfl rfl rfl rfl rfl rfl ?_
      refine h_q hflW rfl ?_
      refine h_done (d_ret (f_then_ret ?_))
      exact f_fin2 (.cell 0 (v := .agg #[.int .i64 0, .int .u64 0]) (reads_agg (cs := [.int .i64 0, .int .u64 0]) tyWide rfl) rfl rfl) (.tmp rfl) (fun w h => ⟨by rw [parseV_ok hc hp hz, ← hk.hM, resV_over (notFits hk.mul hf)]; rfl, h.up.below⟩) rfl

theorem parse_t (w : World) (l D : List UInt8) (hc : cutS l = (true, D)) (hlen : l.length ≤ 9223372036854775807) (hE : ErrIs w) : Calls Tryd.prog 19 #[.string (bs l)] w fun e w' => e = .returned (parseV l) ∧ Below w.heap.size w w' := by
  refine d_in (args := [.string (bs l)]) 72 Tryd.func19 rfl rfl rfl ?_
  refine d_reg ?_
  refine h_alloc zeWide rfl rfl ?_; intro g2_1
  refine h_q hflW rfl ?_
  refine h_done (d_reg ?_)
  refine h_q hflW rfl ?_
  refine h_call (ent_of Tryd.func45 (by kernel_rfl) rfl) (fun w hH => cutPrefix_any _ l D true hc hlen) rfl rfl rfl rfl ?_
  refine h_q hflW rfl ?_
  refine h_done (d_seq ?_)
  rcases zero_ways D with hp | ⟨hp, hz0⟩ | ⟨hp, hz0⟩
  · skip
    refine d_reg ?_
    refine h_q hflW rfl ?_
    refine h_call (ent_of Tryd.func46 (by kernel_rfl) rfl) (fun w hH => plainE _ D false (Nat.le_trans (cut_len hc) hlen) (by simp [hp])) rfl rfl rfl rfl ?_
    refine h_q hflW rfl ?_
    refine h_done (d_then rfl (d_reg ?_))
    refine h_build (cs := #[.int .i64 0, .int .u64 0]) (by kernel_rfl) rfl rfl rfl ?_
    refine h_store 0 (v := .agg #[.int .i64 0, .int .u64 0]) (#[.int .i64 0, .int .u64 0]) tyWide.2 rfl rfl rfl rfl rfl rfl rfl rfl rfl rfl ?_
    refine h_q hflW rfl ?_
    refine h_done (d_ret (f_then_ret ?_))
    exact f_fin2 (.cell 0 (v := .agg #[.int .i64 0, .int .u64 0]) (reads_agg (cs := [.int .i64 0, .int .u64 0]) tyWide rfl) rfl rfl) (.tmp rfl) (fun w h => ⟨by rw [parseV_no hc (fun h => hp h.1)]; rfl, h.up.below⟩) rfl
  · skip
    refine d_reg ?_
    refine h_q hflW rfl ?_
    refine h_call (ent_of Tryd.func46 (by kernel_rfl) rfl) (fun w hH => plainE _ D true (Nat.le_trans (cut_len hc) hlen) (by simp [hp])) rfl rfl rfl rfl ?_
    refine h_q hflW rfl ?_
    refine h_same (beq_iff_eq.2 hz0) rfl rfl rfl rfl ?_
    refine h_q hflW rfl ?_
    refine h_done (d_then rfl (d_reg ?_))
    refine h_build (cs := #[.int .i64 0, .int .u64 0]) (by kernel_rfl) rfl rfl rfl ?_
    refine h_store 0 (v := .agg #[.int .i64 0, .int .u64 0]) (#[.int .i64 0, .int .u64 0]) tyWide.2 rfl rfl rfl rfl rfl rfl rfl rfl rfl rfl ?_
    refine h_q hflW rfl ?_
    refine h_done (d_ret (f_then_ret ?_))
    exact f_fin2 (.cell 0 (v := .agg #[.int .i64 0, .int .u64 0]) (reads_agg (cs := [.int .i64 0, .int .u64 0]) tyWide rfl) rfl rfl) (.tmp rfl) (fun w h => ⟨by rw [parseV_no hc (fun h => h.2 ⟨rfl, hz0⟩)]; rfl, h.up.below⟩) rfl
  · skip
    have hz : ¬ (true = true ∧ D = [48]) := by simp [hz0]
    refine d_reg ?_
    refine h_q hflW rfl ?_
    refine h_call (ent_of Tryd.func46 (by kernel_rfl) rfl) (fun w hH => plainE _ D true (Nat.le_trans (cut_len hc) hlen) (by simp [hp])) rfl rfl rfl rfl ?_
    refine h_q hflW rfl ?_
    refine h_same (beq_false_of_ne hz0) rfl rfl rfl rfl ?_
    refine h_q hflW rfl ?_
    refine h_done (d_else rfl (d_skip (f_to ?_)))
    obtain ⟨k, H, L, M, hk⟩ := cut19 hp
    have hkl := hk.k_eq
    have hDl := cut_len hc
    refine d_reg ?_
    refine h_q hflW rfl ?_
    refine h_builtin (v := .int .i64 (D.length : Int)) (fun w cs => run_len_bs Tryd.underlying9 _ _ w cs) rfl rfl rfl ?_
    refine h_ar (z' := (D.length : Int) - 19) (IntWalk.i64_in _ (by omega)) rfl rfl rfl rfl rfl ?_
    refine h_builtin (v := .int .i64 (k : Int)) (fun w cs => run_max2 (by split <;> omega) _ _ w cs) rfl rfl rfl ?_
    refine h_q hflW rfl ?_
    refine h_done (d_reg ?_)
    refine h_q hflW rfl ?_
    refine h_cut (i := k) (j := D.length) (r := D.drop k) Tryd.underlying9 (by simp) (by omega) (Nat.le_refl _) rfl rfl rfl ⟨_, rfl⟩ rfl ?_
    refine h_call (ent_of Tryd.func47 (by kernel_rfl) rfl) (fun w hH => (hk.hL ▸ word_fits _ (D.drop k) hk.dd (by have := hk.ld; omega) (by rw [← hk.hL]; have := hk.low; omega))) rfl rfl rfl rfl ?_
    refine h_q hflW rfl ?_
    refine h_done ?_
    by_cases hf : H ≤ 18446744073709551615
    · skip
      obtain ⟨ra, rb, re, hr⟩ := resV_form (if true then -(M : Int) else (M : Int))
      refine d_reg ?_
      refine h_q hflW rfl ?_
      refine h_cut (i := 0) (j := k) (r := D.take k) Tryd.underlying9 rfl (by omega) (by omega) rfl rfl rfl rfl ⟨_, rfl⟩ ?_
      refine h_call (ent_of Tryd.func47 (by kernel_rfl) rfl) (fun w hH => (hk.hH ▸ word_fits _ (D.take k) hk.dt (high_len hp hk hf) (by rw [← hk.hH]; exact hf))) rfl rfl rfl rfl ?_
      refine h_q hflW rfl ?_
      refine h_done (d_seq (d_reg ?_))
      refine h_q hflW rfl ?_
      refine h_done ?_
      refine WC2.keep (env' := [(2, .pointer (some ⟨g2_1, 0, none⟩)), (3, .int .i64 0), (5, .bool true), (7, .int .u64 (L : Int)), (9, .int .u64 (H : Int)), (49, .bool false)]) ⟨rfl, rfl, rfl, rfl, rfl, rfl, trivial⟩ ?_
      refine d_else rfl (d_skip (f_to (d_reg ?_)))
      refine h_q hflW rfl ?_
      refine h_call (ent_of Tryd.func49 (by kernel_rfl) rfl) (fun w hH => tenPw _) rfl rfl rfl rfl ?_
      refine h_call (ent_of Tryd.func48 (by kernel_rfl) rfl) (fun w hH => mulPw _ H hf) rfl rfl rfl rfl ?_
      refine h_q hflW rfl ?_
      refine h_done (d_reg ?_)
      refine h_q hflW rfl ?_
      refine h_val rfl (.tuple #[.int .u64 ((M : Int) % 18446744073709551616), .int .u64 (((H : Int) * 10000000000000000000 % 18446744073709551616 + L) / 18446744073709551616)]) (fun b w hb hH => by exact exec_ext (addPw H L M hk.mul hk.low) rfl rfl rfl hb) ?_
      refine h_q hflW rfl ?_
      refine h_done (d_reg ?_)
      refine h_q hflW rfl ?_
      refine h_ar (z' := (M : Int) / 18446744073709551616) (by rw [IntWalk.u64_in _ (by have := hk.mul; have := hk.low; omega)]; have := hk.mul; omega) rfl rfl rfl rfl rfl ?_
      refine h_q hflW rfl ?_
      refine h_build (cs := #[.int .u64 ((M : Int) / 18446744073709551616), .int .u64 ((M : Int) % 18446744073709551616)]) (by kernel_rfl) rfl rfl rfl ?_
      refine h_q hflW rfl ?_
      refine h_call (ent_of Tryd.func43 (by kernel_rfl) rfl) (fun w hH => (hr ▸ signPw _ H L M true hk.mul hk.low hf)) rfl rfl rfl rfl ?_
      refine h_q hflW rfl ?_
      refine h_store 0 (v := .agg #[.int .i64 ra, .int .u64 rb]) (#[.int .i64 ra, .int .u64 rb]) tyWide.2 rfl rfl rfl rfl rfl rfl rfl rfl rfl rfl ?_
      refine h_q hflW rfl ?_
      refine h_done (d_ret ?_)
      exact f_fin2 (.cell 0 (v := .agg #[.int .i64 ra, .int .u64 rb]) (reads_agg (cs := [.int .i64 ra, .int .u64 rb]) tyWide rfl) rfl rfl) (.tmp rfl) (fun w h => ⟨by rw [parseV_ok hc hp hz, ← hk.hM]; exact congrArg _ hr.symm, h.up.below⟩) rfl
    · skip
      refine d_reg ?_
      refine h_q hflW rfl ?_
      refine h_cut (i := 0) (j := k) (r := D.take k) Tryd.underlying9 rfl (by omega) (by omega) rfl rfl rfl rfl ⟨_, rfl⟩ ?_
      refine h_callx (ent_of Tryd.func47 (by kernel_rfl) rfl) (X := fun v => ∃ u : Int, v = .tuple #[.int .u64 u, .bool false]) (fun w hH => word_no _ (D.take k) hk.dt (by rw [← hk.hH]; exact hf) (hE.up hH.up.below)) rfl rfl rfl rfl ?_; rintro _ ⟨u, rfl⟩
      refine h_q hflW rfl ?_
      refine h_done (d_seq (d_reg ?_))
      refine h_q hflW rfl ?_
      refine h_done ?_
      refine WC2.keep (env' := [(2, .pointer (some ⟨g2_1, 0, none⟩)), (3, .int .i64 0), (5, .bool true), (7, .int .u64 (L : Int)), (9, .int .u64 u), (49, .bool true)]) ⟨rfl, rfl, rfl, rfl, rfl, rfl, trivial⟩ ?_
      refine d_then rfl (d_reg ?_)
      refine h_build (cs := #[.int .i64 0, .int .u64 0]) (by kernel_rfl) rfl rfl rfl ?_
      refine h_store 0 (v := .agg #[.int .i64 0, .int .u64 0]) (#[.int .i64 0, .int .u64 0]) tyWide.2 rfl rfl rfl rfl rfl rfl rfl rfl rfl rfl ?_
      refine h_q hflW rfl ?_
      refine h_done (d_ret (f_then_ret ?_))
      exact f_fin2 (.cell 0 (v := .agg #[.int .i64 0, .int .u64 0]) (reads_agg (cs := [.int .i64 0, .int .u64 0]) tyWide rfl) rfl rfl) (.tmp rfl) (fun w h => ⟨by rw [parseV_ok hc hp hz, ← hk.hM, resV_over (notFits hk.mul hf)]; rfl, h.up.below⟩) rfl

theorem parseW_any (w : World) (l : List UInt8) (hlen : l.length ≤ 9223372036854775807) (hE : ErrIs w) : Calls Tryd.prog 19 #[.string (bs l)] w fun e w' => e = .returned (parseV l) ∧ Below w.heap.size w w' := by
  rcases hc : cutS l with ⟨m, D⟩
  cases m with
  | true => exact parse_t w l D hc hlen hE
  | false => exact parse_f w l D hc hlen hE
end Go.Proofs.YtfalllekhcocgaaDoor

namespace Go.Proofs.YtfalllekhcocgaaDoor
open Go.RowKit Go.Shelf

def renSmall : Ren := ⟨fun x => if x = 283 then 98 else x,
  fun x => if x = 3 then 3 else if x = 4 then 4 else if x = 9 then 9 else x,
  fun x => x⟩
theorem laysSmall : Lays.n283 Tryd.prog renSmall := {
  mixed := by kernel_rfl
  f283 := by kernel_rfl
  t3 := Tryd.underlying3
  a3 := Tryd.isAgg3
  z3 := Tryd.sizeOf3
  v3 := Tryd.zeroValue3
  t4 := Tryd.underlying4
  a4 := Tryd.isAgg4
  z4 := Tryd.sizeOf4
  v4 := Tryd.zeroValue4
  t9 := Tryd.underlying9
  a9 := Tryd.isAgg9
  z9 := Tryd.sizeOf9
  v9 := Tryd.zeroValue9 }
def renRep : Ren := ⟨fun x => if x = 99 then 81 else if x = 105 then 53 else if x = 165 then 82 else if x = 166 then 83 else if x = 169 then 85 else if x = 170 then 84 else if x = 206 then 94 else if x = 212 then 80 else if x = 240 then 103 else if x = 241 then 104 else if x = 263 then 102 else if x = 264 then 48 else if x = 276 then 115 else if x = 277 then 116 else x,
  fun x => if x = 0 then 0 else if x = 3 then 3 else if x = 4 then 4 else if x = 5 then 5 else if x = 9 then 9 else if x = 20 then 20 else if x = 37 then 46 else if x = 46 then 59 else if x = 51 then 128 else if x = 53 then 22 else if x = 70 then 106 else if x = 72 then 108 else if x = 75 then 99 else if x = 80 then 112 else if x = 76 then 109 else if x = 109 then 103 else if x = 127 then 131 else if x = 146 then 129 else if x = 148 then 66 else if x = 164 then 143 else x,
  fun x => x⟩
theorem laysRep : Lays.n105 Tryd.prog renRep := {
  mixed := by kernel_rfl
  f99 := by kernel_rfl
  f105 := by kernel_rfl
  f165 := by kernel_rfl
  f166 := by kernel_rfl
  f169 := by kernel_rfl
  f170 := by kernel_rfl
  f206 := by kernel_rfl
  f212 := by kernel_rfl
  f240 := by kernel_rfl
  f241 := by kernel_rfl
  f263 := by kernel_rfl
  f264 := by kernel_rfl
  f276 := by kernel_rfl
  f277 := by kernel_rfl
  t0 := Tryd.underlying0
  a0 := Tryd.isAgg0
  z0 := Tryd.sizeOf0
  v0 := Tryd.zeroValue0
  t3 := Tryd.underlying3
  a3 := Tryd.isAgg3
  z3 := Tryd.sizeOf3
  v3 := Tryd.zeroValue3
  t4 := Tryd.underlying4
  a4 := Tryd.isAgg4
  z4 := Tryd.sizeOf4
  v4 := Tryd.zeroValue4
  t5 := Tryd.underlying5
  a5 := Tryd.isAgg5
  z5 := Tryd.sizeOf5
  v5 := Tryd.zeroValue5
  t9 := Tryd.underlying9
  a9 := Tryd.isAgg9
  z9 := Tryd.sizeOf9
  v9 := Tryd.zeroValue9
  t20 := Tryd.underlying20
  a20 := Tryd.isAgg20
  z20 := Tryd.sizeOf20
  v20 := Tryd.zeroValue20
  t37 := Tryd.underlying46
  a37 := Tryd.isAgg46
  z37 := Tryd.sizeOf46
  v37 := Tryd.zeroValue46
  t46 := Tryd.underlying59
  a46 := Tryd.isAgg59
  z46 := Tryd.sizeOf59
  v46 := Tryd.zeroValue59
  t51 := Tryd.underlying128
  a51 := Tryd.isAgg128
  z51 := Tryd.sizeOf128
  v51 := Tryd.zeroValue128
  t53 := Tryd.underlying22
  a53 := Tryd.isAgg22
  z53 := Tryd.sizeOf22
  v53 := Tryd.zeroValue22
  t70 := Tryd.underlying106
  a70 := Tryd.isAgg106
  z70 := Tryd.sizeOf106
  v70 := Tryd.zeroValue106
  t72 := Tryd.underlying108
  a72 := Tryd.isAgg108
  z72 := Tryd.sizeOf108
  v72 := Tryd.zeroValue108
  t75 := Tryd.underlying99
  a75 := Tryd.isAgg99
  z75 := Tryd.sizeOf99
  v75 := Tryd.zeroValue99
  t76 := Tryd.underlying109
  a76 := Tryd.isAgg109
  z76 := Tryd.sizeOf109
  v76 := Tryd.zeroValue109
  t109 := Tryd.underlying103
  a109 := Tryd.isAgg103
  z109 := Tryd.sizeOf103
  v109 := Tryd.zeroValue103
  t127 := Tryd.underlying131
  a127 := Tryd.isAgg131
  z127 := Tryd.sizeOf131
  v127 := Tryd.zeroValue131
  t146 := Tryd.underlying129
  a146 := Tryd.isAgg129
  z146 := Tryd.sizeOf129
  v146 := Tryd.zeroValue129
  t148 := Tryd.underlying66
  a148 := Tryd.isAgg66
  z148 := Tryd.sizeOf66
  v148 := Tryd.zeroValue66
  t164 := Tryd.underlying143
  a164 := Tryd.isAgg143
  z164 := Tryd.sizeOf143
  v164 := Tryd.zeroValue143 }
theorem extraRep : Builder.Extra Tryd.prog renRep := {
  sizeBuilder := by kernel_rfl
  liesBuilder := by kernel_rfl
  t5 := Tryd.underlying5
  a5 := Tryd.isAgg5
  z5 := Tryd.sizeOf5
  v5 := Tryd.zeroValue5
  infoByte := by kernel_rfl
  cellsByte := by kernel_rfl
  sizeByte := by kernel_rfl
  neB5 := by decide }
theorem small_any (w : World) (i : Nat) (h : i < 100) : Calls Tryd.prog 98 #[.int .i64 (i : Int)] w fun e w' => e = .returned (.string ⟨(Lib.decDigits i).toArray⟩) ∧ Below w.heap.size w w' := as_same' (Any.internal_strconv_small laysSmall i h w)
theorem repeat_any (w : World) (s : ByteArray) (c : Nat) (hc : c ≤ 9223372036854775807) (hlen : s.size * c ≤ 140737488355328) : Calls Tryd.prog 53 #[.string s, .int .i64 (c : Int)] w fun e w' => e = .returned (.string ⟨(Lib.repeatL s.data.toList c).toArray⟩) ∧ Below w.heap.size w w' := Any.strings_Repeat laysRep extraRep s c w hc hlen
end Go.Proofs.YtfalllekhcocgaaDoor
