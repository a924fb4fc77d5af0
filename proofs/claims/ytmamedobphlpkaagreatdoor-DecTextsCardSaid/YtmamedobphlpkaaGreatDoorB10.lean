/-
  WordW · ParseW · TextP · RefI · RefJ · RefK · RefL · RefM · RefP · RefQ · RTextW
-/
import Derived.Test.YtmamedobphlpkaaGreatDoorA02
import Derived.Test.YtmamedobphlpkaaGreatDoorB03
import Derived.Test.YtmamedobphlpkaaGreatDoorB04
import Derived.Test.YtmamedobphlpkaaGreatDoorB08
import Derived.Test.YtmamedobphlpkaaGreatDoorB09
import Derived.Shelf.Pu.ParseUintPublic10
import Derived.Shelf.Strings.Prefix
set_option linter.unusedSimpArgs false
set_option linter.unusedVariables false

namespace Go.Proofs.YtmamedobphlpkaaGreatDoor
open Go.RowKit Go.Shelf

def renPu : Ren := ⟨fun x => if x = 14 then 96 else if x = 16 then 112 else if x = 17 then 113 else if x = 19 then 126 else if x = 20 then 127 else if x = 21 then 128 else if x = 22 then 129 else if x = 23 then 130 else if x = 24 then 131 else if x = 25 then 136 else if x = 26 then 137 else if x = 27 then 138 else if x = 28 then 141 else if x = 29 then 142 else if x = 30 then 116 else if x = 31 then 117 else if x = 32 then 118 else if x = 33 then 119 else if x = 34 then 132 else if x = 35 then 115 else if x = 36 then 133 else if x = 37 then 134 else if x = 38 then 135 else if x = 39 then 139 else if x = 40 then 140 else x,
  fun x => if x = 0 then 0 else if x = 2 then 2 else if x = 3 then 3 else if x = 4 then 4 else if x = 5 then 5 else if x = 9 then 9 else if x = 20 then 20 else if x = 21 then 21 else if x = 22 then 22 else if x = 24 then 119 else if x = 67 then 123 else if x = 25 then 144 else if x = 34 then 173 else if x = 36 then 82 else if x = 37 then 43 else if x = 39 then 175 else if x = 44 then 184 else if x = 47 then 151 else if x = 48 then 187 else if x = 50 then 189 else if x = 52 then 160 else if x = 55 then 162 else if x = 59 then 179 else if x = 60 then 148 else if x = 61 then 180 else if x = 65 then 190 else if x = 66 then 191 else x,
  fun x => if x = 0 then 6 else if x = 1 then 7 else if x = 2 then 5 else if x = 3 then 8 else if x = 4 then 9 else x⟩
theorem laysPu : LaysPu.n14 Tryz.prog renPu := {
  mixed := by kernel_rfl
  f14 := by kernel_rfl
  f16 := by kernel_rfl
  f17 := by kernel_rfl
  f19 := by kernel_rfl
  f20 := by kernel_rfl
  f21 := by kernel_rfl
  f22 := by kernel_rfl
  f23 := by kernel_rfl
  f24 := by kernel_rfl
  f25 := by kernel_rfl
  f26 := by kernel_rfl
  f27 := by kernel_rfl
  f28 := by kernel_rfl
  f29 := by kernel_rfl
  f30 := by kernel_rfl
  f31 := by kernel_rfl
  f32 := by kernel_rfl
  f33 := by kernel_rfl
  f34 := by kernel_rfl
  f35 := by kernel_rfl
  f36 := by kernel_rfl
  f37 := by kernel_rfl
  f38 := by kernel_rfl
  f39 := by kernel_rfl
  f40 := by kernel_rfl
  t0 := Tryz.underlying0
  a0 := Tryz.isAgg0
  z0 := Tryz.sizeOf0
  v0 := Tryz.zeroValue0
  i0 := by kernel_rfl
  t2 := Tryz.underlying2
  a2 := Tryz.isAgg2
  z2 := Tryz.sizeOf2
  v2 := Tryz.zeroValue2
  i2 := by kernel_rfl
  t3 := Tryz.underlying3
  a3 := Tryz.isAgg3
  z3 := Tryz.sizeOf3
  v3 := Tryz.zeroValue3
  i3 := by kernel_rfl
  t4 := Tryz.underlying4
  a4 := Tryz.isAgg4
  z4 := Tryz.sizeOf4
  v4 := Tryz.zeroValue4
  i4 := by kernel_rfl
  t5 := Tryz.underlying5
  a5 := Tryz.isAgg5
  z5 := Tryz.sizeOf5
  v5 := Tryz.zeroValue5
  i5 := by kernel_rfl
  t9 := Tryz.underlying9
  a9 := Tryz.isAgg9
  z9 := Tryz.sizeOf9
  v9 := Tryz.zeroValue9
  i9 := by kernel_rfl
  t20 := Tryz.underlying20
  a20 := Tryz.isAgg20
  z20 := Tryz.sizeOf20
  v20 := Tryz.zeroValue20
  i20 := by kernel_rfl
  t21 := Tryz.underlying21
  a21 := Tryz.isAgg21
  z21 := Tryz.sizeOf21
  v21 := Tryz.zeroValue21
  i21 := by kernel_rfl
  t22 := Tryz.underlying22
  a22 := Tryz.isAgg22
  z22 := Tryz.sizeOf22
  v22 := Tryz.zeroValue22
  i22 := by kernel_rfl
  t24 := Tryz.underlying119
  a24 := Tryz.isAgg119
  z24 := Tryz.sizeOf119
  v24 := Tryz.zeroValue119
  i24 := by kernel_rfl
  t25 := Tryz.underlying144
  a25 := Tryz.isAgg144
  z25 := Tryz.sizeOf144
  v25 := Tryz.zeroValue144
  i25 := by kernel_rfl
  t34 := Tryz.underlying173
  a34 := Tryz.isAgg173
  z34 := Tryz.sizeOf173
  v34 := Tryz.zeroValue173
  i34 := by kernel_rfl
  c34 := by kernel_rfl
  t36 := Tryz.underlying82
  a36 := Tryz.isAgg82
  z36 := Tryz.sizeOf82
  v36 := Tryz.zeroValue82
  i36 := by kernel_rfl
  t37 := Tryz.underlying43
  a37 := Tryz.isAgg43
  z37 := Tryz.sizeOf43
  v37 := Tryz.zeroValue43
  i37 := by kernel_rfl
  t39 := Tryz.underlying175
  a39 := Tryz.isAgg175
  z39 := Tryz.sizeOf175
  v39 := Tryz.zeroValue175
  i39 := by kernel_rfl
  t44 := Tryz.underlying184
  a44 := Tryz.isAgg184
  z44 := Tryz.sizeOf184
  v44 := Tryz.zeroValue184
  i44 := by kernel_rfl
  t47 := Tryz.underlying151
  a47 := Tryz.isAgg151
  z47 := Tryz.sizeOf151
  v47 := Tryz.zeroValue151
  i47 := by kernel_rfl
  t48 := Tryz.underlying187
  a48 := Tryz.isAgg187
  z48 := Tryz.sizeOf187
  v48 := Tryz.zeroValue187
  i48 := by kernel_rfl
  t50 := Tryz.underlying189
  a50 := Tryz.isAgg189
  z50 := Tryz.sizeOf189
  v50 := Tryz.zeroValue189
  i50 := by kernel_rfl
  t52 := Tryz.underlying160
  a52 := Tryz.isAgg160
  z52 := Tryz.sizeOf160
  v52 := Tryz.zeroValue160
  i52 := by kernel_rfl
  t55 := Tryz.underlying162
  a55 := Tryz.isAgg162
  z55 := Tryz.sizeOf162
  v55 := Tryz.zeroValue162
  i55 := by kernel_rfl
  t59 := Tryz.underlying179
  a59 := Tryz.isAgg179
  z59 := Tryz.sizeOf179
  v59 := Tryz.zeroValue179
  i59 := by kernel_rfl
  t60 := Tryz.underlying148
  a60 := Tryz.isAgg148
  z60 := Tryz.sizeOf148
  v60 := Tryz.zeroValue148
  i60 := by kernel_rfl
  t61 := Tryz.underlying180
  a61 := Tryz.isAgg180
  z61 := Tryz.sizeOf180
  t65 := Tryz.underlying190
  a65 := Tryz.isAgg190
  z65 := Tryz.sizeOf190
  v65 := Tryz.zeroValue190
  i65 := by kernel_rfl
  t66 := Tryz.underlying191
  a66 := Tryz.isAgg191
  z66 := Tryz.sizeOf191
  v66 := Tryz.zeroValue191
  i66 := by kernel_rfl
  t67 := Tryz.underlying123
  a67 := Tryz.isAgg123
  z67 := Tryz.sizeOf123
  v67 := Tryz.zeroValue123
  i67 := by kernel_rfl
  g0 := by kernel_rfl
  m0 := by kernel_rfl
  g1 := by kernel_rfl
  m1 := by kernel_rfl
  g2 := by kernel_rfl
  m2 := by kernel_rfl
  g3 := by kernel_rfl
  m3 := by kernel_rfl
  g4 := by kernel_rfl
  m4 := by kernel_rfl }
def renHas : Ren := ⟨fun x => if x = 206 then 91 else x,
  fun x => if x = 3 then 3 else if x = 4 then 4 else if x = 9 then 9 else x,
  fun x => x⟩
theorem laysHas : Lays.n206 Tryz.prog renHas := {
  mixed := by kernel_rfl
  f206 := by kernel_rfl
  t3 := Tryz.underlying3
  a3 := Tryz.isAgg3
  z3 := Tryz.sizeOf3
  v3 := Tryz.zeroValue3
  t4 := Tryz.underlying4
  a4 := Tryz.isAgg4
  z4 := Tryz.sizeOf4
  v4 := Tryz.zeroValue4
  t9 := Tryz.underlying9
  a9 := Tryz.isAgg9
  z9 := Tryz.sizeOf9
  v9 := Tryz.zeroValue9 }

theorem hasP (w : World) (l : List UInt8) (b : Bool) (h : Lib.hasPrefix l [45] = b) : Calls Tryz.prog 91 #[.string (bs l), .string (bs [45])] w fun e w' => e = .returned (.bool b) ∧ Below w.heap.size w w' := by
  have := as_same' (Any.stringslite_HasPrefix laysHas (bs l) (bs [45]) w)
  rw [bs_data, bs_data, h] at this
  exact this
/-- a minus ahead, and what is behind it -/
def cutS (l : List UInt8) : Bool × List UInt8 := match l with
  | 45 :: r => (true, r)
  | l => (false, l)
theorem cut_ways (l : List UInt8) : (∃ r, l = 45 :: r ∧ cutS l = (true, r) ∧ Lib.hasPrefix l [45] = true) ∨ (cutS l = (false, l) ∧ Lib.hasPrefix l [45] = false) := by
  cases l with
  | nil => exact .inr ⟨rfl, rfl⟩
  | cons c r =>
    by_cases h : c = 45
    · subst h
      exact .inl ⟨r, rfl, rfl, by simp [Lib.hasPrefix, List.isPrefixOf]⟩
    · refine .inr ⟨?_, ?_⟩
      · unfold cutS
        split
        · rename_i e; exact absurd (List.cons.inj e).1 h
        · rfl
      · have : ((45 : UInt8) == c) = false := by simpa using fun e => h e.symm
        simp [Lib.hasPrefix, List.isPrefixOf, this]

theorem cutp_t (w : World) (r : List UInt8) (h : Lib.hasPrefix (45 :: r) [45] = true) (hlen : (45 :: r).length ≤ 9223372036854775807) : Calls Tryz.prog 58 #[.string (bs (45 :: r)), .string (bs ([45]))] w fun e w' => e = .returned (.tuple #[.string (bs r), .bool true]) ∧ Below w.heap.size w w' := by
  refine d_in (args := [.string (bs (45 :: r)), .string (bs ([45]))]) 15 Tryz.func58 rfl rfl rfl ?_
  refine d_reg ?_
  refine h_q hflW rfl ?_
  refine h_done (d_seq (d_reg ?_))
  refine h_q hflW rfl ?_
  refine h_call (ent_of Tryz.func91 (by kernel_rfl) rfl) (fun w hH => hasP _ (45 :: r) true h) rfl rfl rfl rfl ?_
  refine h_q hflW rfl ?_
  refine h_done (d_else rfl (d_skip (f_to (d_reg ?_))))
  refine h_q hflW rfl ?_
  refine h_builtin (v := .int .i64 1) (fun w cs => (run_len_bs Tryz.underlying9 _ _ w cs).trans (by rw [show (([45] : List UInt8).length : Int) = 1 from rfl])) rfl rfl rfl ?_
  refine h_cut (i := 1) (j := (45 :: r).length) (r := r) Tryz.underlying9 (by simp) (by simp) (by omega) rfl rfl rfl ⟨_, rfl⟩ rfl ?_
  refine h_q hflW rfl ?_
  refine h_done (d_ret ?_)
  exact f_fin2 (.tmp rfl) (.tmp rfl) (fun w h => ⟨rfl, h.up.below⟩) rfl

theorem cutp_f (w : World) (l : List UInt8) (h : Lib.hasPrefix l [45] = false) : Calls Tryz.prog 58 #[.string (bs l), .string (bs ([45]))] w fun e w' => e = .returned (.tuple #[.string (bs l), .bool false]) ∧ Below w.heap.size w w' := by
  refine d_in (args := [.string (bs l), .string (bs ([45]))]) 15 Tryz.func58 rfl rfl rfl ?_
  refine d_reg ?_
  refine h_q hflW rfl ?_
  refine h_done (d_seq (d_reg ?_))
  refine h_q hflW rfl ?_
  refine h_call (ent_of Tryz.func91 (by kernel_rfl) rfl) (fun w hH => hasP _ l false h) rfl rfl rfl rfl ?_
  refine h_q hflW rfl ?_
  refine h_done (d_then rfl (d_reg ?_))
  refine h_q hflW rfl ?_
  refine h_done (d_ret (f_then_ret ?_))
  exact f_fin2 (.tmp rfl) (.tmp rfl) (fun w h => ⟨rfl, h.up.below⟩) rfl

theorem cutp_any (w : World) (l : List UInt8) (hlen : l.length ≤ 9223372036854775807) : Calls Tryz.prog 58 #[.string (bs l), .string (bs [45])] w fun e w' => e = .returned (.tuple #[.string (bs (cutS l).2), .bool (cutS l).1]) ∧ Below w.heap.size w w' := by
  rcases cut_ways l with ⟨r, rfl, h, h'⟩ | ⟨h, h'⟩
  · rw [h]; exact cutp_t w r h' hlen
  · rw [h]; exact cutp_f w l h'

theorem cutE (w : World) (l D : List UInt8) (m : Bool) (hc : cutS l = (m, D)) (hlen : l.length ≤ 9223372036854775807) : Calls Tryz.prog 58 #[.string (bs l), .string (bs [45])] w fun e w' => e = .returned (.tuple #[.string (bs D), .bool m]) ∧ Below w.heap.size w w' := by
  have := cutp_any w l hlen
  rw [hc] at this
  exact this

theorem cutPrefix_any (w : World) (l : List UInt8) (D : List UInt8) (m : Bool) (hc : cutS l = (m, D)) (hlen : l.length ≤ 9223372036854775807) : Calls Tryz.prog 31 #[.string (bs l), .string (bs ([45]))] w fun e w' => e = .returned (.tuple #[.string (bs D), .bool m]) ∧ Below w.heap.size w w' := by
  refine d_in (args := [.string (bs l), .string (bs ([45]))]) 11 Tryz.func31 rfl rfl rfl ?_
  refine d_reg ?_
  refine h_q hflW rfl ?_
  refine h_done (d_reg ?_)
  refine h_q hflW rfl ?_
  refine h_call (ent_of Tryz.func58 (by kernel_rfl) rfl) (fun w hH => cutE _ l D m hc hlen) rfl rfl rfl rfl ?_
  refine h_q hflW rfl ?_
  refine h_done (d_ret ?_)
  exact f_fin2 (.tmp rfl) (.tmp rfl) (fun w h => ⟨rfl, h.up.below⟩) rfl

theorem eqNil : EqNil Tryz.prog 119 .nilIface true := fun x w => by
  have t := Tryz.underlying119
  go_simp
theorem eqIface (T : TypeId) (p : Value) : EqNil Tryz.prog 119 (.iface T p) false := fun x w => by
  have t := Tryz.underlying119
  go_simp
/-- the error for numbers that are too great is laid -/
def ErrIs (w : World) : Prop := 7 < w.heap.size ∧ ∃ ev, w.cell? ⟨7, 0, none⟩ = some ev ∧ (ev = .nilIface ∨ ∃ te pe, ev = .iface te pe)
theorem ErrIs.up {w W : World} (h : ErrIs w) (hb : Below w.heap.size w W) : ErrIs W := by
  obtain ⟨h1, ev, h2, h3⟩ := h
  exact ⟨Nat.lt_of_lt_of_le h1 hb.size, ev, (hb.cell (show (⟨7, 0, none⟩ : Addr).block < w.heap.size from h1)).trans h2, h3⟩
theorem pu_ok (w : World) (l : List UInt8) (ha : allD l) (hne : l ≠ []) (hl : l.length ≤ 9223372036854775806) (hv : nv l ≤ 18446744073709551615) : Calls Tryz.prog 96 #[.string (bs l), .int .i64 10, .int .i64 64] w fun e w' => e = .returned (.tuple #[.int .u64 (nv l : Int), .nilIface]) ∧ Below w.heap.size w w' := by
  have := Any.strconv_ParseUint_10_at64_ok laysPu (bs l) (by rw [bs_size]; exact hl) (nv l) (by rw [bs_data, parseB_digits ha hne, if_pos hv]) w
  refine this.mono fun e w' ⟨he, hw⟩ => ⟨he, ?_⟩
  rcases hw with rfl | rfl
  · exact Below.refl _ _
  · exact Lib.bytesWorld_below _ _ _
theorem pu_range (w : World) (l : List UInt8) (ha : allD l) (hne : l ≠ []) (hl : l.length ≤ 281474976710656) (hv : ¬ nv l ≤ 18446744073709551615) (hE : ErrIs w) : Calls Tryz.prog 96 #[.string (bs l), .int .i64 10, .int .i64 64] w fun e w' => (∃ v, e = .returned v ∧ ∃ N : Nat, v = .tuple #[.int .u64 18446744073709551615, .iface 175 (.pointer (some ⟨N, 0, none⟩))]) ∧ Below w.heap.size w w' := by
  obtain ⟨_, ev, h2, h3⟩ := hE
  have := Any.strconv_ParseUint_10_at64_range laysPu (bs l) (by rw [bs_size]; exact hl) (by rw [bs_data, parseB_digits ha hne, if_neg hv]) ev w h2 h3
  exact this.mono fun e w' ⟨N, he, _, _, hb⟩ => ⟨⟨_, he, N, rfl⟩, hb⟩

theorem word_nil (w : World) (l : List UInt8) (hl : l = []) : Calls Tryz.prog 65 #[.string (bs l)] w fun e w' => e = .returned (.tuple #[.int .u64 (nv l : Int), .bool true]) ∧ Below w.heap.size w w' := by
  refine d_in (args := [.string (bs l)]) 19 Tryz.func65 rfl rfl rfl ?_
  refine d_reg ?_
  refine h_q hflW rfl ?_
  refine h_done (d_seq (d_reg ?_))
  refine h_q hflW rfl ?_
  refine h_same (beq_iff_eq.2 hl) rfl rfl rfl rfl ?_
  refine h_done (d_then rfl (d_reg ?_))
  refine h_q hflW rfl ?_
  refine h_done (d_ret (f_then_ret ?_))
  exact f_fin2 (.tmp rfl) (.tmp rfl) (fun w h => ⟨by rw [hl]; rfl, h.up.below⟩) rfl

theorem word_ok (w : World) (l : List UInt8) (hne : l ≠ []) (ha : allD l) (hl : l.length ≤ 20) (hv : nv l ≤ 18446744073709551615) : Calls Tryz.prog 65 #[.string (bs l)] w fun e w' => e = .returned (.tuple #[.int .u64 (nv l : Int), .bool true]) ∧ Below w.heap.size w w' := by
  refine d_in (args := [.string (bs l)]) 19 Tryz.func65 rfl rfl rfl ?_
  refine d_reg ?_
  refine h_q hflW rfl ?_
  refine h_done (d_seq (d_reg ?_))
  refine h_q hflW rfl ?_
  refine h_same (beq_false_of_ne hne) rfl rfl rfl rfl ?_
  refine h_done (d_else rfl (d_skip (f_to (d_seq (d_reg ?_)))))
  refine h_q hflW rfl ?_
  refine h_builtin (v := .int .i64 (l.length : Int)) (fun w cs => run_len_bs Tryz.underlying9 _ _ w cs) rfl rfl rfl ?_
  refine h_cmp (cmp_gtr_f (by omega)) rfl rfl rfl rfl ?_
  refine h_done (d_else rfl (d_skip (f_to (d_reg ?_))))
  refine h_q hflW rfl ?_
  refine h_call (ent_of Tryz.func96 (by kernel_rfl) rfl) (fun w hH => pu_ok _ l ha hne (by omega) hv) rfl rfl rfl rfl ?_
  refine h_q hflW rfl ?_
  refine h_done (d_seq ?_)
  refine d_par 5 0 [⟨.quiet, 0, fun _ => .int .u64 (nv l : Int), []⟩, ⟨.quiet, 0, fun _ => .nilIface, []⟩, ⟨.quiet, 0, fun _ => .bool true, [1]⟩, ⟨.quiet, 0, fun _ => .int .u64 (nv l : Int), [0]⟩, ⟨.quiet, 0, fun _ => .bool true, [2]⟩] [(4, .int .u64 (nv l : Int)), (5, .nilIface)] (by kernel_rfl) (by kernel_rfl) ⟨rfl, rfl, trivial⟩ ?_ ?_
  · skip
    refine o_cons (o_q hflW (fun _ _ => rfl) (fun _ _ => rfl)) ?_
    refine o_cons (o_q hflW (fun _ _ => rfl) (fun _ _ => rfl)) ?_
    refine o_cons (o_val (fun _ _ => rfl) (fun w hH σ g b W hU hb => by have e0 := hb.get 17 _ rfl; exact exec_eqnil eqNil rfl rfl hb)) ?_
    refine o_cons (o_q hflW (fun _ _ => rfl) (fun _ _ => rfl)) ?_
    refine o_cons (o_q hflW (fun _ _ => rfl) (fun _ _ => rfl)) ?_
    exact o_nil
  intro σ1 gs1
  refine WL2.keep (env' := [(2, .int .u64 (nv l : Int)), (3, .bool true)]) ⟨rfl, rfl, trivial⟩ ?_
  refine h_nil (f_to (d_ret ?_))
  exact f_fin2 (.tmp rfl) (.tmp rfl) (fun w h => ⟨rfl, h.up.below⟩) rfl

theorem word_long (w : World) (l : List UInt8) (hne : l ≠ []) (hl : 20 < l.length) : Calls Tryz.prog 65 #[.string (bs l)] w fun e w' => e = .returned (.tuple #[.int .u64 0, .bool false]) ∧ Below w.heap.size w w' := by
  refine d_in (args := [.string (bs l)]) 19 Tryz.func65 rfl rfl rfl ?_
  refine d_reg ?_
  refine h_q hflW rfl ?_
  refine h_done (d_seq (d_reg ?_))
  refine h_q hflW rfl ?_
  refine h_same (beq_false_of_ne hne) rfl rfl rfl rfl ?_
  refine h_done (d_else rfl (d_skip (f_to (d_seq (d_reg ?_)))))
  refine h_q hflW rfl ?_
  refine h_builtin (v := .int .i64 (l.length : Int)) (fun w cs => run_len_bs Tryz.underlying9 _ _ w cs) rfl rfl rfl ?_
  refine h_cmp (cmp_gtr_t (by omega)) rfl rfl rfl rfl ?_
  refine h_done (d_then rfl (d_reg ?_))
  refine h_q hflW rfl ?_
  refine h_done (d_ret (f_then_ret ?_))
  exact f_fin2 (.tmp rfl) (.tmp rfl) (fun w h => ⟨rfl, h.up.below⟩) rfl

theorem word_great (w : World) (l : List UInt8) (hne : l ≠ []) (ha : allD l) (hl : l.length ≤ 20) (hv : ¬ nv l ≤ 18446744073709551615) (hE : ErrIs w) : Calls Tryz.prog 65 #[.string (bs l)] w fun e w' => e = .returned (.tuple #[.int .u64 18446744073709551615, .bool false]) ∧ Below w.heap.size w w' := by
  refine d_in (args := [.string (bs l)]) 19 Tryz.func65 rfl rfl rfl ?_
  refine d_reg ?_
  refine h_q hflW rfl ?_
  refine h_done (d_seq (d_reg ?_))
  refine h_q hflW rfl ?_
  refine h_same (beq_false_of_ne hne) rfl rfl rfl rfl ?_
  refine h_done (d_else rfl (d_skip (f_to (d_seq (d_reg ?_)))))
  refine h_q hflW rfl ?_
  refine h_builtin (v := .int .i64 (l.length : Int)) (fun w cs => run_len_bs Tryz.underlying9 _ _ w cs) rfl rfl rfl ?_
  refine h_cmp (cmp_gtr_f (by omega)) rfl rfl rfl rfl ?_
  refine h_done (d_else rfl (d_skip (f_to (d_reg ?_))))
  refine h_q hflW rfl ?_
  refine h_callx (ent_of Tryz.func96 (by kernel_rfl) rfl) (X := fun v => ∃ N : Nat, v = .tuple #[.int .u64 18446744073709551615, .iface 175 (.pointer (some ⟨N, 0, none⟩))]) (fun w hH => pu_range _ l ha hne (by omega) hv (hE.up hH.up.below)) rfl rfl rfl rfl ?_; rintro _ ⟨N, rfl⟩
  refine h_q hflW rfl ?_
  refine h_done (d_seq ?_)
  refine d_par 5 0 [⟨.quiet, 0, fun _ => .int .u64 18446744073709551615, []⟩, ⟨.quiet, 0, fun _ => .iface 175 (.pointer (some ⟨N, 0, none⟩)), []⟩, ⟨.quiet, 0, fun _ => .bool false, [1]⟩, ⟨.quiet, 0, fun _ => .int .u64 18446744073709551615, [0]⟩, ⟨.quiet, 0, fun _ => .bool false, [2]⟩] [(4, .int .u64 18446744073709551615), (5, .iface 175 (.pointer (some ⟨N, 0, none⟩)))] (by kernel_rfl) (by kernel_rfl) ⟨rfl, rfl, trivial⟩ ?_ ?_
  · skip
    refine o_cons (o_q hflW (fun _ _ => rfl) (fun _ _ => rfl)) ?_
    refine o_cons (o_q hflW (fun _ _ => rfl) (fun _ _ => rfl)) ?_
    refine o_cons (o_val (fun _ _ => rfl) (fun w hH σ g b W hU hb => by have e0 := hb.get 17 _ rfl; exact exec_eqnil (eqIface _ _) rfl rfl hb)) ?_
    refine o_cons (o_q hflW (fun _ _ => rfl) (fun _ _ => rfl)) ?_
    refine o_cons (o_q hflW (fun _ _ => rfl) (fun _ _ => rfl)) ?_
    exact o_nil
  intro σ1 gs1
  refine WL2.keep (env' := [(2, .int .u64 18446744073709551615), (3, .bool false)]) ⟨rfl, rfl, trivial⟩ ?_
  refine h_nil (f_to (d_ret ?_))
  exact f_fin2 (.tmp rfl) (.tmp rfl) (fun w h => ⟨rfl, h.up.below⟩) rfl

theorem word_fits (w : World) (l : List UInt8) (ha : allD l) (hl : l.length ≤ 20) (hv : nv l ≤ 18446744073709551615) : Calls Tryz.prog 65 #[.string (bs l)] w fun e w' => e = .returned (.tuple #[.int .u64 (nv l : Int), .bool true]) ∧ Below w.heap.size w w' := by
  by_cases hne : l = []
  · exact word_nil w l hne
  · exact word_ok w l hne ha hl hv
theorem word_no (w : World) (l : List UInt8) (ha : allD l) (hv : ¬ nv l ≤ 18446744073709551615) (hE : ErrIs w) : Calls Tryz.prog 65 #[.string (bs l)] w fun e w' => (∃ v, e = .returned v ∧ ∃ u : Int, v = .tuple #[.int .u64 u, .bool false]) ∧ Below w.heap.size w w' := by
  have hne : l ≠ [] := by rintro rfl; exact hv (by decide)
  by_cases hl : l.length ≤ 20
  · exact (word_great w l hne ha hl hv hE).mono fun e w' ⟨he, hb⟩ => ⟨⟨_, he, _, rfl⟩, hb⟩
  · exact (word_long w l hne (by omega)).mono fun e w' ⟨he, hb⟩ => ⟨⟨_, he, _, rfl⟩, hb⟩
end Go.Proofs.YtmamedobphlpkaaGreatDoor

namespace Go.Proofs.YtmamedobphlpkaaGreatDoor
open Go.RowKit

/-- the number that a text is, or none -/
def parseV (l : List UInt8) : Value := if plainN (cutS l).2 ∧ ¬ ((cutS l).1 = true ∧ (cutS l).2 = [48]) then resV (if (cutS l).1 then -(nv (cutS l).2 : Int) else (nv (cutS l).2 : Int)) else .tuple #[WV 0, .int .i64 23]
theorem parseV_no {l D : List UInt8} {m : Bool} (hc : cutS l = (m, D)) (h : ¬ (plainN D ∧ ¬ (m = true ∧ D = [48]))) : parseV l = .tuple #[WV 0, .int .i64 23] := by unfold parseV; rw [hc, if_neg h]
theorem parseV_ok {l D : List UInt8} {m : Bool} (hc : cutS l = (m, D)) (h : plainN D) (h' : ¬ (m = true ∧ D = [48])) : parseV l = resV (if m then -(nv D : Int) else (nv D : Int)) := by unfold parseV; rw [hc, if_pos ⟨h, h'⟩]
theorem zero_ways (D : List UInt8) : ¬ plainN D ∨ (plainN D ∧ D = [48]) ∨ (plainN D ∧ D ≠ [48]) := by
  by_cases h : plainN D
  · by_cases h' : D = [48]
    · exact .inr (.inl ⟨h, h'⟩)
    · exact .inr (.inr ⟨h, h'⟩)
  · exact .inl h
theorem plainE (w : World) (D : List UInt8) (b : Bool) (hlen : D.length ≤ 9223372036854775807) (h : decide (plainN D) = b) : Calls Tryz.prog 64 #[.string (bs D)] w fun e w' => e = .returned (.bool b) ∧ Below w.heap.size w w' := by
  rw [← h]; exact plainW_any w D hlen
theorem cut_len {l D : List UInt8} {m : Bool} (hc : cutS l = (m, D)) : D.length ≤ l.length := by
  rcases cut_ways l with ⟨r, rfl, h, _⟩ | ⟨h, _⟩
  · rw [hc] at h; cases h; simp
  · rw [hc] at h; cases h; exact Nat.le_refl _
/-- the number, its high and its low digits -/
structure Cut19 (D : List UInt8) (k H L M : Nat) : Prop where
  k_eq : k = D.length - 19
  hH : H = nv (D.take k)
  hL : L = nv (D.drop k)
  hM : M = nv D
  mul : M = H * 10000000000000000000 + L
  low : L < 10000000000000000000
  dt : allD (D.take k)
  dd : allD (D.drop k)
  ld : (D.drop k).length ≤ 19
theorem cut19 {D : List UInt8} (hp : plainN D) : ∃ k H L M, Cut19 D k H L M := by
  refine ⟨D.length - 19, nv (D.take (D.length - 19)), nv (D.drop (D.length - 19)), nv D, rfl, rfl, rfl, rfl, ?_, ?_, fun x hx => hp.2.1 x (List.mem_of_mem_take hx), fun x hx => hp.2.1 x (List.mem_of_mem_drop hx), by simp; omega⟩
  · by_cases h : D.length ≤ 19
    · rw [show D.length - 19 = 0 by omega]
      simp [nv, nvA_nil]
    · have := nv_app (D.take (D.length - 19)) (D.drop (D.length - 19))
      rw [List.take_append_drop, show (D.drop (D.length - 19)).length = 19 by simp; omega] at this
      rw [this]
  · have h1 := nv_lt (l := D.drop (D.length - 19)) fun x hx => hp.2.1 x (List.mem_of_mem_drop hx)
    have h2 : 10 ^ (D.drop (D.length - 19)).length ≤ 10 ^ 19 := Nat.pow_le_pow_right (by decide) (by simp; omega)
    have h3 : 10 ^ 19 = 10000000000000000000 := by decide
    omega
theorem high_len {D : List UInt8} {k H L M : Nat} (hp : plainN D) (hc : Cut19 D k H L M) (hf : H ≤ 18446744073709551615) : (D.take k).length ≤ 20 := by
  by_cases h : D.length ≤ 19
  · rw [List.length_take]; omega
  · have hk := hc.k_eq
    cases hD : D.take k with
    | nil => simp
    | cons c r =>
      have hc0 : c.toNat ≠ 48 := by
        intro e
        have := hp.2.2 (by omega)
        apply this
        have h0 : (D.take k)[0]? = some c := by rw [hD]; rfl
        rw [List.getElem?_take] at h0
        split at h0
        · exact head_48 h0 e
        · cases h0
      have := nv_pos (r := r) (hc.dt c (by rw [hD]; simp)) hc0
      rw [← hD, ← hc.hH] at this
      have h2 : r.length < 20 := by
        refine Nat.lt_of_not_le fun h => ?_
        have : 10 ^ 20 ≤ 10 ^ r.length := Nat.pow_le_pow_right (by decide) h
        have h20 : 10 ^ 20 = 100000000000000000000 := by decide
        omega
      simp; omega
theorem addPw (H L M : Nat) (hM : M = H * 10000000000000000000 + L) (hL : L < 10000000000000000000) (w : World) : (callFunc 68 #[.int .u64 ((H : Int) * 10000000000000000000 % 18446744073709551616), .int .u64 (L : Int), .int .u64 0]).run Tryz.prog w = .ok (.value (.tuple #[.int .u64 ((M : Int) % 18446744073709551616), .int .u64 (((H : Int) * 10000000000000000000 % 18446744073709551616 + L) / 18446744073709551616)])) w := by
  have := add64 ((H : Int) * 10000000000000000000 % 18446744073709551616) (L : Int) 0 (by omega) (by omega) (by decide) (by decide) w
  rw [this]
  rw [show ((H : Int) * 10000000000000000000 % 18446744073709551616 + L + 0) % 18446744073709551616 = (M : Int) % 18446744073709551616 by omega, show ((H : Int) * 10000000000000000000 % 18446744073709551616 + (L : Int) + 0) / 18446744073709551616 = ((H : Int) * 10000000000000000000 % 18446744073709551616 + L) / 18446744073709551616 by omega]
theorem mulPw (w : World) (H : Nat) (hf : H ≤ 18446744073709551615) : Calls Tryz.prog 66 #[.int .u64 (H : Int), .int .u64 10000000000000000000] w fun e w' => e = .returned (.tuple #[.int .u64 ((H : Int) * 10000000000000000000 / 18446744073709551616), .int .u64 ((H : Int) * 10000000000000000000 % 18446744073709551616)]) ∧ Below w.heap.size w w' := as_same' ((mul64 (H : Int) 10000000000000000000 (by omega) (by decide) w).mono fun e w' ⟨he, hw⟩ => ⟨he, hw.symm⟩)
theorem tenPw (w : World) : Calls Tryz.prog 67 #[.int .i64 19] w fun e w' => e = .returned (.int .u64 10000000000000000000) ∧ Below w.heap.size w w' := ten_any w 19 (by decide)
theorem signPw (w : World) (H L M : Nat) (m : Bool) (hM : M = H * 10000000000000000000 + L) (hL : L < 10000000000000000000) (hf : H ≤ 18446744073709551615) : Calls Tryz.prog 69 #[.agg #[.int .u64 ((M : Int) / 18446744073709551616), .int .u64 ((M : Int) % 18446744073709551616)], .bool m] w fun e w' => e = .returned (resV (if m then -(M : Int) else (M : Int))) ∧ Below w.heap.size w w' := signed_any w (M : Int) m (by unfold Big; omega)
theorem notFits {H L M : Nat} {m : Bool} (hM : M = H * 10000000000000000000 + L) (hf : ¬ H ≤ 18446744073709551615) : ¬ Fits (if m then -(M : Int) else (M : Int)) := by
  unfold Fits; split <;> omega

theorem parse_f (w : World) (l D : List UInt8) (hc : cutS l = (false, D)) (hlen : l.length ≤ 9223372036854775807) (hE : ErrIs w) : Calls Tryz.prog 36 #[.string (bs l)] w fun e w' => e = .returned (parseV l) ∧ Below w.heap.size w w' := by
  refine d_in (args := [.string (bs l)]) 72 Tryz.func36 rfl rfl rfl ?_
  refine d_reg ?_
  refine h_alloc zeWide rfl rfl ?_; intro g2_1
  refine h_q hflW rfl ?_
  refine h_done (d_reg ?_)
  refine h_q hflW rfl ?_
  refine h_call (ent_of Tryz.func31 (by kernel_rfl) rfl) (fun w hH => cutPrefix_any _ l D false hc hlen) rfl rfl rfl rfl ?_
  refine h_q hflW rfl ?_
  refine h_done (d_seq ?_)
  by_cases hp : plainN D; rotate_left
  · skip
    refine d_reg ?_
    refine h_q hflW rfl ?_
    refine h_call (ent_of Tryz.func64 (by kernel_rfl) rfl) (fun w hH => plainE _ D false (Nat.le_trans (cut_len hc) hlen) (by simp [hp])) rfl rfl rfl rfl ?_
    refine h_q hflW rfl ?_
    refine h_done (d_then rfl (d_reg ?_))
    refine h_build (cs := #[.int .i64 0, .int .u64 0]) (by kernel_rfl) rfl rfl rfl ?_
    refine h_store 0 (v := .agg #[.int .i64 0, .int .u64 0]) (#[.int .i64 0, .int .u64 0]) tyWide.2 rfl rfl rfl rfl rfl rfl rfl rfl rfl rfl ?_
    refine h_q hflW rfl ?_
    refine h_done (d_ret (f_then_ret ?_))
    exact f_fin2 (.cell 0 (v := .agg #[.int .i64 0, .int .u64 0]) (reads_agg (cs := [.int .i64 0, .int .u64 0]) tyWide rfl) rfl rfl) (.tmp rfl) (fun w h => ⟨by rw [parseV_no hc (fun h => hp h.1)]; rfl, h.up.below⟩) rfl
  · skip
    have hz : ¬ (false = true ∧ D = [48]) := by simp
    refine d_reg ?_
    refine h_q hflW rfl ?_
    refine h_call (ent_of Tryz.func64 (by kernel_rfl) rfl) (fun w hH => plainE _ D true (Nat.le_trans (cut_len hc) hlen) (by simp [hp])) rfl rfl rfl rfl ?_
    refine h_q hflW rfl ?_
    refine h_done (d_else rfl (d_skip (f_to ?_)))
    obtain ⟨k, H, L, M, hk⟩ := cut19 hp
    have hkl := hk.k_eq
    have hDl := cut_len hc
    refine d_reg ?_
    refine h_q hflW rfl ?_
    refine h_builtin (v := .int .i64 (D.length : Int)) (fun w cs => run_len_bs Tryz.underlying9 _ _ w cs) rfl rfl rfl ?_
    refine h_ar (z' := (D.length : Int) - 19) (IntWalk.i64_in _ (by omega)) rfl rfl rfl rfl rfl ?_
    refine h_builtin (v := .int .i64 (k : Int)) (fun w cs => run_max2 (by split <;> omega) _ _ w cs) rfl rfl rfl ?_
    refine h_q hflW rfl ?_
    refine h_done (d_reg ?_)
    refine h_q hflW rfl ?_
    refine h_cut (i := k) (j := D.length) (r := D.drop k) Tryz.underlying9 (by simp) (by omega) (Nat.le_refl _) rfl rfl rfl ⟨_, rfl⟩ rfl ?_
    refine h_call (ent_of Tryz.func65 (by kernel_rfl) rfl) (fun w hH => (hk.hL ▸ word_fits _ (D.drop k) hk.dd (by have := hk.ld; omega) (by rw [← hk.hL]; have := hk.low; omega))) rfl rfl rfl rfl ?_
    refine h_q hflW rfl ?_
    refine h_done ?_
    by_cases hf : H ≤ 18446744073709551615
    · skip
      obtain ⟨ra, rb, re, hr⟩ := resV_form (if false then -(M : Int) else (M : Int))
      refine d_reg ?_
      refine h_q hflW rfl ?_
      refine h_cut (i := 0) (j := k) (r := D.take k) Tryz.underlying9 rfl (by omega) (by omega) rfl rfl rfl rfl ⟨_, rfl⟩ ?_
      refine h_call (ent_of Tryz.func65 (by kernel_rfl) rfl) (fun w hH => (hk.hH ▸ word_fits _ (D.take k) hk.dt (high_len hp hk hf) (by rw [← hk.hH]; exact hf))) rfl rfl rfl rfl ?_
      refine h_q hflW rfl ?_
      refine h_done (d_seq (d_reg ?_))
      refine h_q hflW rfl ?_
      refine h_done ?_
      refine WC2.keep (env' := [(2, .pointer (some ⟨g2_1, 0, none⟩)), (3, .int .i64 0), (5, .bool false), (7, .int .u64 (L : Int)), (9, .int .u64 (H : Int)), (49, .bool false)]) ⟨rfl, rfl, rfl, rfl, rfl, rfl, trivial⟩ ?_
      refine d_else rfl (d_skip (f_to (d_reg ?_)))
      refine h_q hflW rfl ?_
      refine h_call (ent_of Tryz.func67 (by kernel_rfl) rfl) (fun w hH => tenPw _) rfl rfl rfl rfl ?_
      refine h_call (ent_of Tryz.func66 (by kernel_rfl) rfl) (fun w hH => mulPw _ H hf) rfl rfl rfl rfl ?_
      refine h_q hflW rfl ?_
      refine h_done (d_reg ?_)
      refine h_q hflW rfl ?_
      refine h_val rfl (.tuple #[.int .u64 ((M : Int) % 18446744073709551616), .int .u64 (((H : Int) * 10000000000000000000 % 18446744073709551616 + L) / 18446744073709551616)]) (fun b w hb hH => by exact exec_ext (addPw H L M hk.mul hk.low) rfl rfl rfl hb) ?_
      refine h_q hflW rfl ?_
      refine h_done (d_reg ?_)
      refine h_q hflW rfl ?_
      refine h_ar (z' := (M : Int) / 18446744073709551616) (by rw [IntWalk.u64_in _ (by have := hk.mul; have := hk.low; omega)]; have := hk.mul; omega) rfl rfl rfl rfl rfl ?_
      refine h_q hflW rfl ?_
      refine h_build (cs := #[.int .u64 ((M : Int) / 18446744073709551616), .int .u64 ((M : Int) % 18446744073709551616)]) (by kernel_rfl) rfl rfl rfl ?_
      refine h_q hflW rfl ?_
      refine h_call (ent_of Tryz.func69 (by kernel_rfl) rfl) (fun w hH => (hr ▸ signPw _ H L M false hk.mul hk.low hf)) rfl rfl rfl rfl ?_
      refine h_q hflW rfl ?_
      refine h_store 0 (v := .agg #[.int .i64 ra, .int .u64 rb]) (#[.int .i64 ra, .int .u64 rb]) tyWide.2 rfl rfl rfl rfl rfl rfl rfl rfl rfl rfl ?_
      refine h_q hflW rfl ?_
      refine h_done (d_ret ?_)
      exact f_fin2 (.cell 0 (v := .agg #[.int .i64 ra, .int .u64 rb]) (reads_agg (cs := [.int .i64 ra, .int .u64 rb]) tyWide rfl) rfl rfl) (.tmp rfl) (fun w h => ⟨by rw [parseV_ok hc hp hz, ← hk.hM]; exact congrArg _ hr.symm, h.up.below⟩) rfl
    · skip
      refine d_reg ?_
      refine h_q hflW rfl ?_
      refine h_cut (i := 0) (j := k) (r := D.take k) Tryz.underlying9 rfl (by omega) (by omega) rfl rfl rfl rfl ⟨_, rfl⟩ ?_
      refine h_callx (ent_of Tryz.func65 (by kernel_rfl) rfl) (X := fun v => ∃ u : Int, v = .tuple #[.int .u64 u, .bool false]) (fun w hH => word_no _ (D.take k) hk.dt (by rw [← hk.hH]; exact hf) (hE.up hH.up.below)) rfl rfl rfl rfl ?_; rintro _ ⟨u, rfl⟩
      refine h_q hflW rfl ?_
      refine h_done (d_seq (d_reg ?_))
      refine h_q hflW rfl ?_
      refine h_done ?_
      refine WC2.keep (env' := [(2, .pointer (some ⟨g2_1, 0, none⟩)), (3, .int .i64 0), (5, .bool false), (7, .int .u64 (L : Int)), (9, .int .u64 u), (49, .bool true)]) ⟨rfl, rfl, rfl, rfl, rfl, rfl, trivial⟩ ?_
      refine d_then rfl (d_reg ?_)
      refine h_build (cs := #[.int .i64 0, .int .u64 0]) (by kernel_rfl) rfl rfl rfl ?_
      refine h_store 0 (v := .agg #[.int .i64 0, .int .u64 0]) (#[.int .i64 0, .int .u64 0]) tyWide.2 rfl rfl rfl rfl rfl rfl rfl rfl rfl rfl ?_
      refine h_q hflW rfl ?_
      refine h_done (d_ret (f_then_ret ?_))
      exact f_fin2 (.cell 0 (v := .agg #[.int .i64 0, .int .u64 0]) (reads_agg (cs := [.int .i64 0, .int .u64 0]) tyWide rfl) rfl rfl) (.tmp rfl) (fun w h => ⟨by rw [parseV_ok hc hp hz, ← hk.hM, resV_over (notFits hk.mul hf)]; rfl, h.up.below⟩) rfl

theorem parse_t (w : World) (l D : List UInt8) (hc : cutS l = (true, D)) (hlen : l.length ≤ 9223372036854775807) (hE : ErrIs w) : Calls Tryz.prog 36 #[.string (bs l)] w fun e w' => e = .returned (parseV l) ∧ Below w.heap.size w w' := by
  refine d_in (args := [.string (bs l)]) 72 Tryz.func36 rfl rfl rfl ?_
  refine d_reg ?_
  refine h_alloc zeWide rfl rfl ?_; intro g2_1
  refine h_q hflW rfl ?_
  refine h_done (d_reg ?_)
  refine h_q hflW rfl ?_
  refine h_call (ent_of Tryz.func31 (by kernel_rfl) rfl) (fun w hH => cutPrefix_any _ l D true hc hlen) rfl rfl rfl rfl ?_
  refine h_q hflW rfl ?_
  refine h_done (d_seq ?_)
  rcases zero_ways D with hp | ⟨hp, hz0⟩ | ⟨hp, hz0⟩
  · skip
    refine d_reg ?_
    refine h_q hflW rfl ?_
    refine h_call (ent_of Tryz.func64 (by kernel_rfl) rfl) (fun w hH => plainE _ D false (Nat.le_trans (cut_len hc) hlen) (by simp [hp])) rfl rfl rfl rfl ?_
    refine h_q hflW rfl ?_
    refine h_done (d_then rfl (d_reg ?_))
    refine h_build (cs := #[.int .i64 0, .int .u64 0]) (by kernel_rfl) rfl rfl rfl ?_
    refine h_store 0 (v := .agg #[.int .i64 0, .int .u64 0]) (#[.int .i64 0, .int .u64 0]) tyWide.2 rfl rfl rfl rfl rfl rfl rfl rfl rfl rfl ?_
    refine h_q hflW rfl ?_
    refine h_done (d_ret (f_then_ret ?_))
    exact f_fin2 (.cell 0 (v := .agg #[.int .i64 0, .int .u64 0]) (reads_agg (cs := [.int .i64 0, .int .u64 0]) tyWide rfl) rfl rfl) (.tmp rfl) (fun w h => ⟨by rw [parseV_no hc (fun h => hp h.1)]; rfl, h.up.below⟩) rfl
  · skip
    refine d_reg ?_
    refine h_q hflW rfl ?_
    refine h_call (ent_of Tryz.func64 (by kernel_rfl) rfl) (fun w hH => plainE _ D true (Nat.le_trans (cut_len hc) hlen) (by simp [hp])) rfl rfl rfl rfl ?_
    refine h_q hflW rfl ?_
    refine h_same (beq_iff_eq.2 hz0) rfl rfl rfl rfl ?_
    refine h_q hflW rfl ?_
    refine h_done (d_then rfl (d_reg ?_))
    refine h_build (cs := #[.int .i64 0, .int .u64 0]) (by kernel_rfl) rfl rfl rfl ?_
    refine h_store 0 (v := .agg #[.int .i64 0, .int .u64 0]) (#[.int .i64 0, .int .u64 0]) tyWide.2 rfl rfl rfl rfl rfl rfl rfl rfl rfl rfl ?_
    refine h_q hflW rfl ?_
    refine h_done (d_ret (f_then_ret ?_))
    exact f_fin2 (.cell 0 (v := .agg #[.int .i64 0, .int .u64 0]) (reads_agg (cs := [.int .i64 0, .int .u64 0]) tyWide rfl) rfl rfl) (.tmp rfl) (fun w h => ⟨by rw [parseV_no hc (fun h => h.2 ⟨rfl, hz0⟩)]; rfl, h.up.below⟩) rfl
  · skip
    have hz : ¬ (true = true ∧ D = [48]) := by simp [hz0]
    refine d_reg ?_
    refine h_q hflW rfl ?_
    refine h_call (ent_of Tryz.func64 (by kernel_rfl) rfl) (fun w hH => plainE _ D true (Nat.le_trans (cut_len hc) hlen) (by simp [hp])) rfl rfl rfl rfl ?_
    refine h_q hflW rfl ?_
    refine h_same (beq_false_of_ne hz0) rfl rfl rfl rfl ?_
    refine h_q hflW rfl ?_
    refine h_done (d_else rfl (d_skip (f_to ?_)))
    obtain ⟨k, H, L, M, hk⟩ := cut19 hp
    have hkl := hk.k_eq
    have hDl := cut_len hc
    refine d_reg ?_
    refine h_q hflW rfl ?_
    refine h_builtin (v := .int .i64 (D.length : Int)) (fun w cs => run_len_bs Tryz.underlying9 _ _ w cs) rfl rfl rfl ?_
    refine h_ar (z' := (D.length : Int) - 19) (IntWalk.i64_in _ (by omega)) rfl rfl rfl rfl rfl ?_
    refine h_builtin (v := .int .i64 (k : Int)) (fun w cs => run_max2 (by split <;> omega) _ _ w cs) rfl rfl rfl ?_
    refine h_q hflW rfl ?_
    refine h_done (d_reg ?_)
    refine h_q hflW rfl ?_
    refine h_cut (i := k) (j := D.length) (r := D.drop k) Tryz.underlying9 (by simp) (by omega) (Nat.le_refl _) rfl rfl rfl ⟨_, rfl⟩ rfl ?_
    refine h_call (ent_of Tryz.func65 (by kernel_rfl) rfl) (fun w hH => (hk.hL ▸ word_fits _ (D.drop k) hk.dd (by have := hk.ld; omega) (by rw [← hk.hL]; have := hk.low; omega))) rfl rfl rfl rfl ?_
    refine h_q hflW rfl ?_
    refine h_done ?_
    by_cases hf : H ≤ 18446744073709551615
    · skip
      obtain ⟨ra, rb, re, hr⟩ := resV_form (if true then -(M : Int) else (M : Int))
      refine d_reg ?_
      refine h_q hflW rfl ?_
      refine h_cut (i := 0) (j := k) (r := D.take k) Tryz.underlying9 rfl (by omega) (by omega) rfl rfl rfl rfl ⟨_, rfl⟩ ?_
      refine h_call (ent_of Tryz.func65 (by kernel_rfl) rfl) (fun w hH => (hk.hH ▸ word_fits _ (D.take k) hk.dt (high_len hp hk hf) (by rw [← hk.hH]; exact hf))) rfl rfl rfl rfl ?_
      refine h_q hflW rfl ?_
      refine h_done (d_seq (d_reg ?_))
      refine h_q hflW rfl ?_
      refine h_done ?_
      refine WC2.keep (env' := [(2, .pointer (some ⟨g2_1, 0, none⟩)), (3, .int .i64 0), (5, .bool true), (7, .int .u64 (L : Int)), (9, .int .u64 (H : Int)), (49, .bool false)]) ⟨rfl, rfl, rfl, rfl, rfl, rfl, trivial⟩ ?_
      refine d_else rfl (d_skip (f_to (d_reg ?_)))
      refine h_q hflW rfl ?_
      refine h_call (ent_of Tryz.func67 (by kernel_rfl) rfl) (fun w hH => tenPw _) rfl rfl rfl rfl ?_
      refine h_call (ent_of Tryz.func66 (by kernel_rfl) rfl) (fun w hH => mulPw _ H hf) rfl rfl rfl rfl ?_
      refine h_q hflW rfl ?_
      refine h_done (d_reg ?_)
      refine h_q hflW rfl ?_
      refine h_val rfl (.tuple #[.int .u64 ((M : Int) % 18446744073709551616), .int .u64 (((H : Int) * 10000000000000000000 % 18446744073709551616 + L) / 18446744073709551616)]) (fun b w hb hH => by exact exec_ext (addPw H L M hk.mul hk.low) rfl rfl rfl hb) ?_
      refine h_q hflW rfl ?_
      refine h_done (d_reg ?_)
      refine h_q hflW rfl ?_
      refine h_ar (z' := (M : Int) / 18446744073709551616) (by rw [IntWalk.u64_in _ (by have := hk.mul; have := hk.low; omega)]; have := hk.mul; omega) rfl rfl rfl rfl rfl ?_
      refine h_q hflW rfl ?_
      refine h_build (cs := #[.int .u64 ((M : Int) / 18446744073709551616), .int .u64 ((M : Int) % 18446744073709551616)]) (by kernel_rfl) rfl rfl rfl ?_
      refine h_q hflW rfl ?_
      refine h_call (ent_of Tryz.func69 (by kernel_rfl) rfl) (fun w hH => (hr ▸ signPw _ H L M true hk.mul hk.low hf)) rfl rfl rfl rfl ?_
      refine h_q hflW rfl ?_
      refine h_store 0 (v := .agg #[.int .i64 ra, .int .u64 rb]) (#[.int .i64 ra, .int .u64 rb]) tyWide.2 rfl rfl rfl rfl rfl rfl rfl rfl rfl rfl ?_
      refine h_q hflW rfl ?_
      refine h_done (d_ret ?_)
      exact f_fin2 (.cell 0 (v := .agg #[.int .i64 ra, .int .u64 rb]) (reads_agg (cs := [.int .i64 ra, .int .u64 rb]) tyWide rfl) rfl rfl) (.tmp rfl) (fun w h => ⟨by rw [parseV_ok hc hp hz, ← hk.hM]; exact congrArg _ hr.symm, h.up.below⟩) rfl
    · skip
      refine d_reg ?_
      refine h_q hflW rfl ?_
      refine h_cut (i := 0) (j := k) (r := D.take k) Tryz.underlying9 rfl (by omega) (by omega) rfl rfl rfl rfl ⟨_, rfl⟩ ?_
      refine h_callx (ent_of Tryz.func65 (by kernel_rfl) rfl) (X := fun v => ∃ u : Int, v = .tuple #[.int .u64 u, .bool false]) (fun w hH => word_no _ (D.take k) hk.dt (by rw [← hk.hH]; exact hf) (hE.up hH.up.below)) rfl rfl rfl rfl ?_; rintro _ ⟨u, rfl⟩
      refine h_q hflW rfl ?_
      refine h_done (d_seq (d_reg ?_))
      refine h_q hflW rfl ?_
      refine h_done ?_
      refine WC2.keep (env' := [(2, .pointer (some ⟨g2_1, 0, none⟩)), (3, .int .i64 0), (5, .bool true), (7, .int .u64 (L : Int)), (9, .int .u64 u), (49, .bool true)]) ⟨rfl, rfl, rfl, rfl, rfl, rfl, trivial⟩ ?_
      refine d_then rfl (d_reg ?_)
      refine h_build (cs := #[.int .i64 0, .int .u64 0]) (by kernel_rfl) rfl rfl rfl ?_
      refine h_store 0 (v := .agg #[.int .i64 0, .int .u64 0]) (#[.int .i64 0, .int .u64 0]) tyWide.2 rfl rfl rfl rfl rfl rfl rfl rfl rfl rfl ?_
      refine h_q hflW rfl ?_
      refine h_done (d_ret (f_then_ret ?_))
      exact f_fin2 (.cell 0 (v := .agg #[.int .i64 0, .int .u64 0]) (reads_agg (cs := [.int .i64 0, .int .u64 0]) tyWide rfl) rfl rfl) (.tmp rfl) (fun w h => ⟨by rw [parseV_ok hc hp hz, ← hk.hM, resV_over (notFits hk.mul hf)]; rfl, h.up.below⟩) rfl

theorem parseW_any (w : World) (l : List UInt8) (hlen : l.length ≤ 9223372036854775807) (hE : ErrIs w) : Calls Tryz.prog 36 #[.string (bs l)] w fun e w' => e = .returned (parseV l) ∧ Below w.heap.size w w' := by
  rcases hc : cutS l with ⟨m, D⟩
  cases m with
  | true => exact parse_t w l D hc hlen hE
  | false => exact parse_f w l D hc hlen hE
end Go.Proofs.YtmamedobphlpkaaGreatDoor

namespace Go.Proofs.YtmamedobphlpkaaGreatDoor
open Go.RowKit

theorem cutS_minus (r : List UInt8) : cutS (45 :: r) = (true, r) := rfl
theorem cutS_dd (u : Nat) : cutS (Lib.decDigits u) = (false, Lib.decDigits u) := by
  rcases cut_ways (Lib.decDigits u) with ⟨r, h, _, _⟩ | ⟨h, _⟩
  · have := dd_allD u 45 (by rw [h]; simp)
    exact absurd this (by decide)
  · exact h
theorem dd_not48 {u : Nat} (h : u ≠ 0) : Lib.decDigits u ≠ [48] := fun e => by
  have := nv_dd u
  rw [e] at this
  exact h (by rw [← this]; rfl)
theorem cut_back {l D : List UInt8} {m : Bool} (hc : cutS l = (m, D)) : l = if m then 45 :: D else D := by
  rcases cut_ways l with ⟨r, rfl, h, _⟩ | ⟨h, _⟩
  · rw [hc] at h; cases h; rfl
  · rw [hc] at h; cases h; rfl
end Go.Proofs.YtmamedobphlpkaaGreatDoor

namespace Go.Proofs.YtmamedobphlpkaaGreatDoor
open Go.RowKit

section
variable {o : Oper} {a : Act} {W : World} {C E : Array Value} {b : Bool} {n : Nat}
end
end Go.Proofs.YtmamedobphlpkaaGreatDoor

namespace Go.Proofs.YtmamedobphlpkaaGreatDoor
open Go.RowKit

end Go.Proofs.YtmamedobphlpkaaGreatDoor

namespace Go.Proofs.YtmamedobphlpkaaGreatDoor
open Go.RowKit

end Go.Proofs.YtmamedobphlpkaaGreatDoor

namespace Go.Proofs.YtmamedobphlpkaaGreatDoor
open Go.RowKit

end Go.Proofs.YtmamedobphlpkaaGreatDoor

namespace Go.Proofs.YtmamedobphlpkaaGreatDoor
open Go.RowKit

end Go.Proofs.YtmamedobphlpkaaGreatDoor

namespace Go.Proofs.YtmamedobphlpkaaGreatDoor
open Go.RowKit

end Go.Proofs.YtmamedobphlpkaaGreatDoor

namespace Go.Proofs.YtmamedobphlpkaaGreatDoor
open Go.RowKit

theorem neg_bigr (k : Nat) : BigV (!decide (k = 0)) k = BigZ (-(k : Int)) := by
  unfold BigZ
  rw [show (-(k : Int)).natAbs = k by omega]
  congr 1
  by_cases h : k = 0
  · subst h; simp
  · rw [decide_eq_false h, decide_eq_true (show -(k : Int) < 0 by omega)]; rfl
theorem pos_bigr (k : Nat) : BigV false k = BigZ (k : Int) := by
  unfold BigZ
  rw [show ((k : Int)).natAbs = k by omega, decide_eq_false (show ¬ (k : Int) < 0 by omega)]

end Go.Proofs.YtmamedobphlpkaaGreatDoor

namespace Go.Proofs.YtmamedobphlpkaaGreatDoor
open Go.RowKit

/-- what the reference makes of digits -/
def valR (D : List UInt8) : Nat := if 60 < D.length then BP 4 else nv D
theorem digits_yes {D : List UInt8} (h : plainN D) : digitsV D = .tuple #[.agg (digs (valR D)), .bool true] := if_pos h
theorem bp4 : BP 4 = 340282366920938463463374607431768211456 := by kernel_rfl
theorem long_nv {D : List UInt8} (h : plainN D) (h60 : 60 < D.length) : 10 ^ 60 ≤ nv D := by
  cases D with
  | nil => simp at h60
  | cons c r =>
    have hc0 : c.toNat ≠ 48 := by
      intro e
      exact h.2.2 (by omega) (head_48 rfl e)
    have := nv_pos (r := r) (h.2.1 c (by simp)) hc0
    have h2 : 10 ^ 60 ≤ 10 ^ r.length := Nat.pow_le_pow_right (by decide) (by simp at h60; omega)
    omega
theorem valR_zero {D : List UInt8} (h : plainN D) : valR D = 0 ↔ D = [48] := by
  rw [← plain_zero h]
  unfold valR
  by_cases h60 : 60 < D.length
  · rw [if_pos h60, bp4]
    have := long_nv h h60
    have : 0 < 10 ^ 60 := by decide
    omega
  · rw [if_neg h60]
theorem valR_lt {D : List UInt8} (h : plainN D) : valR D < BP 14 := by
  unfold valR
  by_cases h60 : 60 < D.length
  · rw [if_pos h60]; exact Nat.le_of_ble_eq_true (by kernel_rfl)
  · rw [if_neg h60]
    have := nv_small (l := D) (j := D.length) h.2.1 h60
    rw [List.take_length] at this
    exact Nat.lt_of_lt_of_le this (BP_le (by decide))
theorem digN (w : World) (D : List UInt8) (hlen : D.length ≤ 9223372036854775807) (h : ¬ plainN D) : Calls Tryz.prog 45 #[.string (bs D)] w fun e w' => e = .returned (.tuple #[.agg (digs 0), .bool false]) ∧ Below w.heap.size w w' := by
  rw [← digits_no h]; exact rdigits_any w D hlen
theorem digY (w : World) (D : List UInt8) (hlen : D.length ≤ 9223372036854775807) (h : plainN D) : Calls Tryz.prog 45 #[.string (bs D)] w fun e w' => e = .returned (.tuple #[.agg (digs (valR D)), .bool true]) ∧ Below w.heap.size w w' := by
  rw [← digits_yes h]; exact rdigits_any w D hlen
end Go.Proofs.YtmamedobphlpkaaGreatDoor
