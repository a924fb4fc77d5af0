/-
  SgNm · SgZt
-/
import Derived.Test.YtaipejaeeohpkaaGreatDoorTP01
import Derived.Test.YtaipejaeeohpkaaGreatDoorCards
import Derived.Test.YtaipejaeeohpkaaGreatDoorTie
import Derived.Deep.DeepHandedRow
import Derived.Deep.DeepWitnessRowRef
import Derived.Lib.LaidTab
import Derived.Lay
set_option linter.unusedSimpArgs false
set_option linter.unusedVariables false

namespace Go.Proofs.YtaipejaeeohpkaaGreatDoor.Sep
open Go.RowKit
open Go.Proofs.YtaipejaeeohpkaaGreatDoor.Mem (Dist Blk Chg below0)

theorem exec_quoI9 {P : Program} {n : Nat} {env : List (Nat × Value)} {a : Act} {w : World} {o : Oper} {T T' : TypeId} {x y : Operand} {k : IntKind} {p q r : Int} (hq : q ≠ 0) (hr : k.wrap (p.tdiv q) = r) (ho : o.op = .binOp .quo T x y T') (hx : evs env x = some (.int k p)) (hy : evs env y = some (.int k q)) (hF : Fr n a env) : (execOp a.eval o).run P w = .ok (.value (.int k r)) w := by
  unfold execOp
  simp only [ho, hF.evs hx, hF.evs hy]
  simp [eqGuard, binOp, Op.intArith, Op.intDiv, hq, hr]
theorem tmod16 (a : Nat) : ((a : Nat) : Int).tmod 16 = ((a % 16 : Nat) : Int) := by
  rw [Int.tmod_eq_emod_of_nonneg (by omega)]; omega
theorem tdiv16 (a : Nat) (h : a ≤ 18446744073709551615) : IntKind.u64.wrap (((a : Nat) : Int).tdiv 16) = ((a / 16 : Nat) : Int) := by
  rw [Int.tdiv_eq_ediv_of_nonneg (by omega), IntWalk.u64_in _ (by omega)]; omega
theorem u16_next (m : Nat) (h : m < 16) : IntKind.u64.wrap ((m : Int) + 1) = ((m + 1 : Nat) : Int) := by rw [IntWalk.u64_in _ (by omega)]; rfl
theorem dig_cut (m : Nat) (h : m < 16) : (([48, 49, 50, 51, 52, 53, 54, 55, 56, 57, 97, 98, 99, 100, 101, 102] : List UInt8).take (m + 1)).drop m = [digH m] := by
  have key : ∀ a : Fin 16, (([48, 49, 50, 51, 52, 53, 54, 55, 56, 57, 97, 98, 99, 100, 101, 102] : List UInt8).take (a.1 + 1)).drop a.1 = [digH a.1] := by decide
  exact key ⟨m, h⟩
theorem div16 (n i : Nat) : n / 16 ^ i / 16 = n / 16 ^ (i + 1) := by rw [Nat.div_div_eq_div_mul, Nat.pow_succ]
theorem div_le (n i : Nat) (h : n ≤ 72057594037927935) : n / 16 ^ i ≤ 18446744073709551615 := Nat.le_trans (Nat.div_le_self ..) (by omega)
theorem cat_len (m i n : Nat) (h : i < 15) : ([digH m] : List UInt8).length + (hexD i n).length ≤ 9223372036854775807 := by rw [hexD_len]; simp only [List.length_cons, List.length_nil]; omega
theorem cat_len2 (n : Nat) : ([115] : List UInt8).length + (hexD 15 n).length ≤ 9223372036854775807 := by rw [hexD_len]; decide

set_option maxRecDepth 100000 in
theorem rname_c (w : World) {n : Nat} (hn : n ≤ 72057594037927935) : Calls Tryz.prog 20 #[.int .u64 (n : Int)] w fun e w' => e = .returned (.string (bs (nameL n))) ∧ Below w.heap.size w w' := by
  refine d_in (args := [.int .u64 (n : Int)]) 23 Tryz.func20 rfl rfl rfl ?_
  refine d_reg ?_
  refine h_q hflT rfl ?_
  refine h_done (d_seq (d_reg ?_))
  refine h_q hflT rfl ?_
  refine h_val rfl (.bool false) (fun b w hb hH => exec_cmp rfl rfl rfl (cmp_gtr_f (by omega)) hb) ?_
  refine h_done (d_else rfl (d_skip (f_to (d_reg ?_))))
  refine h_q hflT rfl ?_
  refine h_done (d_seq (d_reg ?_))
  refine h_q hflT rfl ?_
  refine h_done (d_block ?_)
  refine d_loop (α := Nat × Nat) (fun ⟨i, a⟩ => [(0, .int .u64 (a : Int)), (2, .string (bs ([]))), (3, .string (bs (hexD i n))), (4, .int .i64 (i : Int))]) (fun ⟨i, a⟩ => []) (fun ⟨i, a⟩ => i ≤ 15 ∧ a = n / 16 ^ i) (fun ⟨i, a⟩ => 15 - i) (0, n) ⟨Nat.zero_le _, by rw [Nat.pow_zero, Nat.div_one]⟩ ⟨rfl, rfl, rfl, rfl, trivial⟩ rfl ?_
  rintro ⟨i, a⟩ ⟨hI, ha⟩
  refine WC2.at_ (env' := [(0, .int .u64 (a : Int)), (2, .string (bs ([]))), (3, .string (bs (hexD i n))), (4, .int .i64 (i : Int))]) (rs' := []) ⟨rfl, rfl, rfl, rfl, trivial⟩ rfl ?_
  refine d_seq ?_
  rcases Nat.lt_or_ge i 15 with hiN | hiN
  · skip
    have hm : (a % 16) < 16 := Nat.mod_lt _ (by decide)
    have hal : a ≤ 18446744073709551615 := ha ▸ div_le n i hn
    refine d_reg ?_
    refine h_q hflT rfl ?_
    refine h_val rfl (.bool true) (fun b w hb hH => exec_cmp rfl rfl rfl (cmp_lss_t (by omega)) hb) ?_
    refine h_done (d_then rfl (d_skip (f_to (d_seq (d_block (d_reg ?_))))))
    refine h_q hflT rfl ?_
    refine h_val rfl (.int .u64 (((a % 16) : Nat) : Int)) (fun b w hb hH => exec_remI rfl rfl rfl (by decide) (tmod16 _) hb) ?_
    refine h_q hflT rfl ?_
    refine h_val rfl (.int .u64 (((a % 16) : Nat) : Int)) (fun b w hb hH => exec_remI rfl rfl rfl (by decide) (tmod16 _) hb) ?_
    refine h_val rfl (.int .u64 (((a % 16) + 1 : Nat) : Int)) (fun b w hb hH => exec_ar rfl rfl rfl rfl (u16_next _ hm) hb) ?_
    refine h_val rfl (.string (bs ([digH (a % 16)]))) (fun b w hb hH => exec_cutR (i := (a % 16)) (j := ((a % 16) + 1)) (r := [digH (a % 16)]) Tryz.underlying9 (dig_cut _ hm) (Nat.le_succ _) hm rfl rfl ⟨_, rfl⟩ ⟨_, rfl⟩ hb) ?_
    refine h_q hflT rfl ?_
    refine h_val rfl (.string (bs (hexD (i + 1) n))) (fun b w hb hH => exec_catR (r := hexD (i + 1) n) (by subst ha; rfl) (cat_len _ _ _ hiN) rfl rfl rfl hb) ?_
    refine h_q hflT rfl ?_
    refine h_done (d_reg1 ?_)
    refine h_q hflT rfl ?_
    refine h_val rfl (.int .u64 ((a / 16 : Nat) : Int)) (fun b w hb hH => exec_quoI9 (by decide) (tdiv16 _ hal) rfl rfl rfl hb) ?_
    refine h_q hflT rfl ?_
    refine h_nil (f_block (f_to (d_reg1 ?_)))
    refine h_q hflT rfl ?_
    refine h_val rfl (.int .i64 ((i + 1 : Nat) : Int)) (fun b w hb hH => exec_ar rfl rfl rfl rfl (by rw [IntWalk.i64_in _ (by omega)]; omega) hb) ?_
    refine h_q hflT rfl ?_
    refine h_nil ?_
    exact f_again (i + 1, a / 16) 0 ⟨by omega, by rw [ha, div16]⟩ (show 15 - (i + 1) < 15 - i by omega) ⟨rfl, rfl, rfl, rfl, trivial⟩ rfl
  · skip
    obtain rfl : i = 15 := by omega
    refine d_reg ?_
    refine h_q hflT rfl ?_
    refine h_val rfl (.bool false) (fun b w hb hH => exec_cmp rfl rfl rfl (cmp_lss_f (by decide)) hb) ?_
    refine h_done (d_else rfl (d_exit (f_then_exit (f_then_exit (f_block_exit (f_to (d_reg ?_)))))))
    refine h_q hflT rfl ?_
    refine h_val rfl (.string (bs (nameL n))) (fun b w hb hH => exec_catR (r := nameL n) rfl (cat_len2 n) rfl rfl rfl hb) ?_
    refine h_q hflT rfl ?_
    refine h_done (d_ret ?_)
    exact f_fin1 (.tmp rfl) (fun w h => ⟨rfl, below0 h.up⟩) rfl

set_option maxRecDepth 100000 in
theorem rname_big (w : World) {n : Nat} (hn : ¬ n ≤ 72057594037927935) : Calls Tryz.prog 20 #[.int .u64 (n : Int)] w fun e w' => e = .returned (.string (bs [])) ∧ Below w.heap.size w w' := by
  refine d_in (args := [.int .u64 (n : Int)]) 23 Tryz.func20 rfl rfl rfl ?_
  refine d_reg ?_
  refine h_q hflT rfl ?_
  refine h_done (d_seq (d_reg ?_))
  refine h_q hflT rfl ?_
  refine h_val rfl (.bool true) (fun b w hb hH => exec_cmp rfl rfl rfl (cmp_gtr_t (by omega)) hb) ?_
  refine h_done (d_then rfl (d_reg ?_))
  refine h_q hflT rfl ?_
  refine h_done (d_ret (f_then_ret ?_))
  exact f_fin1 (.tmp rfl) (fun w h => ⟨rfl, below0 h.up⟩) rfl

set_option maxRecDepth 100000 in
theorem names_law (tb : Tb) {n : Nat} (hn : n ≤ 72057594037927935) : Does Tryz.prog 4 #[.int .u64 (n : Int)] [TabZ tb] (fun (_ : Unit) => .bool true) (fun (_ : Unit) => [TabZ tb]) := by
  refine d_ins (args := [.int .u64 (n : Int)]) 11 Tryz.func4 rfl rfl rfl ?_; intro w rs
  refine d_reg ?_
  refine h_q hflT rfl ?_
  refine h_done (d_reg ?_)
  refine h_q hflT rfl ?_
  refine h_act (post := fun _ => [TabZ tb]) rfl (a_does (os' := fun _ => [TabZ tb]) [0] 0 (ent_of Tryz.func12 (by kernel_rfl) rfl) (known_does tb) rfl rfl rfl (fun _ => rfl) rfl rfl rfl) ?_; rintro ⟨⟩
  refine h_q hflT rfl ?_
  refine h_act (post := fun _ => [TabZ tb]) rfl (a_does (os' := fun _ => [TabZ tb]) [0] 0 (ent_of Tryz.func19 (by kernel_rfl) rfl) (name_does tb hn) rfl rfl rfl (fun _ => rfl) rfl rfl rfl) ?_; rintro ⟨⟩
  refine h_q hflT rfl ?_
  refine h_act (post := fun _ => [TabZ tb]) rfl (a_call (ent_of Tryz.func20 (by kernel_rfl) rfl) (fun w hH => rname_c w hn) rfl rfl rfl) ?_; rintro ⟨⟩
  refine h_val rfl (.bool true) (fun b w hb hH => exec_same rfl rfl rfl (by simp) hb) ?_
  refine h_q hflT rfl ?_
  refine h_done (d_ret ?_)
  exact f_fin1 (.tmp rfl) (fun w h => tells () rfl [0] rfl h same_parts) rfl

set_option maxRecDepth 100000 in
theorem names_lawB (tb : Tb) {n : Nat} (hn : ¬ n ≤ 72057594037927935) : Does Tryz.prog 4 #[.int .u64 (n : Int)] [TabZ tb] (fun (_ : Unit) => .bool true) (fun (_ : Unit) => [TabZ tb]) := by
  refine d_ins (args := [.int .u64 (n : Int)]) 11 Tryz.func4 rfl rfl rfl ?_; intro w rs
  refine d_reg ?_
  refine h_q hflT rfl ?_
  refine h_done (d_reg ?_)
  refine h_q hflT rfl ?_
  refine h_act (post := fun _ => [TabZ tb]) rfl (a_does (os' := fun _ => [TabZ tb]) [0] 0 (ent_of Tryz.func12 (by kernel_rfl) rfl) (known_does tb) rfl rfl rfl (fun _ => rfl) rfl rfl rfl) ?_; rintro ⟨⟩
  refine h_q hflT rfl ?_
  refine h_act (post := fun _ => [TabZ tb]) rfl (a_does (os' := fun _ => [TabZ tb]) [0] 0 (ent_of Tryz.func19 (by kernel_rfl) rfl) (name_big tb hn) rfl rfl rfl (fun _ => rfl) rfl rfl rfl) ?_; rintro ⟨⟩
  refine h_q hflT rfl ?_
  refine h_act (post := fun _ => [TabZ tb]) rfl (a_call (ent_of Tryz.func20 (by kernel_rfl) rfl) (fun w hH => rname_big w hn) rfl rfl rfl) ?_; rintro ⟨⟩
  refine h_val rfl (.bool true) (fun b w hb hH => exec_same rfl rfl rfl (by simp) hb) ?_
  refine h_q hflT rfl ?_
  refine h_done (d_ret ?_)
  exact f_fin1 (.tmp rfl) (fun w h => tells () rfl [0] rfl h same_parts) rfl
end Go.Proofs.YtaipejaeeohpkaaGreatDoor.Sep

namespace Go.Proofs.YtaipejaeeohpkaaGreatDoor.Sep
open Go.ChangeShapes Go.WideShapes Go.ChangeAt Go.RowKit
theorem cells_of_ints {H : Type} {enc : TypeId × Value → H} {P : Program} {w : World} {base : Nat} {sp : Nat → Bool} {held : Bool} {fuel : Nat} {t e : TypeId} {kd : IntKind} {n : Nat} {cs : List Value} {zs : List Int} {p : List MemPlace}
    (ht : P.underlying t = some (.array n e)) (he : P.underlying e = some (.int kd)) (hce : P.cellsOf e = 1) (hct : P.cellsOf t = n)
    (h : DataW.trod enc P w base sp held fuel t cs = some (.agg (zs.map fun z => (DataW.lit (.int kd z) : DataW H)), p)) : cs = zs.map fun z => Value.int kd z := by
  cases fuel with
  | zero => simp [DataW.trod] at h
  | succ fuel =>
    simp only [DataW.trod, ht, hce, hct, Nat.mul_one] at h
    split at h
    · rename_i hl
      obtain ⟨xs, hm, hx⟩ := Option.map_eq_some_iff.1 h
      have hxs : xs.map (·.1) = zs.map fun z => (DataW.lit (.int kd z) : DataW H) := by
        have := congrArg Prod.fst hx
        simpa using this
      have hxl : xs.length = n := by simpa using Lib.mapM_length hm
      have hzl : zs.length = n := by
        have := congrArg List.length hxs
        simp at this
        omega
      apply List.ext_getElem?
      intro i
      by_cases hi : i < n
      · obtain ⟨b, hb, hf⟩ := Lib.mapM_at hm i i (by simp [hi])
        obtain ⟨z, hc, hbz, _⟩ := DataW.trod_int he hf
        have h1 : cs[i]? = some (.int kd z) := by
          have := congrArg (·[0]?) hc
          simpa [List.getElem?_take, List.getElem?_drop] using this
        have h2 : (xs.map (·.1))[i]? = some (DataW.lit (.int kd z) : DataW H) := by
          rw [List.getElem?_map, hb]
          simp [hbz]
        rw [hxs] at h2
        simp only [List.getElem?_map, Option.map_eq_some_iff, DataW.lit.injEq, Lit.int.injEq, true_and] at h2
        obtain ⟨z', hz', e'⟩ := h2
        rw [h1, List.getElem?_map, hz']
        simp only [Option.map_some, Option.some.injEq, Value.int.injEq, true_and]
        exact e'.symm
      · rw [List.getElem?_eq_none (by omega), List.getElem?_eq_none (by simp; omega)]
    · cases h
theorem gTab : Tryz.prog.globalNamed "math/bits.deBruijn64tab" = some 5 := by kernel_rfl
theorem gTabType : (Tryz.prog.globals[5]?).map (·.type) = some 260 := by kernel_rfl
def tabN : List Int := [0, 1, 56, 2, 57, 49, 28, 3, 61, 58, 42, 50, 38, 29, 17, 4, 62, 47, 59, 36, 45, 43, 51, 22, 53, 39, 33, 30, 24, 18, 12, 5, 63, 55, 48, 27, 60, 41, 37, 16, 46, 35, 44, 21, 52, 32, 23, 11, 54, 26, 40, 15, 34, 20, 31, 10, 25, 14, 19, 9, 13, 8, 7, 6]
abbrev laid9 : List (String × DataW Unit) := [("math/bits.deBruijn32tab", Rows.laid_math_bits_deBruijn32tab), ("math/bits.deBruijn64tab", Rows.laid_math_bits_deBruijn64tab), ("internal/strconv.uint64pow10", Rows.laid_internal_strconv_uint64pow10), ("strconv.ErrRange", Rows.laid_strconv_ErrRange), ("strconv.ErrSyntax", Rows.laid_strconv_ErrSyntax)]
theorem laid9_met {W : World} (h : laidMetH Tryz.prog laid9 W) : laidMet Tryz.prog laid9 W := by
  have h0 : (laid9.filter fun x => x.2.handleName?.isSome) = [] := by kernel_rfl
  unfold laidMetH at h
  rw [h0] at h
  exact h
theorem tab_of {W : World} (h : laidMetH Tryz.prog laid9 W) : ∃ tb : Tb, W.heap[5]? = some (.cells tb.C tb.e tb.f) := by
  obtain ⟨ps, ⟨_, _, _, _, _, _, _, _, _, _, ⟨g', t', cs, fuel, p, q, hg', ht', hvar, hd, _, _⟩, _⟩, _⟩ := laid9_met h
  obtain rfl := Option.some.inj (gTab.symm.trans hg')
  obtain rfl := Option.some.inj (gTabType.symm.trans ht')
  have hc := cells_of_ints (kd := .u8) (zs := tabN) Tryz.underlying260 Tryz.underlying5 (by kernel_rfl) (by kernel_rfl) hd
  have hc2 : cs[15]? = some (.int .u8 4) := by
    rw [← Array.getElem?_toList, hc]
    rfl
  simp only [World.var?, gTab, Option.bind_some] at hvar
  split at hvar
  · rename_i c t f hh
    simp only [Option.some.injEq] at hvar
    subst hvar
    exact ⟨⟨c, t, f, hc2⟩, hh⟩
  · cases hvar
/-- a law that needs the table alone -/
theorem law_tab {F : FuncId} {args : Array Value} {v : Value} {W : World} {tb : Tb} (h : Does Tryz.prog F args [TabZ tb] (fun _ : Unit => v) (fun _ => [TabZ tb])) (hW : W.heap[5]? = some (.cells tb.C tb.e tb.f)) : Calls Tryz.prog F args W fun e W' => e = .returned v ∧ Below W.heap.size W W' := by
  refine (h W [(5, none, litC tb.C tb.e tb.f)] (Parts.one rfl) ⟨rowx_lit.2 hW, trivial⟩ ⟨(fun _ h => by cases h), trivial⟩).mono ?_
  rintro e W' ⟨_, he, rs', hp, hc⟩
  have hp1 : TabZ tb rs' := Parts.one' hp
  obtain rfl : rs' = [(5, none, litC tb.C tb.e tb.f)] := hp1
  have h2 : W'.heap[5]? = some (.cells tb.C tb.e tb.f) := rowx_lit.1 hc.rows.1
  exact ⟨he, hc.mod.os, hc.mod.tape, hc.mod.output, hc.mod.size, fun k hk => by
    by_cases hkG : k = 5
    · rw [hkG, h2, hW]
    · exact hc.mod.block k hk (fun ⟨r, hr, e⟩ => hkG (by rw [List.mem_singleton.1 hr] at e; exact e.symm))⟩
theorem names_tab {W : World} {tb : Tb} {x : Int} (hW : W.heap[5]? = some (.cells tb.C tb.e tb.f)) (hx : 0 ≤ x ∧ x ≤ 18446744073709551615) : Calls Tryz.prog 4 #[.int .u64 x] W fun e W' => e = .returned (.bool true) ∧ Below W.heap.size W W' := by
  obtain ⟨n, rfl⟩ := Int.eq_ofNat_of_zero_le hx.1
  by_cases hn : n ≤ 72057594037927935
  · exact law_tab (names_law tb hn) hW
  · exact law_tab (names_lawB tb hn) hW
noncomputable def laidWorld9 (os : Os) : World := World.laidAll Tryz.prog os laid9
end Go.Proofs.YtaipejaeeohpkaaGreatDoor.Sep
