/-
  LawT · TextL
-/
import Derived.Test.YtfalllekhcocgaaDoorA11
import Derived.Test.YtfalllekhcocgaaDoorB01
import Derived.Test.YtfalllekhcocgaaDoorB08
import Derived.Stop.LaidErr
import Derived.LaidLaws
set_option linter.unusedSimpArgs false
set_option linter.unusedVariables false

namespace Go.Proofs.YtfalllekhcocgaaDoor
open Go.RowKit

theorem starE : "*" ++ "errors.errorString" = "*errors.errorString" := by decide
theorem errRow (u : TypeId) (h : Tryd.prog.typeName? 3 u = some "*errors.errorString") : u = 151 :=
  typeName_ptr_named (nm := "errors.errorString") (by rw [starE]; kernel_rfl) (by kernel_rfl) (by decide) u (by rw [starE]; exact h)
theorem gErr : Tryd.prog.globalNamed "strconv.ErrRange" = some 4 := by kernel_rfl
theorem gErrType : (Tryd.prog.globals[4]?).map (·.type) = some 99 := by kernel_rfl
theorem err_of {r : List (String × DataW Unit)} {W : World} (h : laidMet Tryd.prog (("strconv.ErrRange", Rows.laid_strconv_ErrRange) :: r) W) : ErrIs W := by
  obtain ⟨a, s, hv, _⟩ := laid_sentinel h gErr gErrType Tryd.underlying99 errRow Tryd.underlying151 Tryd.underlying153 rfl rfl Tryd.underlying9 (by kernel_rfl) (by kernel_rfl)
  have hc := World.var?_cell gErr hv 0
  have hc' : W.cell? ⟨4, 0, none⟩ = some (.iface 151 (.pointer (some a))) := by simpa using hc
  exact ⟨World.block_lt_of_cell? _ _ hc', _, hc', .inr ⟨_, _, rfl⟩⟩
abbrev laid5 : List (String × DataW Unit) := [("math/bits.deBruijn32tab", Rows.laid_math_bits_deBruijn32tab), ("math/bits.deBruijn64tab", Rows.laid_math_bits_deBruijn64tab), ("internal/strconv.uint64pow10", Rows.laid_internal_strconv_uint64pow10), ("strconv.ErrRange", Rows.laid_strconv_ErrRange), ("strconv.ErrSyntax", Rows.laid_strconv_ErrSyntax)]
theorem table5_of {W : World} (h : laidMetH Tryd.prog laid5 W) : Lib.TabIs Tryd.prog W "internal/strconv.uint64pow10" .u64 Lib.pow10Tab ∧ 2 < W.heap.size ∧ ErrIs W := by
  have h' : laidMet Tryd.prog laid5 W := h
  have h2 := h'.tail.tail
  have ht : Lib.TabIs Tryd.prog W "internal/strconv.uint64pow10" .u64 Lib.pow10Tab := Lib.tabIs_of_head gPow gPowType Tryd.underlying139 Tryd.underlying22 (by kernel_rfl) (by kernel_rfl) h2
  refine ⟨ht, ?_, err_of h2.tail⟩
  have := ht.cell gPow 0 (by decide)
  exact World.block_lt_of_cell? _ _ this
theorem tyU8 : U8 Tryd.prog 46 5 := ⟨Tryd.underlying46, Tryd.underlying5, by kernel_rfl⟩
theorem parseL (w : World) {l : List UInt8} {v : Value} (h : parseV l = v) (hlen : l.length ≤ 9223372036854775807) (hE : ErrIs w) : Calls Tryd.prog 19 #[.string (bs l)] w fun e w' => e = .returned v ∧ Below w.heap.size w w' := by
  rw [← h]; exact parseW_any w l hlen hE
theorem rparseL (w : World) {l : List UInt8} {v : Value} (h : parseV l = v) (hlen : l.length ≤ 9223372036854775807) : Calls Tryd.prog 38 #[.string (bs l)] w fun e w' => e = .returned v ∧ Below w.heap.size w w' := by
  rw [← h]; exact rparse_any w l hlen
theorem textL (w : World) {x : Int} {l : List UInt8} (h : textZ x = l) (hx : Fits x) (htab : Lib.TabIs Tryd.prog w "internal/strconv.uint64pow10" .u64 Lib.pow10Tab) (hg : 2 < w.heap.size) : Calls Tryd.prog 21 #[WV x] w fun e w' => e = .returned (.string (bs l)) ∧ Below w.heap.size w w' := by
  rw [← h]; exact textW_any w x hx htab hg
end Go.Proofs.YtfalllekhcocgaaDoor

namespace Go.Proofs.YtfalllekhcocgaaDoor
open Go.RowKit

theorem lawTexts (w : World) (x : Int) (hx : Fits x) (htab : Lib.TabIs Tryd.prog w "internal/strconv.uint64pow10" .u64 Lib.pow10Tab) (hg : 2 < w.heap.size) (hE : ErrIs w) : Calls Tryd.prog 12 #[WV x] w fun e w' => e = .returned (.bool true) ∧ Below w.heap.size w w' := by
  refine d_in (args := [WV x]) 29 Tryd.func12 rfl rfl rfl ?_
  refine d_reg ?_
  refine h_box (cs := #[hiW x, loW x]) rfl rfl rfl rfl ?_; intro g1_1
  refine h_q hflW rfl ?_
  refine h_done (d_reg ?_)
  refine h_load 0 (v := .agg #[hiW x, loW x]) (reads_agg (cs := [hiW x, loW x]) tyWide rfl) rfl rfl rfl rfl ?_
  refine h_call (ent_of Tryd.func21 (by kernel_rfl) rfl) (fun w hH => textW_any _ x hx (tab_below htab hH.up.below hg) (Nat.lt_of_lt_of_le hg hH.up.size)) rfl rfl rfl rfl ?_
  refine h_q hflW rfl ?_
  refine h_done (d_reg ?_)
  refine h_q hflW rfl ?_
  refine h_call (ent_of Tryd.func19 (by kernel_rfl) rfl) (fun w hH => parseL _ (parse_text hx) (by have := textZ_len hx; omega) (hE.up hH.up.below)) rfl rfl rfl rfl ?_
  refine h_q hflW rfl ?_
  refine h_alloc zeWide rfl rfl ?_; intro g4_2
  refine h_store 0 (v := WV x) (#[hiW x, loW x]) tyWide.2 rfl rfl rfl rfl rfl rfl rfl rfl rfl rfl ?_
  refine h_q hflW rfl ?_
  refine h_done (d_reg ?_)
  refine h_call (ent_of Tryd.func20 (by kernel_rfl) rfl) (fun w hH => known_any _ (tab_below htab hH.up.below hg) (Nat.lt_of_lt_of_le hg hH.up.size)) rfl rfl rfl rfl ?_
  refine h_q hflW rfl ?_
  refine h_load 1 (v := .agg #[hiW x, loW x]) (reads_agg (cs := [hiW x, loW x]) tyWide rfl) rfl rfl rfl rfl ?_
  refine h_call (ent_of Tryd.func37 (by kernel_rfl) rfl) (fun w hH => rtextW_any _ x hx) rfl rfl rfl rfl ?_
  refine h_same (beq_self_eq_true _) rfl rfl rfl rfl ?_
  refine h_q hflW rfl ?_
  refine h_load 0 (v := .agg #[hiW x, loW x]) (reads_agg (cs := [hiW x, loW x]) tyWide rfl) rfl rfl rfl rfl ?_
  refine h_load 1 (v := .agg #[hiW x, loW x]) (reads_agg (cs := [hiW x, loW x]) tyWide rfl) rfl rfl rfl rfl ?_
  refine h_eqs (eqW_same _ _) rfl rfl rfl rfl ?_
  refine h_q hflW rfl ?_
  refine h_cmp (cmp_eql_t (by decide)) rfl rfl rfl rfl ?_
  refine h_q hflW rfl ?_
  refine h_done (d_ret ?_)
  exact f_fin1 (.tmp rfl) (fun w h => ⟨rfl, h.up.below⟩) rfl

theorem tyUint8 : OneOf Tryd.prog 5 := oneOf Tryd.underlying5 rfl (by kernel_rfl)

theorem lawParses (w : World) (l : List UInt8) (A : Option Addr) (c : Nat) (nl : List UInt8) (neg : Bool) (hl : l.length ≤ 9223372036854775807) (hnl : nl.length ≤ 9223372036854775807) (hbs : Bs (fun k => k < w.heap.size) w A c nl) (htab : Lib.TabIs Tryd.prog w "internal/strconv.uint64pow10" .u64 Lib.pow10Tab) (hg : 2 < w.heap.size) (hE : ErrIs w) : Calls Tryd.prog 13 #[.string (bs l), .slice A nl.length c, .bool neg] w fun e w' => e = .returned (.bool true) ∧ Below w.heap.size w w' := by
  refine d_in (args := [.string (bs l), .slice A nl.length c, .bool neg]) 69 Tryd.func13 rfl rfl rfl ?_
  refine d_reg ?_
  refine h_q hflW rfl ?_
  refine h_done (d_seq ?_)
  by_cases h0 : 0 < nl.length
  · skip
    refine d_reg ?_
    refine h_q hflW rfl ?_
    refine h_builtin (v := .int .i64 (nl.length : Int)) (fun w cs => run_len_slice Tryd.underlying46 _ _ _ _ w cs) rfl rfl rfl ?_
    refine h_cmp (cmp_gtr_t (by omega)) rfl rfl rfl rfl ?_
    refine h_done (d_then rfl (d_reg ?_))
    refine h_q hflW rfl ?_
    refine h_done (d_seq (d_reg ?_))
    refine h_q hflW rfl ?_
    refine h_done (d_block ?_)
    refine d_loop (α := Nat × List UInt8) (fun (i, m) => [(1, .slice A nl.length c), (2, .bool neg), (6, .bool false), (0, .string (bs m)), (7, .int .i64 (i : Int))]) (fun (i, m) => []) (fun (i, m) => i ≤ nl.length ∧ i ≤ 80 ∧ m.length = i) (fun (i, m) => 80 - i) (0, []) ⟨by omega, by omega, rfl⟩ ⟨rfl, rfl, rfl, rfl, rfl, trivial⟩ rfl ?_
    rintro ⟨i, m⟩ ⟨hi, hi80, hm⟩
    refine WC2.at_ (env' := [(1, .slice A nl.length c), (2, .bool neg), (6, .bool false), (0, .string (bs m)), (7, .int .i64 (i : Int))]) (rs' := []) ⟨rfl, rfl, rfl, rfl, rfl, trivial⟩ rfl ?_
    refine d_seq ?_
    rcases (show (i < nl.length ∧ i < 80) ∨ (i < nl.length ∧ ¬ i < 80) ∨ ¬ i < nl.length by omega) with ⟨h1, h2⟩ | ⟨h1, h2⟩ | h1
    · skip
      obtain ⟨ch, hch⟩ : ∃ ch, nl[i]? = some ch := ⟨_, List.getElem?_eq_getElem h1⟩
      obtain ⟨ga, oa, hA, hga, hcell⟩ := hbs.at_ hch
      refine d_reg ?_
      refine h_q hflW rfl ?_
      refine h_builtin (v := .int .i64 (nl.length : Int)) (fun w cs => run_len_slice Tryd.underlying46 _ _ _ _ w cs) rfl rfl rfl ?_
      refine h_cmp (cmp_lss_t (by omega)) rfl rfl rfl rfl ?_
      refine h_q hflW rfl ?_
      refine h_cmp (cmp_lss_t (by omega)) rfl rfl rfl rfl ?_
      refine h_q hflW rfl ?_
      refine h_done (d_then rfl (d_skip (f_to (d_seq (d_block (d_reg1 ?_))))))
      refine h_q hflW rfl ?_
      refine h_val rfl (.pointer (some ⟨ga, oa + i, none⟩)) (fun b w hb hH => by exact exec_sidx Tryd.underlying46 tyUint8 hA (by omega) rfl rfl rfl hb) ?_
      refine h_val rfl (.int .u8 (ch.toNat : Int)) (fun b w hb hH => by exact exec_load1 tyUint8 ((hH.up.below.cell (show (⟨ga, oa + i, none⟩ : Addr).block < _ from hga)).trans hcell) rfl rfl hb) ?_
      refine h_val rfl (.int .u8 ((ch.toNat % 10 : Nat) : Int)) (fun b w hb hH => by exact exec_remN rfl rfl rfl (by decide) (by rw [Int.tmod_eq_emod_of_nonneg (by omega)]; omega) hb) ?_
      refine h_ar (z' := ((dgt (ch.toNat % 10)).toNat : Int)) (conv_dgt _) rfl rfl rfl rfl rfl ?_
      refine h_bs1 bsOne rfl rfl rfl ?_; intro g32_1
      refine h_bstr 0 (b := (dgt (ch.toNat % 10))) Tryd.underlying46 Tryd.underlying5 Tryd.underlying9 rfl rfl rfl rfl ?_
      refine h_cat (r := m ++ [dgt (ch.toNat % 10)]) rfl (by simp; omega) rfl rfl rfl rfl ?_
      refine h_q hflW rfl ?_
      refine h_nil (f_block (f_to (d_reg1 ?_)))
      refine h_q hflW rfl ?_
      refine h_ar (z' := ((i + 1 : Nat) : Int)) (by rw [IntWalk.i64_in _ (by omega)]; omega) rfl rfl rfl rfl rfl ?_
      refine h_q hflW rfl ?_
      refine h_nil ?_
      exact f_again (i + 1, m ++ [dgt (ch.toNat % 10)]) 1 ⟨by omega, by omega, by simp [hm]⟩ (by show 80 - (i + 1) < 80 - i; omega) ⟨rfl, rfl, rfl, rfl, rfl, trivial⟩ rfl
    · skip
      refine d_reg ?_
      refine h_q hflW rfl ?_
      refine h_builtin (v := .int .i64 (nl.length : Int)) (fun w cs => run_len_slice Tryd.underlying46 _ _ _ _ w cs) rfl rfl rfl ?_
      refine h_cmp (cmp_lss_t (by omega)) rfl rfl rfl rfl ?_
      refine h_q hflW rfl ?_
      refine h_cmp (cmp_lss_f (by omega)) rfl rfl rfl rfl ?_
      refine h_q hflW rfl ?_
      refine h_done (d_else rfl (d_exit (f_then_exit (f_then_exit (f_block_exit (f_to ?_))))))
      cases neg
      · skip
        refine d_reg ?_
        refine h_q hflW rfl ?_
        refine h_done (d_else rfl (d_skip (f_to ?_)))
        rcases parse_ways (m) with ⟨er, hne, hv⟩ | ⟨x, hx, hv, ht⟩
        · skip
          refine d_reg ?_
          refine h_q hflW rfl ?_
          refine h_call (ent_of Tryd.func19 (by kernel_rfl) rfl) (fun w hH => parseL _ hv (by omega) (hE.up hH.up.below)) rfl rfl rfl rfl ?_
          refine h_q hflW rfl ?_
          refine h_alloc zeWide rfl rfl ?_; intro g8_2
          refine h_store 0 (v := WV 0) (#[hiW 0, loW 0]) tyWide.2 rfl rfl rfl rfl rfl rfl rfl rfl rfl rfl ?_
          refine h_q hflW rfl ?_
          refine h_done (d_reg ?_)
          refine h_q hflW rfl ?_
          refine h_call (ent_of Tryd.func38 (by kernel_rfl) rfl) (fun w hH => rparseL _ hv (by omega)) rfl rfl rfl rfl ?_
          refine h_q hflW rfl ?_
          refine h_alloc zeWide rfl rfl ?_; intro g10_3
          refine h_store 0 (v := WV 0) (#[hiW 0, loW 0]) tyWide.2 rfl rfl rfl rfl rfl rfl rfl rfl rfl rfl ?_
          refine h_q hflW rfl ?_
          refine h_done (d_reg ?_)
          refine h_call (ent_of Tryd.func20 (by kernel_rfl) rfl) (fun w hH => known_any _ (tab_below htab hH.up.below hg) (Nat.lt_of_lt_of_le hg hH.up.size)) rfl rfl rfl rfl ?_
          refine h_q hflW rfl ?_
          refine h_load 1 (v := .agg #[hiW 0, loW 0]) (reads_agg (cs := [hiW 0, loW 0]) tyWide rfl) rfl rfl rfl rfl ?_
          refine h_load 0 (v := .agg #[hiW 0, loW 0]) (reads_agg (cs := [hiW 0, loW 0]) tyWide rfl) rfl rfl rfl rfl ?_
          refine h_eqs (eqW_same _ _) rfl rfl rfl rfl ?_
          refine h_q hflW rfl ?_
          refine h_cmp (cmp_eql_t rfl) rfl rfl rfl rfl ?_
          refine h_q hflW rfl ?_
          refine h_cmp (cmp_neq_t hne) rfl rfl rfl rfl ?_
          refine h_q hflW rfl ?_
          refine h_done ?_
          refine WC2.keep (env' := [(6, .bool true)]) ⟨rfl, trivial⟩ ?_
          refine d_ret ?_
          exact f_fin1 (.tmp rfl) (fun w h => ⟨rfl, h.up.below⟩) rfl
        · skip
          refine d_reg ?_
          refine h_q hflW rfl ?_
          refine h_call (ent_of Tryd.func19 (by kernel_rfl) rfl) (fun w hH => parseL _ hv (by omega) (hE.up hH.up.below)) rfl rfl rfl rfl ?_
          refine h_q hflW rfl ?_
          refine h_alloc zeWide rfl rfl ?_; intro g8_4
          refine h_store 0 (v := WV x) (#[hiW x, loW x]) tyWide.2 rfl rfl rfl rfl rfl rfl rfl rfl rfl rfl ?_
          refine h_q hflW rfl ?_
          refine h_done (d_reg ?_)
          refine h_q hflW rfl ?_
          refine h_call (ent_of Tryd.func38 (by kernel_rfl) rfl) (fun w hH => rparseL _ hv (by omega)) rfl rfl rfl rfl ?_
          refine h_q hflW rfl ?_
          refine h_alloc zeWide rfl rfl ?_; intro g10_5
          refine h_store 0 (v := WV x) (#[hiW x, loW x]) tyWide.2 rfl rfl rfl rfl rfl rfl rfl rfl rfl rfl ?_
          refine h_q hflW rfl ?_
          refine h_done (d_reg ?_)
          refine h_call (ent_of Tryd.func20 (by kernel_rfl) rfl) (fun w hH => known_any _ (tab_below htab hH.up.below hg) (Nat.lt_of_lt_of_le hg hH.up.size)) rfl rfl rfl rfl ?_
          refine h_q hflW rfl ?_
          refine h_load 1 (v := .agg #[hiW x, loW x]) (reads_agg (cs := [hiW x, loW x]) tyWide rfl) rfl rfl rfl rfl ?_
          refine h_load 0 (v := .agg #[hiW x, loW x]) (reads_agg (cs := [hiW x, loW x]) tyWide rfl) rfl rfl rfl rfl ?_
          refine h_eqs (eqW_same _ _) rfl rfl rfl rfl ?_
          refine h_q hflW rfl ?_
          refine h_cmp (cmp_eql_t (by decide)) rfl rfl rfl rfl ?_
          refine h_q hflW rfl ?_
          refine h_cmp (cmp_neq_f (by omega)) rfl rfl rfl rfl ?_
          refine h_q hflW rfl ?_
          refine h_load 1 (v := .agg #[hiW x, loW x]) (reads_agg (cs := [hiW x, loW x]) tyWide rfl) rfl rfl rfl rfl ?_
          refine h_call (ent_of Tryd.func21 (by kernel_rfl) rfl) (fun w hH => textL _ ht hx (tab_below htab hH.up.below hg) (Nat.lt_of_lt_of_le hg hH.up.size)) rfl rfl rfl rfl ?_
          refine h_q hflW rfl ?_
          refine h_same (beq_self_eq_true _) rfl rfl rfl rfl ?_
          refine h_q hflW rfl ?_
          refine h_done ?_
          refine WC2.keep (env' := [(6, .bool true)]) ⟨rfl, trivial⟩ ?_
          refine d_ret ?_
          exact f_fin1 (.tmp rfl) (fun w h => ⟨rfl, h.up.below⟩) rfl
      · skip
        refine d_reg ?_
        refine h_q hflW rfl ?_
        refine h_done (d_then rfl (d_reg1 ?_))
        refine h_q hflW rfl ?_
        refine h_cat (r := 45 :: m) rfl (by simp; omega) rfl rfl rfl rfl ?_
        refine h_q hflW rfl ?_
        refine h_nil (f_to ?_)
        rcases parse_ways (45 :: m) with ⟨er, hne, hv⟩ | ⟨x, hx, hv, ht⟩
        · skip
          refine d_reg ?_
          refine h_q hflW rfl ?_
          refine h_call (ent_of Tryd.func19 (by kernel_rfl) rfl) (fun w hH => parseL _ hv (by simp only [List.length_cons]; omega) (hE.up hH.up.below)) rfl rfl rfl rfl ?_
          refine h_q hflW rfl ?_
          refine h_alloc zeWide rfl rfl ?_; intro g8_6
          refine h_store 0 (v := WV 0) (#[hiW 0, loW 0]) tyWide.2 rfl rfl rfl rfl rfl rfl rfl rfl rfl rfl ?_
          refine h_q hflW rfl ?_
          refine h_done (d_reg ?_)
          refine h_q hflW rfl ?_
          refine h_call (ent_of Tryd.func38 (by kernel_rfl) rfl) (fun w hH => rparseL _ hv (by simp only [List.length_cons]; omega)) rfl rfl rfl rfl ?_
          refine h_q hflW rfl ?_
          refine h_alloc zeWide rfl rfl ?_; intro g10_7
          refine h_store 0 (v := WV 0) (#[hiW 0, loW 0]) tyWide.2 rfl rfl rfl rfl rfl rfl rfl rfl rfl rfl ?_
          refine h_q hflW rfl ?_
          refine h_done (d_reg ?_)
          refine h_call (ent_of Tryd.func20 (by kernel_rfl) rfl) (fun w hH => known_any _ (tab_below htab hH.up.below hg) (Nat.lt_of_lt_of_le hg hH.up.size)) rfl rfl rfl rfl ?_
          refine h_q hflW rfl ?_
          refine h_load 1 (v := .agg #[hiW 0, loW 0]) (reads_agg (cs := [hiW 0, loW 0]) tyWide rfl) rfl rfl rfl rfl ?_
          refine h_load 0 (v := .agg #[hiW 0, loW 0]) (reads_agg (cs := [hiW 0, loW 0]) tyWide rfl) rfl rfl rfl rfl ?_
          refine h_eqs (eqW_same _ _) rfl rfl rfl rfl ?_
          refine h_q hflW rfl ?_
          refine h_cmp (cmp_eql_t rfl) rfl rfl rfl rfl ?_
          refine h_q hflW rfl ?_
          refine h_cmp (cmp_neq_t hne) rfl rfl rfl rfl ?_
          refine h_q hflW rfl ?_
          refine h_done ?_
          refine WC2.keep (env' := [(6, .bool true)]) ⟨rfl, trivial⟩ ?_
          refine d_ret ?_
          exact f_fin1 (.tmp rfl) (fun w h => ⟨rfl, h.up.below⟩) rfl
        · skip
          refine d_reg ?_
          refine h_q hflW rfl ?_
          refine h_call (ent_of Tryd.func19 (by kernel_rfl) rfl) (fun w hH => parseL _ hv (by simp only [List.length_cons]; omega) (hE.up hH.up.below)) rfl rfl rfl rfl ?_
          refine h_q hflW rfl ?_
          refine h_alloc zeWide rfl rfl ?_; intro g8_8
          refine h_store 0 (v := WV x) (#[hiW x, loW x]) tyWide.2 rfl rfl rfl rfl rfl rfl rfl rfl rfl rfl ?_
          refine h_q hflW rfl ?_
          refine h_done (d_reg ?_)
          refine h_q hflW rfl ?_
          refine h_call (ent_of Tryd.func38 (by kernel_rfl) rfl) (fun w hH => rparseL _ hv (by simp only [List.length_cons]; omega)) rfl rfl rfl rfl ?_
          refine h_q hflW rfl ?_
          refine h_alloc zeWide rfl rfl ?_; intro g10_9
          refine h_store 0 (v := WV x) (#[hiW x, loW x]) tyWide.2 rfl rfl rfl rfl rfl rfl rfl rfl rfl rfl ?_
          refine h_q hflW rfl ?_
          refine h_done (d_reg ?_)
          refine h_call (ent_of Tryd.func20 (by kernel_rfl) rfl) (fun w hH => known_any _ (tab_below htab hH.up.below hg) (Nat.lt_of_lt_of_le hg hH.up.size)) rfl rfl rfl rfl ?_
          refine h_q hflW rfl ?_
          refine h_load 1 (v := .agg #[hiW x, loW x]) (reads_agg (cs := [hiW x, loW x]) tyWide rfl) rfl rfl rfl rfl ?_
          refine h_load 0 (v := .agg #[hiW x, loW x]) (reads_agg (cs := [hiW x, loW x]) tyWide rfl) rfl rfl rfl rfl ?_
          refine h_eqs (eqW_same _ _) rfl rfl rfl rfl ?_
          refine h_q hflW rfl ?_
          refine h_cmp (cmp_eql_t (by decide)) rfl rfl rfl rfl ?_
          refine h_q hflW rfl ?_
          refine h_cmp (cmp_neq_f (by omega)) rfl rfl rfl rfl ?_
          refine h_q hflW rfl ?_
          refine h_load 1 (v := .agg #[hiW x, loW x]) (reads_agg (cs := [hiW x, loW x]) tyWide rfl) rfl rfl rfl rfl ?_
          refine h_call (ent_of Tryd.func21 (by kernel_rfl) rfl) (fun w hH => textL _ ht hx (tab_below htab hH.up.below hg) (Nat.lt_of_lt_of_le hg hH.up.size)) rfl rfl rfl rfl ?_
          refine h_q hflW rfl ?_
          refine h_same (beq_self_eq_true _) rfl rfl rfl rfl ?_
          refine h_q hflW rfl ?_
          refine h_done ?_
          refine WC2.keep (env' := [(6, .bool true)]) ⟨rfl, trivial⟩ ?_
          refine d_ret ?_
          exact f_fin1 (.tmp rfl) (fun w h => ⟨rfl, h.up.below⟩) rfl
    · skip
      refine d_reg ?_
      refine h_q hflW rfl ?_
      refine h_builtin (v := .int .i64 (nl.length : Int)) (fun w cs => run_len_slice Tryd.underlying46 _ _ _ _ w cs) rfl rfl rfl ?_
      refine h_cmp (cmp_lss_f (by omega)) rfl rfl rfl rfl ?_
      refine h_q hflW rfl ?_
      refine h_done (d_else rfl (d_exit (f_then_exit (f_then_exit (f_block_exit (f_to ?_))))))
      cases neg
      · skip
        refine d_reg ?_
        refine h_q hflW rfl ?_
        refine h_done (d_else rfl (d_skip (f_to ?_)))
        rcases parse_ways (m) with ⟨er, hne, hv⟩ | ⟨x, hx, hv, ht⟩
        · skip
          refine d_reg ?_
          refine h_q hflW rfl ?_
          refine h_call (ent_of Tryd.func19 (by kernel_rfl) rfl) (fun w hH => parseL _ hv (by omega) (hE.up hH.up.below)) rfl rfl rfl rfl ?_
          refine h_q hflW rfl ?_
          refine h_alloc zeWide rfl rfl ?_; intro g8_10
          refine h_store 0 (v := WV 0) (#[hiW 0, loW 0]) tyWide.2 rfl rfl rfl rfl rfl rfl rfl rfl rfl rfl ?_
          refine h_q hflW rfl ?_
          refine h_done (d_reg ?_)
          refine h_q hflW rfl ?_
          refine h_call (ent_of Tryd.func38 (by kernel_rfl) rfl) (fun w hH => rparseL _ hv (by omega)) rfl rfl rfl rfl ?_
          refine h_q hflW rfl ?_
          refine h_alloc zeWide rfl rfl ?_; intro g10_11
          refine h_store 0 (v := WV 0) (#[hiW 0, loW 0]) tyWide.2 rfl rfl rfl rfl rfl rfl rfl rfl rfl rfl ?_
          refine h_q hflW rfl ?_
          refine h_done (d_reg ?_)
          refine h_call (ent_of Tryd.func20 (by kernel_rfl) rfl) (fun w hH => known_any _ (tab_below htab hH.up.below hg) (Nat.lt_of_lt_of_le hg hH.up.size)) rfl rfl rfl rfl ?_
          refine h_q hflW rfl ?_
          refine h_load 1 (v := .agg #[hiW 0, loW 0]) (reads_agg (cs := [hiW 0, loW 0]) tyWide rfl) rfl rfl rfl rfl ?_
          refine h_load 0 (v := .agg #[hiW 0, loW 0]) (reads_agg (cs := [hiW 0, loW 0]) tyWide rfl) rfl rfl rfl rfl ?_
          refine h_eqs (eqW_same _ _) rfl rfl rfl rfl ?_
          refine h_q hflW rfl ?_
          refine h_cmp (cmp_eql_t rfl) rfl rfl rfl rfl ?_
          refine h_q hflW rfl ?_
          refine h_cmp (cmp_neq_t hne) rfl rfl rfl rfl ?_
          refine h_q hflW rfl ?_
          refine h_done ?_
          refine WC2.keep (env' := [(6, .bool true)]) ⟨rfl, trivial⟩ ?_
          refine d_ret ?_
          exact f_fin1 (.tmp rfl) (fun w h => ⟨rfl, h.up.below⟩) rfl
        · skip
          refine d_reg ?_
          refine h_q hflW rfl ?_
          refine h_call (ent_of Tryd.func19 (by kernel_rfl) rfl) (fun w hH => parseL _ hv (by omega) (hE.up hH.up.below)) rfl rfl rfl rfl ?_
          refine h_q hflW rfl ?_
          refine h_alloc zeWide rfl rfl ?_; intro g8_12
          refine h_store 0 (v := WV x) (#[hiW x, loW x]) tyWide.2 rfl rfl rfl rfl rfl rfl rfl rfl rfl rfl ?_
          refine h_q hflW rfl ?_
          refine h_done (d_reg ?_)
          refine h_q hflW rfl ?_
          refine h_call (ent_of Tryd.func38 (by kernel_rfl) rfl) (fun w hH => rparseL _ hv (by omega)) rfl rfl rfl rfl ?_
          refine h_q hflW rfl ?_
          refine h_alloc zeWide rfl rfl ?_; intro g10_13
          refine h_store 0 (v := WV x) (#[hiW x, loW x]) tyWide.2 rfl rfl rfl rfl rfl rfl rfl rfl rfl rfl ?_
          refine h_q hflW rfl ?_
          refine h_done (d_reg ?_)
          refine h_call (ent_of Tryd.func20 (by kernel_rfl) rfl) (fun w hH => known_any _ (tab_below htab hH.up.below hg) (Nat.lt_of_lt_of_le hg hH.up.size)) rfl rfl rfl rfl ?_
          refine h_q hflW rfl ?_
          refine h_load 1 (v := .agg #[hiW x, loW x]) (reads_agg (cs := [hiW x, loW x]) tyWide rfl) rfl rfl rfl rfl ?_
          refine h_load 0 (v := .agg #[hiW x, loW x]) (reads_agg (cs := [hiW x, loW x]) tyWide rfl) rfl rfl rfl rfl ?_
          refine h_eqs (eqW_same _ _) rfl rfl rfl rfl ?_
          refine h_q hflW rfl ?_
          refine h_cmp (cmp_eql_t (by decide)) rfl rfl rfl rfl ?_
          refine h_q hflW rfl ?_
          refine h_cmp (cmp_neq_f (by omega)) rfl rfl rfl rfl ?_
          refine h_q hflW rfl ?_
          refine h_load 1 (v := .agg #[hiW x, loW x]) (reads_agg (cs := [hiW x, loW x]) tyWide rfl) rfl rfl rfl rfl ?_
          refine h_call (ent_of Tryd.func21 (by kernel_rfl) rfl) (fun w hH => textL _ ht hx (tab_below htab hH.up.below hg) (Nat.lt_of_lt_of_le hg hH.up.size)) rfl rfl rfl rfl ?_
          refine h_q hflW rfl ?_
          refine h_same (beq_self_eq_true _) rfl rfl rfl rfl ?_
          refine h_q hflW rfl ?_
          refine h_done ?_
          refine WC2.keep (env' := [(6, .bool true)]) ⟨rfl, trivial⟩ ?_
          refine d_ret ?_
          exact f_fin1 (.tmp rfl) (fun w h => ⟨rfl, h.up.below⟩) rfl
      · skip
        refine d_reg ?_
        refine h_q hflW rfl ?_
        refine h_done (d_then rfl (d_reg1 ?_))
        refine h_q hflW rfl ?_
        refine h_cat (r := 45 :: m) rfl (by simp; omega) rfl rfl rfl rfl ?_
        refine h_q hflW rfl ?_
        refine h_nil (f_to ?_)
        rcases parse_ways (45 :: m) with ⟨er, hne, hv⟩ | ⟨x, hx, hv, ht⟩
        · skip
          refine d_reg ?_
          refine h_q hflW rfl ?_
          refine h_call (ent_of Tryd.func19 (by kernel_rfl) rfl) (fun w hH => parseL _ hv (by simp only [List.length_cons]; omega) (hE.up hH.up.below)) rfl rfl rfl rfl ?_
          refine h_q hflW rfl ?_
          refine h_alloc zeWide rfl rfl ?_; intro g8_14
          refine h_store 0 (v := WV 0) (#[hiW 0, loW 0]) tyWide.2 rfl rfl rfl rfl rfl rfl rfl rfl rfl rfl ?_
          refine h_q hflW rfl ?_
          refine h_done (d_reg ?_)
          refine h_q hflW rfl ?_
          refine h_call (ent_of Tryd.func38 (by kernel_rfl) rfl) (fun w hH => rparseL _ hv (by simp only [List.length_cons]; omega)) rfl rfl rfl rfl ?_
          refine h_q hflW rfl ?_
          refine h_alloc zeWide rfl rfl ?_; intro g10_15
          refine h_store 0 (v := WV 0) (#[hiW 0, loW 0]) tyWide.2 rfl rfl rfl rfl rfl rfl rfl rfl rfl rfl ?_
          refine h_q hflW rfl ?_
          refine h_done (d_reg ?_)
          refine h_call (ent_of Tryd.func20 (by kernel_rfl) rfl) (fun w hH => known_any _ (tab_below htab hH.up.below hg) (Nat.lt_of_lt_of_le hg hH.up.size)) rfl rfl rfl rfl ?_
          refine h_q hflW rfl ?_
          refine h_load 1 (v := .agg #[hiW 0, loW 0]) (reads_agg (cs := [hiW 0, loW 0]) tyWide rfl) rfl rfl rfl rfl ?_
          refine h_load 0 (v := .agg #[hiW 0, loW 0]) (reads_agg (cs := [hiW 0, loW 0]) tyWide rfl) rfl rfl rfl rfl ?_
          refine h_eqs (eqW_same _ _) rfl rfl rfl rfl ?_
          refine h_q hflW rfl ?_
          refine h_cmp (cmp_eql_t rfl) rfl rfl rfl rfl ?_
          refine h_q hflW rfl ?_
          refine h_cmp (cmp_neq_t hne) rfl rfl rfl rfl ?_
          refine h_q hflW rfl ?_
          refine h_done ?_
          refine WC2.keep (env' := [(6, .bool true)]) ⟨rfl, trivial⟩ ?_
          refine d_ret ?_
          exact f_fin1 (.tmp rfl) (fun w h => ⟨rfl, h.up.below⟩) rfl
        · skip
          refine d_reg ?_
          refine h_q hflW rfl ?_
          refine h_call (ent_of Tryd.func19 (by kernel_rfl) rfl) (fun w hH => parseL _ hv (by simp only [List.length_cons]; omega) (hE.up hH.up.below)) rfl rfl rfl rfl ?_
          refine h_q hflW rfl ?_
          refine h_alloc zeWide rfl rfl ?_; intro g8_16
          refine h_store 0 (v := WV x) (#[hiW x, loW x]) tyWide.2 rfl rfl rfl rfl rfl rfl rfl rfl rfl rfl ?_
          refine h_q hflW rfl ?_
          refine h_done (d_reg ?_)
          refine h_q hflW rfl ?_
          refine h_call (ent_of Tryd.func38 (by kernel_rfl) rfl) (fun w hH => rparseL _ hv (by simp only [List.length_cons]; omega)) rfl rfl rfl rfl ?_
          refine h_q hflW rfl ?_
          refine h_alloc zeWide rfl rfl ?_; intro g10_17
          refine h_store 0 (v := WV x) (#[hiW x, loW x]) tyWide.2 rfl rfl rfl rfl rfl rfl rfl rfl rfl rfl ?_
          refine h_q hflW rfl ?_
          refine h_done (d_reg ?_)
          refine h_call (ent_of Tryd.func20 (by kernel_rfl) rfl) (fun w hH => known_any _ (tab_below htab hH.up.below hg) (Nat.lt_of_lt_of_le hg hH.up.size)) rfl rfl rfl rfl ?_
          refine h_q hflW rfl ?_
          refine h_load 1 (v := .agg #[hiW x, loW x]) (reads_agg (cs := [hiW x, loW x]) tyWide rfl) rfl rfl rfl rfl ?_
          refine h_load 0 (v := .agg #[hiW x, loW x]) (reads_agg (cs := [hiW x, loW x]) tyWide rfl) rfl rfl rfl rfl ?_
          refine h_eqs (eqW_same _ _) rfl rfl rfl rfl ?_
          refine h_q hflW rfl ?_
          refine h_cmp (cmp_eql_t (by decide)) rfl rfl rfl rfl ?_
          refine h_q hflW rfl ?_
          refine h_cmp (cmp_neq_f (by omega)) rfl rfl rfl rfl ?_
          refine h_q hflW rfl ?_
          refine h_load 1 (v := .agg #[hiW x, loW x]) (reads_agg (cs := [hiW x, loW x]) tyWide rfl) rfl rfl rfl rfl ?_
          refine h_call (ent_of Tryd.func21 (by kernel_rfl) rfl) (fun w hH => textL _ ht hx (tab_below htab hH.up.below hg) (Nat.lt_of_lt_of_le hg hH.up.size)) rfl rfl rfl rfl ?_
          refine h_q hflW rfl ?_
          refine h_same (beq_self_eq_true _) rfl rfl rfl rfl ?_
          refine h_q hflW rfl ?_
          refine h_done ?_
          refine WC2.keep (env' := [(6, .bool true)]) ⟨rfl, trivial⟩ ?_
          refine d_ret ?_
          exact f_fin1 (.tmp rfl) (fun w h => ⟨rfl, h.up.below⟩) rfl
  · skip
    refine d_reg ?_
    refine h_q hflW rfl ?_
    refine h_builtin (v := .int .i64 (nl.length : Int)) (fun w cs => run_len_slice Tryd.underlying46 _ _ _ _ w cs) rfl rfl rfl ?_
    refine h_cmp (cmp_gtr_f (by omega)) rfl rfl rfl rfl ?_
    refine h_done (d_else rfl (d_skip (f_to ?_)))
    rcases parse_ways (l) with ⟨er, hne, hv⟩ | ⟨x, hx, hv, ht⟩
    · skip
      refine d_reg ?_
      refine h_q hflW rfl ?_
      refine h_call (ent_of Tryd.func19 (by kernel_rfl) rfl) (fun w hH => parseL _ hv (by omega) (hE.up hH.up.below)) rfl rfl rfl rfl ?_
      refine h_q hflW rfl ?_
      refine h_alloc zeWide rfl rfl ?_; intro g8_18
      refine h_store 0 (v := WV 0) (#[hiW 0, loW 0]) tyWide.2 rfl rfl rfl rfl rfl rfl rfl rfl rfl rfl ?_
      refine h_q hflW rfl ?_
      refine h_done (d_reg ?_)
      refine h_q hflW rfl ?_
      refine h_call (ent_of Tryd.func38 (by kernel_rfl) rfl) (fun w hH => rparseL _ hv (by omega)) rfl rfl rfl rfl ?_
      refine h_q hflW rfl ?_
      refine h_alloc zeWide rfl rfl ?_; intro g10_19
      refine h_store 0 (v := WV 0) (#[hiW 0, loW 0]) tyWide.2 rfl rfl rfl rfl rfl rfl rfl rfl rfl rfl ?_
      refine h_q hflW rfl ?_
      refine h_done (d_reg ?_)
      refine h_call (ent_of Tryd.func20 (by kernel_rfl) rfl) (fun w hH => known_any _ (tab_below htab hH.up.below hg) (Nat.lt_of_lt_of_le hg hH.up.size)) rfl rfl rfl rfl ?_
      refine h_q hflW rfl ?_
      refine h_load 1 (v := .agg #[hiW 0, loW 0]) (reads_agg (cs := [hiW 0, loW 0]) tyWide rfl) rfl rfl rfl rfl ?_
      refine h_load 0 (v := .agg #[hiW 0, loW 0]) (reads_agg (cs := [hiW 0, loW 0]) tyWide rfl) rfl rfl rfl rfl ?_
      refine h_eqs (eqW_same _ _) rfl rfl rfl rfl ?_
      refine h_q hflW rfl ?_
      refine h_cmp (cmp_eql_t rfl) rfl rfl rfl rfl ?_
      refine h_q hflW rfl ?_
      refine h_cmp (cmp_neq_t hne) rfl rfl rfl rfl ?_
      refine h_q hflW rfl ?_
      refine h_done (d_ret ?_)
      exact f_fin1 (.tmp rfl) (fun w h => ⟨rfl, h.up.below⟩) rfl
    · skip
      refine d_reg ?_
      refine h_q hflW rfl ?_
      refine h_call (ent_of Tryd.func19 (by kernel_rfl) rfl) (fun w hH => parseL _ hv (by omega) (hE.up hH.up.below)) rfl rfl rfl rfl ?_
      refine h_q hflW rfl ?_
      refine h_alloc zeWide rfl rfl ?_; intro g8_20
      refine h_store 0 (v := WV x) (#[hiW x, loW x]) tyWide.2 rfl rfl rfl rfl rfl rfl rfl rfl rfl rfl ?_
      refine h_q hflW rfl ?_
      refine h_done (d_reg ?_)
      refine h_q hflW rfl ?_
      refine h_call (ent_of Tryd.func38 (by kernel_rfl) rfl) (fun w hH => rparseL _ hv (by omega)) rfl rfl rfl rfl ?_
      refine h_q hflW rfl ?_
      refine h_alloc zeWide rfl rfl ?_; intro g10_21
      refine h_store 0 (v := WV x) (#[hiW x, loW x]) tyWide.2 rfl rfl rfl rfl rfl rfl rfl rfl rfl rfl ?_
      refine h_q hflW rfl ?_
      refine h_done (d_reg ?_)
      refine h_call (ent_of Tryd.func20 (by kernel_rfl) rfl) (fun w hH => known_any _ (tab_below htab hH.up.below hg) (Nat.lt_of_lt_of_le hg hH.up.size)) rfl rfl rfl rfl ?_
      refine h_q hflW rfl ?_
      refine h_load 1 (v := .agg #[hiW x, loW x]) (reads_agg (cs := [hiW x, loW x]) tyWide rfl) rfl rfl rfl rfl ?_
      refine h_load 0 (v := .agg #[hiW x, loW x]) (reads_agg (cs := [hiW x, loW x]) tyWide rfl) rfl rfl rfl rfl ?_
      refine h_eqs (eqW_same _ _) rfl rfl rfl rfl ?_
      refine h_q hflW rfl ?_
      refine h_cmp (cmp_eql_t (by decide)) rfl rfl rfl rfl ?_
      refine h_q hflW rfl ?_
      refine h_cmp (cmp_neq_f (by omega)) rfl rfl rfl rfl ?_
      refine h_q hflW rfl ?_
      refine h_load 1 (v := .agg #[hiW x, loW x]) (reads_agg (cs := [hiW x, loW x]) tyWide rfl) rfl rfl rfl rfl ?_
      refine h_call (ent_of Tryd.func21 (by kernel_rfl) rfl) (fun w hH => textL _ ht hx (tab_below htab hH.up.below hg) (Nat.lt_of_lt_of_le hg hH.up.size)) rfl rfl rfl rfl ?_
      refine h_q hflW rfl ?_
      refine h_same (beq_self_eq_true _) rfl rfl rfl rfl ?_
      refine h_q hflW rfl ?_
      refine h_done (d_ret ?_)
      exact f_fin1 (.tmp rfl) (fun w h => ⟨rfl, h.up.below⟩) rfl
end Go.Proofs.YtfalllekhcocgaaDoor
