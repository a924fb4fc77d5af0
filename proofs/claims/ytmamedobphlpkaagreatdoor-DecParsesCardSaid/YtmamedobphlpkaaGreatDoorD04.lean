/-
  TextDL
-/
import Derived.Test.YtmamedobphlpkaaGreatDoorD03
set_option linter.unusedSimpArgs false
set_option linter.unusedVariables false

namespace Go.Proofs.YtmamedobphlpkaaGreatDoor
open Go.RowKit

theorem lawTextsOk (w : World) (c s : Int) (is : Bool) (k : Nat) (hm : nearS is s = (k : Int)) (hk : k ≤ 18) (hc : Fits c) (hs : -9223372036854775808 ≤ s ∧ s < 9223372036854775808) (htab : Lib.TabIs Tryz.prog w "internal/strconv.uint64pow10" .u64 Lib.pow10Tab) (hg : 5 < w.heap.size) (hE : ErrIs w) : Calls Tryz.prog 4 #[Dc c s, .bool is] w fun e w' => e = .returned (.bool true) ∧ Below w.heap.size w w' := by
  refine d_in (args := [Dc c s, .bool is]) 52 Tryz.func4 rfl rfl rfl ?_
  refine d_reg ?_
  refine h_box (cs := #[hiW c, loW c, .int .i64 s]) rfl rfl rfl rfl ?_; intro g2_1
  refine h_q hfl rfl ?_
  refine h_done (d_reg ?_)
  refine h_load 0 (v := .agg #[hiW c, loW c, .int .i64 s]) (reads_agg (cs := [hiW c, loW c, .int .i64 s]) tyDec rfl) rfl rfl rfl rfl ?_
  refine h_q hfl rfl ?_
  refine h_call (ent_of Tryz.func16 (by kernel_rfl) rfl) (fun w hH => nearB _ hm hs) rfl rfl rfl rfl ?_
  refine h_store 0 (v := Dc c (k : Int)) (#[hiW c, loW c, .int .i64 (k : Int)]) tyDec.2 rfl rfl rfl rfl rfl rfl rfl rfl rfl rfl ?_
  refine h_done (d_reg ?_)
  refine h_load 0 (v := .agg #[hiW c, loW c, .int .i64 (k : Int)]) (reads_agg (cs := [hiW c, loW c, .int .i64 (k : Int)]) tyDec rfl) rfl rfl rfl rfl ?_
  refine h_call (ent_of Tryz.func13 (by kernel_rfl) rfl) (fun w hH => textDL _ rfl hc hk (tab_below htab hH.up.below hg) (Nat.lt_of_lt_of_le hg hH.up.size)) rfl rfl rfl rfl ?_
  refine h_q hfl rfl ?_
  refine h_done (d_reg ?_)
  refine h_load 0 (v := .agg #[hiW c, loW c, .int .i64 (k : Int)]) (reads_agg (cs := [hiW c, loW c, .int .i64 (k : Int)]) tyDec rfl) rfl rfl rfl rfl ?_
  refine h_call (ent_of Tryz.func17 (by kernel_rfl) rfl) (fun w hH => rtextD_ok _ c k hc hk) rfl rfl rfl rfl ?_
  refine h_q hfl rfl ?_
  refine h_done (d_seq (d_reg ?_))
  refine h_call (ent_of Tryz.func14 (by kernel_rfl) rfl) (fun w hH => known3_any _ (tab_below htab hH.up.below hg) (Nat.lt_of_lt_of_le hg hH.up.size)) rfl rfl rfl rfl ?_
  refine h_q hfl rfl ?_
  refine h_nes (neSame _) rfl rfl rfl rfl ?_
  refine h_q hfl rfl ?_
  refine h_cmp (cmp_neq_f (by decide)) rfl rfl rfl rfl ?_
  refine h_q hfl rfl ?_
  refine h_done (d_else rfl (d_skip (f_to (d_reg ?_))))
  refine h_q hfl rfl ?_
  refine h_call (ent_of Tryz.func12 (by kernel_rfl) rfl) (fun w hH => parseDL _ (parse_textD hc hk) (by have := textD_len hc hk; omega) (hE.up hH.up.below)) rfl rfl rfl rfl ?_
  refine h_q hfl rfl ?_
  refine h_alloc zeDec rfl rfl ?_; intro g9_2
  refine h_store 0 (v := Dc c (k : Int)) (#[hiW c, loW c, .int .i64 (k : Int)]) tyDec.2 rfl rfl rfl rfl rfl rfl rfl rfl rfl rfl ?_
  refine h_q hfl rfl ?_
  refine h_done (d_reg ?_)
  refine h_q hfl rfl ?_
  refine h_cmp (cmp_neq_f (by decide)) rfl rfl rfl rfl ?_
  refine h_q hfl rfl ?_
  refine h_cmp (cmp_eql_t (by decide)) rfl rfl rfl rfl ?_
  refine h_q hfl rfl ?_
  refine h_load 0 (v := .agg #[hiW c, loW c, .int .i64 (k : Int)]) (reads_agg (cs := [hiW c, loW c, .int .i64 (k : Int)]) tyDec rfl) rfl rfl rfl rfl ?_
  refine h_load 1 (v := .agg #[hiW c, loW c, .int .i64 (k : Int)]) (reads_agg (cs := [hiW c, loW c, .int .i64 (k : Int)]) tyDec rfl) rfl rfl rfl rfl ?_
  refine h_eqs (eqD_same _ _ _) rfl rfl rfl rfl ?_
  refine h_q hfl rfl ?_
  refine h_done ?_
  refine WC2.keep (env' := [(4, .bool true)]) ⟨rfl, trivial⟩ ?_
  refine d_ret ?_
  exact f_fin1 (.tmp rfl) (fun w h => ⟨rfl, h.up.below⟩) rfl

theorem lawTextsNo (w : World) (c s m : Int) (is : Bool) (hm : nearS is s = m) (hno : ¬ May m) (hc : Fits c) (hs : -9223372036854775808 ≤ s ∧ s < 9223372036854775808) (htab : Lib.TabIs Tryz.prog w "internal/strconv.uint64pow10" .u64 Lib.pow10Tab) (hg : 5 < w.heap.size) (hE : ErrIs w) : Calls Tryz.prog 4 #[Dc c s, .bool is] w fun e w' => e = .returned (.bool true) ∧ Below w.heap.size w w' := by
  refine d_in (args := [Dc c s, .bool is]) 52 Tryz.func4 rfl rfl rfl ?_
  refine d_reg ?_
  refine h_box (cs := #[hiW c, loW c, .int .i64 s]) rfl rfl rfl rfl ?_; intro g2_1
  refine h_q hfl rfl ?_
  refine h_done (d_reg ?_)
  refine h_load 0 (v := .agg #[hiW c, loW c, .int .i64 s]) (reads_agg (cs := [hiW c, loW c, .int .i64 s]) tyDec rfl) rfl rfl rfl rfl ?_
  refine h_q hfl rfl ?_
  refine h_call (ent_of Tryz.func16 (by kernel_rfl) rfl) (fun w hH => nearB _ hm hs) rfl rfl rfl rfl ?_
  refine h_store 0 (v := Dc c m) (#[hiW c, loW c, .int .i64 m]) tyDec.2 rfl rfl rfl rfl rfl rfl rfl rfl rfl rfl ?_
  refine h_done (d_reg ?_)
  refine h_load 0 (v := .agg #[hiW c, loW c, .int .i64 m]) (reads_agg (cs := [hiW c, loW c, .int .i64 m]) tyDec rfl) rfl rfl rfl rfl ?_
  refine h_call (ent_of Tryz.func13 (by kernel_rfl) rfl) (fun w hH => textd_bad _ c m hno) rfl rfl rfl rfl ?_
  refine h_q hfl rfl ?_
  refine h_done (d_reg ?_)
  refine h_load 0 (v := .agg #[hiW c, loW c, .int .i64 m]) (reads_agg (cs := [hiW c, loW c, .int .i64 m]) tyDec rfl) rfl rfl rfl rfl ?_
  refine h_call (ent_of Tryz.func17 (by kernel_rfl) rfl) (fun w hH => rtextD_bad _ c m hno) rfl rfl rfl rfl ?_
  refine h_q hfl rfl ?_
  refine h_done (d_seq (d_reg ?_))
  refine h_call (ent_of Tryz.func14 (by kernel_rfl) rfl) (fun w hH => known3_any _ (tab_below htab hH.up.below hg) (Nat.lt_of_lt_of_le hg hH.up.size)) rfl rfl rfl rfl ?_
  refine h_q hfl rfl ?_
  refine h_nes (neSame _) rfl rfl rfl rfl ?_
  refine h_q hfl rfl ?_
  refine h_cmp (cmp_neq_f (by decide)) rfl rfl rfl rfl ?_
  refine h_q hfl rfl ?_
  refine h_done (d_else rfl (d_skip (f_to (d_reg ?_))))
  refine h_q hfl rfl ?_
  refine h_call (ent_of Tryz.func12 (by kernel_rfl) rfl) (fun w hH => parseDL _ pv_nil (by decide) (hE.up hH.up.below)) rfl rfl rfl rfl ?_
  refine h_q hfl rfl ?_
  refine h_alloc zeDec rfl rfl ?_; intro g9_2
  refine h_store 0 (v := Dc 0 0) (#[hiW 0, loW 0, .int .i64 0]) tyDec.2 rfl rfl rfl rfl rfl rfl rfl rfl rfl rfl ?_
  refine h_q hfl rfl ?_
  refine h_done (d_reg ?_)
  refine h_q hfl rfl ?_
  refine h_cmp (cmp_neq_t (by decide)) rfl rfl rfl rfl ?_
  refine h_q hfl rfl ?_
  refine h_done ?_
  refine WC2.keep (env' := [(4, .bool true)]) ⟨rfl, trivial⟩ ?_
  refine d_ret ?_
  exact f_fin1 (.tmp rfl) (fun w h => ⟨rfl, h.up.below⟩) rfl

theorem lawTexts (w : World) (c s : Int) (is : Bool) (hc : Fits c) (hs : -9223372036854775808 ≤ s ∧ s < 9223372036854775808) (htab : Lib.TabIs Tryz.prog w "internal/strconv.uint64pow10" .u64 Lib.pow10Tab) (hg : 5 < w.heap.size) (hE : ErrIs w) : Calls Tryz.prog 4 #[Dc c s, .bool is] w fun e w' => e = .returned (.bool true) ∧ Below w.heap.size w w' := by
  by_cases h : May (nearS is s)
  · obtain ⟨k, hk, hk'⟩ := may_nat h
    exact lawTextsOk w c s is k hk hk' hc hs htab hg hE
  · exact lawTextsNo w c s _ is rfl h hc hs htab hg hE

theorem lawParses (w : World) (l : List UInt8) (A : Option Addr) (c : Nat) (nl : List UInt8) (pt : Int) (neg : Bool) (hl : l.length ≤ 9223372036854775807) (hnl : nl.length ≤ 9223372036854775807) (hbs : Bs (fun k => k < w.heap.size) w A c nl) (hpt : -9223372036854775808 ≤ pt ∧ pt < 9223372036854775808) (htab : Lib.TabIs Tryz.prog w "internal/strconv.uint64pow10" .u64 Lib.pow10Tab) (hg : 5 < w.heap.size) (hE : ErrIs w) : Calls Tryz.prog 5 #[.string (bs l), .slice A nl.length c, .int .i64 pt, .bool neg] w fun e w' => e = .returned (.bool true) ∧ Below w.heap.size w w' := by
  obtain ⟨pv, hpv⟩ : ∃ pv, pt % 25 = pv := ⟨_, rfl⟩
  refine d_in (args := [.string (bs l), .slice A nl.length c, .int .i64 pt, .bool neg]) 86 Tryz.func5 rfl rfl rfl ?_
  refine d_reg ?_
  refine h_q hfl rfl ?_
  refine h_done (d_seq ?_)
  by_cases h0 : 0 < nl.length
  · skip
    refine d_reg ?_
    refine h_q hfl rfl ?_
    refine h_builtin (v := .int .i64 (nl.length : Int)) (fun w cs => run_len_slice Tryz.underlying43 _ _ _ _ w cs) rfl rfl rfl ?_
    refine h_cmp (cmp_gtr_t (by omega)) rfl rfl rfl rfl ?_
    refine h_done (d_then rfl (d_reg ?_))
    refine h_q hfl rfl ?_
    refine h_done (d_seq (d_reg ?_))
    refine h_q hfl rfl ?_
    refine h_done (d_block ?_)
    refine d_loop (α := Nat × List UInt8) (fun (i, m) => [(1, .slice A nl.length c), (2, .int .i64 pt), (3, .bool neg), (8, .bool false), (0, .string (bs m)), (9, .int .i64 (i : Int))]) (fun (i, m) => []) (fun (i, m) => i ≤ nl.length ∧ i ≤ 70 ∧ m.length ≤ 2 * i) (fun (i, m) => 70 - i) (0, []) ⟨by omega, by omega, Nat.zero_le _⟩ ⟨rfl, rfl, rfl, rfl, rfl, rfl, trivial⟩ rfl ?_
    rintro ⟨i, m⟩ ⟨hi, hi80, hm⟩
    refine WC2.at_ (env' := [(1, .slice A nl.length c), (2, .int .i64 pt), (3, .bool neg), (8, .bool false), (0, .string (bs m)), (9, .int .i64 (i : Int))]) (rs' := []) ⟨rfl, rfl, rfl, rfl, rfl, rfl, trivial⟩ rfl ?_
    refine d_seq ?_
    rcases (show (i < nl.length ∧ i < 70) ∨ (i < nl.length ∧ ¬ i < 70) ∨ ¬ i < nl.length by omega) with ⟨h1, h2⟩ | ⟨h1, h2⟩ | h1
    · skip
      obtain ⟨ch, hch⟩ : ∃ ch, nl[i]? = some ch := ⟨_, List.getElem?_eq_getElem h1⟩
      obtain ⟨ga, oa, hA, hga, hcell⟩ := hbs.at_ hch
      refine d_reg ?_
      refine h_q hfl rfl ?_
      refine h_builtin (v := .int .i64 (nl.length : Int)) (fun w cs => run_len_slice Tryz.underlying43 _ _ _ _ w cs) rfl rfl rfl ?_
      refine h_cmp (cmp_lss_t (by omega)) rfl rfl rfl rfl ?_
      refine h_q hfl rfl ?_
      refine h_cmp (cmp_lss_t (by omega)) rfl rfl rfl rfl ?_
      refine h_q hfl rfl ?_
      refine h_done (d_then rfl (d_skip (f_to (d_seq (d_block (d_seq ?_))))))
      by_cases hpi : (i : Int) = pv
      · skip
        refine d_reg ?_
        refine h_q hfl rfl ?_
        refine h_call (ent_of Tryz.func18 (by kernel_rfl) rfl) (fun w hH => pickL _ hpv hpt (by decide)) rfl rfl rfl rfl ?_
        refine h_cmp (cmp_eql_t hpi) rfl rfl rfl rfl ?_
        refine h_done (d_then rfl (d_reg1 ?_))
        refine h_q hfl rfl ?_
        refine h_cat (r := m ++ [46]) rfl (by simp; omega) rfl rfl rfl rfl ?_
        refine h_q hfl rfl ?_
        refine h_nil (f_to (d_reg1 ?_))
        refine h_q hfl rfl ?_
        refine h_val rfl (.pointer (some ⟨ga, oa + i, none⟩)) (fun b w hb hH => by exact exec_sidx Tryz.underlying43 tyUint8 hA (by omega) rfl rfl rfl hb) ?_
        refine h_val rfl (.int .u8 (ch.toNat : Int)) (fun b w hb hH => by exact exec_load1 tyUint8 ((hH.up.below.cell (show (⟨ga, oa + i, none⟩ : Addr).block < _ from hga)).trans hcell) rfl rfl hb) ?_
        refine h_val rfl (.int .u8 ((ch.toNat % 10 : Nat) : Int)) (fun b w hb hH => by exact exec_remN rfl rfl rfl (by decide) (by rw [Int.tmod_eq_emod_of_nonneg (by omega)]; omega) hb) ?_
        refine h_ar (z' := ((dgt (ch.toNat % 10)).toNat : Int)) (conv_dgt _) rfl rfl rfl rfl rfl ?_
        refine h_bs1 bsOne rfl rfl rfl ?_; intro g42_1
        refine h_bstr 0 (b := (dgt (ch.toNat % 10))) Tryz.underlying43 Tryz.underlying5 Tryz.underlying9 rfl rfl rfl rfl ?_
        refine h_cat (r := (m ++ [46]) ++ [dgt (ch.toNat % 10)]) rfl (by simp; omega) rfl rfl rfl rfl ?_
        refine h_q hfl rfl ?_
        refine h_nil (f_block (f_to (d_reg1 ?_)))
        refine h_q hfl rfl ?_
        refine h_ar (z' := ((i + 1 : Nat) : Int)) (by rw [IntWalk.i64_in _ (by omega)]; omega) rfl rfl rfl rfl rfl ?_
        refine h_q hfl rfl ?_
        refine h_nil ?_
        exact f_again (i + 1, (m ++ [46]) ++ [dgt (ch.toNat % 10)]) 1 ⟨by omega, by omega, by simp; omega⟩ (by show 70 - (i + 1) < 70 - i; omega) ⟨rfl, rfl, rfl, rfl, rfl, rfl, trivial⟩ rfl
      · skip
        refine d_reg ?_
        refine h_q hfl rfl ?_
        refine h_call (ent_of Tryz.func18 (by kernel_rfl) rfl) (fun w hH => pickL _ hpv hpt (by decide)) rfl rfl rfl rfl ?_
        refine h_cmp (cmp_eql_f hpi) rfl rfl rfl rfl ?_
        refine h_done (d_else rfl (d_skip (f_to (d_reg1 ?_))))
        refine h_q hfl rfl ?_
        refine h_val rfl (.pointer (some ⟨ga, oa + i, none⟩)) (fun b w hb hH => by exact exec_sidx Tryz.underlying43 tyUint8 hA (by omega) rfl rfl rfl hb) ?_
        refine h_val rfl (.int .u8 (ch.toNat : Int)) (fun b w hb hH => by exact exec_load1 tyUint8 ((hH.up.below.cell (show (⟨ga, oa + i, none⟩ : Addr).block < _ from hga)).trans hcell) rfl rfl hb) ?_
        refine h_val rfl (.int .u8 ((ch.toNat % 10 : Nat) : Int)) (fun b w hb hH => by exact exec_remN rfl rfl rfl (by decide) (by rw [Int.tmod_eq_emod_of_nonneg (by omega)]; omega) hb) ?_
        refine h_ar (z' := ((dgt (ch.toNat % 10)).toNat : Int)) (conv_dgt _) rfl rfl rfl rfl rfl ?_
        refine h_bs1 bsOne rfl rfl rfl ?_; intro g42_2
        refine h_bstr 0 (b := (dgt (ch.toNat % 10))) Tryz.underlying43 Tryz.underlying5 Tryz.underlying9 rfl rfl rfl rfl ?_
        refine h_cat (r := m ++ [dgt (ch.toNat % 10)]) rfl (by simp; omega) rfl rfl rfl rfl ?_
        refine h_q hfl rfl ?_
        refine h_nil (f_block (f_to (d_reg1 ?_)))
        refine h_q hfl rfl ?_
        refine h_ar (z' := ((i + 1 : Nat) : Int)) (by rw [IntWalk.i64_in _ (by omega)]; omega) rfl rfl rfl rfl rfl ?_
        refine h_q hfl rfl ?_
        refine h_nil ?_
        exact f_again (i + 1, m ++ [dgt (ch.toNat % 10)]) 1 ⟨by omega, by omega, by simp; omega⟩ (by show 70 - (i + 1) < 70 - i; omega) ⟨rfl, rfl, rfl, rfl, rfl, rfl, trivial⟩ rfl
    · skip
      refine d_reg ?_
      refine h_q hfl rfl ?_
      refine h_builtin (v := .int .i64 (nl.length : Int)) (fun w cs => run_len_slice Tryz.underlying43 _ _ _ _ w cs) rfl rfl rfl ?_
      refine h_cmp (cmp_lss_t (by omega)) rfl rfl rfl rfl ?_
      refine h_q hfl rfl ?_
      refine h_cmp (cmp_lss_f (by omega)) rfl rfl rfl rfl ?_
      refine h_q hfl rfl ?_
      refine h_done (d_else rfl (d_exit (f_then_exit (f_then_exit (f_block_exit (f_to ?_))))))
      cases neg
      · skip
        refine d_reg ?_
        refine h_q hfl rfl ?_
        refine h_done (d_else rfl (d_skip (f_to ?_)))
        obtain ⟨v, hv, hw⟩ := cut_val (m)
        rcases hw with ⟨er, hne, rfl⟩ | ⟨z, k, hz, hk, rfl, ht⟩
        · skip
          refine d_reg ?_
          refine h_q hfl rfl ?_
          refine h_call (ent_of Tryz.func12 (by kernel_rfl) rfl) (fun w hH => parseDL _ hv (by omega) (hE.up hH.up.below)) rfl rfl rfl rfl ?_
          refine h_q hfl rfl ?_
          refine h_alloc zeDec rfl rfl ?_; intro g10_3
          refine h_store 0 (v := Dc 0 0) (#[hiW 0, loW 0, .int .i64 0]) tyDec.2 rfl rfl rfl rfl rfl rfl rfl rfl rfl rfl ?_
          refine h_q hfl rfl ?_
          refine h_done (d_reg ?_)
          refine h_q hfl rfl ?_
          refine h_call (ent_of Tryz.func19 (by kernel_rfl) rfl) (fun w hH => rparseDL _ hv (by omega)) rfl rfl rfl rfl ?_
          refine h_q hfl rfl ?_
          refine h_alloc zeDec rfl rfl ?_; intro g12_4
          refine h_store 0 (v := Dc 0 0) (#[hiW 0, loW 0, .int .i64 0]) tyDec.2 rfl rfl rfl rfl rfl rfl rfl rfl rfl rfl ?_
          refine h_q hfl rfl ?_
          refine h_done (d_seq (d_reg ?_))
          refine h_call (ent_of Tryz.func14 (by kernel_rfl) rfl) (fun w hH => known3_any _ (tab_below htab hH.up.below hg) (Nat.lt_of_lt_of_le hg hH.up.size)) rfl rfl rfl rfl ?_
          refine h_q hfl rfl ?_
          refine h_load 1 (v := .agg #[hiW 0, loW 0, .int .i64 0]) (reads_agg (cs := [hiW 0, loW 0, .int .i64 0]) tyDec rfl) rfl rfl rfl rfl ?_
          refine h_load 0 (v := .agg #[hiW 0, loW 0, .int .i64 0]) (reads_agg (cs := [hiW 0, loW 0, .int .i64 0]) tyDec rfl) rfl rfl rfl rfl ?_
          refine h_nes (neD_same _ _ _) rfl rfl rfl rfl ?_
          refine h_q hfl rfl ?_
          refine h_cmp (cmp_neq_f (by simp)) rfl rfl rfl rfl ?_
          refine h_q hfl rfl ?_
          refine h_done (d_else rfl (d_skip (f_to (d_reg ?_))))
          refine h_load 1 (v := .agg #[hiW 0, loW 0, .int .i64 0]) (reads_agg (cs := [hiW 0, loW 0, .int .i64 0]) tyDec rfl) rfl rfl rfl rfl ?_
          refine h_call (ent_of Tryz.func13 (by kernel_rfl) rfl) (fun w hH => textDL _ (c := 0) (k := 0) rfl (by unfold Fits; omega) (by decide) (tab_below htab hH.up.below hg) (Nat.lt_of_lt_of_le hg hH.up.size)) rfl rfl rfl rfl ?_
          refine h_q hfl rfl ?_
          refine h_done ?_
          refine WC2.keep (env' := [(8, .bool false), (0, .string (bs m)), (11, .int .i64 er), (14, .string (bs (textD 0 0))), (15, .int .i64 0)]) ⟨rfl, rfl, rfl, rfl, rfl, trivial⟩ ?_
          refine d_reg ?_
          refine h_q hfl rfl ?_
          refine h_cmp (cmp_neq_t hne) rfl rfl rfl rfl ?_
          refine h_q hfl rfl ?_
          refine h_done (d_ret ?_)
          exact f_fin1 (.tmp rfl) (fun w h => ⟨rfl, h.up.below⟩) rfl
        · skip
          refine d_reg ?_
          refine h_q hfl rfl ?_
          refine h_call (ent_of Tryz.func12 (by kernel_rfl) rfl) (fun w hH => parseDL _ hv (by omega) (hE.up hH.up.below)) rfl rfl rfl rfl ?_
          refine h_q hfl rfl ?_
          refine h_alloc zeDec rfl rfl ?_; intro g10_5
          refine h_store 0 (v := Dc z (k : Int)) (#[hiW z, loW z, .int .i64 (k : Int)]) tyDec.2 rfl rfl rfl rfl rfl rfl rfl rfl rfl rfl ?_
          refine h_q hfl rfl ?_
          refine h_done (d_reg ?_)
          refine h_q hfl rfl ?_
          refine h_call (ent_of Tryz.func19 (by kernel_rfl) rfl) (fun w hH => rparseDL _ hv (by omega)) rfl rfl rfl rfl ?_
          refine h_q hfl rfl ?_
          refine h_alloc zeDec rfl rfl ?_; intro g12_6
          refine h_store 0 (v := Dc z (k : Int)) (#[hiW z, loW z, .int .i64 (k : Int)]) tyDec.2 rfl rfl rfl rfl rfl rfl rfl rfl rfl rfl ?_
          refine h_q hfl rfl ?_
          refine h_done (d_seq (d_reg ?_))
          refine h_call (ent_of Tryz.func14 (by kernel_rfl) rfl) (fun w hH => known3_any _ (tab_below htab hH.up.below hg) (Nat.lt_of_lt_of_le hg hH.up.size)) rfl rfl rfl rfl ?_
          refine h_q hfl rfl ?_
          refine h_load 1 (v := .agg #[hiW z, loW z, .int .i64 (k : Int)]) (reads_agg (cs := [hiW z, loW z, .int .i64 (k : Int)]) tyDec rfl) rfl rfl rfl rfl ?_
          refine h_load 0 (v := .agg #[hiW z, loW z, .int .i64 (k : Int)]) (reads_agg (cs := [hiW z, loW z, .int .i64 (k : Int)]) tyDec rfl) rfl rfl rfl rfl ?_
          refine h_nes (neD_same _ _ _) rfl rfl rfl rfl ?_
          refine h_q hfl rfl ?_
          refine h_cmp (cmp_neq_f (by decide)) rfl rfl rfl rfl ?_
          refine h_q hfl rfl ?_
          refine h_done (d_else rfl (d_skip (f_to (d_reg ?_))))
          refine h_load 1 (v := .agg #[hiW z, loW z, .int .i64 (k : Int)]) (reads_agg (cs := [hiW z, loW z, .int .i64 (k : Int)]) tyDec rfl) rfl rfl rfl rfl ?_
          refine h_call (ent_of Tryz.func13 (by kernel_rfl) rfl) (fun w hH => textDL _ ht hz hk (tab_below htab hH.up.below hg) (Nat.lt_of_lt_of_le hg hH.up.size)) rfl rfl rfl rfl ?_
          refine h_q hfl rfl ?_
          refine h_done ?_
          refine WC2.keep (env' := [(8, .bool false), (0, .string (bs m)), (11, .int .i64 0), (14, .string (bs m)), (15, .int .i64 0)]) ⟨rfl, rfl, rfl, rfl, rfl, trivial⟩ ?_
          refine d_reg ?_
          refine h_q hfl rfl ?_
          refine h_cmp (cmp_neq_f (by omega)) rfl rfl rfl rfl ?_
          refine h_q hfl rfl ?_
          refine h_cmp (cmp_eql_t (by decide)) rfl rfl rfl rfl ?_
          refine h_q hfl rfl ?_
          refine h_same (beq_self_eq_true _) rfl rfl rfl rfl ?_
          refine h_q hfl rfl ?_
          refine h_done (d_ret ?_)
          exact f_fin1 (.tmp rfl) (fun w h => ⟨rfl, h.up.below⟩) rfl
      · skip
        refine d_reg ?_
        refine h_q hfl rfl ?_
        refine h_done (d_then rfl (d_reg1 ?_))
        refine h_q hfl rfl ?_
        refine h_cat (r := 45 :: m) rfl (by simp; omega) rfl rfl rfl rfl ?_
        refine h_q hfl rfl ?_
        refine h_nil (f_to ?_)
        obtain ⟨v, hv, hw⟩ := cut_val (45 :: m)
        rcases hw with ⟨er, hne, rfl⟩ | ⟨z, k, hz, hk, rfl, ht⟩
        · skip
          refine d_reg ?_
          refine h_q hfl rfl ?_
          refine h_call (ent_of Tryz.func12 (by kernel_rfl) rfl) (fun w hH => parseDL _ hv (by simp only [List.length_cons]; omega) (hE.up hH.up.below)) rfl rfl rfl rfl ?_
          refine h_q hfl rfl ?_
          refine h_alloc zeDec rfl rfl ?_; intro g10_7
          refine h_store 0 (v := Dc 0 0) (#[hiW 0, loW 0, .int .i64 0]) tyDec.2 rfl rfl rfl rfl rfl rfl rfl rfl rfl rfl ?_
          refine h_q hfl rfl ?_
          refine h_done (d_reg ?_)
          refine h_q hfl rfl ?_
          refine h_call (ent_of Tryz.func19 (by kernel_rfl) rfl) (fun w hH => rparseDL _ hv (by simp only [List.length_cons]; omega)) rfl rfl rfl rfl ?_
          refine h_q hfl rfl ?_
          refine h_alloc zeDec rfl rfl ?_; intro g12_8
          refine h_store 0 (v := Dc 0 0) (#[hiW 0, loW 0, .int .i64 0]) tyDec.2 rfl rfl rfl rfl rfl rfl rfl rfl rfl rfl ?_
          refine h_q hfl rfl ?_
          refine h_done (d_seq (d_reg ?_))
          refine h_call (ent_of Tryz.func14 (by kernel_rfl) rfl) (fun w hH => known3_any _ (tab_below htab hH.up.below hg) (Nat.lt_of_lt_of_le hg hH.up.size)) rfl rfl rfl rfl ?_
          refine h_q hfl rfl ?_
          refine h_load 1 (v := .agg #[hiW 0, loW 0, .int .i64 0]) (reads_agg (cs := [hiW 0, loW 0, .int .i64 0]) tyDec rfl) rfl rfl rfl rfl ?_
          refine h_load 0 (v := .agg #[hiW 0, loW 0, .int .i64 0]) (reads_agg (cs := [hiW 0, loW 0, .int .i64 0]) tyDec rfl) rfl rfl rfl rfl ?_
          refine h_nes (neD_same _ _ _) rfl rfl rfl rfl ?_
          refine h_q hfl rfl ?_
          refine h_cmp (cmp_neq_f (by simp)) rfl rfl rfl rfl ?_
          refine h_q hfl rfl ?_
          refine h_done (d_else rfl (d_skip (f_to (d_reg ?_))))
          refine h_load 1 (v := .agg #[hiW 0, loW 0, .int .i64 0]) (reads_agg (cs := [hiW 0, loW 0, .int .i64 0]) tyDec rfl) rfl rfl rfl rfl ?_
          refine h_call (ent_of Tryz.func13 (by kernel_rfl) rfl) (fun w hH => textDL _ (c := 0) (k := 0) rfl (by unfold Fits; omega) (by decide) (tab_below htab hH.up.below hg) (Nat.lt_of_lt_of_le hg hH.up.size)) rfl rfl rfl rfl ?_
          refine h_q hfl rfl ?_
          refine h_done ?_
          refine WC2.keep (env' := [(8, .bool false), (0, .string (bs (45 :: m))), (11, .int .i64 er), (14, .string (bs (textD 0 0))), (15, .int .i64 0)]) ⟨rfl, rfl, rfl, rfl, rfl, trivial⟩ ?_
          refine d_reg ?_
          refine h_q hfl rfl ?_
          refine h_cmp (cmp_neq_t hne) rfl rfl rfl rfl ?_
          refine h_q hfl rfl ?_
          refine h_done (d_ret ?_)
          exact f_fin1 (.tmp rfl) (fun w h => ⟨rfl, h.up.below⟩) rfl
        · skip
          refine d_reg ?_
          refine h_q hfl rfl ?_
          refine h_call (ent_of Tryz.func12 (by kernel_rfl) rfl) (fun w hH => parseDL _ hv (by simp only [List.length_cons]; omega) (hE.up hH.up.below)) rfl rfl rfl rfl ?_
          refine h_q hfl rfl ?_
          refine h_alloc zeDec rfl rfl ?_; intro g10_9
          refine h_store 0 (v := Dc z (k : Int)) (#[hiW z, loW z, .int .i64 (k : Int)]) tyDec.2 rfl rfl rfl rfl rfl rfl rfl rfl rfl rfl ?_
          refine h_q hfl rfl ?_
          refine h_done (d_reg ?_)
          refine h_q hfl rfl ?_
          refine h_call (ent_of Tryz.func19 (by kernel_rfl) rfl) (fun w hH => rparseDL _ hv (by simp only [List.length_cons]; omega)) rfl rfl rfl rfl ?_
          refine h_q hfl rfl ?_
          refine h_alloc zeDec rfl rfl ?_; intro g12_10
          refine h_store 0 (v := Dc z (k : Int)) (#[hiW z, loW z, .int .i64 (k : Int)]) tyDec.2 rfl rfl rfl rfl rfl rfl rfl rfl rfl rfl ?_
          refine h_q hfl rfl ?_
          refine h_done (d_seq (d_reg ?_))
          refine h_call (ent_of Tryz.func14 (by kernel_rfl) rfl) (fun w hH => known3_any _ (tab_below htab hH.up.below hg) (Nat.lt_of_lt_of_le hg hH.up.size)) rfl rfl rfl rfl ?_
          refine h_q hfl rfl ?_
          refine h_load 1 (v := .agg #[hiW z, loW z, .int .i64 (k : Int)]) (reads_agg (cs := [hiW z, loW z, .int .i64 (k : Int)]) tyDec rfl) rfl rfl rfl rfl ?_
          refine h_load 0 (v := .agg #[hiW z, loW z, .int .i64 (k : Int)]) (reads_agg (cs := [hiW z, loW z, .int .i64 (k : Int)]) tyDec rfl) rfl rfl rfl rfl ?_
          refine h_nes (neD_same _ _ _) rfl rfl rfl rfl ?_
          refine h_q hfl rfl ?_
          refine h_cmp (cmp_neq_f (by decide)) rfl rfl rfl rfl ?_
          refine h_q hfl rfl ?_
          refine h_done (d_else rfl (d_skip (f_to (d_reg ?_))))
          refine h_load 1 (v := .agg #[hiW z, loW z, .int .i64 (k : Int)]) (reads_agg (cs := [hiW z, loW z, .int .i64 (k : Int)]) tyDec rfl) rfl rfl rfl rfl ?_
          refine h_call (ent_of Tryz.func13 (by kernel_rfl) rfl) (fun w hH => textDL _ ht hz hk (tab_below htab hH.up.below hg) (Nat.lt_of_lt_of_le hg hH.up.size)) rfl rfl rfl rfl ?_
          refine h_q hfl rfl ?_
          refine h_done ?_
          refine WC2.keep (env' := [(8, .bool false), (0, .string (bs (45 :: m))), (11, .int .i64 0), (14, .string (bs (45 :: m))), (15, .int .i64 0)]) ⟨rfl, rfl, rfl, rfl, rfl, trivial⟩ ?_
          refine d_reg ?_
          refine h_q hfl rfl ?_
          refine h_cmp (cmp_neq_f (by omega)) rfl rfl rfl rfl ?_
          refine h_q hfl rfl ?_
          refine h_cmp (cmp_eql_t (by decide)) rfl rfl rfl rfl ?_
          refine h_q hfl rfl ?_
          refine h_same (beq_self_eq_true _) rfl rfl rfl rfl ?_
          refine h_q hfl rfl ?_
          refine h_done (d_ret ?_)
          exact f_fin1 (.tmp rfl) (fun w h => ⟨rfl, h.up.below⟩) rfl
    · skip
      refine d_reg ?_
      refine h_q hfl rfl ?_
      refine h_builtin (v := .int .i64 (nl.length : Int)) (fun w cs => run_len_slice Tryz.underlying43 _ _ _ _ w cs) rfl rfl rfl ?_
      refine h_cmp (cmp_lss_f (by omega)) rfl rfl rfl rfl ?_
      refine h_q hfl rfl ?_
      refine h_done (d_else rfl (d_exit (f_then_exit (f_then_exit (f_block_exit (f_to ?_))))))
      cases neg
      · skip
        refine d_reg ?_
        refine h_q hfl rfl ?_
        refine h_done (d_else rfl (d_skip (f_to ?_)))
        obtain ⟨v, hv, hw⟩ := cut_val (m)
        rcases hw with ⟨er, hne, rfl⟩ | ⟨z, k, hz, hk, rfl, ht⟩
        · skip
          refine d_reg ?_
          refine h_q hfl rfl ?_
          refine h_call (ent_of Tryz.func12 (by kernel_rfl) rfl) (fun w hH => parseDL _ hv (by omega) (hE.up hH.up.below)) rfl rfl rfl rfl ?_
          refine h_q hfl rfl ?_
          refine h_alloc zeDec rfl rfl ?_; intro g10_11
          refine h_store 0 (v := Dc 0 0) (#[hiW 0, loW 0, .int .i64 0]) tyDec.2 rfl rfl rfl rfl rfl rfl rfl rfl rfl rfl ?_
          refine h_q hfl rfl ?_
          refine h_done (d_reg ?_)
          refine h_q hfl rfl ?_
          refine h_call (ent_of Tryz.func19 (by kernel_rfl) rfl) (fun w hH => rparseDL _ hv (by omega)) rfl rfl rfl rfl ?_
          refine h_q hfl rfl ?_
          refine h_alloc zeDec rfl rfl ?_; intro g12_12
          refine h_store 0 (v := Dc 0 0) (#[hiW 0, loW 0, .int .i64 0]) tyDec.2 rfl rfl rfl rfl rfl rfl rfl rfl rfl rfl ?_
          refine h_q hfl rfl ?_
          refine h_done (d_seq (d_reg ?_))
          refine h_call (ent_of Tryz.func14 (by kernel_rfl) rfl) (fun w hH => known3_any _ (tab_below htab hH.up.below hg) (Nat.lt_of_lt_of_le hg hH.up.size)) rfl rfl rfl rfl ?_
          refine h_q hfl rfl ?_
          refine h_load 1 (v := .agg #[hiW 0, loW 0, .int .i64 0]) (reads_agg (cs := [hiW 0, loW 0, .int .i64 0]) tyDec rfl) rfl rfl rfl rfl ?_
          refine h_load 0 (v := .agg #[hiW 0, loW 0, .int .i64 0]) (reads_agg (cs := [hiW 0, loW 0, .int .i64 0]) tyDec rfl) rfl rfl rfl rfl ?_
          refine h_nes (neD_same _ _ _) rfl rfl rfl rfl ?_
          refine h_q hfl rfl ?_
          refine h_cmp (cmp_neq_f (by simp)) rfl rfl rfl rfl ?_
          refine h_q hfl rfl ?_
          refine h_done (d_else rfl (d_skip (f_to (d_reg ?_))))
          refine h_load 1 (v := .agg #[hiW 0, loW 0, .int .i64 0]) (reads_agg (cs := [hiW 0, loW 0, .int .i64 0]) tyDec rfl) rfl rfl rfl rfl ?_
          refine h_call (ent_of Tryz.func13 (by kernel_rfl) rfl) (fun w hH => textDL _ (c := 0) (k := 0) rfl (by unfold Fits; omega) (by decide) (tab_below htab hH.up.below hg) (Nat.lt_of_lt_of_le hg hH.up.size)) rfl rfl rfl rfl ?_
          refine h_q hfl rfl ?_
          refine h_done ?_
          refine WC2.keep (env' := [(8, .bool false), (0, .string (bs m)), (11, .int .i64 er), (14, .string (bs (textD 0 0))), (15, .int .i64 0)]) ⟨rfl, rfl, rfl, rfl, rfl, trivial⟩ ?_
          refine d_reg ?_
          refine h_q hfl rfl ?_
          refine h_cmp (cmp_neq_t hne) rfl rfl rfl rfl ?_
          refine h_q hfl rfl ?_
          refine h_done (d_ret ?_)
          exact f_fin1 (.tmp rfl) (fun w h => ⟨rfl, h.up.below⟩) rfl
        · skip
          refine d_reg ?_
          refine h_q hfl rfl ?_
          refine h_call (ent_of Tryz.func12 (by kernel_rfl) rfl) (fun w hH => parseDL _ hv (by omega) (hE.up hH.up.below)) rfl rfl rfl rfl ?_
          refine h_q hfl rfl ?_
          refine h_alloc zeDec rfl rfl ?_; intro g10_13
          refine h_store 0 (v := Dc z (k : Int)) (#[hiW z, loW z, .int .i64 (k : Int)]) tyDec.2 rfl rfl rfl rfl rfl rfl rfl rfl rfl rfl ?_
          refine h_q hfl rfl ?_
          refine h_done (d_reg ?_)
          refine h_q hfl rfl ?_
          refine h_call (ent_of Tryz.func19 (by kernel_rfl) rfl) (fun w hH => rparseDL _ hv (by omega)) rfl rfl rfl rfl ?_
          refine h_q hfl rfl ?_
          refine h_alloc zeDec rfl rfl ?_; intro g12_14
          refine h_store 0 (v := Dc z (k : Int)) (#[hiW z, loW z, .int .i64 (k : Int)]) tyDec.2 rfl rfl rfl rfl rfl rfl rfl rfl rfl rfl ?_
          refine h_q hfl rfl ?_
          refine h_done (d_seq (d_reg ?_))
          refine h_call (ent_of Tryz.func14 (by kernel_rfl) rfl) (fun w hH => known3_any _ (tab_below htab hH.up.below hg) (Nat.lt_of_lt_of_le hg hH.up.size)) rfl rfl rfl rfl ?_
          refine h_q hfl rfl ?_
          refine h_load 1 (v := .agg #[hiW z, loW z, .int .i64 (k : Int)]) (reads_agg (cs := [hiW z, loW z, .int .i64 (k : Int)]) tyDec rfl) rfl rfl rfl rfl ?_
          refine h_load 0 (v := .agg #[hiW z, loW z, .int .i64 (k : Int)]) (reads_agg (cs := [hiW z, loW z, .int .i64 (k : Int)]) tyDec rfl) rfl rfl rfl rfl ?_
          refine h_nes (neD_same _ _ _) rfl rfl rfl rfl ?_
          refine h_q hfl rfl ?_
          refine h_cmp (cmp_neq_f (by decide)) rfl rfl rfl rfl ?_
          refine h_q hfl rfl ?_
          refine h_done (d_else rfl (d_skip (f_to (d_reg ?_))))
          refine h_load 1 (v := .agg #[hiW z, loW z, .int .i64 (k : Int)]) (reads_agg (cs := [hiW z, loW z, .int .i64 (k : Int)]) tyDec rfl) rfl rfl rfl rfl ?_
          refine h_call (ent_of Tryz.func13 (by kernel_rfl) rfl) (fun w hH => textDL _ ht hz hk (tab_below htab hH.up.below hg) (Nat.lt_of_lt_of_le hg hH.up.size)) rfl rfl rfl rfl ?_
          refine h_q hfl rfl ?_
          refine h_done ?_
          refine WC2.keep (env' := [(8, .bool false), (0, .string (bs m)), (11, .int .i64 0), (14, .string (bs m)), (15, .int .i64 0)]) ⟨rfl, rfl, rfl, rfl, rfl, trivial⟩ ?_
          refine d_reg ?_
          refine h_q hfl rfl ?_
          refine h_cmp (cmp_neq_f (by omega)) rfl rfl rfl rfl ?_
          refine h_q hfl rfl ?_
          refine h_cmp (cmp_eql_t (by decide)) rfl rfl rfl rfl ?_
          refine h_q hfl rfl ?_
          refine h_same (beq_self_eq_true _) rfl rfl rfl rfl ?_
          refine h_q hfl rfl ?_
          refine h_done (d_ret ?_)
          exact f_fin1 (.tmp rfl) (fun w h => ⟨rfl, h.up.below⟩) rfl
      · skip
        refine d_reg ?_
        refine h_q hfl rfl ?_
        refine h_done (d_then rfl (d_reg1 ?_))
        refine h_q hfl rfl ?_
        refine h_cat (r := 45 :: m) rfl (by simp; omega) rfl rfl rfl rfl ?_
        refine h_q hfl rfl ?_
        refine h_nil (f_to ?_)
        obtain ⟨v, hv, hw⟩ := cut_val (45 :: m)
        rcases hw with ⟨er, hne, rfl⟩ | ⟨z, k, hz, hk, rfl, ht⟩
        · skip
          refine d_reg ?_
          refine h_q hfl rfl ?_
          refine h_call (ent_of Tryz.func12 (by kernel_rfl) rfl) (fun w hH => parseDL _ hv (by simp only [List.length_cons]; omega) (hE.up hH.up.below)) rfl rfl rfl rfl ?_
          refine h_q hfl rfl ?_
          refine h_alloc zeDec rfl rfl ?_; intro g10_15
          refine h_store 0 (v := Dc 0 0) (#[hiW 0, loW 0, .int .i64 0]) tyDec.2 rfl rfl rfl rfl rfl rfl rfl rfl rfl rfl ?_
          refine h_q hfl rfl ?_
          refine h_done (d_reg ?_)
          refine h_q hfl rfl ?_
          refine h_call (ent_of Tryz.func19 (by kernel_rfl) rfl) (fun w hH => rparseDL _ hv (by simp only [List.length_cons]; omega)) rfl rfl rfl rfl ?_
          refine h_q hfl rfl ?_
          refine h_alloc zeDec rfl rfl ?_; intro g12_16
          refine h_store 0 (v := Dc 0 0) (#[hiW 0, loW 0, .int .i64 0]) tyDec.2 rfl rfl rfl rfl rfl rfl rfl rfl rfl rfl ?_
          refine h_q hfl rfl ?_
          refine h_done (d_seq (d_reg ?_))
          refine h_call (ent_of Tryz.func14 (by kernel_rfl) rfl) (fun w hH => known3_any _ (tab_below htab hH.up.below hg) (Nat.lt_of_lt_of_le hg hH.up.size)) rfl rfl rfl rfl ?_
          refine h_q hfl rfl ?_
          refine h_load 1 (v := .agg #[hiW 0, loW 0, .int .i64 0]) (reads_agg (cs := [hiW 0, loW 0, .int .i64 0]) tyDec rfl) rfl rfl rfl rfl ?_
          refine h_load 0 (v := .agg #[hiW 0, loW 0, .int .i64 0]) (reads_agg (cs := [hiW 0, loW 0, .int .i64 0]) tyDec rfl) rfl rfl rfl rfl ?_
          refine h_nes (neD_same _ _ _) rfl rfl rfl rfl ?_
          refine h_q hfl rfl ?_
          refine h_cmp (cmp_neq_f (by simp)) rfl rfl rfl rfl ?_
          refine h_q hfl rfl ?_
          refine h_done (d_else rfl (d_skip (f_to (d_reg ?_))))
          refine h_load 1 (v := .agg #[hiW 0, loW 0, .int .i64 0]) (reads_agg (cs := [hiW 0, loW 0, .int .i64 0]) tyDec rfl) rfl rfl rfl rfl ?_
          refine h_call (ent_of Tryz.func13 (by kernel_rfl) rfl) (fun w hH => textDL _ (c := 0) (k := 0) rfl (by unfold Fits; omega) (by decide) (tab_below htab hH.up.below hg) (Nat.lt_of_lt_of_le hg hH.up.size)) rfl rfl rfl rfl ?_
          refine h_q hfl rfl ?_
          refine h_done ?_
          refine WC2.keep (env' := [(8, .bool false), (0, .string (bs (45 :: m))), (11, .int .i64 er), (14, .string (bs (textD 0 0))), (15, .int .i64 0)]) ⟨rfl, rfl, rfl, rfl, rfl, trivial⟩ ?_
          refine d_reg ?_
          refine h_q hfl rfl ?_
          refine h_cmp (cmp_neq_t hne) rfl rfl rfl rfl ?_
          refine h_q hfl rfl ?_
          refine h_done (d_ret ?_)
          exact f_fin1 (.tmp rfl) (fun w h => ⟨rfl, h.up.below⟩) rfl
        · skip
          refine d_reg ?_
          refine h_q hfl rfl ?_
          refine h_call (ent_of Tryz.func12 (by kernel_rfl) rfl) (fun w hH => parseDL _ hv (by simp only [List.length_cons]; omega) (hE.up hH.up.below)) rfl rfl rfl rfl ?_
          refine h_q hfl rfl ?_
          refine h_alloc zeDec rfl rfl ?_; intro g10_17
          refine h_store 0 (v := Dc z (k : Int)) (#[hiW z, loW z, .int .i64 (k : Int)]) tyDec.2 rfl rfl rfl rfl rfl rfl rfl rfl rfl rfl ?_
          refine h_q hfl rfl ?_
          refine h_done (d_reg ?_)
          refine h_q hfl rfl ?_
          refine h_call (ent_of Tryz.func19 (by kernel_rfl) rfl) (fun w hH => rparseDL _ hv (by simp only [List.length_cons]; omega)) rfl rfl rfl rfl ?_
          refine h_q hfl rfl ?_
          refine h_alloc zeDec rfl rfl ?_; intro g12_18
          refine h_store 0 (v := Dc z (k : Int)) (#[hiW z, loW z, .int .i64 (k : Int)]) tyDec.2 rfl rfl rfl rfl rfl rfl rfl rfl rfl rfl ?_
          refine h_q hfl rfl ?_
          refine h_done (d_seq (d_reg ?_))
          refine h_call (ent_of Tryz.func14 (by kernel_rfl) rfl) (fun w hH => known3_any _ (tab_below htab hH.up.below hg) (Nat.lt_of_lt_of_le hg hH.up.size)) rfl rfl rfl rfl ?_
          refine h_q hfl rfl ?_
          refine h_load 1 (v := .agg #[hiW z, loW z, .int .i64 (k : Int)]) (reads_agg (cs := [hiW z, loW z, .int .i64 (k : Int)]) tyDec rfl) rfl rfl rfl rfl ?_
          refine h_load 0 (v := .agg #[hiW z, loW z, .int .i64 (k : Int)]) (reads_agg (cs := [hiW z, loW z, .int .i64 (k : Int)]) tyDec rfl) rfl rfl rfl rfl ?_
          refine h_nes (neD_same _ _ _) rfl rfl rfl rfl ?_
          refine h_q hfl rfl ?_
          refine h_cmp (cmp_neq_f (by decide)) rfl rfl rfl rfl ?_
          refine h_q hfl rfl ?_
          refine h_done (d_else rfl (d_skip (f_to (d_reg ?_))))
          refine h_load 1 (v := .agg #[hiW z, loW z, .int .i64 (k : Int)]) (reads_agg (cs := [hiW z, loW z, .int .i64 (k : Int)]) tyDec rfl) rfl rfl rfl rfl ?_
          refine h_call (ent_of Tryz.func13 (by kernel_rfl) rfl) (fun w hH => textDL _ ht hz hk (tab_below htab hH.up.below hg) (Nat.lt_of_lt_of_le hg hH.up.size)) rfl rfl rfl rfl ?_
          refine h_q hfl rfl ?_
          refine h_done ?_
          refine WC2.keep (env' := [(8, .bool false), (0, .string (bs (45 :: m))), (11, .int .i64 0), (14, .string (bs (45 :: m))), (15, .int .i64 0)]) ⟨rfl, rfl, rfl, rfl, rfl, trivial⟩ ?_
          refine d_reg ?_
          refine h_q hfl rfl ?_
          refine h_cmp (cmp_neq_f (by omega)) rfl rfl rfl rfl ?_
          refine h_q hfl rfl ?_
          refine h_cmp (cmp_eql_t (by decide)) rfl rfl rfl rfl ?_
          refine h_q hfl rfl ?_
          refine h_same (beq_self_eq_true _) rfl rfl rfl rfl ?_
          refine h_q hfl rfl ?_
          refine h_done (d_ret ?_)
          exact f_fin1 (.tmp rfl) (fun w h => ⟨rfl, h.up.below⟩) rfl
  · skip
    refine d_reg ?_
    refine h_q hfl rfl ?_
    refine h_builtin (v := .int .i64 (nl.length : Int)) (fun w cs => run_len_slice Tryz.underlying43 _ _ _ _ w cs) rfl rfl rfl ?_
    refine h_cmp (cmp_gtr_f (by omega)) rfl rfl rfl rfl ?_
    refine h_done (d_else rfl (d_skip (f_to ?_)))
    obtain ⟨v, hv, hw⟩ := cut_val (l)
    rcases hw with ⟨er, hne, rfl⟩ | ⟨z, k, hz, hk, rfl, ht⟩
    · skip
      refine d_reg ?_
      refine h_q hfl rfl ?_
      refine h_call (ent_of Tryz.func12 (by kernel_rfl) rfl) (fun w hH => parseDL _ hv (by omega) (hE.up hH.up.below)) rfl rfl rfl rfl ?_
      refine h_q hfl rfl ?_
      refine h_alloc zeDec rfl rfl ?_; intro g10_19
      refine h_store 0 (v := Dc 0 0) (#[hiW 0, loW 0, .int .i64 0]) tyDec.2 rfl rfl rfl rfl rfl rfl rfl rfl rfl rfl ?_
      refine h_q hfl rfl ?_
      refine h_done (d_reg ?_)
      refine h_q hfl rfl ?_
      refine h_call (ent_of Tryz.func19 (by kernel_rfl) rfl) (fun w hH => rparseDL _ hv (by omega)) rfl rfl rfl rfl ?_
      refine h_q hfl rfl ?_
      refine h_alloc zeDec rfl rfl ?_; intro g12_20
      refine h_store 0 (v := Dc 0 0) (#[hiW 0, loW 0, .int .i64 0]) tyDec.2 rfl rfl rfl rfl rfl rfl rfl rfl rfl rfl ?_
      refine h_q hfl rfl ?_
      refine h_done (d_seq (d_reg ?_))
      refine h_call (ent_of Tryz.func14 (by kernel_rfl) rfl) (fun w hH => known3_any _ (tab_below htab hH.up.below hg) (Nat.lt_of_lt_of_le hg hH.up.size)) rfl rfl rfl rfl ?_
      refine h_q hfl rfl ?_
      refine h_load 1 (v := .agg #[hiW 0, loW 0, .int .i64 0]) (reads_agg (cs := [hiW 0, loW 0, .int .i64 0]) tyDec rfl) rfl rfl rfl rfl ?_
      refine h_load 0 (v := .agg #[hiW 0, loW 0, .int .i64 0]) (reads_agg (cs := [hiW 0, loW 0, .int .i64 0]) tyDec rfl) rfl rfl rfl rfl ?_
      refine h_nes (neD_same _ _ _) rfl rfl rfl rfl ?_
      refine h_q hfl rfl ?_
      refine h_cmp (cmp_neq_f (by simp)) rfl rfl rfl rfl ?_
      refine h_q hfl rfl ?_
      refine h_done (d_else rfl (d_skip (f_to (d_reg ?_))))
      refine h_load 1 (v := .agg #[hiW 0, loW 0, .int .i64 0]) (reads_agg (cs := [hiW 0, loW 0, .int .i64 0]) tyDec rfl) rfl rfl rfl rfl ?_
      refine h_call (ent_of Tryz.func13 (by kernel_rfl) rfl) (fun w hH => textDL _ (c := 0) (k := 0) rfl (by unfold Fits; omega) (by decide) (tab_below htab hH.up.below hg) (Nat.lt_of_lt_of_le hg hH.up.size)) rfl rfl rfl rfl ?_
      refine h_q hfl rfl ?_
      refine h_done (d_reg ?_)
      refine h_q hfl rfl ?_
      refine h_cmp (cmp_neq_t hne) rfl rfl rfl rfl ?_
      refine h_q hfl rfl ?_
      refine h_done ?_
      refine WC2.keep (env' := [(8, .bool true)]) ⟨rfl, trivial⟩ ?_
      refine d_ret ?_
      exact f_fin1 (.tmp rfl) (fun w h => ⟨rfl, h.up.below⟩) rfl
    · skip
      refine d_reg ?_
      refine h_q hfl rfl ?_
      refine h_call (ent_of Tryz.func12 (by kernel_rfl) rfl) (fun w hH => parseDL _ hv (by omega) (hE.up hH.up.below)) rfl rfl rfl rfl ?_
      refine h_q hfl rfl ?_
      refine h_alloc zeDec rfl rfl ?_; intro g10_21
      refine h_store 0 (v := Dc z (k : Int)) (#[hiW z, loW z, .int .i64 (k : Int)]) tyDec.2 rfl rfl rfl rfl rfl rfl rfl rfl rfl rfl ?_
      refine h_q hfl rfl ?_
      refine h_done (d_reg ?_)
      refine h_q hfl rfl ?_
      refine h_call (ent_of Tryz.func19 (by kernel_rfl) rfl) (fun w hH => rparseDL _ hv (by omega)) rfl rfl rfl rfl ?_
      refine h_q hfl rfl ?_
      refine h_alloc zeDec rfl rfl ?_; intro g12_22
      refine h_store 0 (v := Dc z (k : Int)) (#[hiW z, loW z, .int .i64 (k : Int)]) tyDec.2 rfl rfl rfl rfl rfl rfl rfl rfl rfl rfl ?_
      refine h_q hfl rfl ?_
      refine h_done (d_seq (d_reg ?_))
      refine h_call (ent_of Tryz.func14 (by kernel_rfl) rfl) (fun w hH => known3_any _ (tab_below htab hH.up.below hg) (Nat.lt_of_lt_of_le hg hH.up.size)) rfl rfl rfl rfl ?_
      refine h_q hfl rfl ?_
      refine h_load 1 (v := .agg #[hiW z, loW z, .int .i64 (k : Int)]) (reads_agg (cs := [hiW z, loW z, .int .i64 (k : Int)]) tyDec rfl) rfl rfl rfl rfl ?_
      refine h_load 0 (v := .agg #[hiW z, loW z, .int .i64 (k : Int)]) (reads_agg (cs := [hiW z, loW z, .int .i64 (k : Int)]) tyDec rfl) rfl rfl rfl rfl ?_
      refine h_nes (neD_same _ _ _) rfl rfl rfl rfl ?_
      refine h_q hfl rfl ?_
      refine h_cmp (cmp_neq_f (by decide)) rfl rfl rfl rfl ?_
      refine h_q hfl rfl ?_
      refine h_done (d_else rfl (d_skip (f_to (d_reg ?_))))
      refine h_load 1 (v := .agg #[hiW z, loW z, .int .i64 (k : Int)]) (reads_agg (cs := [hiW z, loW z, .int .i64 (k : Int)]) tyDec rfl) rfl rfl rfl rfl ?_
      refine h_call (ent_of Tryz.func13 (by kernel_rfl) rfl) (fun w hH => textDL _ ht hz hk (tab_below htab hH.up.below hg) (Nat.lt_of_lt_of_le hg hH.up.size)) rfl rfl rfl rfl ?_
      refine h_q hfl rfl ?_
      refine h_done (d_reg ?_)
      refine h_q hfl rfl ?_
      refine h_cmp (cmp_neq_f (by omega)) rfl rfl rfl rfl ?_
      refine h_q hfl rfl ?_
      refine h_cmp (cmp_eql_t (by decide)) rfl rfl rfl rfl ?_
      refine h_q hfl rfl ?_
      refine h_same (beq_self_eq_true _) rfl rfl rfl rfl ?_
      refine h_q hfl rfl ?_
      refine h_done ?_
      refine WC2.keep (env' := [(8, .bool true)]) ⟨rfl, trivial⟩ ?_
      refine d_ret ?_
      exact f_fin1 (.tmp rfl) (fun w h => ⟨rfl, h.up.below⟩) rfl
end Go.Proofs.YtmamedobphlpkaaGreatDoor
