/-
  RTextW
-/
import Derived.Test.YtfalllekhcocgaaDoorB04
import Derived.Test.YtfalllekhcocgaaDoorB06
import Derived.Test.YtfalllekhcocgaaDoorB07
set_option linter.unusedSimpArgs false
set_option linter.unusedVariables false

namespace Go.Proofs.YtfalllekhcocgaaDoor
open Go.RowKit

theorem fits_dd {x : Int} (hx : Fits x) : (Lib.decDigits x.natAbs).length ≤ 1000000 := by
  have h1 : x.natAbs < 10 ^ 40 := by unfold Fits at hx; omega
  have := dd_len 40 x.natAbs (by decide) h1
  omega
theorem fits_b16 {x : Int} (hx : Fits x) : x.natAbs < BP 16 := by
  have h1 : x.natAbs < 10 ^ 40 := by unfold Fits at hx; omega
  have h2 : 10 ^ 40 < BP 16 := Nat.le_of_ble_eq_true (by kernel_rfl)
  omega

theorem rtextW_n (w : World) (x : Int) (hx : Fits x) (h : x < 0) : Calls Tryd.prog 37 #[WV x] w fun e w' => e = .returned (.string (bs (textZ x))) ∧ Below w.heap.size w w' := by
  refine d_in (args := [WV x]) 15 Tryd.func37 rfl rfl rfl ?_
  refine d_reg ?_
  refine h_box (cs := #[hiW x, loW x]) rfl rfl rfl rfl ?_; intro g1_1
  refine h_q hflW rfl ?_
  refine h_done (d_reg ?_)
  refine h_load 0 (v := .agg #[hiW x, loW x]) (reads_agg (cs := [hiW x, loW x]) tyWide rfl) rfl rfl rfl rfl ?_
  refine h_call (ent_of Tryd.func56 (by kernel_rfl) rfl) (fun w hH => rof_any _ x hx) rfl rfl rfl rfl ?_
  refine h_alloc zeBig rfl rfl ?_; intro g3_2
  refine h_store 0 (v := BigZ x) (bigZ x) tyBig.2 (bigZ_size _) (ble_size zBig_size) (bigZ_one _) (over_all (c := zBig) (v := bigZ x) ((zBig_size : (zBig).size = 17).trans ((bigZ_size _) : (bigZ x).size = 17).symm)) rfl rfl rfl rfl rfl rfl ?_
  refine h_done (d_seq (d_reg ?_))
  refine h_q hflW rfl ?_
  refine h_load 0 (v := .bool true) (reads_one tyBool (bigZ_neg h)) rfl rfl rfl rfl ?_
  refine h_done (d_then rfl (d_reg ?_))
  refine h_q hflW rfl ?_
  refine h_load 0 (v := .agg (digs ((x).natAbs))) (reads_D _ _) rfl rfl rfl rfl ?_
  refine h_call (ent_of Tryd.func68 (by kernel_rfl) rfl) (fun w hH => rtext_any _ x.natAbs (fits_b16 hx) (fits_dd hx)) rfl rfl rfl rfl ?_
  refine h_cat (r := 45 :: Lib.decDigits x.natAbs) rfl (by have := fits_dd hx; simp only [List.length_cons, List.length_nil]; omega) rfl rfl rfl rfl ?_
  refine h_q hflW rfl ?_
  refine h_done (d_ret (f_then_ret ?_))
  exact f_fin1 (.tmp rfl) (fun w h_ => ⟨by rw [textZ, if_pos h], h_.up.below⟩) rfl

theorem rtextW_p (w : World) (x : Int) (hx : Fits x) (h : ¬ x < 0) : Calls Tryd.prog 37 #[WV x] w fun e w' => e = .returned (.string (bs (textZ x))) ∧ Below w.heap.size w w' := by
  refine d_in (args := [WV x]) 15 Tryd.func37 rfl rfl rfl ?_
  refine d_reg ?_
  refine h_box (cs := #[hiW x, loW x]) rfl rfl rfl rfl ?_; intro g1_1
  refine h_q hflW rfl ?_
  refine h_done (d_reg ?_)
  refine h_load 0 (v := .agg #[hiW x, loW x]) (reads_agg (cs := [hiW x, loW x]) tyWide rfl) rfl rfl rfl rfl ?_
  refine h_call (ent_of Tryd.func56 (by kernel_rfl) rfl) (fun w hH => rof_any _ x hx) rfl rfl rfl rfl ?_
  refine h_alloc zeBig rfl rfl ?_; intro g3_2
  refine h_store 0 (v := BigZ x) (bigZ x) tyBig.2 (bigZ_size _) (ble_size zBig_size) (bigZ_one _) (over_all (c := zBig) (v := bigZ x) ((zBig_size : (zBig).size = 17).trans ((bigZ_size _) : (bigZ x).size = 17).symm)) rfl rfl rfl rfl rfl rfl ?_
  refine h_done (d_seq (d_reg ?_))
  refine h_q hflW rfl ?_
  refine h_load 0 (v := .bool false) (reads_one tyBool (bigZ_pos h)) rfl rfl rfl rfl ?_
  refine h_done (d_else rfl (d_skip (f_to (d_reg ?_))))
  refine h_q hflW rfl ?_
  refine h_load 0 (v := .agg (digs ((x).natAbs))) (reads_D _ _) rfl rfl rfl rfl ?_
  refine h_call (ent_of Tryd.func68 (by kernel_rfl) rfl) (fun w hH => rtext_any _ x.natAbs (fits_b16 hx) (fits_dd hx)) rfl rfl rfl rfl ?_
  refine h_q hflW rfl ?_
  refine h_done (d_ret ?_)
  exact f_fin1 (.tmp rfl) (fun w h_ => ⟨by rw [textZ, if_neg h], h_.up.below⟩) rfl

theorem rtextW_any (w : World) (x : Int) (hx : Fits x) : Calls Tryd.prog 37 #[WV x] w fun e w' => e = .returned (.string (bs (textZ x))) ∧ Below w.heap.size w w' := by
  by_cases h : x < 0
  · exact rtextW_n w x hx h
  · exact rtextW_p w x hx h
/-- what the reference makes of digits -/
def valR (D : List UInt8) : Nat := if 60 < D.length then BP 4 else nv D
theorem digits_yes {D : List UInt8} (h : plainN D) : digitsV D = .tuple #[.agg (digs (valR D)), .bool true] := if_pos h
theorem bp4 : BP 4 = 340282366920938463463374607431768211456 := by kernel_rfl
theorem long_nv {D : List UInt8} (h : plainN D) (h60 : 60 < D.length) : 10 ^ 60 ≤ nv D := by
  cases D with
  | nil => simp at h60
  | cons c r =>
    have hc0 : c.toNat ≠ 48 := by
      intro e
      exact h.2.2 (by omega) (head_48 rfl e)
    have := nv_pos (r := r) (h.2.1 c (by simp)) hc0
    have h2 : 10 ^ 60 ≤ 10 ^ r.length := Nat.pow_le_pow_right (by decide) (by simp at h60; omega)
    omega
theorem valR_zero {D : List UInt8} (h : plainN D) : valR D = 0 ↔ D = [48] := by
  rw [← plain_zero h]
  unfold valR
  by_cases h60 : 60 < D.length
  · rw [if_pos h60, bp4]
    have := long_nv h h60
    have : 0 < 10 ^ 60 := by decide
    omega
  · rw [if_neg h60]
theorem valR_lt {D : List UInt8} (h : plainN D) : valR D < BP 14 := by
  unfold valR
  by_cases h60 : 60 < D.length
  · rw [if_pos h60]; exact Nat.le_of_ble_eq_true (by kernel_rfl)
  · rw [if_neg h60]
    have := nv_small (l := D) (j := D.length) h.2.1 h60
    rw [List.take_length] at this
    exact Nat.lt_of_lt_of_le this (BP_le (by decide))
theorem valR_res {D : List UInt8} (h : plainN D) (m : Bool) : resV (if m then -(valR D : Int) else (valR D : Int)) = resV (if m then -(nv D : Int) else (nv D : Int)) := by
  by_cases h60 : 60 < D.length
  · have h1 := long_nv h h60
    have h2 : 10 ^ 60 = 1000000000000000000000000000000000000000000000000000000000000 := by decide
    have h3 : valR D = 340282366920938463463374607431768211456 := by unfold valR; rw [if_pos h60, bp4]
    rw [resV_over (by unfold Fits; split <;> omega), resV_over (by unfold Fits; split <;> omega)]
  · unfold valR; rw [if_neg h60]
theorem digN (w : World) (D : List UInt8) (hlen : D.length ≤ 9223372036854775807) (h : ¬ plainN D) : Calls Tryd.prog 69 #[.string (bs D)] w fun e w' => e = .returned (.tuple #[.agg (digs 0), .bool false]) ∧ Below w.heap.size w w' := by
  rw [← digits_no h]; exact rdigits_any w D hlen
theorem digY (w : World) (D : List UInt8) (hlen : D.length ≤ 9223372036854775807) (h : plainN D) : Calls Tryd.prog 69 #[.string (bs D)] w fun e w' => e = .returned (.tuple #[.agg (digs (valR D)), .bool true]) ∧ Below w.heap.size w w' := by
  rw [← digits_yes h]; exact rdigits_any w D hlen
theorem wideT (w : World) (V : Nat) (v : Value) (hV : V < BP 16) (h0 : V ≠ 0) (hr : resV (if true then -(V : Int) else (V : Int)) = v) : Calls Tryd.prog 54 #[.agg (bigs true V)] w fun e w' => e = .returned v ∧ Below w.heap.size w w' := by
  have e : Value.agg (bigs true V) = BigZ (-(V : Int)) := by rw [← neg_bigr, decide_eq_false h0]; rfl
  rw [e, ← hr]
  exact rwide_any w (-(V : Int)) (by omega)
theorem wideF (w : World) (V : Nat) (v : Value) (hV : V < BP 16) (hr : resV (if false then -(V : Int) else (V : Int)) = v) : Calls Tryd.prog 54 #[.agg (bigs false V)] w fun e w' => e = .returned v ∧ Below w.heap.size w w' := by
  have e : Value.agg (bigs false V) = BigZ (V : Int) := by rw [← pos_bigr]; rfl
  rw [e, ← hr]
  exact rwide_any w (V : Int) (by omega)

theorem rparse_f0 (w : World) (D : List UInt8) (hc : cutS D = (false, D)) (hlD : D.length ≤ 9223372036854775807) (h0 : D = []) : Calls Tryd.prog 38 #[.string (bs D)] w fun e w' => e = .returned (parseV D) ∧ Below w.heap.size w w' := by
  refine d_in (args := [.string (bs D)]) 39 Tryd.func38 rfl rfl rfl ?_
  refine d_reg ?_
  refine h_alloc zeWide rfl rfl ?_; intro g2_1
  refine h_q hflW rfl ?_
  refine h_done (d_reg ?_)
  refine h_q hflW rfl ?_
  refine h_builtin (v := .int .i64 (D.length : Int)) (fun w cs => run_len_bs Tryd.underlying9 _ _ w cs) rfl rfl rfl ?_
  refine h_cmp (cmp_gtr_f (by subst h0; simp)) rfl rfl rfl rfl ?_
  refine h_q hflW rfl ?_
  refine h_done (d_seq (d_reg ?_))
  refine h_q hflW rfl ?_
  refine h_done (d_else rfl (d_skip (f_to ?_)))
  by_cases hp : plainN D; rotate_left
  · skip
    refine d_reg ?_
    refine h_q hflW rfl ?_
    refine h_call (ent_of Tryd.func69 (by kernel_rfl) rfl) (fun w hH => digN _ D hlD hp) rfl rfl rfl rfl ?_
    refine h_q hflW rfl ?_
    refine h_alloc zeDig rfl rfl ?_; intro g5_2
    refine h_store 0 (v := .agg (digs 0)) (digs 0) tyDigits.2 (digs_size _) (ble_size (digs_size _)) (digs_oneL _) (over_all (c := digs 0) (v := digs 0) (((digs_size _) : (digs 0).size = 16).trans ((digs_size _) : (digs 0).size = 16).symm)) rfl rfl rfl rfl rfl rfl ?_
    refine h_q hflW rfl ?_
    refine h_done (d_seq (d_reg ?_))
    refine h_q hflW rfl ?_
    refine h_done (d_then rfl (d_reg ?_))
    refine h_build (cs := #[.int .i64 0, .int .u64 0]) (by kernel_rfl) rfl rfl rfl ?_
    refine h_store 1 (v := .agg #[.int .i64 0, .int .u64 0]) (#[.int .i64 0, .int .u64 0]) tyWide.2 rfl rfl rfl rfl rfl rfl rfl rfl rfl rfl ?_
    refine h_q hflW rfl ?_
    refine h_done (d_ret (f_then_ret ?_))
    exact f_fin2 (.cell 1 (v := .agg #[.int .i64 0, .int .u64 0]) (reads_agg (cs := [.int .i64 0, .int .u64 0]) tyWide rfl) rfl rfl) (.tmp rfl) (fun w h => ⟨by rw [parseV_no hc (fun h => hp h.1)]; rfl, h.up.below⟩) rfl
  · skip
    have hz : ¬ (false = true ∧ D = [48]) := by simp
    obtain ⟨ra, rb, re, hr⟩ := resV_form (if false then -(valR D : Int) else (valR D : Int))
    refine d_reg ?_
    refine h_q hflW rfl ?_
    refine h_call (ent_of Tryd.func69 (by kernel_rfl) rfl) (fun w hH => digY _ D hlD hp) rfl rfl rfl rfl ?_
    refine h_q hflW rfl ?_
    refine h_alloc zeDig rfl rfl ?_; intro g5_3
    refine h_store 0 (v := .agg (digs (valR D))) (digs (valR D)) tyDigits.2 (digs_size _) (ble_size (digs_size _)) (digs_oneL _) (over_all (c := digs 0) (v := digs (valR D)) (((digs_size _) : (digs 0).size = 16).trans ((digs_size _) : (digs (valR D)).size = 16).symm)) rfl rfl rfl rfl rfl rfl ?_
    refine h_q hflW rfl ?_
    refine h_done (d_seq (d_reg ?_))
    refine h_q hflW rfl ?_
    refine h_done (d_else rfl (d_skip (f_to (d_reg ?_))))
    refine h_q hflW rfl ?_
    refine h_load 0 (v := .agg (digs (valR D))) (reads_all (tyDigC _)) rfl rfl rfl rfl ?_
    refine h_build (cs := bigs false (valR D)) (built_big _ _) rfl rfl rfl ?_
    refine h_call (ent_of Tryd.func54 (by kernel_rfl) rfl) (fun w hH => wideF _ (valR D) _ (Nat.lt_of_lt_of_le (valR_lt hp) (BP_le (by decide))) hr) rfl rfl rfl rfl ?_
    refine h_q hflW rfl ?_
    refine h_store 1 (v := .agg #[.int .i64 ra, .int .u64 rb]) (#[.int .i64 ra, .int .u64 rb]) tyWide.2 rfl rfl rfl rfl rfl rfl rfl rfl rfl rfl ?_
    refine h_q hflW rfl ?_
    refine h_done (d_ret ?_)
    exact f_fin2 (.cell 1 (v := .agg #[.int .i64 ra, .int .u64 rb]) (reads_agg (cs := [.int .i64 ra, .int .u64 rb]) tyWide rfl) rfl rfl) (.tmp rfl) (fun w h => ⟨by rw [parseV_ok hc hp hz, ← valR_res hp]; exact congrArg _ hr.symm, h.up.below⟩) rfl

theorem rparse_f1 (w : World) (D : List UInt8) (hc : cutS D = (false, D)) (hlD : D.length ≤ 9223372036854775807) (ch : UInt8) (h0 : D[0]? = some ch) (h1 : ch.toNat ≠ 45) : Calls Tryd.prog 38 #[.string (bs D)] w fun e w' => e = .returned (parseV D) ∧ Below w.heap.size w w' := by
  refine d_in (args := [.string (bs D)]) 39 Tryd.func38 rfl rfl rfl ?_
  refine d_reg ?_
  refine h_alloc zeWide rfl rfl ?_; intro g2_1
  refine h_q hflW rfl ?_
  refine h_done (d_reg ?_)
  refine h_q hflW rfl ?_
  refine h_builtin (v := .int .i64 (D.length : Int)) (fun w cs => run_len_bs Tryd.underlying9 _ _ w cs) rfl rfl rfl ?_
  refine h_cmp (cmp_gtr_t (by have := (List.getElem?_eq_some_iff.1 h0).1; omega)) rfl rfl rfl rfl ?_
  refine h_q hflW rfl ?_
  refine h_val rfl (.int .u8 (ch.toNat : Int)) (fun b w hb hH => by exact exec_index (i := 0) Tryd.underlying9 h0 rfl rfl rfl hb) ?_
  refine h_cmp (cmp_eql_f (by omega)) rfl rfl rfl rfl ?_
  refine h_q hflW rfl ?_
  refine h_done (d_seq (d_reg ?_))
  refine h_q hflW rfl ?_
  refine h_done (d_else rfl (d_skip (f_to ?_)))
  by_cases hp : plainN D; rotate_left
  · skip
    refine d_reg ?_
    refine h_q hflW rfl ?_
    refine h_call (ent_of Tryd.func69 (by kernel_rfl) rfl) (fun w hH => digN _ D hlD hp) rfl rfl rfl rfl ?_
    refine h_q hflW rfl ?_
    refine h_alloc zeDig rfl rfl ?_; intro g5_2
    refine h_store 0 (v := .agg (digs 0)) (digs 0) tyDigits.2 (digs_size _) (ble_size (digs_size _)) (digs_oneL _) (over_all (c := digs 0) (v := digs 0) (((digs_size _) : (digs 0).size = 16).trans ((digs_size _) : (digs 0).size = 16).symm)) rfl rfl rfl rfl rfl rfl ?_
    refine h_q hflW rfl ?_
    refine h_done (d_seq (d_reg ?_))
    refine h_q hflW rfl ?_
    refine h_done (d_then rfl (d_reg ?_))
    refine h_build (cs := #[.int .i64 0, .int .u64 0]) (by kernel_rfl) rfl rfl rfl ?_
    refine h_store 1 (v := .agg #[.int .i64 0, .int .u64 0]) (#[.int .i64 0, .int .u64 0]) tyWide.2 rfl rfl rfl rfl rfl rfl rfl rfl rfl rfl ?_
    refine h_q hflW rfl ?_
    refine h_done (d_ret (f_then_ret ?_))
    exact f_fin2 (.cell 1 (v := .agg #[.int .i64 0, .int .u64 0]) (reads_agg (cs := [.int .i64 0, .int .u64 0]) tyWide rfl) rfl rfl) (.tmp rfl) (fun w h => ⟨by rw [parseV_no hc (fun h => hp h.1)]; rfl, h.up.below⟩) rfl
  · skip
    have hz : ¬ (false = true ∧ D = [48]) := by simp
    obtain ⟨ra, rb, re, hr⟩ := resV_form (if false then -(valR D : Int) else (valR D : Int))
    refine d_reg ?_
    refine h_q hflW rfl ?_
    refine h_call (ent_of Tryd.func69 (by kernel_rfl) rfl) (fun w hH => digY _ D hlD hp) rfl rfl rfl rfl ?_
    refine h_q hflW rfl ?_
    refine h_alloc zeDig rfl rfl ?_; intro g5_3
    refine h_store 0 (v := .agg (digs (valR D))) (digs (valR D)) tyDigits.2 (digs_size _) (ble_size (digs_size _)) (digs_oneL _) (over_all (c := digs 0) (v := digs (valR D)) (((digs_size _) : (digs 0).size = 16).trans ((digs_size _) : (digs (valR D)).size = 16).symm)) rfl rfl rfl rfl rfl rfl ?_
    refine h_q hflW rfl ?_
    refine h_done (d_seq (d_reg ?_))
    refine h_q hflW rfl ?_
    refine h_done (d_else rfl (d_skip (f_to (d_reg ?_))))
    refine h_q hflW rfl ?_
    refine h_load 0 (v := .agg (digs (valR D))) (reads_all (tyDigC _)) rfl rfl rfl rfl ?_
    refine h_build (cs := bigs false (valR D)) (built_big _ _) rfl rfl rfl ?_
    refine h_call (ent_of Tryd.func54 (by kernel_rfl) rfl) (fun w hH => wideF _ (valR D) _ (Nat.lt_of_lt_of_le (valR_lt hp) (BP_le (by decide))) hr) rfl rfl rfl rfl ?_
    refine h_q hflW rfl ?_
    refine h_store 1 (v := .agg #[.int .i64 ra, .int .u64 rb]) (#[.int .i64 ra, .int .u64 rb]) tyWide.2 rfl rfl rfl rfl rfl rfl rfl rfl rfl rfl ?_
    refine h_q hflW rfl ?_
    refine h_done (d_ret ?_)
    exact f_fin2 (.cell 1 (v := .agg #[.int .i64 ra, .int .u64 rb]) (reads_agg (cs := [.int .i64 ra, .int .u64 rb]) tyWide rfl) rfl rfl) (.tmp rfl) (fun w h => ⟨by rw [parseV_ok hc hp hz, ← valR_res hp]; exact congrArg _ hr.symm, h.up.below⟩) rfl

theorem rparse_t (w : World) (D : List UInt8) (hc : cutS (45 :: D) = (true, D)) (hlen : (45 :: D).length ≤ 9223372036854775807) : Calls Tryd.prog 38 #[.string (bs (45 :: D))] w fun e w' => e = .returned (parseV (45 :: D)) ∧ Below w.heap.size w w' := by
  have hlD : D.length ≤ 9223372036854775807 := by simp only [List.length_cons] at hlen; omega
  refine d_in (args := [.string (bs (45 :: D))]) 39 Tryd.func38 rfl rfl rfl ?_
  refine d_reg ?_
  refine h_alloc zeWide rfl rfl ?_; intro g2_1
  refine h_q hflW rfl ?_
  refine h_done (d_reg ?_)
  refine h_q hflW rfl ?_
  refine h_builtin (v := .int .i64 ((45 :: D).length : Int)) (fun w cs => run_len_bs Tryd.underlying9 _ _ w cs) rfl rfl rfl ?_
  refine h_cmp (cmp_gtr_t (by simp only [List.length_cons]; omega)) rfl rfl rfl rfl ?_
  refine h_q hflW rfl ?_
  refine h_val rfl (.int .u8 ((45 : UInt8).toNat : Int)) (fun b w hb hH => by exact exec_index (i := 0) Tryd.underlying9 rfl rfl rfl rfl hb) ?_
  refine h_cmp (cmp_eql_t (by decide)) rfl rfl rfl rfl ?_
  refine h_q hflW rfl ?_
  refine h_done (d_seq (d_reg ?_))
  refine h_q hflW rfl ?_
  refine h_done (d_then rfl (d_reg1 ?_))
  refine h_q hflW rfl ?_
  refine h_cut (i := 1) (j := (45 :: D).length) (r := D) Tryd.underlying9 (by simp) (by simp) (Nat.le_refl _) rfl rfl rfl ⟨_, rfl⟩ rfl ?_
  refine h_q hflW rfl ?_
  refine h_nil (f_to ?_)
  rcases zero_ways D with hp | ⟨hp, hz0⟩ | ⟨hp, hz0⟩
  · skip
    refine d_reg ?_
    refine h_q hflW rfl ?_
    refine h_call (ent_of Tryd.func69 (by kernel_rfl) rfl) (fun w hH => digN _ D hlD hp) rfl rfl rfl rfl ?_
    refine h_q hflW rfl ?_
    refine h_alloc zeDig rfl rfl ?_; intro g5_2
    refine h_store 0 (v := .agg (digs 0)) (digs 0) tyDigits.2 (digs_size _) (ble_size (digs_size _)) (digs_oneL _) (over_all (c := digs 0) (v := digs 0) (((digs_size _) : (digs 0).size = 16).trans ((digs_size _) : (digs 0).size = 16).symm)) rfl rfl rfl rfl rfl rfl ?_
    refine h_q hflW rfl ?_
    refine h_done (d_seq (d_reg ?_))
    refine h_q hflW rfl ?_
    refine h_done (d_then rfl (d_reg ?_))
    refine h_build (cs := #[.int .i64 0, .int .u64 0]) (by kernel_rfl) rfl rfl rfl ?_
    refine h_store 1 (v := .agg #[.int .i64 0, .int .u64 0]) (#[.int .i64 0, .int .u64 0]) tyWide.2 rfl rfl rfl rfl rfl rfl rfl rfl rfl rfl ?_
    refine h_q hflW rfl ?_
    refine h_done (d_ret (f_then_ret ?_))
    exact f_fin2 (.cell 1 (v := .agg #[.int .i64 0, .int .u64 0]) (reads_agg (cs := [.int .i64 0, .int .u64 0]) tyWide rfl) rfl rfl) (.tmp rfl) (fun w h => ⟨by rw [parseV_no hc (fun h => hp h.1)]; rfl, h.up.below⟩) rfl
  · skip
    refine d_reg ?_
    refine h_q hflW rfl ?_
    refine h_call (ent_of Tryd.func69 (by kernel_rfl) rfl) (fun w hH => digY _ D hlD hp) rfl rfl rfl rfl ?_
    refine h_q hflW rfl ?_
    refine h_alloc zeDig rfl rfl ?_; intro g5_3
    refine h_store 0 (v := .agg (digs (valR D))) (digs (valR D)) tyDigits.2 (digs_size _) (ble_size (digs_size _)) (digs_oneL _) (over_all (c := digs 0) (v := digs (valR D)) (((digs_size _) : (digs 0).size = 16).trans ((digs_size _) : (digs (valR D)).size = 16).symm)) rfl rfl rfl rfl rfl rfl ?_
    refine h_q hflW rfl ?_
    refine h_done (d_seq (d_reg ?_))
    refine h_q hflW rfl ?_
    refine h_load 0 (v := .agg (digs (valR D))) (reads_all (tyDigC _)) rfl rfl rfl rfl ?_
    refine h_call (ent_of Tryd.func64 (by kernel_rfl) rfl) (fun w hH => zeroB _ (valR D) true (Nat.lt_of_lt_of_le (valR_lt hp) (BP_le (by decide))) (decide_eq_true ((valR_zero hp).2 hz0))) rfl rfl rfl rfl ?_
    refine h_q hflW rfl ?_
    refine h_done (d_then rfl (d_reg ?_))
    refine h_build (cs := #[.int .i64 0, .int .u64 0]) (by kernel_rfl) rfl rfl rfl ?_
    refine h_store 1 (v := .agg #[.int .i64 0, .int .u64 0]) (#[.int .i64 0, .int .u64 0]) tyWide.2 rfl rfl rfl rfl rfl rfl rfl rfl rfl rfl ?_
    refine h_q hflW rfl ?_
    refine h_done (d_ret (f_then_ret ?_))
    exact f_fin2 (.cell 1 (v := .agg #[.int .i64 0, .int .u64 0]) (reads_agg (cs := [.int .i64 0, .int .u64 0]) tyWide rfl) rfl rfl) (.tmp rfl) (fun w h => ⟨by rw [parseV_no hc (fun h => h.2 ⟨rfl, hz0⟩)]; rfl, h.up.below⟩) rfl
  · skip
    have hz : ¬ (true = true ∧ D = [48]) := by simp [hz0]
    obtain ⟨ra, rb, re, hr⟩ := resV_form (if true then -(valR D : Int) else (valR D : Int))
    refine d_reg ?_
    refine h_q hflW rfl ?_
    refine h_call (ent_of Tryd.func69 (by kernel_rfl) rfl) (fun w hH => digY _ D hlD hp) rfl rfl rfl rfl ?_
    refine h_q hflW rfl ?_
    refine h_alloc zeDig rfl rfl ?_; intro g5_4
    refine h_store 0 (v := .agg (digs (valR D))) (digs (valR D)) tyDigits.2 (digs_size _) (ble_size (digs_size _)) (digs_oneL _) (over_all (c := digs 0) (v := digs (valR D)) (((digs_size _) : (digs 0).size = 16).trans ((digs_size _) : (digs (valR D)).size = 16).symm)) rfl rfl rfl rfl rfl rfl ?_
    refine h_q hflW rfl ?_
    refine h_done (d_seq (d_reg ?_))
    refine h_q hflW rfl ?_
    refine h_load 0 (v := .agg (digs (valR D))) (reads_all (tyDigC _)) rfl rfl rfl rfl ?_
    refine h_call (ent_of Tryd.func64 (by kernel_rfl) rfl) (fun w hH => zeroB _ (valR D) false (Nat.lt_of_lt_of_le (valR_lt hp) (BP_le (by decide))) (decide_eq_false fun e => hz0 ((valR_zero hp).1 e))) rfl rfl rfl rfl ?_
    refine h_q hflW rfl ?_
    refine h_done (d_else rfl (d_skip (f_to (d_reg ?_))))
    refine h_q hflW rfl ?_
    refine h_load 0 (v := .agg (digs (valR D))) (reads_all (tyDigC _)) rfl rfl rfl rfl ?_
    refine h_build (cs := bigs true (valR D)) (built_big _ _) rfl rfl rfl ?_
    refine h_call (ent_of Tryd.func54 (by kernel_rfl) rfl) (fun w hH => wideT _ (valR D) _ (Nat.lt_of_lt_of_le (valR_lt hp) (BP_le (by decide))) (fun e => hz ⟨rfl, (valR_zero hp).1 e⟩) hr) rfl rfl rfl rfl ?_
    refine h_q hflW rfl ?_
    refine h_store 1 (v := .agg #[.int .i64 ra, .int .u64 rb]) (#[.int .i64 ra, .int .u64 rb]) tyWide.2 rfl rfl rfl rfl rfl rfl rfl rfl rfl rfl ?_
    refine h_q hflW rfl ?_
    refine h_done (d_ret ?_)
    exact f_fin2 (.cell 1 (v := .agg #[.int .i64 ra, .int .u64 rb]) (reads_agg (cs := [.int .i64 ra, .int .u64 rb]) tyWide rfl) rfl rfl) (.tmp rfl) (fun w h => ⟨by rw [parseV_ok hc hp hz, ← valR_res hp]; exact congrArg _ hr.symm, h.up.below⟩) rfl

theorem rparse_any (w : World) (l : List UInt8) (hlen : l.length ≤ 9223372036854775807) : Calls Tryd.prog 38 #[.string (bs l)] w fun e w' => e = .returned (parseV l) ∧ Below w.heap.size w w' := by
  rcases cut_ways l with ⟨r, rfl, h, _⟩ | ⟨h, hp⟩
  · exact rparse_t w r h hlen
  · cases l with
    | nil => exact rparse_f0 w [] h hlen rfl
    | cons c r =>
      refine rparse_f1 w (c :: r) h hlen c rfl fun e => ?_
      have : c = 45 := UInt8.toNat_inj.1 (by simpa using e)
      subst this
      simp [Lib.hasPrefix, List.isPrefixOf] at hp
end Go.Proofs.YtfalllekhcocgaaDoor
