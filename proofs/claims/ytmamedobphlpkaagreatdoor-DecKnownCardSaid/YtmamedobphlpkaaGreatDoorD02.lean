/-
  RParseD
-/
import Derived.Test.YtmamedobphlpkaaGreatDoorB10
import Derived.Test.YtmamedobphlpkaaGreatDoorC02
import Derived.Test.YtmamedobphlpkaaGreatDoorD01
set_option linter.unusedSimpArgs false
set_option linter.unusedVariables false

namespace Go.Proofs.YtmamedobphlpkaaGreatDoor
open Go.RowKit

theorem get_at {D p q : List UInt8} (hD : D = p ++ 46 :: q) : D[p.length]? = some 46 := by rw [hD]; simp
theorem get_low {D p q : List UInt8} (hD : D = p ++ 46 :: q) {i : Nat} (h : i < p.length) : ∃ b ∈ p, D[i]? = some b := by
  refine ⟨p[i], List.getElem_mem h, ?_⟩
  rw [hD, List.getElem?_append_left h, List.getElem?_eq_getElem h]
theorem get_high {D p q : List UInt8} (hD : D = p ++ 46 :: q) {j : Nat} {b : UInt8} (h : q[j]? = some b) : D[p.length + 1 + j]? = some b := by
  rw [hD, List.getElem?_append_right (by omega), show p.length + 1 + j - p.length = j + 1 by omega, List.getElem?_cons_succ]; exact h
theorem byte46 {b : UInt8} (h : b ≠ 46) : (b.toNat : Int) ≠ 46 := fun e => h (UInt8.toNat_inj.1 (by simpa using (by omega : b.toNat = 46)))
theorem byte46' {b : UInt8} (h : b = 46) : (b.toNat : Int) = 46 := by subst h; rfl
/-- one step to the left -/
theorem left_no {p q D : List UInt8} {i : Nat} {a : Int} {b : UInt8} (hD : D = p ++ 46 :: q) (hb : D[i]? = some b) (hne : b ≠ 46) (h : ((i : Int) < p.length → a = p.length)) : ((i : Int) - 1 < p.length → a = p.length) := fun hi => by
  by_cases e : i = p.length
  · subst e
    rw [get_at hD] at hb
    exact absurd (Option.some.inj hb).symm hne
  · exact h (by omega)
theorem left_yes {p q D : List UInt8} {i : Nat} {b : UInt8} (hD : D = p ++ 46 :: q) (hb : D[i]? = some b) (he : b = 46) (hp : ∀ b ∈ p, b ≠ 46) : ((i : Int) - 1 < p.length → (i : Int) = p.length) := fun hi => by
  by_cases e : i = p.length
  · rw [e]
  · obtain ⟨c, hc, hc'⟩ := get_low hD (i := i) (by omega)
    rw [hb] at hc'
    exact absurd ((Option.some.inj hc') ▸ he) (hp c hc)
theorem left_step (z len : Int) : z < 0 ∨ 0 ≤ z := by omega
/-- noughts trimmed: what is left is never empty, and spells the same -/
def trI (A : List UInt8) (i : Nat) : Prop := i < A.length ∧ nv (A.drop i) = nv A
theorem trI_step {A : List UInt8} {i : Nat} {b : UInt8} (h : trI A i) (hb : A[i]? = some b) (e : b.toNat = 48) (hl : 1 < (A.drop i).length) : trI A (i + 1) := by
  rw [List.length_drop] at hl
  refine ⟨by omega, ?_⟩
  rw [← h.2, List.drop_eq_getElem_cons h.1]
  have : A[i] = b := by have := List.getElem?_eq_getElem h.1; rw [this] at hb; exact Option.some.inj hb
  show _ = nvA 0 (A[i] :: A.drop (i + 1))
  rw [nvA_cons, this, e]; rfl
theorem tr_ways {A : List UInt8} {i : Nat} (h : trI A i) (ha : allD A) : (1 < (A.drop i).length ∧ ∃ b, A[i]? = some b ∧ b.toNat = 48) ∨ (plainN (A.drop i) ∧ 1 < (A.drop i).length ∧ ∃ b, A[i]? = some b ∧ b.toNat ≠ 48) ∨ (plainN (A.drop i) ∧ ¬ 1 < (A.drop i).length) := by
  have hall : allD (A.drop i) := fun x hx => ha x (List.mem_of_mem_drop hx)
  have hne : A.drop i ≠ [] := by
    intro e
    have e2 := congrArg List.length e
    rw [List.length_drop, List.length_nil] at e2
    have h1 := h.1
    omega
  by_cases hl : 1 < (A.drop i).length
  · by_cases hc : (A[i]'h.1).toNat = 48
    · exact .inl ⟨hl, _, List.getElem?_eq_getElem h.1, hc⟩
    · refine .inr (.inl ⟨⟨hne, hall, fun _ => ?_⟩, hl, _, List.getElem?_eq_getElem h.1, hc⟩)
      exact head_no48 (drop_get A i (List.getElem?_eq_getElem h.1)) hc
  · exact .inr (.inr ⟨⟨hne, hall, fun h => absurd h hl⟩, hl⟩)
theorem valR_fits {X : List UInt8} (h : plainN X) (m : Bool) : (if m then -(valR X : Int) else (valR X : Int)) = (if m then -(nv X : Int) else (nv X : Int)) ∨ (¬ Fits (if m then -(valR X : Int) else (valR X : Int)) ∧ ¬ Fits (if m then -(nv X : Int) else (nv X : Int))) := by
  by_cases h60 : 60 < X.length
  · have h1 := long_nv h h60
    have h2 : 10 ^ 60 = 1000000000000000000000000000000000000000000000000000000000000 := by decide
    have h3 : valR X = 340282366920938463463374607431768211456 := by unfold valR; rw [if_pos h60, bp4]
    exact .inr ⟨by unfold Fits; split <;> omega, by unfold Fits; split <;> omega⟩
  · exact .inl (by unfold valR; rw [if_neg h60])
theorem rdecT (w : World) {V : Nat} {s : Int} {v : Value} (hV : V < BP 14) (h0 : V ≠ 0) (hr : decR (if true then -(V : Int) else (V : Int)) s = v) : Calls Tryz.prog 47 #[.agg (bigs true V), .int .i64 s] w fun e w' => e = .returned v ∧ Below w.heap.size w w' := by
  have e : Value.agg (bigs true V) = BigZ (-(V : Int)) := by rw [← neg_bigr, decide_eq_false h0]; rfl
  rw [e, ← hr]
  unfold decR
  rw [if_pos rfl]
  by_cases hf : Fits (-(V : Int))
  · rw [if_pos hf]; exact rdec_fit w _ s hf
  · rw [if_neg hf]; exact rdec_no w _ s (by have := BP_le (show 14 ≤ 16 by decide); omega) hf
theorem rdecF (w : World) {V : Nat} {s : Int} {v : Value} (hV : V < BP 14) (hr : decR (if false then -(V : Int) else (V : Int)) s = v) : Calls Tryz.prog 47 #[.agg (bigs false V), .int .i64 s] w fun e w' => e = .returned v ∧ Below w.heap.size w w' := by
  have e : Value.agg (bigs false V) = BigZ (V : Int) := by rw [← pos_bigr]; rfl
  rw [e, ← hr]
  unfold decR
  simp only [Bool.false_eq_true, if_false]
  by_cases hf : Fits (V : Int)
  · rw [if_pos hf]; exact rdec_fit w _ s hf
  · rw [if_neg hf]; exact rdec_no w _ s (by have := BP_le (show 14 ≤ 16 by decide); omega) hf
theorem decR_val {X : List UInt8} (h : plainN X) (m : Bool) (s : Int) : decR (if m then -(valR X : Int) else (valR X : Int)) s = decR (if m then -(nv X : Int) else (nv X : Int)) s := by
  rcases valR_fits h m with e | ⟨h1, h2⟩
  · rw [e]
  · unfold decR; rw [if_neg h1, if_neg h2]
theorem decR_form (z s : Int) : ∃ a t e : Int, decR z s = .tuple #[Dc a t, .int .i64 e] := by
  unfold decR; split <;> exact ⟨_, _, _, rfl⟩

theorem rpd_ffe (w : World) (D : List UInt8) (hp46 : ∀ b ∈ D, b ≠ 46) (hlen : D.length ≤ 9223372036854775807) (h0 : D = []) : Calls Tryz.prog 19 #[.string (bs D)] w fun e w' => e = .returned (valD false D [] false) ∧ Below w.heap.size w w' := by
  refine d_in (args := [.string (bs D)]) 124 Tryz.func19 rfl rfl rfl ?_
  refine d_reg ?_
  refine h_alloc zeDec rfl rfl ?_; intro g2_1
  refine h_q hfl rfl ?_
  refine h_done (d_reg ?_)
  refine h_q hfl rfl ?_
  refine h_builtin (v := .int .i64 (D.length : Int)) (fun w cs => run_len_bs Tryz.underlying9 _ _ w cs) rfl rfl rfl ?_
  refine h_cmp (cmp_gtr_f (by subst h0; simp)) rfl rfl rfl rfl ?_
  refine h_q hfl rfl ?_
  refine h_done (d_seq (d_reg ?_))
  refine h_q hfl rfl ?_
  refine h_done (d_else rfl (d_skip (f_to (d_reg ?_))))
  refine h_q hfl rfl ?_
  refine h_done (d_seq (d_reg ?_))
  refine h_q hfl rfl ?_
  refine h_builtin (v := .int .i64 (D.length : Int)) (fun w cs => run_len_bs Tryz.underlying9 _ _ w cs) rfl rfl rfl ?_
  refine h_ar (z' := (D.length : Int) - 1) (IntWalk.i64_in _ (by omega)) rfl rfl rfl rfl rfl ?_
  refine h_q hfl rfl ?_
  refine h_done (d_block ?_)
  refine d_loop (α := Int) (fun z => [(0, .string (bs D)), (2, .pointer (some ⟨g2_1, 0, none⟩)), (3, .int .i64 0), (4, .bool false), (5, .int .i64 (-1)), (6, .int .i64 z)]) (fun z => [(g2_1, 26, #[.int .i64 0, .int .u64 0, .int .i64 0])]) (fun z => -1 ≤ z ∧ z < (D.length : Int)) (fun z => (z + 1).toNat) ((D.length : Int) - 1) ⟨by omega, by omega⟩ ⟨rfl, rfl, rfl, rfl, rfl, rfl, trivial⟩ rfl ?_
  rintro z ⟨hz1, hz2⟩
  refine WC2.at_ (env' := [(0, .string (bs D)), (2, .pointer (some ⟨g2_1, 0, none⟩)), (3, .int .i64 0), (4, .bool false), (5, .int .i64 (-1)), (6, .int .i64 z)]) (rs' := [(g2_1, 26, #[.int .i64 0, .int .u64 0, .int .i64 0])]) ⟨rfl, rfl, rfl, rfl, rfl, rfl, trivial⟩ rfl ?_
  refine d_seq ?_
  rcases left_step z 0 with hzz | hzz
  · skip
    refine d_reg ?_
    refine h_q hfl rfl ?_
    refine h_cmp (cmp_geq_f (by omega)) rfl rfl rfl rfl ?_
    refine h_done (d_else rfl (d_exit (f_then_exit (f_then_exit (f_block_exit (f_to (d_reg ?_)))))))
    refine h_q hfl rfl ?_
    refine h_done (d_reg ?_)
    refine h_q hfl rfl ?_
    refine h_done (d_seq (d_reg ?_))
    refine h_q hfl rfl ?_
    refine h_cmp (cmp_geq_f (by decide)) rfl rfl rfl rfl ?_
    refine h_done (d_else rfl (d_skip (f_to ?_)))
    by_cases hpl : plainN D; rotate_left
    · skip
      refine d_reg ?_
      refine h_q hfl rfl ?_
      refine h_call (ent_of Tryz.func45 (by kernel_rfl) rfl) (fun w hH => digN _ D (by omega) hpl) rfl rfl rfl rfl ?_
      refine h_q hfl rfl ?_
      refine h_alloc zeDig rfl rfl ?_; intro g9_2
      refine h_store 0 (v := .agg (digs 0)) (digs 0) tyDigits.2 (digs_size _) (ble_size (digs_size _)) (digs_oneL _) (over_all (c := digs 0) (v := digs 0) (((digs_size _) : (digs 0).size = 16).trans ((digs_size _) : (digs 0).size = 16).symm)) rfl rfl rfl rfl rfl rfl ?_
      refine h_q hfl rfl ?_
      refine h_done (d_seq (d_reg ?_))
      refine h_q hfl rfl ?_
      refine h_done (d_then rfl (d_reg ?_))
      refine h_build (cs := #[.int .i64 0, .int .u64 0, .int .i64 0]) (by kernel_rfl) rfl rfl rfl ?_
      refine h_store 1 (v := .agg #[.int .i64 0, .int .u64 0, .int .i64 0]) (#[.int .i64 0, .int .u64 0, .int .i64 0]) tyDec.2 rfl rfl rfl rfl rfl rfl rfl rfl rfl rfl ?_
      refine h_q hfl rfl ?_
      refine h_done (d_ret (f_then_ret ?_))
      exact f_fin2 (.cell 1 (v := .agg #[.int .i64 0, .int .u64 0, .int .i64 0]) (reads_agg (cs := [.int .i64 0, .int .u64 0, .int .i64 0]) tyDec rfl) rfl rfl) (.tmp rfl) (fun w h => ⟨by rw [valD_no (fun h => hpl h.1)]; rfl, h.up.below⟩) rfl
    · skip
      have hall : allD D := hpl.2.1
      have hqa : allD [] := allD_nil
      have hq0 : false = true → ([] : List UInt8) ≠ [] := by simp
      have hq18 : ([] : List UInt8).length ≤ 18 := by decide
      refine d_reg ?_
      refine h_q hfl rfl ?_
      refine h_call (ent_of Tryz.func45 (by kernel_rfl) rfl) (fun w hH => digY _ D (by omega) hpl) rfl rfl rfl rfl ?_
      refine h_q hfl rfl ?_
      refine h_alloc zeDig rfl rfl ?_; intro g9_3
      refine h_store 0 (v := .agg (digs (valR D))) (digs (valR D)) tyDigits.2 (digs_size _) (ble_size (digs_size _)) (digs_oneL _) (over_all (c := digs 0) (v := digs (valR D)) (((digs_size _) : (digs 0).size = 16).trans ((digs_size _) : (digs (valR D)).size = 16).symm)) rfl rfl rfl rfl rfl rfl ?_
      refine h_q hfl rfl ?_
      refine h_done (d_seq (d_reg ?_))
      refine h_q hfl rfl ?_
      refine h_done (d_else rfl (d_skip (f_to (d_seq (d_reg ?_)))))
      refine h_q hfl rfl ?_
      refine h_ar (z' := 0) (by decide) rfl rfl rfl rfl rfl ?_
      refine h_q hfl rfl ?_
      refine h_done (d_block ?_)
      refine d_loop (α := Unit) (fun _u => [(0, .string (bs D)), (2, .pointer (some ⟨g2_1, 0, none⟩)), (3, .int .i64 0), (4, .bool false), (5, .int .i64 (-1)), (7, .string (bs D)), (8, .int .i64 0), (11, .int .i64 0)]) (fun _u => [(g9_3, 71, digs (valR D)), (g2_1, 26, #[.int .i64 0, .int .u64 0, .int .i64 0])]) (fun _u => True) (fun _u => 0) () trivial ⟨rfl, rfl, rfl, rfl, rfl, rfl, rfl, rfl, trivial⟩ rfl ?_
      rintro ⟨⟩ _
      refine WC2.at_ (env' := [(0, .string (bs D)), (2, .pointer (some ⟨g2_1, 0, none⟩)), (3, .int .i64 0), (4, .bool false), (5, .int .i64 (-1)), (7, .string (bs D)), (8, .int .i64 0), (11, .int .i64 0)]) (rs' := [(g9_3, 71, digs (valR D)), (g2_1, 26, #[.int .i64 0, .int .u64 0, .int .i64 0])]) ⟨rfl, rfl, rfl, rfl, rfl, rfl, rfl, rfl, trivial⟩ rfl ?_
      refine d_seq (d_reg ?_)
      refine h_q hfl rfl ?_
      refine h_cmp (cmp_geq_f (by decide)) rfl rfl rfl rfl ?_
      refine h_q hfl rfl ?_
      refine h_done (d_else rfl (d_exit (f_then_exit (f_then_exit (f_block_exit (f_to (d_reg ?_)))))))
      refine h_q hfl rfl ?_
      refine h_done (d_seq (d_reg ?_))
      refine h_q hfl rfl ?_
      refine h_cmp (cmp_geq_f (by decide)) rfl rfl rfl rfl ?_
      refine h_done (d_else rfl (d_skip (f_to (d_seq (d_block ?_)))))
      refine d_loop (α := Nat) (fun i => [(2, .pointer (some ⟨g2_1, 0, none⟩)), (3, .int .i64 0), (4, .bool false), (8, .int .i64 0), (12, .string (bs ((D).drop i)))]) (fun i => [(g9_3, 71, digs (valR D)), (g2_1, 26, #[.int .i64 0, .int .u64 0, .int .i64 0])]) (fun i => trI (D) i) (fun i => (D).length - i) 0 ⟨List.length_pos_iff.2 hpl.1, rfl⟩ ⟨rfl, rfl, rfl, rfl, rfl, trivial⟩ rfl ?_
      rintro i hi
      refine WC2.at_ (env' := [(2, .pointer (some ⟨g2_1, 0, none⟩)), (3, .int .i64 0), (4, .bool false), (8, .int .i64 0), (12, .string (bs ((D).drop i)))]) (rs' := [(g9_3, 71, digs (valR D)), (g2_1, 26, #[.int .i64 0, .int .u64 0, .int .i64 0])]) ⟨rfl, rfl, rfl, rfl, rfl, trivial⟩ rfl ?_
      refine d_seq ?_
      rcases tr_ways hi hall with ⟨hl, ch, hch, hc⟩ | ⟨hX, hl, ch, hch, hc⟩ | ⟨hX, hl⟩
      · skip
        refine d_reg ?_
        refine h_q hfl rfl ?_
        refine h_builtin (v := .int .i64 (((D).drop i).length : Int)) (fun w cs => run_len_bs Tryz.underlying9 _ _ w cs) rfl rfl rfl ?_
        refine h_cmp (cmp_gtr_t (by omega)) rfl rfl rfl rfl ?_
        refine h_q hfl rfl ?_
        refine h_val rfl (.int .u8 (ch.toNat : Int)) (fun b w hb hH => by exact exec_index (i := 0) Tryz.underlying9 (drop_get (D) i hch) rfl rfl rfl hb) ?_
        refine h_cmp (cmp_eql_t (by omega)) rfl rfl rfl rfl ?_
        refine h_q hfl rfl ?_
        refine h_done (d_then rfl (d_skip (f_to (d_block (d_reg1 ?_)))))
        refine h_q hfl rfl ?_
        refine h_cut (i := 1) (j := ((D).drop i).length) (r := (D).drop (i + 1)) Tryz.underlying9 (by rw [List.take_length, List.drop_drop]) (by omega) (Nat.le_refl _) rfl rfl rfl ⟨_, rfl⟩ rfl ?_
        refine h_q hfl rfl ?_
        refine h_nil (f_block ?_)
        exact f_again (i + 1) 0 (trI_step hi hch hc hl) (by have := hi.1; omega) ⟨rfl, rfl, rfl, rfl, rfl, trivial⟩ rfl
      · skip
        refine d_reg ?_
        refine h_q hfl rfl ?_
        refine h_builtin (v := .int .i64 (((D).drop i).length : Int)) (fun w cs => run_len_bs Tryz.underlying9 _ _ w cs) rfl rfl rfl ?_
        refine h_cmp (cmp_gtr_t (by omega)) rfl rfl rfl rfl ?_
        refine h_q hfl rfl ?_
        refine h_val rfl (.int .u8 (ch.toNat : Int)) (fun b w hb hH => by exact exec_index (i := 0) Tryz.underlying9 (drop_get (D) i hch) rfl rfl rfl hb) ?_
        refine h_cmp (cmp_eql_f (by omega)) rfl rfl rfl rfl ?_
        refine h_q hfl rfl ?_
        refine h_done (d_else rfl (d_exit (f_then_exit (f_then_exit (f_block_exit (f_to ?_))))))
        have hXl : ((D).drop i).length ≤ 9223372036854775807 := by rw [List.length_drop]; omega
        have hXz : valR ((D).drop i) = 0 ↔ nv (D ++ []) = 0 := by rw [valR_zero hX, ← plain_zero hX, hi.2]; simp
        have hz : ¬ (false = true ∧ nv (D ++ []) = 0) := by simp
        obtain ⟨ra, rs, re, hr⟩ := decR_form (if false then -(valR ((D).drop i) : Int) else (valR ((D).drop i) : Int)) 0
        have hok : okD false D [] false := ⟨hpl, hq0, hqa, hq18, hz⟩
        have hval : valD false D [] false = .tuple #[Dc ra rs, .int .i64 re] := by rw [valD, if_pos hok, ← hr, decR_val hX, hi.2]; simp
        refine d_reg ?_
        refine h_q hfl rfl ?_
        refine h_call (ent_of Tryz.func45 (by kernel_rfl) rfl) (fun w hH => digY _ ((D).drop i) hXl hX) rfl rfl rfl rfl ?_
        refine h_q hfl rfl ?_
        refine h_alloc zeDig rfl rfl ?_; intro g13_4
        refine h_store 0 (v := .agg (digs (valR ((D).drop i)))) (digs (valR ((D).drop i))) tyDigits.2 (digs_size _) (ble_size (digs_size _)) (digs_oneL _) (over_all (c := digs 0) (v := digs (valR ((D).drop i))) (((digs_size _) : (digs 0).size = 16).trans ((digs_size _) : (digs (valR ((D).drop i))).size = 16).symm)) rfl rfl rfl rfl rfl rfl ?_
        refine h_q hfl rfl ?_
        refine h_done (d_seq (d_reg ?_))
        refine h_q hfl rfl ?_
        refine h_done (d_else rfl (d_skip (f_to (d_reg ?_))))
        refine h_q hfl rfl ?_
        refine h_load 0 (v := .agg (digs (valR ((D).drop i)))) (reads_all (tyDigC _)) rfl rfl rfl rfl ?_
        refine h_build (cs := bigs false (valR ((D).drop i))) (built_big _ _) rfl rfl rfl ?_
        refine h_q hfl rfl ?_
        refine h_call (ent_of Tryz.func47 (by kernel_rfl) rfl) (fun w hH => rdecF _ (valR_lt hX) hr) rfl rfl rfl rfl ?_
        refine h_q hfl rfl ?_
        refine h_store 2 (v := Dc ra rs) (#[hiW ra, loW ra, .int .i64 rs]) tyDec.2 rfl rfl rfl rfl rfl rfl rfl rfl rfl rfl ?_
        refine h_q hfl rfl ?_
        refine h_done (d_ret ?_)
        exact f_fin2 (.cell 2 (v := .agg #[hiW ra, loW ra, .int .i64 rs]) (reads_agg (cs := [hiW ra, loW ra, .int .i64 rs]) tyDec rfl) rfl rfl) (.tmp rfl) (fun w h => ⟨by rw [hval]; rfl, h.up.below⟩) rfl
      · skip
        refine d_reg ?_
        refine h_q hfl rfl ?_
        refine h_builtin (v := .int .i64 (((D).drop i).length : Int)) (fun w cs => run_len_bs Tryz.underlying9 _ _ w cs) rfl rfl rfl ?_
        refine h_cmp (cmp_gtr_f (by omega)) rfl rfl rfl rfl ?_
        refine h_q hfl rfl ?_
        refine h_done (d_else rfl (d_exit (f_then_exit (f_then_exit (f_block_exit (f_to ?_))))))
        have hXl : ((D).drop i).length ≤ 9223372036854775807 := by rw [List.length_drop]; omega
        have hXz : valR ((D).drop i) = 0 ↔ nv (D ++ []) = 0 := by rw [valR_zero hX, ← plain_zero hX, hi.2]; simp
        have hz : ¬ (false = true ∧ nv (D ++ []) = 0) := by simp
        obtain ⟨ra, rs, re, hr⟩ := decR_form (if false then -(valR ((D).drop i) : Int) else (valR ((D).drop i) : Int)) 0
        have hok : okD false D [] false := ⟨hpl, hq0, hqa, hq18, hz⟩
        have hval : valD false D [] false = .tuple #[Dc ra rs, .int .i64 re] := by rw [valD, if_pos hok, ← hr, decR_val hX, hi.2]; simp
        refine d_reg ?_
        refine h_q hfl rfl ?_
        refine h_call (ent_of Tryz.func45 (by kernel_rfl) rfl) (fun w hH => digY _ ((D).drop i) hXl hX) rfl rfl rfl rfl ?_
        refine h_q hfl rfl ?_
        refine h_alloc zeDig rfl rfl ?_; intro g13_5
        refine h_store 0 (v := .agg (digs (valR ((D).drop i)))) (digs (valR ((D).drop i))) tyDigits.2 (digs_size _) (ble_size (digs_size _)) (digs_oneL _) (over_all (c := digs 0) (v := digs (valR ((D).drop i))) (((digs_size _) : (digs 0).size = 16).trans ((digs_size _) : (digs (valR ((D).drop i))).size = 16).symm)) rfl rfl rfl rfl rfl rfl ?_
        refine h_q hfl rfl ?_
        refine h_done (d_seq (d_reg ?_))
        refine h_q hfl rfl ?_
        refine h_done (d_else rfl (d_skip (f_to (d_reg ?_))))
        refine h_q hfl rfl ?_
        refine h_load 0 (v := .agg (digs (valR ((D).drop i)))) (reads_all (tyDigC _)) rfl rfl rfl rfl ?_
        refine h_build (cs := bigs false (valR ((D).drop i))) (built_big _ _) rfl rfl rfl ?_
        refine h_q hfl rfl ?_
        refine h_call (ent_of Tryz.func47 (by kernel_rfl) rfl) (fun w hH => rdecF _ (valR_lt hX) hr) rfl rfl rfl rfl ?_
        refine h_q hfl rfl ?_
        refine h_store 2 (v := Dc ra rs) (#[hiW ra, loW ra, .int .i64 rs]) tyDec.2 rfl rfl rfl rfl rfl rfl rfl rfl rfl rfl ?_
        refine h_q hfl rfl ?_
        refine h_done (d_ret ?_)
        exact f_fin2 (.cell 2 (v := .agg #[hiW ra, loW ra, .int .i64 rs]) (reads_agg (cs := [hiW ra, loW ra, .int .i64 rs]) tyDec rfl) rfl rfl) (.tmp rfl) (fun w h => ⟨by rw [hval]; rfl, h.up.below⟩) rfl
  · skip
    obtain ⟨i, rfl⟩ : ∃ i : Nat, z = (i : Int) := ⟨z.toNat, by omega⟩
    obtain ⟨ch, hch⟩ : ∃ ch, D[i]? = some ch := ⟨_, List.getElem?_eq_getElem (by omega)⟩
    refine d_reg ?_
    refine h_q hfl rfl ?_
    refine h_cmp (cmp_geq_t (by omega)) rfl rfl rfl rfl ?_
    refine h_done (d_then rfl (d_skip (f_to (d_seq (d_block (d_reg ?_))))))
    refine h_q hfl rfl ?_
    refine h_val rfl (.int .u8 (ch.toNat : Int)) (fun b w hb hH => by exact exec_index (i := (i)) Tryz.underlying9 hch rfl rfl rfl hb) ?_
    refine h_cmp (cmp_eql_f (byte46 (hp46 ch (List.mem_of_getElem? hch)))) rfl rfl rfl rfl ?_
    refine h_done (d_else rfl (d_skip (f_block (f_to (d_reg1 ?_)))))
    refine h_q hfl rfl ?_
    refine h_ar (z' := (i : Int) - 1) (IntWalk.i64_in _ (by omega)) rfl rfl rfl rfl rfl ?_
    refine h_q hfl rfl ?_
    refine h_nil ?_
    exact f_again ((i : Int) - 1) 0 ⟨by omega, by omega⟩ (by omega) ⟨rfl, rfl, rfl, rfl, rfl, rfl, trivial⟩ rfl

theorem rpd_ffn (w : World) (D : List UInt8) (hp46 : ∀ b ∈ D, b ≠ 46) (hlen : D.length ≤ 9223372036854775807) (ch0 : UInt8) (hc0 : D[0]? = some ch0) (h1 : ch0.toNat ≠ 45) : Calls Tryz.prog 19 #[.string (bs D)] w fun e w' => e = .returned (valD false D [] false) ∧ Below w.heap.size w w' := by
  refine d_in (args := [.string (bs D)]) 124 Tryz.func19 rfl rfl rfl ?_
  refine d_reg ?_
  refine h_alloc zeDec rfl rfl ?_; intro g2_1
  refine h_q hfl rfl ?_
  refine h_done (d_reg ?_)
  refine h_q hfl rfl ?_
  refine h_builtin (v := .int .i64 (D.length : Int)) (fun w cs => run_len_bs Tryz.underlying9 _ _ w cs) rfl rfl rfl ?_
  refine h_cmp (cmp_gtr_t (by have := (List.getElem?_eq_some_iff.1 hc0).1; omega)) rfl rfl rfl rfl ?_
  refine h_q hfl rfl ?_
  refine h_val rfl (.int .u8 (ch0.toNat : Int)) (fun b w hb hH => by exact exec_index (i := 0) Tryz.underlying9 hc0 rfl rfl rfl hb) ?_
  refine h_cmp (cmp_eql_f (by omega)) rfl rfl rfl rfl ?_
  refine h_q hfl rfl ?_
  refine h_done (d_seq (d_reg ?_))
  refine h_q hfl rfl ?_
  refine h_done (d_else rfl (d_skip (f_to (d_reg ?_))))
  refine h_q hfl rfl ?_
  refine h_done (d_seq (d_reg ?_))
  refine h_q hfl rfl ?_
  refine h_builtin (v := .int .i64 (D.length : Int)) (fun w cs => run_len_bs Tryz.underlying9 _ _ w cs) rfl rfl rfl ?_
  refine h_ar (z' := (D.length : Int) - 1) (IntWalk.i64_in _ (by omega)) rfl rfl rfl rfl rfl ?_
  refine h_q hfl rfl ?_
  refine h_done (d_block ?_)
  refine d_loop (α := Int) (fun z => [(0, .string (bs D)), (2, .pointer (some ⟨g2_1, 0, none⟩)), (3, .int .i64 0), (4, .bool false), (5, .int .i64 (-1)), (6, .int .i64 z)]) (fun z => [(g2_1, 26, #[.int .i64 0, .int .u64 0, .int .i64 0])]) (fun z => -1 ≤ z ∧ z < (D.length : Int)) (fun z => (z + 1).toNat) ((D.length : Int) - 1) ⟨by omega, by omega⟩ ⟨rfl, rfl, rfl, rfl, rfl, rfl, trivial⟩ rfl ?_
  rintro z ⟨hz1, hz2⟩
  refine WC2.at_ (env' := [(0, .string (bs D)), (2, .pointer (some ⟨g2_1, 0, none⟩)), (3, .int .i64 0), (4, .bool false), (5, .int .i64 (-1)), (6, .int .i64 z)]) (rs' := [(g2_1, 26, #[.int .i64 0, .int .u64 0, .int .i64 0])]) ⟨rfl, rfl, rfl, rfl, rfl, rfl, trivial⟩ rfl ?_
  refine d_seq ?_
  rcases left_step z 0 with hzz | hzz
  · skip
    refine d_reg ?_
    refine h_q hfl rfl ?_
    refine h_cmp (cmp_geq_f (by omega)) rfl rfl rfl rfl ?_
    refine h_done (d_else rfl (d_exit (f_then_exit (f_then_exit (f_block_exit (f_to (d_reg ?_)))))))
    refine h_q hfl rfl ?_
    refine h_done (d_reg ?_)
    refine h_q hfl rfl ?_
    refine h_done (d_seq (d_reg ?_))
    refine h_q hfl rfl ?_
    refine h_cmp (cmp_geq_f (by decide)) rfl rfl rfl rfl ?_
    refine h_done (d_else rfl (d_skip (f_to ?_)))
    by_cases hpl : plainN D; rotate_left
    · skip
      refine d_reg ?_
      refine h_q hfl rfl ?_
      refine h_call (ent_of Tryz.func45 (by kernel_rfl) rfl) (fun w hH => digN _ D (by omega) hpl) rfl rfl rfl rfl ?_
      refine h_q hfl rfl ?_
      refine h_alloc zeDig rfl rfl ?_; intro g9_2
      refine h_store 0 (v := .agg (digs 0)) (digs 0) tyDigits.2 (digs_size _) (ble_size (digs_size _)) (digs_oneL _) (over_all (c := digs 0) (v := digs 0) (((digs_size _) : (digs 0).size = 16).trans ((digs_size _) : (digs 0).size = 16).symm)) rfl rfl rfl rfl rfl rfl ?_
      refine h_q hfl rfl ?_
      refine h_done (d_seq (d_reg ?_))
      refine h_q hfl rfl ?_
      refine h_done (d_then rfl (d_reg ?_))
      refine h_build (cs := #[.int .i64 0, .int .u64 0, .int .i64 0]) (by kernel_rfl) rfl rfl rfl ?_
      refine h_store 1 (v := .agg #[.int .i64 0, .int .u64 0, .int .i64 0]) (#[.int .i64 0, .int .u64 0, .int .i64 0]) tyDec.2 rfl rfl rfl rfl rfl rfl rfl rfl rfl rfl ?_
      refine h_q hfl rfl ?_
      refine h_done (d_ret (f_then_ret ?_))
      exact f_fin2 (.cell 1 (v := .agg #[.int .i64 0, .int .u64 0, .int .i64 0]) (reads_agg (cs := [.int .i64 0, .int .u64 0, .int .i64 0]) tyDec rfl) rfl rfl) (.tmp rfl) (fun w h => ⟨by rw [valD_no (fun h => hpl h.1)]; rfl, h.up.below⟩) rfl
    · skip
      have hall : allD D := hpl.2.1
      have hqa : allD [] := allD_nil
      have hq0 : false = true → ([] : List UInt8) ≠ [] := by simp
      have hq18 : ([] : List UInt8).length ≤ 18 := by decide
      refine d_reg ?_
      refine h_q hfl rfl ?_
      refine h_call (ent_of Tryz.func45 (by kernel_rfl) rfl) (fun w hH => digY _ D (by omega) hpl) rfl rfl rfl rfl ?_
      refine h_q hfl rfl ?_
      refine h_alloc zeDig rfl rfl ?_; intro g9_3
      refine h_store 0 (v := .agg (digs (valR D))) (digs (valR D)) tyDigits.2 (digs_size _) (ble_size (digs_size _)) (digs_oneL _) (over_all (c := digs 0) (v := digs (valR D)) (((digs_size _) : (digs 0).size = 16).trans ((digs_size _) : (digs (valR D)).size = 16).symm)) rfl rfl rfl rfl rfl rfl ?_
      refine h_q hfl rfl ?_
      refine h_done (d_seq (d_reg ?_))
      refine h_q hfl rfl ?_
      refine h_done (d_else rfl (d_skip (f_to (d_seq (d_reg ?_)))))
      refine h_q hfl rfl ?_
      refine h_ar (z' := 0) (by decide) rfl rfl rfl rfl rfl ?_
      refine h_q hfl rfl ?_
      refine h_done (d_block ?_)
      refine d_loop (α := Unit) (fun _u => [(0, .string (bs D)), (2, .pointer (some ⟨g2_1, 0, none⟩)), (3, .int .i64 0), (4, .bool false), (5, .int .i64 (-1)), (7, .string (bs D)), (8, .int .i64 0), (11, .int .i64 0)]) (fun _u => [(g9_3, 71, digs (valR D)), (g2_1, 26, #[.int .i64 0, .int .u64 0, .int .i64 0])]) (fun _u => True) (fun _u => 0) () trivial ⟨rfl, rfl, rfl, rfl, rfl, rfl, rfl, rfl, trivial⟩ rfl ?_
      rintro ⟨⟩ _
      refine WC2.at_ (env' := [(0, .string (bs D)), (2, .pointer (some ⟨g2_1, 0, none⟩)), (3, .int .i64 0), (4, .bool false), (5, .int .i64 (-1)), (7, .string (bs D)), (8, .int .i64 0), (11, .int .i64 0)]) (rs' := [(g9_3, 71, digs (valR D)), (g2_1, 26, #[.int .i64 0, .int .u64 0, .int .i64 0])]) ⟨rfl, rfl, rfl, rfl, rfl, rfl, rfl, rfl, trivial⟩ rfl ?_
      refine d_seq (d_reg ?_)
      refine h_q hfl rfl ?_
      refine h_cmp (cmp_geq_f (by decide)) rfl rfl rfl rfl ?_
      refine h_q hfl rfl ?_
      refine h_done (d_else rfl (d_exit (f_then_exit (f_then_exit (f_block_exit (f_to (d_reg ?_)))))))
      refine h_q hfl rfl ?_
      refine h_done (d_seq (d_reg ?_))
      refine h_q hfl rfl ?_
      refine h_cmp (cmp_geq_f (by decide)) rfl rfl rfl rfl ?_
      refine h_done (d_else rfl (d_skip (f_to (d_seq (d_block ?_)))))
      refine d_loop (α := Nat) (fun i => [(2, .pointer (some ⟨g2_1, 0, none⟩)), (3, .int .i64 0), (4, .bool false), (8, .int .i64 0), (12, .string (bs ((D).drop i)))]) (fun i => [(g9_3, 71, digs (valR D)), (g2_1, 26, #[.int .i64 0, .int .u64 0, .int .i64 0])]) (fun i => trI (D) i) (fun i => (D).length - i) 0 ⟨List.length_pos_iff.2 hpl.1, rfl⟩ ⟨rfl, rfl, rfl, rfl, rfl, trivial⟩ rfl ?_
      rintro i hi
      refine WC2.at_ (env' := [(2, .pointer (some ⟨g2_1, 0, none⟩)), (3, .int .i64 0), (4, .bool false), (8, .int .i64 0), (12, .string (bs ((D).drop i)))]) (rs' := [(g9_3, 71, digs (valR D)), (g2_1, 26, #[.int .i64 0, .int .u64 0, .int .i64 0])]) ⟨rfl, rfl, rfl, rfl, rfl, trivial⟩ rfl ?_
      refine d_seq ?_
      rcases tr_ways hi hall with ⟨hl, ch, hch, hc⟩ | ⟨hX, hl, ch, hch, hc⟩ | ⟨hX, hl⟩
      · skip
        refine d_reg ?_
        refine h_q hfl rfl ?_
        refine h_builtin (v := .int .i64 (((D).drop i).length : Int)) (fun w cs => run_len_bs Tryz.underlying9 _ _ w cs) rfl rfl rfl ?_
        refine h_cmp (cmp_gtr_t (by omega)) rfl rfl rfl rfl ?_
        refine h_q hfl rfl ?_
        refine h_val rfl (.int .u8 (ch.toNat : Int)) (fun b w hb hH => by exact exec_index (i := 0) Tryz.underlying9 (drop_get (D) i hch) rfl rfl rfl hb) ?_
        refine h_cmp (cmp_eql_t (by omega)) rfl rfl rfl rfl ?_
        refine h_q hfl rfl ?_
        refine h_done (d_then rfl (d_skip (f_to (d_block (d_reg1 ?_)))))
        refine h_q hfl rfl ?_
        refine h_cut (i := 1) (j := ((D).drop i).length) (r := (D).drop (i + 1)) Tryz.underlying9 (by rw [List.take_length, List.drop_drop]) (by omega) (Nat.le_refl _) rfl rfl rfl ⟨_, rfl⟩ rfl ?_
        refine h_q hfl rfl ?_
        refine h_nil (f_block ?_)
        exact f_again (i + 1) 0 (trI_step hi hch hc hl) (by have := hi.1; omega) ⟨rfl, rfl, rfl, rfl, rfl, trivial⟩ rfl
      · skip
        refine d_reg ?_
        refine h_q hfl rfl ?_
        refine h_builtin (v := .int .i64 (((D).drop i).length : Int)) (fun w cs => run_len_bs Tryz.underlying9 _ _ w cs) rfl rfl rfl ?_
        refine h_cmp (cmp_gtr_t (by omega)) rfl rfl rfl rfl ?_
        refine h_q hfl rfl ?_
        refine h_val rfl (.int .u8 (ch.toNat : Int)) (fun b w hb hH => by exact exec_index (i := 0) Tryz.underlying9 (drop_get (D) i hch) rfl rfl rfl hb) ?_
        refine h_cmp (cmp_eql_f (by omega)) rfl rfl rfl rfl ?_
        refine h_q hfl rfl ?_
        refine h_done (d_else rfl (d_exit (f_then_exit (f_then_exit (f_block_exit (f_to ?_))))))
        have hXl : ((D).drop i).length ≤ 9223372036854775807 := by rw [List.length_drop]; omega
        have hXz : valR ((D).drop i) = 0 ↔ nv (D ++ []) = 0 := by rw [valR_zero hX, ← plain_zero hX, hi.2]; simp
        have hz : ¬ (false = true ∧ nv (D ++ []) = 0) := by simp
        obtain ⟨ra, rs, re, hr⟩ := decR_form (if false then -(valR ((D).drop i) : Int) else (valR ((D).drop i) : Int)) 0
        have hok : okD false D [] false := ⟨hpl, hq0, hqa, hq18, hz⟩
        have hval : valD false D [] false = .tuple #[Dc ra rs, .int .i64 re] := by rw [valD, if_pos hok, ← hr, decR_val hX, hi.2]; simp
        refine d_reg ?_
        refine h_q hfl rfl ?_
        refine h_call (ent_of Tryz.func45 (by kernel_rfl) rfl) (fun w hH => digY _ ((D).drop i) hXl hX) rfl rfl rfl rfl ?_
        refine h_q hfl rfl ?_
        refine h_alloc zeDig rfl rfl ?_; intro g13_4
        refine h_store 0 (v := .agg (digs (valR ((D).drop i)))) (digs (valR ((D).drop i))) tyDigits.2 (digs_size _) (ble_size (digs_size _)) (digs_oneL _) (over_all (c := digs 0) (v := digs (valR ((D).drop i))) (((digs_size _) : (digs 0).size = 16).trans ((digs_size _) : (digs (valR ((D).drop i))).size = 16).symm)) rfl rfl rfl rfl rfl rfl ?_
        refine h_q hfl rfl ?_
        refine h_done (d_seq (d_reg ?_))
        refine h_q hfl rfl ?_
        refine h_done (d_else rfl (d_skip (f_to (d_reg ?_))))
        refine h_q hfl rfl ?_
        refine h_load 0 (v := .agg (digs (valR ((D).drop i)))) (reads_all (tyDigC _)) rfl rfl rfl rfl ?_
        refine h_build (cs := bigs false (valR ((D).drop i))) (built_big _ _) rfl rfl rfl ?_
        refine h_q hfl rfl ?_
        refine h_call (ent_of Tryz.func47 (by kernel_rfl) rfl) (fun w hH => rdecF _ (valR_lt hX) hr) rfl rfl rfl rfl ?_
        refine h_q hfl rfl ?_
        refine h_store 2 (v := Dc ra rs) (#[hiW ra, loW ra, .int .i64 rs]) tyDec.2 rfl rfl rfl rfl rfl rfl rfl rfl rfl rfl ?_
        refine h_q hfl rfl ?_
        refine h_done (d_ret ?_)
        exact f_fin2 (.cell 2 (v := .agg #[hiW ra, loW ra, .int .i64 rs]) (reads_agg (cs := [hiW ra, loW ra, .int .i64 rs]) tyDec rfl) rfl rfl) (.tmp rfl) (fun w h => ⟨by rw [hval]; rfl, h.up.below⟩) rfl
      · skip
        refine d_reg ?_
        refine h_q hfl rfl ?_
        refine h_builtin (v := .int .i64 (((D).drop i).length : Int)) (fun w cs => run_len_bs Tryz.underlying9 _ _ w cs) rfl rfl rfl ?_
        refine h_cmp (cmp_gtr_f (by omega)) rfl rfl rfl rfl ?_
        refine h_q hfl rfl ?_
        refine h_done (d_else rfl (d_exit (f_then_exit (f_then_exit (f_block_exit (f_to ?_))))))
        have hXl : ((D).drop i).length ≤ 9223372036854775807 := by rw [List.length_drop]; omega
        have hXz : valR ((D).drop i) = 0 ↔ nv (D ++ []) = 0 := by rw [valR_zero hX, ← plain_zero hX, hi.2]; simp
        have hz : ¬ (false = true ∧ nv (D ++ []) = 0) := by simp
        obtain ⟨ra, rs, re, hr⟩ := decR_form (if false then -(valR ((D).drop i) : Int) else (valR ((D).drop i) : Int)) 0
        have hok : okD false D [] false := ⟨hpl, hq0, hqa, hq18, hz⟩
        have hval : valD false D [] false = .tuple #[Dc ra rs, .int .i64 re] := by rw [valD, if_pos hok, ← hr, decR_val hX, hi.2]; simp
        refine d_reg ?_
        refine h_q hfl rfl ?_
        refine h_call (ent_of Tryz.func45 (by kernel_rfl) rfl) (fun w hH => digY _ ((D).drop i) hXl hX) rfl rfl rfl rfl ?_
        refine h_q hfl rfl ?_
        refine h_alloc zeDig rfl rfl ?_; intro g13_5
        refine h_store 0 (v := .agg (digs (valR ((D).drop i)))) (digs (valR ((D).drop i))) tyDigits.2 (digs_size _) (ble_size (digs_size _)) (digs_oneL _) (over_all (c := digs 0) (v := digs (valR ((D).drop i))) (((digs_size _) : (digs 0).size = 16).trans ((digs_size _) : (digs (valR ((D).drop i))).size = 16).symm)) rfl rfl rfl rfl rfl rfl ?_
        refine h_q hfl rfl ?_
        refine h_done (d_seq (d_reg ?_))
        refine h_q hfl rfl ?_
        refine h_done (d_else rfl (d_skip (f_to (d_reg ?_))))
        refine h_q hfl rfl ?_
        refine h_load 0 (v := .agg (digs (valR ((D).drop i)))) (reads_all (tyDigC _)) rfl rfl rfl rfl ?_
        refine h_build (cs := bigs false (valR ((D).drop i))) (built_big _ _) rfl rfl rfl ?_
        refine h_q hfl rfl ?_
        refine h_call (ent_of Tryz.func47 (by kernel_rfl) rfl) (fun w hH => rdecF _ (valR_lt hX) hr) rfl rfl rfl rfl ?_
        refine h_q hfl rfl ?_
        refine h_store 2 (v := Dc ra rs) (#[hiW ra, loW ra, .int .i64 rs]) tyDec.2 rfl rfl rfl rfl rfl rfl rfl rfl rfl rfl ?_
        refine h_q hfl rfl ?_
        refine h_done (d_ret ?_)
        exact f_fin2 (.cell 2 (v := .agg #[hiW ra, loW ra, .int .i64 rs]) (reads_agg (cs := [hiW ra, loW ra, .int .i64 rs]) tyDec rfl) rfl rfl) (.tmp rfl) (fun w h => ⟨by rw [hval]; rfl, h.up.below⟩) rfl
  · skip
    obtain ⟨i, rfl⟩ : ∃ i : Nat, z = (i : Int) := ⟨z.toNat, by omega⟩
    obtain ⟨ch, hch⟩ : ∃ ch, D[i]? = some ch := ⟨_, List.getElem?_eq_getElem (by omega)⟩
    refine d_reg ?_
    refine h_q hfl rfl ?_
    refine h_cmp (cmp_geq_t (by omega)) rfl rfl rfl rfl ?_
    refine h_done (d_then rfl (d_skip (f_to (d_seq (d_block (d_reg ?_))))))
    refine h_q hfl rfl ?_
    refine h_val rfl (.int .u8 (ch.toNat : Int)) (fun b w hb hH => by exact exec_index (i := (i)) Tryz.underlying9 hch rfl rfl rfl hb) ?_
    refine h_cmp (cmp_eql_f (byte46 (hp46 ch (List.mem_of_getElem? hch)))) rfl rfl rfl rfl ?_
    refine h_done (d_else rfl (d_skip (f_block (f_to (d_reg1 ?_)))))
    refine h_q hfl rfl ?_
    refine h_ar (z' := (i : Int) - 1) (IntWalk.i64_in _ (by omega)) rfl rfl rfl rfl rfl ?_
    refine h_q hfl rfl ?_
    refine h_nil ?_
    exact f_again ((i : Int) - 1) 0 ⟨by omega, by omega⟩ (by omega) ⟨rfl, rfl, rfl, rfl, rfl, rfl, trivial⟩ rfl

theorem rpd_ftn (w : World) (D p q : List UInt8) (hp46 : ∀ b ∈ p, b ≠ 46) (hD : D = p ++ 46 :: q) (hlen : D.length ≤ 9223372036854775807) (ch0 : UInt8) (hc0 : D[0]? = some ch0) (h1 : ch0.toNat ≠ 45) : Calls Tryz.prog 19 #[.string (bs D)] w fun e w' => e = .returned (valD false p q true) ∧ Below w.heap.size w w' := by
  have hDp : D.length = p.length + (q.length + 1) := by rw [hD]; simp
  refine d_in (args := [.string (bs D)]) 124 Tryz.func19 rfl rfl rfl ?_
  refine d_reg ?_
  refine h_alloc zeDec rfl rfl ?_; intro g2_1
  refine h_q hfl rfl ?_
  refine h_done (d_reg ?_)
  refine h_q hfl rfl ?_
  refine h_builtin (v := .int .i64 (D.length : Int)) (fun w cs => run_len_bs Tryz.underlying9 _ _ w cs) rfl rfl rfl ?_
  refine h_cmp (cmp_gtr_t (by have := (List.getElem?_eq_some_iff.1 hc0).1; omega)) rfl rfl rfl rfl ?_
  refine h_q hfl rfl ?_
  refine h_val rfl (.int .u8 (ch0.toNat : Int)) (fun b w hb hH => by exact exec_index (i := 0) Tryz.underlying9 hc0 rfl rfl rfl hb) ?_
  refine h_cmp (cmp_eql_f (by omega)) rfl rfl rfl rfl ?_
  refine h_q hfl rfl ?_
  refine h_done (d_seq (d_reg ?_))
  refine h_q hfl rfl ?_
  refine h_done (d_else rfl (d_skip (f_to (d_reg ?_))))
  refine h_q hfl rfl ?_
  refine h_done (d_seq (d_reg ?_))
  refine h_q hfl rfl ?_
  refine h_builtin (v := .int .i64 (D.length : Int)) (fun w cs => run_len_bs Tryz.underlying9 _ _ w cs) rfl rfl rfl ?_
  refine h_ar (z' := (D.length : Int) - 1) (IntWalk.i64_in _ (by omega)) rfl rfl rfl rfl rfl ?_
  refine h_q hfl rfl ?_
  refine h_done (d_block ?_)
  refine d_loop (α := Int × Int) (fun (z, a) => [(0, .string (bs D)), (2, .pointer (some ⟨g2_1, 0, none⟩)), (3, .int .i64 0), (4, .bool false), (5, .int .i64 a), (6, .int .i64 z)]) (fun (z, a) => [(g2_1, 26, #[.int .i64 0, .int .u64 0, .int .i64 0])]) (fun (z, a) => -1 ≤ z ∧ z < (D.length : Int) ∧ (z < (p.length : Int) → a = (p.length : Int))) (fun (z, a) => (z + 1).toNat) ((D.length : Int) - 1, -1) ⟨by omega, by omega, fun h => by omega⟩ ⟨rfl, rfl, rfl, rfl, rfl, rfl, trivial⟩ rfl ?_
  rintro ⟨z, a⟩ ⟨hz1, hz2, hz3⟩
  refine WC2.at_ (env' := [(0, .string (bs D)), (2, .pointer (some ⟨g2_1, 0, none⟩)), (3, .int .i64 0), (4, .bool false), (5, .int .i64 a), (6, .int .i64 z)]) (rs' := [(g2_1, 26, #[.int .i64 0, .int .u64 0, .int .i64 0])]) ⟨rfl, rfl, rfl, rfl, rfl, rfl, trivial⟩ rfl ?_
  refine d_seq ?_
  rcases left_step z 0 with hzz | hzz
  · skip
    obtain rfl : a = (p.length : Int) := hz3 (by omega)
    refine d_reg ?_
    refine h_q hfl rfl ?_
    refine h_cmp (cmp_geq_f (by omega)) rfl rfl rfl rfl ?_
    refine h_done (d_else rfl (d_exit (f_then_exit (f_then_exit (f_block_exit (f_to (d_reg ?_)))))))
    refine h_q hfl rfl ?_
    refine h_done (d_reg ?_)
    refine h_q hfl rfl ?_
    refine h_done (d_seq (d_reg ?_))
    refine h_q hfl rfl ?_
    refine h_cmp (cmp_geq_t (by omega)) rfl rfl rfl rfl ?_
    refine h_done (d_then rfl (d_reg ?_))
    refine h_q hfl rfl ?_
    refine h_cut (i := 0) (j := p.length) (r := p) Tryz.underlying9 (by rw [hD]; simp) (by omega) (by omega) rfl rfl rfl rfl ⟨_, rfl⟩ ?_
    refine h_q hfl rfl ?_
    refine h_done (d_reg ?_)
    refine h_q hfl rfl ?_
    refine h_builtin (v := .int .i64 (D.length : Int)) (fun w cs => run_len_bs Tryz.underlying9 _ _ w cs) rfl rfl rfl ?_
    refine h_q hfl rfl ?_
    refine h_ar (z' := (D.length : Int) - (p.length : Int)) (IntWalk.i64_in _ (by omega)) rfl rfl rfl rfl rfl ?_
    refine h_ar (z' := (q.length : Int)) (by rw [IntWalk.i64_in _ (by omega)]; omega) rfl rfl rfl rfl rfl ?_
    refine h_q hfl rfl ?_
    refine h_done ?_
    rcases (show q.length = 0 ∨ 18 < q.length ∨ (0 < q.length ∧ q.length ≤ 18) by omega) with hq | hq | ⟨hq, hq18⟩
    · skip
      refine d_reg ?_
      refine h_q hfl rfl ?_
      refine h_cmp (cmp_eql_t (by omega)) rfl rfl rfl rfl ?_
      refine h_q hfl rfl ?_
      refine h_done (d_then rfl (d_reg ?_))
      refine h_build (cs := #[.int .i64 0, .int .u64 0, .int .i64 0]) (by kernel_rfl) rfl rfl rfl ?_
      refine h_store 0 (v := .agg #[.int .i64 0, .int .u64 0, .int .i64 0]) (#[.int .i64 0, .int .u64 0, .int .i64 0]) tyDec.2 rfl rfl rfl rfl rfl rfl rfl rfl rfl rfl ?_
      refine h_q hfl rfl ?_
      refine h_done (d_ret (f_then_ret ?_))
      exact f_fin2 (.cell 0 (v := .agg #[.int .i64 0, .int .u64 0, .int .i64 0]) (reads_agg (cs := [.int .i64 0, .int .u64 0, .int .i64 0]) tyDec rfl) rfl rfl) (.tmp rfl) (fun w h => ⟨by rw [valD_no (fun h => h.2.1 rfl (List.eq_nil_of_length_eq_zero hq))]; rfl, h.up.below⟩) rfl
    · skip
      refine d_reg ?_
      refine h_q hfl rfl ?_
      refine h_cmp (cmp_eql_f (by omega)) rfl rfl rfl rfl ?_
      refine h_q hfl rfl ?_
      refine h_cmp (cmp_gtr_t (by omega)) rfl rfl rfl rfl ?_
      refine h_q hfl rfl ?_
      refine h_done (d_then rfl (d_reg ?_))
      refine h_build (cs := #[.int .i64 0, .int .u64 0, .int .i64 0]) (by kernel_rfl) rfl rfl rfl ?_
      refine h_store 0 (v := .agg #[.int .i64 0, .int .u64 0, .int .i64 0]) (#[.int .i64 0, .int .u64 0, .int .i64 0]) tyDec.2 rfl rfl rfl rfl rfl rfl rfl rfl rfl rfl ?_
      refine h_q hfl rfl ?_
      refine h_done (d_ret (f_then_ret ?_))
      exact f_fin2 (.cell 0 (v := .agg #[.int .i64 0, .int .u64 0, .int .i64 0]) (reads_agg (cs := [.int .i64 0, .int .u64 0, .int .i64 0]) tyDec rfl) rfl rfl) (.tmp rfl) (fun w h => ⟨by rw [valD_no (fun h => absurd h.2.2.2.1 (by omega))]; rfl, h.up.below⟩) rfl
    · skip
      have hq0 : true = true → q ≠ [] := fun _ e => by rw [e] at hq; simp at hq
      refine d_reg ?_
      refine h_q hfl rfl ?_
      refine h_cmp (cmp_eql_f (by omega)) rfl rfl rfl rfl ?_
      refine h_q hfl rfl ?_
      refine h_cmp (cmp_gtr_f (by omega)) rfl rfl rfl rfl ?_
      refine h_q hfl rfl ?_
      refine h_done (d_else rfl (d_skip (f_to ?_)))
      by_cases hpl : plainN p; rotate_left
      · skip
        refine d_reg ?_
        refine h_q hfl rfl ?_
        refine h_call (ent_of Tryz.func45 (by kernel_rfl) rfl) (fun w hH => digN _ p (by omega) hpl) rfl rfl rfl rfl ?_
        refine h_q hfl rfl ?_
        refine h_alloc zeDig rfl rfl ?_; intro g9_2
        refine h_store 0 (v := .agg (digs 0)) (digs 0) tyDigits.2 (digs_size _) (ble_size (digs_size _)) (digs_oneL _) (over_all (c := digs 0) (v := digs 0) (((digs_size _) : (digs 0).size = 16).trans ((digs_size _) : (digs 0).size = 16).symm)) rfl rfl rfl rfl rfl rfl ?_
        refine h_q hfl rfl ?_
        refine h_done (d_seq (d_reg ?_))
        refine h_q hfl rfl ?_
        refine h_done (d_then rfl (d_reg ?_))
        refine h_build (cs := #[.int .i64 0, .int .u64 0, .int .i64 0]) (by kernel_rfl) rfl rfl rfl ?_
        refine h_store 1 (v := .agg #[.int .i64 0, .int .u64 0, .int .i64 0]) (#[.int .i64 0, .int .u64 0, .int .i64 0]) tyDec.2 rfl rfl rfl rfl rfl rfl rfl rfl rfl rfl ?_
        refine h_q hfl rfl ?_
        refine h_done (d_ret (f_then_ret ?_))
        exact f_fin2 (.cell 1 (v := .agg #[.int .i64 0, .int .u64 0, .int .i64 0]) (reads_agg (cs := [.int .i64 0, .int .u64 0, .int .i64 0]) tyDec rfl) rfl rfl) (.tmp rfl) (fun w h => ⟨by rw [valD_no (fun h => hpl h.1)]; rfl, h.up.below⟩) rfl
      · skip
        refine d_reg ?_
        refine h_q hfl rfl ?_
        refine h_call (ent_of Tryz.func45 (by kernel_rfl) rfl) (fun w hH => digY _ p (by omega) hpl) rfl rfl rfl rfl ?_
        refine h_q hfl rfl ?_
        refine h_alloc zeDig rfl rfl ?_; intro g9_3
        refine h_store 0 (v := .agg (digs (valR p))) (digs (valR p)) tyDigits.2 (digs_size _) (ble_size (digs_size _)) (digs_oneL _) (over_all (c := digs 0) (v := digs (valR p)) (((digs_size _) : (digs 0).size = 16).trans ((digs_size _) : (digs (valR p)).size = 16).symm)) rfl rfl rfl rfl rfl rfl ?_
        refine h_q hfl rfl ?_
        refine h_done (d_seq (d_reg ?_))
        refine h_q hfl rfl ?_
        refine h_done (d_else rfl (d_skip (f_to (d_seq (d_reg ?_)))))
        refine h_q hfl rfl ?_
        refine h_ar (z' := ((p.length + 1 + 0 : Nat) : Int)) (by rw [IntWalk.i64_in _ (by omega)]; omega) rfl rfl rfl rfl rfl ?_
        refine h_q hfl rfl ?_
        refine h_done (d_block ?_)
        refine d_loop (α := Nat) (fun j => [(0, .string (bs D)), (2, .pointer (some ⟨g2_1, 0, none⟩)), (3, .int .i64 0), (4, .bool false), (5, .int .i64 (p.length : Int)), (7, .string (bs p)), (8, .int .i64 (q.length : Int)), (11, .int .i64 ((p.length + 1 + j : Nat) : Int))]) (fun j => [(g9_3, 71, digs (valR p)), (g2_1, 26, #[.int .i64 0, .int .u64 0, .int .i64 0])]) (fun j => j ≤ q.length ∧ allD (q.take j)) (fun j => q.length - j) 0 ⟨by omega, by simp [allD]⟩ ⟨rfl, rfl, rfl, rfl, rfl, rfl, rfl, rfl, trivial⟩ rfl ?_
        rintro j ⟨hj, ha⟩
        refine WC2.at_ (env' := [(0, .string (bs D)), (2, .pointer (some ⟨g2_1, 0, none⟩)), (3, .int .i64 0), (4, .bool false), (5, .int .i64 (p.length : Int)), (7, .string (bs p)), (8, .int .i64 (q.length : Int)), (11, .int .i64 ((p.length + 1 + j : Nat) : Int))]) (rs' := [(g9_3, 71, digs (valR p)), (g2_1, 26, #[.int .i64 0, .int .u64 0, .int .i64 0])]) ⟨rfl, rfl, rfl, rfl, rfl, rfl, rfl, rfl, trivial⟩ rfl ?_
        refine d_seq ?_
        by_cases hjl : j < q.length
        · skip
          obtain ⟨ch, hch⟩ : ∃ ch, q[j]? = some ch := ⟨_, List.getElem?_eq_getElem hjl⟩
          refine d_reg ?_
          refine h_q hfl rfl ?_
          refine h_cmp (cmp_geq_t (by omega)) rfl rfl rfl rfl ?_
          refine h_q hfl rfl ?_
          refine h_builtin (v := .int .i64 (D.length : Int)) (fun w cs => run_len_bs Tryz.underlying9 _ _ w cs) rfl rfl rfl ?_
          refine h_cmp (cmp_lss_t (by omega)) rfl rfl rfl rfl ?_
          refine h_q hfl rfl ?_
          refine h_done (d_then rfl (d_skip (f_to (d_seq (d_block ?_)))))
          rcases dig_ways ch with hw | hw | hw
          · skip
            refine d_reg ?_
            refine h_q hfl rfl ?_
            refine h_val rfl (.int .u8 (ch.toNat : Int)) (fun b w hb hH => by exact exec_index (i := (p.length + 1 + j)) Tryz.underlying9 (get_high hD hch) rfl rfl rfl hb) ?_
            refine h_cmp (cmp_lss_t (by omega)) rfl rfl rfl rfl ?_
            refine h_q hfl rfl ?_
            refine h_done (d_then rfl (d_reg ?_))
            refine h_build (cs := #[.int .i64 0, .int .u64 0, .int .i64 0]) (by kernel_rfl) rfl rfl rfl ?_
            refine h_store 1 (v := .agg #[.int .i64 0, .int .u64 0, .int .i64 0]) (#[.int .i64 0, .int .u64 0, .int .i64 0]) tyDec.2 rfl rfl rfl rfl rfl rfl rfl rfl rfl rfl ?_
            refine h_q hfl rfl ?_
            refine h_done (d_ret (f_block_ret (f_then_ret (f_then_ret (f_block_ret (f_then_ret ?_))))))
            exact f_fin2 (.cell 1 (v := .agg #[.int .i64 0, .int .u64 0, .int .i64 0]) (reads_agg (cs := [.int .i64 0, .int .u64 0, .int .i64 0]) tyDec rfl) rfl rfl) (.tmp rfl) (fun w h => ⟨by rw [valD_no (fun h => not_allD hch (by unfold isD; omega) h.2.2.1)]; rfl, h.up.below⟩) rfl
          · skip
            refine d_reg ?_
            refine h_q hfl rfl ?_
            refine h_val rfl (.int .u8 (ch.toNat : Int)) (fun b w hb hH => by exact exec_index (i := (p.length + 1 + j)) Tryz.underlying9 (get_high hD hch) rfl rfl rfl hb) ?_
            refine h_cmp (cmp_lss_f (by omega)) rfl rfl rfl rfl ?_
            refine h_q hfl rfl ?_
            refine h_val rfl (.int .u8 (ch.toNat : Int)) (fun b w hb hH => by exact exec_index (i := (p.length + 1 + j)) Tryz.underlying9 (get_high hD hch) rfl rfl rfl hb) ?_
            refine h_cmp (cmp_gtr_t (by omega)) rfl rfl rfl rfl ?_
            refine h_q hfl rfl ?_
            refine h_done (d_then rfl (d_reg ?_))
            refine h_build (cs := #[.int .i64 0, .int .u64 0, .int .i64 0]) (by kernel_rfl) rfl rfl rfl ?_
            refine h_store 1 (v := .agg #[.int .i64 0, .int .u64 0, .int .i64 0]) (#[.int .i64 0, .int .u64 0, .int .i64 0]) tyDec.2 rfl rfl rfl rfl rfl rfl rfl rfl rfl rfl ?_
            refine h_q hfl rfl ?_
            refine h_done (d_ret (f_block_ret (f_then_ret (f_then_ret (f_block_ret (f_then_ret ?_))))))
            exact f_fin2 (.cell 1 (v := .agg #[.int .i64 0, .int .u64 0, .int .i64 0]) (reads_agg (cs := [.int .i64 0, .int .u64 0, .int .i64 0]) tyDec rfl) rfl rfl) (.tmp rfl) (fun w h => ⟨by rw [valD_no (fun h => not_allD hch (by unfold isD; omega) h.2.2.1)]; rfl, h.up.below⟩) rfl
          · skip
            refine d_reg ?_
            refine h_q hfl rfl ?_
            refine h_val rfl (.int .u8 (ch.toNat : Int)) (fun b w hb hH => by exact exec_index (i := (p.length + 1 + j)) Tryz.underlying9 (get_high hD hch) rfl rfl rfl hb) ?_
            refine h_cmp (cmp_lss_f (by unfold isD at hw; omega)) rfl rfl rfl rfl ?_
            refine h_q hfl rfl ?_
            refine h_val rfl (.int .u8 (ch.toNat : Int)) (fun b w hb hH => by exact exec_index (i := (p.length + 1 + j)) Tryz.underlying9 (get_high hD hch) rfl rfl rfl hb) ?_
            refine h_cmp (cmp_gtr_f (by unfold isD at hw; omega)) rfl rfl rfl rfl ?_
            refine h_q hfl rfl ?_
            refine h_done (d_else rfl (d_skip (f_block (f_to (d_reg1 ?_)))))
            refine h_q hfl rfl ?_
            refine h_ar (z' := ((p.length + 1 + (j + 1) : Nat) : Int)) (by rw [IntWalk.i64_in _ (by omega)]; omega) rfl rfl rfl rfl rfl ?_
            refine h_q hfl rfl ?_
            refine h_nil ?_
            exact f_again (j + 1) 0 ⟨by omega, allD_step hch ha hw⟩ (by omega) ⟨rfl, rfl, rfl, rfl, rfl, rfl, rfl, rfl, trivial⟩ rfl
        · skip
          have hqa : allD q := take_all hjl ▸ ha
          have hall : allD (p ++ q) := allD_app.2 ⟨hpl.2.1, hqa⟩
          refine d_reg ?_
          refine h_q hfl rfl ?_
          refine h_cmp (cmp_geq_t (by omega)) rfl rfl rfl rfl ?_
          refine h_q hfl rfl ?_
          refine h_builtin (v := .int .i64 (D.length : Int)) (fun w cs => run_len_bs Tryz.underlying9 _ _ w cs) rfl rfl rfl ?_
          refine h_cmp (cmp_lss_f (by omega)) rfl rfl rfl rfl ?_
          refine h_q hfl rfl ?_
          refine h_done (d_else rfl (d_exit (f_then_exit (f_then_exit (f_block_exit (f_to (d_reg ?_)))))))
          refine h_q hfl rfl ?_
          refine h_done (d_seq (d_reg ?_))
          refine h_q hfl rfl ?_
          refine h_cmp (cmp_geq_t (by omega)) rfl rfl rfl rfl ?_
          refine h_done (d_then rfl (d_reg1 ?_))
          refine h_q hfl rfl ?_
          refine h_ar (z' := ((p.length + 1 : Nat) : Int)) (by rw [IntWalk.i64_in _ (by omega)]; omega) rfl rfl rfl rfl rfl ?_
          refine h_cut (i := (p.length + 1)) (j := D.length) (r := q) Tryz.underlying9 (by rw [List.take_length, hD]; simp [List.drop_append]) (by omega) (Nat.le_refl _) rfl rfl rfl ⟨_, rfl⟩ rfl ?_
          refine h_cat (r := p ++ q) rfl (by omega) rfl rfl rfl rfl ?_
          refine h_q hfl rfl ?_
          refine h_nil (f_to (d_seq (d_block ?_)))
          refine d_loop (α := Nat) (fun i => [(2, .pointer (some ⟨g2_1, 0, none⟩)), (3, .int .i64 0), (4, .bool false), (8, .int .i64 (q.length : Int)), (12, .string (bs ((p ++ q).drop i)))]) (fun i => [(g9_3, 71, digs (valR p)), (g2_1, 26, #[.int .i64 0, .int .u64 0, .int .i64 0])]) (fun i => trI (p ++ q) i) (fun i => (p ++ q).length - i) 0 ⟨by have := List.length_pos_iff.2 hpl.1; simp only [List.length_append]; omega, rfl⟩ ⟨rfl, rfl, rfl, rfl, rfl, trivial⟩ rfl ?_
          rintro i hi
          refine WC2.at_ (env' := [(2, .pointer (some ⟨g2_1, 0, none⟩)), (3, .int .i64 0), (4, .bool false), (8, .int .i64 (q.length : Int)), (12, .string (bs ((p ++ q).drop i)))]) (rs' := [(g9_3, 71, digs (valR p)), (g2_1, 26, #[.int .i64 0, .int .u64 0, .int .i64 0])]) ⟨rfl, rfl, rfl, rfl, rfl, trivial⟩ rfl ?_
          refine d_seq ?_
          rcases tr_ways hi hall with ⟨hl, ch, hch, hc⟩ | ⟨hX, hl, ch, hch, hc⟩ | ⟨hX, hl⟩
          · skip
            refine d_reg ?_
            refine h_q hfl rfl ?_
            refine h_builtin (v := .int .i64 (((p ++ q).drop i).length : Int)) (fun w cs => run_len_bs Tryz.underlying9 _ _ w cs) rfl rfl rfl ?_
            refine h_cmp (cmp_gtr_t (by omega)) rfl rfl rfl rfl ?_
            refine h_q hfl rfl ?_
            refine h_val rfl (.int .u8 (ch.toNat : Int)) (fun b w hb hH => by exact exec_index (i := 0) Tryz.underlying9 (drop_get (p ++ q) i hch) rfl rfl rfl hb) ?_
            refine h_cmp (cmp_eql_t (by omega)) rfl rfl rfl rfl ?_
            refine h_q hfl rfl ?_
            refine h_done (d_then rfl (d_skip (f_to (d_block (d_reg1 ?_)))))
            refine h_q hfl rfl ?_
            refine h_cut (i := 1) (j := ((p ++ q).drop i).length) (r := (p ++ q).drop (i + 1)) Tryz.underlying9 (by rw [List.take_length, List.drop_drop]) (by omega) (Nat.le_refl _) rfl rfl rfl ⟨_, rfl⟩ rfl ?_
            refine h_q hfl rfl ?_
            refine h_nil (f_block ?_)
            exact f_again (i + 1) 0 (trI_step hi hch hc hl) (by have := hi.1; omega) ⟨rfl, rfl, rfl, rfl, rfl, trivial⟩ rfl
          · skip
            refine d_reg ?_
            refine h_q hfl rfl ?_
            refine h_builtin (v := .int .i64 (((p ++ q).drop i).length : Int)) (fun w cs => run_len_bs Tryz.underlying9 _ _ w cs) rfl rfl rfl ?_
            refine h_cmp (cmp_gtr_t (by omega)) rfl rfl rfl rfl ?_
            refine h_q hfl rfl ?_
            refine h_val rfl (.int .u8 (ch.toNat : Int)) (fun b w hb hH => by exact exec_index (i := 0) Tryz.underlying9 (drop_get (p ++ q) i hch) rfl rfl rfl hb) ?_
            refine h_cmp (cmp_eql_f (by omega)) rfl rfl rfl rfl ?_
            refine h_q hfl rfl ?_
            refine h_done (d_else rfl (d_exit (f_then_exit (f_then_exit (f_block_exit (f_to ?_))))))
            have hXl : ((p ++ q).drop i).length ≤ 9223372036854775807 := by rw [List.length_drop, List.length_append]; omega
            have hXz : valR ((p ++ q).drop i) = 0 ↔ nv (p ++ q) = 0 := by rw [valR_zero hX, ← plain_zero hX, hi.2]
            have hz : ¬ (false = true ∧ nv (p ++ q) = 0) := by simp
            obtain ⟨ra, rs, re, hr⟩ := decR_form (if false then -(valR ((p ++ q).drop i) : Int) else (valR ((p ++ q).drop i) : Int)) (q.length : Int)
            have hok : okD false p q true := ⟨hpl, hq0, hqa, hq18, hz⟩
            have hval : valD false p q true = .tuple #[Dc ra rs, .int .i64 re] := by rw [valD, if_pos hok, ← hr, decR_val hX, hi.2]
            refine d_reg ?_
            refine h_q hfl rfl ?_
            refine h_call (ent_of Tryz.func45 (by kernel_rfl) rfl) (fun w hH => digY _ ((p ++ q).drop i) hXl hX) rfl rfl rfl rfl ?_
            refine h_q hfl rfl ?_
            refine h_alloc zeDig rfl rfl ?_; intro g13_4
            refine h_store 0 (v := .agg (digs (valR ((p ++ q).drop i)))) (digs (valR ((p ++ q).drop i))) tyDigits.2 (digs_size _) (ble_size (digs_size _)) (digs_oneL _) (over_all (c := digs 0) (v := digs (valR ((p ++ q).drop i))) (((digs_size _) : (digs 0).size = 16).trans ((digs_size _) : (digs (valR ((p ++ q).drop i))).size = 16).symm)) rfl rfl rfl rfl rfl rfl ?_
            refine h_q hfl rfl ?_
            refine h_done (d_seq (d_reg ?_))
            refine h_q hfl rfl ?_
            refine h_done (d_else rfl (d_skip (f_to (d_reg ?_))))
            refine h_q hfl rfl ?_
            refine h_load 0 (v := .agg (digs (valR ((p ++ q).drop i)))) (reads_all (tyDigC _)) rfl rfl rfl rfl ?_
            refine h_build (cs := bigs false (valR ((p ++ q).drop i))) (built_big _ _) rfl rfl rfl ?_
            refine h_q hfl rfl ?_
            refine h_call (ent_of Tryz.func47 (by kernel_rfl) rfl) (fun w hH => rdecF _ (valR_lt hX) hr) rfl rfl rfl rfl ?_
            refine h_q hfl rfl ?_
            refine h_store 2 (v := Dc ra rs) (#[hiW ra, loW ra, .int .i64 rs]) tyDec.2 rfl rfl rfl rfl rfl rfl rfl rfl rfl rfl ?_
            refine h_q hfl rfl ?_
            refine h_done (d_ret ?_)
            exact f_fin2 (.cell 2 (v := .agg #[hiW ra, loW ra, .int .i64 rs]) (reads_agg (cs := [hiW ra, loW ra, .int .i64 rs]) tyDec rfl) rfl rfl) (.tmp rfl) (fun w h => ⟨by rw [hval]; rfl, h.up.below⟩) rfl
          · skip
            refine d_reg ?_
            refine h_q hfl rfl ?_
            refine h_builtin (v := .int .i64 (((p ++ q).drop i).length : Int)) (fun w cs => run_len_bs Tryz.underlying9 _ _ w cs) rfl rfl rfl ?_
            refine h_cmp (cmp_gtr_f (by omega)) rfl rfl rfl rfl ?_
            refine h_q hfl rfl ?_
            refine h_done (d_else rfl (d_exit (f_then_exit (f_then_exit (f_block_exit (f_to ?_))))))
            have hXl : ((p ++ q).drop i).length ≤ 9223372036854775807 := by rw [List.length_drop, List.length_append]; omega
            have hXz : valR ((p ++ q).drop i) = 0 ↔ nv (p ++ q) = 0 := by rw [valR_zero hX, ← plain_zero hX, hi.2]
            have hz : ¬ (false = true ∧ nv (p ++ q) = 0) := by simp
            obtain ⟨ra, rs, re, hr⟩ := decR_form (if false then -(valR ((p ++ q).drop i) : Int) else (valR ((p ++ q).drop i) : Int)) (q.length : Int)
            have hok : okD false p q true := ⟨hpl, hq0, hqa, hq18, hz⟩
            have hval : valD false p q true = .tuple #[Dc ra rs, .int .i64 re] := by rw [valD, if_pos hok, ← hr, decR_val hX, hi.2]
            refine d_reg ?_
            refine h_q hfl rfl ?_
            refine h_call (ent_of Tryz.func45 (by kernel_rfl) rfl) (fun w hH => digY _ ((p ++ q).drop i) hXl hX) rfl rfl rfl rfl ?_
            refine h_q hfl rfl ?_
            refine h_alloc zeDig rfl rfl ?_; intro g13_5
            refine h_store 0 (v := .agg (digs (valR ((p ++ q).drop i)))) (digs (valR ((p ++ q).drop i))) tyDigits.2 (digs_size _) (ble_size (digs_size _)) (digs_oneL _) (over_all (c := digs 0) (v := digs (valR ((p ++ q).drop i))) (((digs_size _) : (digs 0).size = 16).trans ((digs_size _) : (digs (valR ((p ++ q).drop i))).size = 16).symm)) rfl rfl rfl rfl rfl rfl ?_
            refine h_q hfl rfl ?_
            refine h_done (d_seq (d_reg ?_))
            refine h_q hfl rfl ?_
            refine h_done (d_else rfl (d_skip (f_to (d_reg ?_))))
            refine h_q hfl rfl ?_
            refine h_load 0 (v := .agg (digs (valR ((p ++ q).drop i)))) (reads_all (tyDigC _)) rfl rfl rfl rfl ?_
            refine h_build (cs := bigs false (valR ((p ++ q).drop i))) (built_big _ _) rfl rfl rfl ?_
            refine h_q hfl rfl ?_
            refine h_call (ent_of Tryz.func47 (by kernel_rfl) rfl) (fun w hH => rdecF _ (valR_lt hX) hr) rfl rfl rfl rfl ?_
            refine h_q hfl rfl ?_
            refine h_store 2 (v := Dc ra rs) (#[hiW ra, loW ra, .int .i64 rs]) tyDec.2 rfl rfl rfl rfl rfl rfl rfl rfl rfl rfl ?_
            refine h_q hfl rfl ?_
            refine h_done (d_ret ?_)
            exact f_fin2 (.cell 2 (v := .agg #[hiW ra, loW ra, .int .i64 rs]) (reads_agg (cs := [hiW ra, loW ra, .int .i64 rs]) tyDec rfl) rfl rfl) (.tmp rfl) (fun w h => ⟨by rw [hval]; rfl, h.up.below⟩) rfl
  · skip
    obtain ⟨i, rfl⟩ : ∃ i : Nat, z = (i : Int) := ⟨z.toNat, by omega⟩
    obtain ⟨ch, hch⟩ : ∃ ch, D[i]? = some ch := ⟨_, List.getElem?_eq_getElem (by omega)⟩
    refine d_reg ?_
    refine h_q hfl rfl ?_
    refine h_cmp (cmp_geq_t (by omega)) rfl rfl rfl rfl ?_
    refine h_done (d_then rfl (d_skip (f_to (d_seq (d_block ?_)))))
    by_cases h46 : ch = 46
    · skip
      refine d_reg ?_
      refine h_q hfl rfl ?_
      refine h_val rfl (.int .u8 (ch.toNat : Int)) (fun b w hb hH => by exact exec_index (i := (i)) Tryz.underlying9 hch rfl rfl rfl hb) ?_
      refine h_cmp (cmp_eql_t (byte46' h46)) rfl rfl rfl rfl ?_
      refine h_done (d_then rfl (d_reg1 ?_))
      refine h_q hfl rfl ?_
      refine h_nil (f_block (f_to (d_reg1 ?_)))
      refine h_q hfl rfl ?_
      refine h_ar (z' := (i : Int) - 1) (IntWalk.i64_in _ (by omega)) rfl rfl rfl rfl rfl ?_
      refine h_q hfl rfl ?_
      refine h_nil ?_
      exact f_again ((i : Int) - 1, (i : Int)) 0 ⟨by omega, by omega, left_yes hD hch h46 hp46⟩ (by show ((i : Int) - 1 + 1).toNat < ((i : Int) + 1).toNat; omega) ⟨rfl, rfl, rfl, rfl, rfl, rfl, trivial⟩ rfl
    · skip
      refine d_reg ?_
      refine h_q hfl rfl ?_
      refine h_val rfl (.int .u8 (ch.toNat : Int)) (fun b w hb hH => by exact exec_index (i := (i)) Tryz.underlying9 hch rfl rfl rfl hb) ?_
      refine h_cmp (cmp_eql_f (byte46 h46)) rfl rfl rfl rfl ?_
      refine h_done (d_else rfl (d_skip (f_block (f_to (d_reg1 ?_)))))
      refine h_q hfl rfl ?_
      refine h_ar (z' := (i : Int) - 1) (IntWalk.i64_in _ (by omega)) rfl rfl rfl rfl rfl ?_
      refine h_q hfl rfl ?_
      refine h_nil ?_
      exact f_again ((i : Int) - 1, a) 0 ⟨by omega, by omega, left_no hD hch h46 hz3⟩ (by show ((i : Int) - 1 + 1).toNat < ((i : Int) + 1).toNat; omega) ⟨rfl, rfl, rfl, rfl, rfl, rfl, trivial⟩ rfl

theorem rpd_tf (w : World) (D : List UInt8) (hp46 : ∀ b ∈ D, b ≠ 46) (hlen : (45 :: D).length ≤ 9223372036854775807) : Calls Tryz.prog 19 #[.string (bs (45 :: D))] w fun e w' => e = .returned (valD true D [] false) ∧ Below w.heap.size w w' := by
  have hlD : D.length + 1 ≤ 9223372036854775807 := by simpa using hlen
  refine d_in (args := [.string (bs (45 :: D))]) 124 Tryz.func19 rfl rfl rfl ?_
  refine d_reg ?_
  refine h_alloc zeDec rfl rfl ?_; intro g2_1
  refine h_q hfl rfl ?_
  refine h_done (d_reg ?_)
  refine h_q hfl rfl ?_
  refine h_builtin (v := .int .i64 ((45 :: D).length : Int)) (fun w cs => run_len_bs Tryz.underlying9 _ _ w cs) rfl rfl rfl ?_
  refine h_cmp (cmp_gtr_t (by simp only [List.length_cons]; omega)) rfl rfl rfl rfl ?_
  refine h_q hfl rfl ?_
  refine h_val rfl (.int .u8 ((45 : UInt8).toNat : Int)) (fun b w hb hH => by exact exec_index (i := 0) Tryz.underlying9 rfl rfl rfl rfl hb) ?_
  refine h_cmp (cmp_eql_t (by decide)) rfl rfl rfl rfl ?_
  refine h_q hfl rfl ?_
  refine h_done (d_seq (d_reg ?_))
  refine h_q hfl rfl ?_
  refine h_done (d_then rfl (d_reg1 ?_))
  refine h_q hfl rfl ?_
  refine h_cut (i := 1) (j := (45 :: D).length) (r := D) Tryz.underlying9 (by simp) (by simp) (Nat.le_refl _) rfl rfl rfl ⟨_, rfl⟩ rfl ?_
  refine h_q hfl rfl ?_
  refine h_nil (f_to (d_reg ?_))
  refine h_q hfl rfl ?_
  refine h_done (d_seq (d_reg ?_))
  refine h_q hfl rfl ?_
  refine h_builtin (v := .int .i64 (D.length : Int)) (fun w cs => run_len_bs Tryz.underlying9 _ _ w cs) rfl rfl rfl ?_
  refine h_ar (z' := (D.length : Int) - 1) (IntWalk.i64_in _ (by omega)) rfl rfl rfl rfl rfl ?_
  refine h_q hfl rfl ?_
  refine h_done (d_block ?_)
  refine d_loop (α := Int) (fun z => [(2, .pointer (some ⟨g2_1, 0, none⟩)), (3, .int .i64 0), (4, .bool true), (0, .string (bs D)), (5, .int .i64 (-1)), (6, .int .i64 z)]) (fun z => [(g2_1, 26, #[.int .i64 0, .int .u64 0, .int .i64 0])]) (fun z => -1 ≤ z ∧ z < (D.length : Int)) (fun z => (z + 1).toNat) ((D.length : Int) - 1) ⟨by omega, by omega⟩ ⟨rfl, rfl, rfl, rfl, rfl, rfl, trivial⟩ rfl ?_
  rintro z ⟨hz1, hz2⟩
  refine WC2.at_ (env' := [(2, .pointer (some ⟨g2_1, 0, none⟩)), (3, .int .i64 0), (4, .bool true), (0, .string (bs D)), (5, .int .i64 (-1)), (6, .int .i64 z)]) (rs' := [(g2_1, 26, #[.int .i64 0, .int .u64 0, .int .i64 0])]) ⟨rfl, rfl, rfl, rfl, rfl, rfl, trivial⟩ rfl ?_
  refine d_seq ?_
  rcases left_step z 0 with hzz | hzz
  · skip
    refine d_reg ?_
    refine h_q hfl rfl ?_
    refine h_cmp (cmp_geq_f (by omega)) rfl rfl rfl rfl ?_
    refine h_done (d_else rfl (d_exit (f_then_exit (f_then_exit (f_block_exit (f_to (d_reg ?_)))))))
    refine h_q hfl rfl ?_
    refine h_done (d_reg ?_)
    refine h_q hfl rfl ?_
    refine h_done (d_seq (d_reg ?_))
    refine h_q hfl rfl ?_
    refine h_cmp (cmp_geq_f (by decide)) rfl rfl rfl rfl ?_
    refine h_done (d_else rfl (d_skip (f_to ?_)))
    by_cases hpl : plainN D; rotate_left
    · skip
      refine d_reg ?_
      refine h_q hfl rfl ?_
      refine h_call (ent_of Tryz.func45 (by kernel_rfl) rfl) (fun w hH => digN _ D (by omega) hpl) rfl rfl rfl rfl ?_
      refine h_q hfl rfl ?_
      refine h_alloc zeDig rfl rfl ?_; intro g9_2
      refine h_store 0 (v := .agg (digs 0)) (digs 0) tyDigits.2 (digs_size _) (ble_size (digs_size _)) (digs_oneL _) (over_all (c := digs 0) (v := digs 0) (((digs_size _) : (digs 0).size = 16).trans ((digs_size _) : (digs 0).size = 16).symm)) rfl rfl rfl rfl rfl rfl ?_
      refine h_q hfl rfl ?_
      refine h_done (d_seq (d_reg ?_))
      refine h_q hfl rfl ?_
      refine h_done (d_then rfl (d_reg ?_))
      refine h_build (cs := #[.int .i64 0, .int .u64 0, .int .i64 0]) (by kernel_rfl) rfl rfl rfl ?_
      refine h_store 1 (v := .agg #[.int .i64 0, .int .u64 0, .int .i64 0]) (#[.int .i64 0, .int .u64 0, .int .i64 0]) tyDec.2 rfl rfl rfl rfl rfl rfl rfl rfl rfl rfl ?_
      refine h_q hfl rfl ?_
      refine h_done (d_ret (f_then_ret ?_))
      exact f_fin2 (.cell 1 (v := .agg #[.int .i64 0, .int .u64 0, .int .i64 0]) (reads_agg (cs := [.int .i64 0, .int .u64 0, .int .i64 0]) tyDec rfl) rfl rfl) (.tmp rfl) (fun w h => ⟨by rw [valD_no (fun h => hpl h.1)]; rfl, h.up.below⟩) rfl
    · skip
      have hall : allD D := hpl.2.1
      have hqa : allD [] := allD_nil
      have hq0 : false = true → ([] : List UInt8) ≠ [] := by simp
      have hq18 : ([] : List UInt8).length ≤ 18 := by decide
      refine d_reg ?_
      refine h_q hfl rfl ?_
      refine h_call (ent_of Tryz.func45 (by kernel_rfl) rfl) (fun w hH => digY _ D (by omega) hpl) rfl rfl rfl rfl ?_
      refine h_q hfl rfl ?_
      refine h_alloc zeDig rfl rfl ?_; intro g9_3
      refine h_store 0 (v := .agg (digs (valR D))) (digs (valR D)) tyDigits.2 (digs_size _) (ble_size (digs_size _)) (digs_oneL _) (over_all (c := digs 0) (v := digs (valR D)) (((digs_size _) : (digs 0).size = 16).trans ((digs_size _) : (digs (valR D)).size = 16).symm)) rfl rfl rfl rfl rfl rfl ?_
      refine h_q hfl rfl ?_
      refine h_done (d_seq (d_reg ?_))
      refine h_q hfl rfl ?_
      refine h_done (d_else rfl (d_skip (f_to (d_seq (d_reg ?_)))))
      refine h_q hfl rfl ?_
      refine h_ar (z' := 0) (by decide) rfl rfl rfl rfl rfl ?_
      refine h_q hfl rfl ?_
      refine h_done (d_block ?_)
      refine d_loop (α := Unit) (fun _u => [(2, .pointer (some ⟨g2_1, 0, none⟩)), (3, .int .i64 0), (4, .bool true), (0, .string (bs D)), (5, .int .i64 (-1)), (7, .string (bs D)), (8, .int .i64 0), (11, .int .i64 0)]) (fun _u => [(g9_3, 71, digs (valR D)), (g2_1, 26, #[.int .i64 0, .int .u64 0, .int .i64 0])]) (fun _u => True) (fun _u => 0) () trivial ⟨rfl, rfl, rfl, rfl, rfl, rfl, rfl, rfl, trivial⟩ rfl ?_
      rintro ⟨⟩ _
      refine WC2.at_ (env' := [(2, .pointer (some ⟨g2_1, 0, none⟩)), (3, .int .i64 0), (4, .bool true), (0, .string (bs D)), (5, .int .i64 (-1)), (7, .string (bs D)), (8, .int .i64 0), (11, .int .i64 0)]) (rs' := [(g9_3, 71, digs (valR D)), (g2_1, 26, #[.int .i64 0, .int .u64 0, .int .i64 0])]) ⟨rfl, rfl, rfl, rfl, rfl, rfl, rfl, rfl, trivial⟩ rfl ?_
      refine d_seq (d_reg ?_)
      refine h_q hfl rfl ?_
      refine h_cmp (cmp_geq_f (by decide)) rfl rfl rfl rfl ?_
      refine h_q hfl rfl ?_
      refine h_done (d_else rfl (d_exit (f_then_exit (f_then_exit (f_block_exit (f_to (d_reg ?_)))))))
      refine h_q hfl rfl ?_
      refine h_done (d_seq (d_reg ?_))
      refine h_q hfl rfl ?_
      refine h_cmp (cmp_geq_f (by decide)) rfl rfl rfl rfl ?_
      refine h_done (d_else rfl (d_skip (f_to (d_seq (d_block ?_)))))
      refine d_loop (α := Nat) (fun i => [(2, .pointer (some ⟨g2_1, 0, none⟩)), (3, .int .i64 0), (4, .bool true), (8, .int .i64 0), (12, .string (bs ((D).drop i)))]) (fun i => [(g9_3, 71, digs (valR D)), (g2_1, 26, #[.int .i64 0, .int .u64 0, .int .i64 0])]) (fun i => trI (D) i) (fun i => (D).length - i) 0 ⟨List.length_pos_iff.2 hpl.1, rfl⟩ ⟨rfl, rfl, rfl, rfl, rfl, trivial⟩ rfl ?_
      rintro i hi
      refine WC2.at_ (env' := [(2, .pointer (some ⟨g2_1, 0, none⟩)), (3, .int .i64 0), (4, .bool true), (8, .int .i64 0), (12, .string (bs ((D).drop i)))]) (rs' := [(g9_3, 71, digs (valR D)), (g2_1, 26, #[.int .i64 0, .int .u64 0, .int .i64 0])]) ⟨rfl, rfl, rfl, rfl, rfl, trivial⟩ rfl ?_
      refine d_seq ?_
      rcases tr_ways hi hall with ⟨hl, ch, hch, hc⟩ | ⟨hX, hl, ch, hch, hc⟩ | ⟨hX, hl⟩
      · skip
        refine d_reg ?_
        refine h_q hfl rfl ?_
        refine h_builtin (v := .int .i64 (((D).drop i).length : Int)) (fun w cs => run_len_bs Tryz.underlying9 _ _ w cs) rfl rfl rfl ?_
        refine h_cmp (cmp_gtr_t (by omega)) rfl rfl rfl rfl ?_
        refine h_q hfl rfl ?_
        refine h_val rfl (.int .u8 (ch.toNat : Int)) (fun b w hb hH => by exact exec_index (i := 0) Tryz.underlying9 (drop_get (D) i hch) rfl rfl rfl hb) ?_
        refine h_cmp (cmp_eql_t (by omega)) rfl rfl rfl rfl ?_
        refine h_q hfl rfl ?_
        refine h_done (d_then rfl (d_skip (f_to (d_block (d_reg1 ?_)))))
        refine h_q hfl rfl ?_
        refine h_cut (i := 1) (j := ((D).drop i).length) (r := (D).drop (i + 1)) Tryz.underlying9 (by rw [List.take_length, List.drop_drop]) (by omega) (Nat.le_refl _) rfl rfl rfl ⟨_, rfl⟩ rfl ?_
        refine h_q hfl rfl ?_
        refine h_nil (f_block ?_)
        exact f_again (i + 1) 0 (trI_step hi hch hc hl) (by have := hi.1; omega) ⟨rfl, rfl, rfl, rfl, rfl, trivial⟩ rfl
      · skip
        refine d_reg ?_
        refine h_q hfl rfl ?_
        refine h_builtin (v := .int .i64 (((D).drop i).length : Int)) (fun w cs => run_len_bs Tryz.underlying9 _ _ w cs) rfl rfl rfl ?_
        refine h_cmp (cmp_gtr_t (by omega)) rfl rfl rfl rfl ?_
        refine h_q hfl rfl ?_
        refine h_val rfl (.int .u8 (ch.toNat : Int)) (fun b w hb hH => by exact exec_index (i := 0) Tryz.underlying9 (drop_get (D) i hch) rfl rfl rfl hb) ?_
        refine h_cmp (cmp_eql_f (by omega)) rfl rfl rfl rfl ?_
        refine h_q hfl rfl ?_
        refine h_done (d_else rfl (d_exit (f_then_exit (f_then_exit (f_block_exit (f_to ?_))))))
        by_cases hz0 : nv (D ++ []) = 0
        · skip
          have hXl : ((D).drop i).length ≤ 9223372036854775807 := by rw [List.length_drop]; omega
          have hXz : valR ((D).drop i) = 0 ↔ nv (D ++ []) = 0 := by rw [valR_zero hX, ← plain_zero hX, hi.2]; simp
          refine d_reg ?_
          refine h_q hfl rfl ?_
          refine h_call (ent_of Tryz.func45 (by kernel_rfl) rfl) (fun w hH => digY _ ((D).drop i) hXl hX) rfl rfl rfl rfl ?_
          refine h_q hfl rfl ?_
          refine h_alloc zeDig rfl rfl ?_; intro g13_4
          refine h_store 0 (v := .agg (digs (valR ((D).drop i)))) (digs (valR ((D).drop i))) tyDigits.2 (digs_size _) (ble_size (digs_size _)) (digs_oneL _) (over_all (c := digs 0) (v := digs (valR ((D).drop i))) (((digs_size _) : (digs 0).size = 16).trans ((digs_size _) : (digs (valR ((D).drop i))).size = 16).symm)) rfl rfl rfl rfl rfl rfl ?_
          refine h_q hfl rfl ?_
          refine h_done (d_seq (d_reg ?_))
          refine h_q hfl rfl ?_
          refine h_load 0 (v := .agg (digs (valR ((D).drop i)))) (reads_all (tyDigC _)) rfl rfl rfl rfl ?_
          refine h_call (ent_of Tryz.func46 (by kernel_rfl) rfl) (fun w hH => zeroB _ (valR ((D).drop i)) true (Nat.lt_of_lt_of_le (valR_lt hX) (BP_le (by decide))) (decide_eq_true (hXz.2 hz0))) rfl rfl rfl rfl ?_
          refine h_q hfl rfl ?_
          refine h_done (d_then rfl (d_reg ?_))
          refine h_build (cs := #[.int .i64 0, .int .u64 0, .int .i64 0]) (by kernel_rfl) rfl rfl rfl ?_
          refine h_store 2 (v := .agg #[.int .i64 0, .int .u64 0, .int .i64 0]) (#[.int .i64 0, .int .u64 0, .int .i64 0]) tyDec.2 rfl rfl rfl rfl rfl rfl rfl rfl rfl rfl ?_
          refine h_q hfl rfl ?_
          refine h_done (d_ret (f_then_ret ?_))
          exact f_fin2 (.cell 2 (v := .agg #[.int .i64 0, .int .u64 0, .int .i64 0]) (reads_agg (cs := [.int .i64 0, .int .u64 0, .int .i64 0]) tyDec rfl) rfl rfl) (.tmp rfl) (fun w h => ⟨by rw [valD_no (fun h => h.2.2.2.2 ⟨rfl, hz0⟩)]; rfl, h.up.below⟩) rfl
        · skip
          have hXl : ((D).drop i).length ≤ 9223372036854775807 := by rw [List.length_drop]; omega
          have hXz : valR ((D).drop i) = 0 ↔ nv (D ++ []) = 0 := by rw [valR_zero hX, ← plain_zero hX, hi.2]; simp
          have hz : ¬ (true = true ∧ nv (D ++ []) = 0) := fun h => hz0 h.2
          obtain ⟨ra, rs, re, hr⟩ := decR_form (if true then -(valR ((D).drop i) : Int) else (valR ((D).drop i) : Int)) 0
          have hok : okD true D [] false := ⟨hpl, hq0, hqa, hq18, hz⟩
          have hval : valD true D [] false = .tuple #[Dc ra rs, .int .i64 re] := by rw [valD, if_pos hok, ← hr, decR_val hX, hi.2]; simp
          refine d_reg ?_
          refine h_q hfl rfl ?_
          refine h_call (ent_of Tryz.func45 (by kernel_rfl) rfl) (fun w hH => digY _ ((D).drop i) hXl hX) rfl rfl rfl rfl ?_
          refine h_q hfl rfl ?_
          refine h_alloc zeDig rfl rfl ?_; intro g13_5
          refine h_store 0 (v := .agg (digs (valR ((D).drop i)))) (digs (valR ((D).drop i))) tyDigits.2 (digs_size _) (ble_size (digs_size _)) (digs_oneL _) (over_all (c := digs 0) (v := digs (valR ((D).drop i))) (((digs_size _) : (digs 0).size = 16).trans ((digs_size _) : (digs (valR ((D).drop i))).size = 16).symm)) rfl rfl rfl rfl rfl rfl ?_
          refine h_q hfl rfl ?_
          refine h_done (d_seq (d_reg ?_))
          refine h_q hfl rfl ?_
          refine h_load 0 (v := .agg (digs (valR ((D).drop i)))) (reads_all (tyDigC _)) rfl rfl rfl rfl ?_
          refine h_call (ent_of Tryz.func46 (by kernel_rfl) rfl) (fun w hH => zeroB _ (valR ((D).drop i)) false (Nat.lt_of_lt_of_le (valR_lt hX) (BP_le (by decide))) (decide_eq_false fun e => hz0 (hXz.1 e))) rfl rfl rfl rfl ?_
          refine h_q hfl rfl ?_
          refine h_done (d_else rfl (d_skip (f_to (d_reg ?_))))
          refine h_q hfl rfl ?_
          refine h_load 0 (v := .agg (digs (valR ((D).drop i)))) (reads_all (tyDigC _)) rfl rfl rfl rfl ?_
          refine h_build (cs := bigs true (valR ((D).drop i))) (built_big _ _) rfl rfl rfl ?_
          refine h_q hfl rfl ?_
          refine h_call (ent_of Tryz.func47 (by kernel_rfl) rfl) (fun w hH => rdecT _ (valR_lt hX) (fun e => hz ⟨rfl, hXz.1 e⟩) hr) rfl rfl rfl rfl ?_
          refine h_q hfl rfl ?_
          refine h_store 2 (v := Dc ra rs) (#[hiW ra, loW ra, .int .i64 rs]) tyDec.2 rfl rfl rfl rfl rfl rfl rfl rfl rfl rfl ?_
          refine h_q hfl rfl ?_
          refine h_done (d_ret ?_)
          exact f_fin2 (.cell 2 (v := .agg #[hiW ra, loW ra, .int .i64 rs]) (reads_agg (cs := [hiW ra, loW ra, .int .i64 rs]) tyDec rfl) rfl rfl) (.tmp rfl) (fun w h => ⟨by rw [hval]; rfl, h.up.below⟩) rfl
      · skip
        refine d_reg ?_
        refine h_q hfl rfl ?_
        refine h_builtin (v := .int .i64 (((D).drop i).length : Int)) (fun w cs => run_len_bs Tryz.underlying9 _ _ w cs) rfl rfl rfl ?_
        refine h_cmp (cmp_gtr_f (by omega)) rfl rfl rfl rfl ?_
        refine h_q hfl rfl ?_
        refine h_done (d_else rfl (d_exit (f_then_exit (f_then_exit (f_block_exit (f_to ?_))))))
        by_cases hz0 : nv (D ++ []) = 0
        · skip
          have hXl : ((D).drop i).length ≤ 9223372036854775807 := by rw [List.length_drop]; omega
          have hXz : valR ((D).drop i) = 0 ↔ nv (D ++ []) = 0 := by rw [valR_zero hX, ← plain_zero hX, hi.2]; simp
          refine d_reg ?_
          refine h_q hfl rfl ?_
          refine h_call (ent_of Tryz.func45 (by kernel_rfl) rfl) (fun w hH => digY _ ((D).drop i) hXl hX) rfl rfl rfl rfl ?_
          refine h_q hfl rfl ?_
          refine h_alloc zeDig rfl rfl ?_; intro g13_6
          refine h_store 0 (v := .agg (digs (valR ((D).drop i)))) (digs (valR ((D).drop i))) tyDigits.2 (digs_size _) (ble_size (digs_size _)) (digs_oneL _) (over_all (c := digs 0) (v := digs (valR ((D).drop i))) (((digs_size _) : (digs 0).size = 16).trans ((digs_size _) : (digs (valR ((D).drop i))).size = 16).symm)) rfl rfl rfl rfl rfl rfl ?_
          refine h_q hfl rfl ?_
          refine h_done (d_seq (d_reg ?_))
          refine h_q hfl rfl ?_
          refine h_load 0 (v := .agg (digs (valR ((D).drop i)))) (reads_all (tyDigC _)) rfl rfl rfl rfl ?_
          refine h_call (ent_of Tryz.func46 (by kernel_rfl) rfl) (fun w hH => zeroB _ (valR ((D).drop i)) true (Nat.lt_of_lt_of_le (valR_lt hX) (BP_le (by decide))) (decide_eq_true (hXz.2 hz0))) rfl rfl rfl rfl ?_
          refine h_q hfl rfl ?_
          refine h_done (d_then rfl (d_reg ?_))
          refine h_build (cs := #[.int .i64 0, .int .u64 0, .int .i64 0]) (by kernel_rfl) rfl rfl rfl ?_
          refine h_store 2 (v := .agg #[.int .i64 0, .int .u64 0, .int .i64 0]) (#[.int .i64 0, .int .u64 0, .int .i64 0]) tyDec.2 rfl rfl rfl rfl rfl rfl rfl rfl rfl rfl ?_
          refine h_q hfl rfl ?_
          refine h_done (d_ret (f_then_ret ?_))
          exact f_fin2 (.cell 2 (v := .agg #[.int .i64 0, .int .u64 0, .int .i64 0]) (reads_agg (cs := [.int .i64 0, .int .u64 0, .int .i64 0]) tyDec rfl) rfl rfl) (.tmp rfl) (fun w h => ⟨by rw [valD_no (fun h => h.2.2.2.2 ⟨rfl, hz0⟩)]; rfl, h.up.below⟩) rfl
        · skip
          have hXl : ((D).drop i).length ≤ 9223372036854775807 := by rw [List.length_drop]; omega
          have hXz : valR ((D).drop i) = 0 ↔ nv (D ++ []) = 0 := by rw [valR_zero hX, ← plain_zero hX, hi.2]; simp
          have hz : ¬ (true = true ∧ nv (D ++ []) = 0) := fun h => hz0 h.2
          obtain ⟨ra, rs, re, hr⟩ := decR_form (if true then -(valR ((D).drop i) : Int) else (valR ((D).drop i) : Int)) 0
          have hok : okD true D [] false := ⟨hpl, hq0, hqa, hq18, hz⟩
          have hval : valD true D [] false = .tuple #[Dc ra rs, .int .i64 re] := by rw [valD, if_pos hok, ← hr, decR_val hX, hi.2]; simp
          refine d_reg ?_
          refine h_q hfl rfl ?_
          refine h_call (ent_of Tryz.func45 (by kernel_rfl) rfl) (fun w hH => digY _ ((D).drop i) hXl hX) rfl rfl rfl rfl ?_
          refine h_q hfl rfl ?_
          refine h_alloc zeDig rfl rfl ?_; intro g13_7
          refine h_store 0 (v := .agg (digs (valR ((D).drop i)))) (digs (valR ((D).drop i))) tyDigits.2 (digs_size _) (ble_size (digs_size _)) (digs_oneL _) (over_all (c := digs 0) (v := digs (valR ((D).drop i))) (((digs_size _) : (digs 0).size = 16).trans ((digs_size _) : (digs (valR ((D).drop i))).size = 16).symm)) rfl rfl rfl rfl rfl rfl ?_
          refine h_q hfl rfl ?_
          refine h_done (d_seq (d_reg ?_))
          refine h_q hfl rfl ?_
          refine h_load 0 (v := .agg (digs (valR ((D).drop i)))) (reads_all (tyDigC _)) rfl rfl rfl rfl ?_
          refine h_call (ent_of Tryz.func46 (by kernel_rfl) rfl) (fun w hH => zeroB _ (valR ((D).drop i)) false (Nat.lt_of_lt_of_le (valR_lt hX) (BP_le (by decide))) (decide_eq_false fun e => hz0 (hXz.1 e))) rfl rfl rfl rfl ?_
          refine h_q hfl rfl ?_
          refine h_done (d_else rfl (d_skip (f_to (d_reg ?_))))
          refine h_q hfl rfl ?_
          refine h_load 0 (v := .agg (digs (valR ((D).drop i)))) (reads_all (tyDigC _)) rfl rfl rfl rfl ?_
          refine h_build (cs := bigs true (valR ((D).drop i))) (built_big _ _) rfl rfl rfl ?_
          refine h_q hfl rfl ?_
          refine h_call (ent_of Tryz.func47 (by kernel_rfl) rfl) (fun w hH => rdecT _ (valR_lt hX) (fun e => hz ⟨rfl, hXz.1 e⟩) hr) rfl rfl rfl rfl ?_
          refine h_q hfl rfl ?_
          refine h_store 2 (v := Dc ra rs) (#[hiW ra, loW ra, .int .i64 rs]) tyDec.2 rfl rfl rfl rfl rfl rfl rfl rfl rfl rfl ?_
          refine h_q hfl rfl ?_
          refine h_done (d_ret ?_)
          exact f_fin2 (.cell 2 (v := .agg #[hiW ra, loW ra, .int .i64 rs]) (reads_agg (cs := [hiW ra, loW ra, .int .i64 rs]) tyDec rfl) rfl rfl) (.tmp rfl) (fun w h => ⟨by rw [hval]; rfl, h.up.below⟩) rfl
  · skip
    obtain ⟨i, rfl⟩ : ∃ i : Nat, z = (i : Int) := ⟨z.toNat, by omega⟩
    obtain ⟨ch, hch⟩ : ∃ ch, D[i]? = some ch := ⟨_, List.getElem?_eq_getElem (by omega)⟩
    refine d_reg ?_
    refine h_q hfl rfl ?_
    refine h_cmp (cmp_geq_t (by omega)) rfl rfl rfl rfl ?_
    refine h_done (d_then rfl (d_skip (f_to (d_seq (d_block (d_reg ?_))))))
    refine h_q hfl rfl ?_
    refine h_val rfl (.int .u8 (ch.toNat : Int)) (fun b w hb hH => by exact exec_index (i := (i)) Tryz.underlying9 hch rfl rfl rfl hb) ?_
    refine h_cmp (cmp_eql_f (byte46 (hp46 ch (List.mem_of_getElem? hch)))) rfl rfl rfl rfl ?_
    refine h_done (d_else rfl (d_skip (f_block (f_to (d_reg1 ?_)))))
    refine h_q hfl rfl ?_
    refine h_ar (z' := (i : Int) - 1) (IntWalk.i64_in _ (by omega)) rfl rfl rfl rfl rfl ?_
    refine h_q hfl rfl ?_
    refine h_nil ?_
    exact f_again ((i : Int) - 1) 0 ⟨by omega, by omega⟩ (by omega) ⟨rfl, rfl, rfl, rfl, rfl, rfl, trivial⟩ rfl

theorem rpd_tt (w : World) (D p q : List UInt8) (hp46 : ∀ b ∈ p, b ≠ 46) (hD : D = p ++ 46 :: q) (hlen : (45 :: D).length ≤ 9223372036854775807) : Calls Tryz.prog 19 #[.string (bs (45 :: D))] w fun e w' => e = .returned (valD true p q true) ∧ Below w.heap.size w w' := by
  have hlD : D.length + 1 ≤ 9223372036854775807 := by simpa using hlen
  have hDp : D.length = p.length + (q.length + 1) := by rw [hD]; simp
  refine d_in (args := [.string (bs (45 :: D))]) 124 Tryz.func19 rfl rfl rfl ?_
  refine d_reg ?_
  refine h_alloc zeDec rfl rfl ?_; intro g2_1
  refine h_q hfl rfl ?_
  refine h_done (d_reg ?_)
  refine h_q hfl rfl ?_
  refine h_builtin (v := .int .i64 ((45 :: D).length : Int)) (fun w cs => run_len_bs Tryz.underlying9 _ _ w cs) rfl rfl rfl ?_
  refine h_cmp (cmp_gtr_t (by simp only [List.length_cons]; omega)) rfl rfl rfl rfl ?_
  refine h_q hfl rfl ?_
  refine h_val rfl (.int .u8 ((45 : UInt8).toNat : Int)) (fun b w hb hH => by exact exec_index (i := 0) Tryz.underlying9 rfl rfl rfl rfl hb) ?_
  refine h_cmp (cmp_eql_t (by decide)) rfl rfl rfl rfl ?_
  refine h_q hfl rfl ?_
  refine h_done (d_seq (d_reg ?_))
  refine h_q hfl rfl ?_
  refine h_done (d_then rfl (d_reg1 ?_))
  refine h_q hfl rfl ?_
  refine h_cut (i := 1) (j := (45 :: D).length) (r := D) Tryz.underlying9 (by simp) (by simp) (Nat.le_refl _) rfl rfl rfl ⟨_, rfl⟩ rfl ?_
  refine h_q hfl rfl ?_
  refine h_nil (f_to (d_reg ?_))
  refine h_q hfl rfl ?_
  refine h_done (d_seq (d_reg ?_))
  refine h_q hfl rfl ?_
  refine h_builtin (v := .int .i64 (D.length : Int)) (fun w cs => run_len_bs Tryz.underlying9 _ _ w cs) rfl rfl rfl ?_
  refine h_ar (z' := (D.length : Int) - 1) (IntWalk.i64_in _ (by omega)) rfl rfl rfl rfl rfl ?_
  refine h_q hfl rfl ?_
  refine h_done (d_block ?_)
  refine d_loop (α := Int × Int) (fun (z, a) => [(2, .pointer (some ⟨g2_1, 0, none⟩)), (3, .int .i64 0), (4, .bool true), (0, .string (bs D)), (5, .int .i64 a), (6, .int .i64 z)]) (fun (z, a) => [(g2_1, 26, #[.int .i64 0, .int .u64 0, .int .i64 0])]) (fun (z, a) => -1 ≤ z ∧ z < (D.length : Int) ∧ (z < (p.length : Int) → a = (p.length : Int))) (fun (z, a) => (z + 1).toNat) ((D.length : Int) - 1, -1) ⟨by omega, by omega, fun h => by omega⟩ ⟨rfl, rfl, rfl, rfl, rfl, rfl, trivial⟩ rfl ?_
  rintro ⟨z, a⟩ ⟨hz1, hz2, hz3⟩
  refine WC2.at_ (env' := [(2, .pointer (some ⟨g2_1, 0, none⟩)), (3, .int .i64 0), (4, .bool true), (0, .string (bs D)), (5, .int .i64 a), (6, .int .i64 z)]) (rs' := [(g2_1, 26, #[.int .i64 0, .int .u64 0, .int .i64 0])]) ⟨rfl, rfl, rfl, rfl, rfl, rfl, trivial⟩ rfl ?_
  refine d_seq ?_
  rcases left_step z 0 with hzz | hzz
  · skip
    obtain rfl : a = (p.length : Int) := hz3 (by omega)
    refine d_reg ?_
    refine h_q hfl rfl ?_
    refine h_cmp (cmp_geq_f (by omega)) rfl rfl rfl rfl ?_
    refine h_done (d_else rfl (d_exit (f_then_exit (f_then_exit (f_block_exit (f_to (d_reg ?_)))))))
    refine h_q hfl rfl ?_
    refine h_done (d_reg ?_)
    refine h_q hfl rfl ?_
    refine h_done (d_seq (d_reg ?_))
    refine h_q hfl rfl ?_
    refine h_cmp (cmp_geq_t (by omega)) rfl rfl rfl rfl ?_
    refine h_done (d_then rfl (d_reg ?_))
    refine h_q hfl rfl ?_
    refine h_cut (i := 0) (j := p.length) (r := p) Tryz.underlying9 (by rw [hD]; simp) (by omega) (by omega) rfl rfl rfl rfl ⟨_, rfl⟩ ?_
    refine h_q hfl rfl ?_
    refine h_done (d_reg ?_)
    refine h_q hfl rfl ?_
    refine h_builtin (v := .int .i64 (D.length : Int)) (fun w cs => run_len_bs Tryz.underlying9 _ _ w cs) rfl rfl rfl ?_
    refine h_q hfl rfl ?_
    refine h_ar (z' := (D.length : Int) - (p.length : Int)) (IntWalk.i64_in _ (by omega)) rfl rfl rfl rfl rfl ?_
    refine h_ar (z' := (q.length : Int)) (by rw [IntWalk.i64_in _ (by omega)]; omega) rfl rfl rfl rfl rfl ?_
    refine h_q hfl rfl ?_
    refine h_done ?_
    rcases (show q.length = 0 ∨ 18 < q.length ∨ (0 < q.length ∧ q.length ≤ 18) by omega) with hq | hq | ⟨hq, hq18⟩
    · skip
      refine d_reg ?_
      refine h_q hfl rfl ?_
      refine h_cmp (cmp_eql_t (by omega)) rfl rfl rfl rfl ?_
      refine h_q hfl rfl ?_
      refine h_done (d_then rfl (d_reg ?_))
      refine h_build (cs := #[.int .i64 0, .int .u64 0, .int .i64 0]) (by kernel_rfl) rfl rfl rfl ?_
      refine h_store 0 (v := .agg #[.int .i64 0, .int .u64 0, .int .i64 0]) (#[.int .i64 0, .int .u64 0, .int .i64 0]) tyDec.2 rfl rfl rfl rfl rfl rfl rfl rfl rfl rfl ?_
      refine h_q hfl rfl ?_
      refine h_done (d_ret (f_then_ret ?_))
      exact f_fin2 (.cell 0 (v := .agg #[.int .i64 0, .int .u64 0, .int .i64 0]) (reads_agg (cs := [.int .i64 0, .int .u64 0, .int .i64 0]) tyDec rfl) rfl rfl) (.tmp rfl) (fun w h => ⟨by rw [valD_no (fun h => h.2.1 rfl (List.eq_nil_of_length_eq_zero hq))]; rfl, h.up.below⟩) rfl
    · skip
      refine d_reg ?_
      refine h_q hfl rfl ?_
      refine h_cmp (cmp_eql_f (by omega)) rfl rfl rfl rfl ?_
      refine h_q hfl rfl ?_
      refine h_cmp (cmp_gtr_t (by omega)) rfl rfl rfl rfl ?_
      refine h_q hfl rfl ?_
      refine h_done (d_then rfl (d_reg ?_))
      refine h_build (cs := #[.int .i64 0, .int .u64 0, .int .i64 0]) (by kernel_rfl) rfl rfl rfl ?_
      refine h_store 0 (v := .agg #[.int .i64 0, .int .u64 0, .int .i64 0]) (#[.int .i64 0, .int .u64 0, .int .i64 0]) tyDec.2 rfl rfl rfl rfl rfl rfl rfl rfl rfl rfl ?_
      refine h_q hfl rfl ?_
      refine h_done (d_ret (f_then_ret ?_))
      exact f_fin2 (.cell 0 (v := .agg #[.int .i64 0, .int .u64 0, .int .i64 0]) (reads_agg (cs := [.int .i64 0, .int .u64 0, .int .i64 0]) tyDec rfl) rfl rfl) (.tmp rfl) (fun w h => ⟨by rw [valD_no (fun h => absurd h.2.2.2.1 (by omega))]; rfl, h.up.below⟩) rfl
    · skip
      have hq0 : true = true → q ≠ [] := fun _ e => by rw [e] at hq; simp at hq
      refine d_reg ?_
      refine h_q hfl rfl ?_
      refine h_cmp (cmp_eql_f (by omega)) rfl rfl rfl rfl ?_
      refine h_q hfl rfl ?_
      refine h_cmp (cmp_gtr_f (by omega)) rfl rfl rfl rfl ?_
      refine h_q hfl rfl ?_
      refine h_done (d_else rfl (d_skip (f_to ?_)))
      by_cases hpl : plainN p; rotate_left
      · skip
        refine d_reg ?_
        refine h_q hfl rfl ?_
        refine h_call (ent_of Tryz.func45 (by kernel_rfl) rfl) (fun w hH => digN _ p (by omega) hpl) rfl rfl rfl rfl ?_
        refine h_q hfl rfl ?_
        refine h_alloc zeDig rfl rfl ?_; intro g9_2
        refine h_store 0 (v := .agg (digs 0)) (digs 0) tyDigits.2 (digs_size _) (ble_size (digs_size _)) (digs_oneL _) (over_all (c := digs 0) (v := digs 0) (((digs_size _) : (digs 0).size = 16).trans ((digs_size _) : (digs 0).size = 16).symm)) rfl rfl rfl rfl rfl rfl ?_
        refine h_q hfl rfl ?_
        refine h_done (d_seq (d_reg ?_))
        refine h_q hfl rfl ?_
        refine h_done (d_then rfl (d_reg ?_))
        refine h_build (cs := #[.int .i64 0, .int .u64 0, .int .i64 0]) (by kernel_rfl) rfl rfl rfl ?_
        refine h_store 1 (v := .agg #[.int .i64 0, .int .u64 0, .int .i64 0]) (#[.int .i64 0, .int .u64 0, .int .i64 0]) tyDec.2 rfl rfl rfl rfl rfl rfl rfl rfl rfl rfl ?_
        refine h_q hfl rfl ?_
        refine h_done (d_ret (f_then_ret ?_))
        exact f_fin2 (.cell 1 (v := .agg #[.int .i64 0, .int .u64 0, .int .i64 0]) (reads_agg (cs := [.int .i64 0, .int .u64 0, .int .i64 0]) tyDec rfl) rfl rfl) (.tmp rfl) (fun w h => ⟨by rw [valD_no (fun h => hpl h.1)]; rfl, h.up.below⟩) rfl
      · skip
        refine d_reg ?_
        refine h_q hfl rfl ?_
        refine h_call (ent_of Tryz.func45 (by kernel_rfl) rfl) (fun w hH => digY _ p (by omega) hpl) rfl rfl rfl rfl ?_
        refine h_q hfl rfl ?_
        refine h_alloc zeDig rfl rfl ?_; intro g9_3
        refine h_store 0 (v := .agg (digs (valR p))) (digs (valR p)) tyDigits.2 (digs_size _) (ble_size (digs_size _)) (digs_oneL _) (over_all (c := digs 0) (v := digs (valR p)) (((digs_size _) : (digs 0).size = 16).trans ((digs_size _) : (digs (valR p)).size = 16).symm)) rfl rfl rfl rfl rfl rfl ?_
        refine h_q hfl rfl ?_
        refine h_done (d_seq (d_reg ?_))
        refine h_q hfl rfl ?_
        refine h_done (d_else rfl (d_skip (f_to (d_seq (d_reg ?_)))))
        refine h_q hfl rfl ?_
        refine h_ar (z' := ((p.length + 1 + 0 : Nat) : Int)) (by rw [IntWalk.i64_in _ (by omega)]; omega) rfl rfl rfl rfl rfl ?_
        refine h_q hfl rfl ?_
        refine h_done (d_block ?_)
        refine d_loop (α := Nat) (fun j => [(2, .pointer (some ⟨g2_1, 0, none⟩)), (3, .int .i64 0), (4, .bool true), (0, .string (bs D)), (5, .int .i64 (p.length : Int)), (7, .string (bs p)), (8, .int .i64 (q.length : Int)), (11, .int .i64 ((p.length + 1 + j : Nat) : Int))]) (fun j => [(g9_3, 71, digs (valR p)), (g2_1, 26, #[.int .i64 0, .int .u64 0, .int .i64 0])]) (fun j => j ≤ q.length ∧ allD (q.take j)) (fun j => q.length - j) 0 ⟨by omega, by simp [allD]⟩ ⟨rfl, rfl, rfl, rfl, rfl, rfl, rfl, rfl, trivial⟩ rfl ?_
        rintro j ⟨hj, ha⟩
        refine WC2.at_ (env' := [(2, .pointer (some ⟨g2_1, 0, none⟩)), (3, .int .i64 0), (4, .bool true), (0, .string (bs D)), (5, .int .i64 (p.length : Int)), (7, .string (bs p)), (8, .int .i64 (q.length : Int)), (11, .int .i64 ((p.length + 1 + j : Nat) : Int))]) (rs' := [(g9_3, 71, digs (valR p)), (g2_1, 26, #[.int .i64 0, .int .u64 0, .int .i64 0])]) ⟨rfl, rfl, rfl, rfl, rfl, rfl, rfl, rfl, trivial⟩ rfl ?_
        refine d_seq ?_
        by_cases hjl : j < q.length
        · skip
          obtain ⟨ch, hch⟩ : ∃ ch, q[j]? = some ch := ⟨_, List.getElem?_eq_getElem hjl⟩
          refine d_reg ?_
          refine h_q hfl rfl ?_
          refine h_cmp (cmp_geq_t (by omega)) rfl rfl rfl rfl ?_
          refine h_q hfl rfl ?_
          refine h_builtin (v := .int .i64 (D.length : Int)) (fun w cs => run_len_bs Tryz.underlying9 _ _ w cs) rfl rfl rfl ?_
          refine h_cmp (cmp_lss_t (by omega)) rfl rfl rfl rfl ?_
          refine h_q hfl rfl ?_
          refine h_done (d_then rfl (d_skip (f_to (d_seq (d_block ?_)))))
          rcases dig_ways ch with hw | hw | hw
          · skip
            refine d_reg ?_
            refine h_q hfl rfl ?_
            refine h_val rfl (.int .u8 (ch.toNat : Int)) (fun b w hb hH => by exact exec_index (i := (p.length + 1 + j)) Tryz.underlying9 (get_high hD hch) rfl rfl rfl hb) ?_
            refine h_cmp (cmp_lss_t (by omega)) rfl rfl rfl rfl ?_
            refine h_q hfl rfl ?_
            refine h_done (d_then rfl (d_reg ?_))
            refine h_build (cs := #[.int .i64 0, .int .u64 0, .int .i64 0]) (by kernel_rfl) rfl rfl rfl ?_
            refine h_store 1 (v := .agg #[.int .i64 0, .int .u64 0, .int .i64 0]) (#[.int .i64 0, .int .u64 0, .int .i64 0]) tyDec.2 rfl rfl rfl rfl rfl rfl rfl rfl rfl rfl ?_
            refine h_q hfl rfl ?_
            refine h_done (d_ret (f_block_ret (f_then_ret (f_then_ret (f_block_ret (f_then_ret ?_))))))
            exact f_fin2 (.cell 1 (v := .agg #[.int .i64 0, .int .u64 0, .int .i64 0]) (reads_agg (cs := [.int .i64 0, .int .u64 0, .int .i64 0]) tyDec rfl) rfl rfl) (.tmp rfl) (fun w h => ⟨by rw [valD_no (fun h => not_allD hch (by unfold isD; omega) h.2.2.1)]; rfl, h.up.below⟩) rfl
          · skip
            refine d_reg ?_
            refine h_q hfl rfl ?_
            refine h_val rfl (.int .u8 (ch.toNat : Int)) (fun b w hb hH => by exact exec_index (i := (p.length + 1 + j)) Tryz.underlying9 (get_high hD hch) rfl rfl rfl hb) ?_
            refine h_cmp (cmp_lss_f (by omega)) rfl rfl rfl rfl ?_
            refine h_q hfl rfl ?_
            refine h_val rfl (.int .u8 (ch.toNat : Int)) (fun b w hb hH => by exact exec_index (i := (p.length + 1 + j)) Tryz.underlying9 (get_high hD hch) rfl rfl rfl hb) ?_
            refine h_cmp (cmp_gtr_t (by omega)) rfl rfl rfl rfl ?_
            refine h_q hfl rfl ?_
            refine h_done (d_then rfl (d_reg ?_))
            refine h_build (cs := #[.int .i64 0, .int .u64 0, .int .i64 0]) (by kernel_rfl) rfl rfl rfl ?_
            refine h_store 1 (v := .agg #[.int .i64 0, .int .u64 0, .int .i64 0]) (#[.int .i64 0, .int .u64 0, .int .i64 0]) tyDec.2 rfl rfl rfl rfl rfl rfl rfl rfl rfl rfl ?_
            refine h_q hfl rfl ?_
            refine h_done (d_ret (f_block_ret (f_then_ret (f_then_ret (f_block_ret (f_then_ret ?_))))))
            exact f_fin2 (.cell 1 (v := .agg #[.int .i64 0, .int .u64 0, .int .i64 0]) (reads_agg (cs := [.int .i64 0, .int .u64 0, .int .i64 0]) tyDec rfl) rfl rfl) (.tmp rfl) (fun w h => ⟨by rw [valD_no (fun h => not_allD hch (by unfold isD; omega) h.2.2.1)]; rfl, h.up.below⟩) rfl
          · skip
            refine d_reg ?_
            refine h_q hfl rfl ?_
            refine h_val rfl (.int .u8 (ch.toNat : Int)) (fun b w hb hH => by exact exec_index (i := (p.length + 1 + j)) Tryz.underlying9 (get_high hD hch) rfl rfl rfl hb) ?_
            refine h_cmp (cmp_lss_f (by unfold isD at hw; omega)) rfl rfl rfl rfl ?_
            refine h_q hfl rfl ?_
            refine h_val rfl (.int .u8 (ch.toNat : Int)) (fun b w hb hH => by exact exec_index (i := (p.length + 1 + j)) Tryz.underlying9 (get_high hD hch) rfl rfl rfl hb) ?_
            refine h_cmp (cmp_gtr_f (by unfold isD at hw; omega)) rfl rfl rfl rfl ?_
            refine h_q hfl rfl ?_
            refine h_done (d_else rfl (d_skip (f_block (f_to (d_reg1 ?_)))))
            refine h_q hfl rfl ?_
            refine h_ar (z' := ((p.length + 1 + (j + 1) : Nat) : Int)) (by rw [IntWalk.i64_in _ (by omega)]; omega) rfl rfl rfl rfl rfl ?_
            refine h_q hfl rfl ?_
            refine h_nil ?_
            exact f_again (j + 1) 0 ⟨by omega, allD_step hch ha hw⟩ (by omega) ⟨rfl, rfl, rfl, rfl, rfl, rfl, rfl, rfl, trivial⟩ rfl
        · skip
          have hqa : allD q := take_all hjl ▸ ha
          have hall : allD (p ++ q) := allD_app.2 ⟨hpl.2.1, hqa⟩
          refine d_reg ?_
          refine h_q hfl rfl ?_
          refine h_cmp (cmp_geq_t (by omega)) rfl rfl rfl rfl ?_
          refine h_q hfl rfl ?_
          refine h_builtin (v := .int .i64 (D.length : Int)) (fun w cs => run_len_bs Tryz.underlying9 _ _ w cs) rfl rfl rfl ?_
          refine h_cmp (cmp_lss_f (by omega)) rfl rfl rfl rfl ?_
          refine h_q hfl rfl ?_
          refine h_done (d_else rfl (d_exit (f_then_exit (f_then_exit (f_block_exit (f_to (d_reg ?_)))))))
          refine h_q hfl rfl ?_
          refine h_done (d_seq (d_reg ?_))
          refine h_q hfl rfl ?_
          refine h_cmp (cmp_geq_t (by omega)) rfl rfl rfl rfl ?_
          refine h_done (d_then rfl (d_reg1 ?_))
          refine h_q hfl rfl ?_
          refine h_ar (z' := ((p.length + 1 : Nat) : Int)) (by rw [IntWalk.i64_in _ (by omega)]; omega) rfl rfl rfl rfl rfl ?_
          refine h_cut (i := (p.length + 1)) (j := D.length) (r := q) Tryz.underlying9 (by rw [List.take_length, hD]; simp [List.drop_append]) (by omega) (Nat.le_refl _) rfl rfl rfl ⟨_, rfl⟩ rfl ?_
          refine h_cat (r := p ++ q) rfl (by omega) rfl rfl rfl rfl ?_
          refine h_q hfl rfl ?_
          refine h_nil (f_to (d_seq (d_block ?_)))
          refine d_loop (α := Nat) (fun i => [(2, .pointer (some ⟨g2_1, 0, none⟩)), (3, .int .i64 0), (4, .bool true), (8, .int .i64 (q.length : Int)), (12, .string (bs ((p ++ q).drop i)))]) (fun i => [(g9_3, 71, digs (valR p)), (g2_1, 26, #[.int .i64 0, .int .u64 0, .int .i64 0])]) (fun i => trI (p ++ q) i) (fun i => (p ++ q).length - i) 0 ⟨by have := List.length_pos_iff.2 hpl.1; simp only [List.length_append]; omega, rfl⟩ ⟨rfl, rfl, rfl, rfl, rfl, trivial⟩ rfl ?_
          rintro i hi
          refine WC2.at_ (env' := [(2, .pointer (some ⟨g2_1, 0, none⟩)), (3, .int .i64 0), (4, .bool true), (8, .int .i64 (q.length : Int)), (12, .string (bs ((p ++ q).drop i)))]) (rs' := [(g9_3, 71, digs (valR p)), (g2_1, 26, #[.int .i64 0, .int .u64 0, .int .i64 0])]) ⟨rfl, rfl, rfl, rfl, rfl, trivial⟩ rfl ?_
          refine d_seq ?_
          rcases tr_ways hi hall with ⟨hl, ch, hch, hc⟩ | ⟨hX, hl, ch, hch, hc⟩ | ⟨hX, hl⟩
          · skip
            refine d_reg ?_
            refine h_q hfl rfl ?_
            refine h_builtin (v := .int .i64 (((p ++ q).drop i).length : Int)) (fun w cs => run_len_bs Tryz.underlying9 _ _ w cs) rfl rfl rfl ?_
            refine h_cmp (cmp_gtr_t (by omega)) rfl rfl rfl rfl ?_
            refine h_q hfl rfl ?_
            refine h_val rfl (.int .u8 (ch.toNat : Int)) (fun b w hb hH => by exact exec_index (i := 0) Tryz.underlying9 (drop_get (p ++ q) i hch) rfl rfl rfl hb) ?_
            refine h_cmp (cmp_eql_t (by omega)) rfl rfl rfl rfl ?_
            refine h_q hfl rfl ?_
            refine h_done (d_then rfl (d_skip (f_to (d_block (d_reg1 ?_)))))
            refine h_q hfl rfl ?_
            refine h_cut (i := 1) (j := ((p ++ q).drop i).length) (r := (p ++ q).drop (i + 1)) Tryz.underlying9 (by rw [List.take_length, List.drop_drop]) (by omega) (Nat.le_refl _) rfl rfl rfl ⟨_, rfl⟩ rfl ?_
            refine h_q hfl rfl ?_
            refine h_nil (f_block ?_)
            exact f_again (i + 1) 0 (trI_step hi hch hc hl) (by have := hi.1; omega) ⟨rfl, rfl, rfl, rfl, rfl, trivial⟩ rfl
          · skip
            refine d_reg ?_
            refine h_q hfl rfl ?_
            refine h_builtin (v := .int .i64 (((p ++ q).drop i).length : Int)) (fun w cs => run_len_bs Tryz.underlying9 _ _ w cs) rfl rfl rfl ?_
            refine h_cmp (cmp_gtr_t (by omega)) rfl rfl rfl rfl ?_
            refine h_q hfl rfl ?_
            refine h_val rfl (.int .u8 (ch.toNat : Int)) (fun b w hb hH => by exact exec_index (i := 0) Tryz.underlying9 (drop_get (p ++ q) i hch) rfl rfl rfl hb) ?_
            refine h_cmp (cmp_eql_f (by omega)) rfl rfl rfl rfl ?_
            refine h_q hfl rfl ?_
            refine h_done (d_else rfl (d_exit (f_then_exit (f_then_exit (f_block_exit (f_to ?_))))))
            by_cases hz0 : nv (p ++ q) = 0
            · skip
              have hXl : ((p ++ q).drop i).length ≤ 9223372036854775807 := by rw [List.length_drop, List.length_append]; omega
              have hXz : valR ((p ++ q).drop i) = 0 ↔ nv (p ++ q) = 0 := by rw [valR_zero hX, ← plain_zero hX, hi.2]
              refine d_reg ?_
              refine h_q hfl rfl ?_
              refine h_call (ent_of Tryz.func45 (by kernel_rfl) rfl) (fun w hH => digY _ ((p ++ q).drop i) hXl hX) rfl rfl rfl rfl ?_
              refine h_q hfl rfl ?_
              refine h_alloc zeDig rfl rfl ?_; intro g13_4
              refine h_store 0 (v := .agg (digs (valR ((p ++ q).drop i)))) (digs (valR ((p ++ q).drop i))) tyDigits.2 (digs_size _) (ble_size (digs_size _)) (digs_oneL _) (over_all (c := digs 0) (v := digs (valR ((p ++ q).drop i))) (((digs_size _) : (digs 0).size = 16).trans ((digs_size _) : (digs (valR ((p ++ q).drop i))).size = 16).symm)) rfl rfl rfl rfl rfl rfl ?_
              refine h_q hfl rfl ?_
              refine h_done (d_seq (d_reg ?_))
              refine h_q hfl rfl ?_
              refine h_load 0 (v := .agg (digs (valR ((p ++ q).drop i)))) (reads_all (tyDigC _)) rfl rfl rfl rfl ?_
              refine h_call (ent_of Tryz.func46 (by kernel_rfl) rfl) (fun w hH => zeroB _ (valR ((p ++ q).drop i)) true (Nat.lt_of_lt_of_le (valR_lt hX) (BP_le (by decide))) (decide_eq_true (hXz.2 hz0))) rfl rfl rfl rfl ?_
              refine h_q hfl rfl ?_
              refine h_done (d_then rfl (d_reg ?_))
              refine h_build (cs := #[.int .i64 0, .int .u64 0, .int .i64 0]) (by kernel_rfl) rfl rfl rfl ?_
              refine h_store 2 (v := .agg #[.int .i64 0, .int .u64 0, .int .i64 0]) (#[.int .i64 0, .int .u64 0, .int .i64 0]) tyDec.2 rfl rfl rfl rfl rfl rfl rfl rfl rfl rfl ?_
              refine h_q hfl rfl ?_
              refine h_done (d_ret (f_then_ret ?_))
              exact f_fin2 (.cell 2 (v := .agg #[.int .i64 0, .int .u64 0, .int .i64 0]) (reads_agg (cs := [.int .i64 0, .int .u64 0, .int .i64 0]) tyDec rfl) rfl rfl) (.tmp rfl) (fun w h => ⟨by rw [valD_no (fun h => h.2.2.2.2 ⟨rfl, hz0⟩)]; rfl, h.up.below⟩) rfl
            · skip
              have hXl : ((p ++ q).drop i).length ≤ 9223372036854775807 := by rw [List.length_drop, List.length_append]; omega
              have hXz : valR ((p ++ q).drop i) = 0 ↔ nv (p ++ q) = 0 := by rw [valR_zero hX, ← plain_zero hX, hi.2]
              have hz : ¬ (true = true ∧ nv (p ++ q) = 0) := fun h => hz0 h.2
              obtain ⟨ra, rs, re, hr⟩ := decR_form (if true then -(valR ((p ++ q).drop i) : Int) else (valR ((p ++ q).drop i) : Int)) (q.length : Int)
              have hok : okD true p q true := ⟨hpl, hq0, hqa, hq18, hz⟩
              have hval : valD true p q true = .tuple #[Dc ra rs, .int .i64 re] := by rw [valD, if_pos hok, ← hr, decR_val hX, hi.2]
              refine d_reg ?_
              refine h_q hfl rfl ?_
              refine h_call (ent_of Tryz.func45 (by kernel_rfl) rfl) (fun w hH => digY _ ((p ++ q).drop i) hXl hX) rfl rfl rfl rfl ?_
              refine h_q hfl rfl ?_
              refine h_alloc zeDig rfl rfl ?_; intro g13_5
              refine h_store 0 (v := .agg (digs (valR ((p ++ q).drop i)))) (digs (valR ((p ++ q).drop i))) tyDigits.2 (digs_size _) (ble_size (digs_size _)) (digs_oneL _) (over_all (c := digs 0) (v := digs (valR ((p ++ q).drop i))) (((digs_size _) : (digs 0).size = 16).trans ((digs_size _) : (digs (valR ((p ++ q).drop i))).size = 16).symm)) rfl rfl rfl rfl rfl rfl ?_
              refine h_q hfl rfl ?_
              refine h_done (d_seq (d_reg ?_))
              refine h_q hfl rfl ?_
              refine h_load 0 (v := .agg (digs (valR ((p ++ q).drop i)))) (reads_all (tyDigC _)) rfl rfl rfl rfl ?_
              refine h_call (ent_of Tryz.func46 (by kernel_rfl) rfl) (fun w hH => zeroB _ (valR ((p ++ q).drop i)) false (Nat.lt_of_lt_of_le (valR_lt hX) (BP_le (by decide))) (decide_eq_false fun e => hz0 (hXz.1 e))) rfl rfl rfl rfl ?_
              refine h_q hfl rfl ?_
              refine h_done (d_else rfl (d_skip (f_to (d_reg ?_))))
              refine h_q hfl rfl ?_
              refine h_load 0 (v := .agg (digs (valR ((p ++ q).drop i)))) (reads_all (tyDigC _)) rfl rfl rfl rfl ?_
              refine h_build (cs := bigs true (valR ((p ++ q).drop i))) (built_big _ _) rfl rfl rfl ?_
              refine h_q hfl rfl ?_
              refine h_call (ent_of Tryz.func47 (by kernel_rfl) rfl) (fun w hH => rdecT _ (valR_lt hX) (fun e => hz ⟨rfl, hXz.1 e⟩) hr) rfl rfl rfl rfl ?_
              refine h_q hfl rfl ?_
              refine h_store 2 (v := Dc ra rs) (#[hiW ra, loW ra, .int .i64 rs]) tyDec.2 rfl rfl rfl rfl rfl rfl rfl rfl rfl rfl ?_
              refine h_q hfl rfl ?_
              refine h_done (d_ret ?_)
              exact f_fin2 (.cell 2 (v := .agg #[hiW ra, loW ra, .int .i64 rs]) (reads_agg (cs := [hiW ra, loW ra, .int .i64 rs]) tyDec rfl) rfl rfl) (.tmp rfl) (fun w h => ⟨by rw [hval]; rfl, h.up.below⟩) rfl
          · skip
            refine d_reg ?_
            refine h_q hfl rfl ?_
            refine h_builtin (v := .int .i64 (((p ++ q).drop i).length : Int)) (fun w cs => run_len_bs Tryz.underlying9 _ _ w cs) rfl rfl rfl ?_
            refine h_cmp (cmp_gtr_f (by omega)) rfl rfl rfl rfl ?_
            refine h_q hfl rfl ?_
            refine h_done (d_else rfl (d_exit (f_then_exit (f_then_exit (f_block_exit (f_to ?_))))))
            by_cases hz0 : nv (p ++ q) = 0
            · skip
              have hXl : ((p ++ q).drop i).length ≤ 9223372036854775807 := by rw [List.length_drop, List.length_append]; omega
              have hXz : valR ((p ++ q).drop i) = 0 ↔ nv (p ++ q) = 0 := by rw [valR_zero hX, ← plain_zero hX, hi.2]
              refine d_reg ?_
              refine h_q hfl rfl ?_
              refine h_call (ent_of Tryz.func45 (by kernel_rfl) rfl) (fun w hH => digY _ ((p ++ q).drop i) hXl hX) rfl rfl rfl rfl ?_
              refine h_q hfl rfl ?_
              refine h_alloc zeDig rfl rfl ?_; intro g13_6
              refine h_store 0 (v := .agg (digs (valR ((p ++ q).drop i)))) (digs (valR ((p ++ q).drop i))) tyDigits.2 (digs_size _) (ble_size (digs_size _)) (digs_oneL _) (over_all (c := digs 0) (v := digs (valR ((p ++ q).drop i))) (((digs_size _) : (digs 0).size = 16).trans ((digs_size _) : (digs (valR ((p ++ q).drop i))).size = 16).symm)) rfl rfl rfl rfl rfl rfl ?_
              refine h_q hfl rfl ?_
              refine h_done (d_seq (d_reg ?_))
              refine h_q hfl rfl ?_
              refine h_load 0 (v := .agg (digs (valR ((p ++ q).drop i)))) (reads_all (tyDigC _)) rfl rfl rfl rfl ?_
              refine h_call (ent_of Tryz.func46 (by kernel_rfl) rfl) (fun w hH => zeroB _ (valR ((p ++ q).drop i)) true (Nat.lt_of_lt_of_le (valR_lt hX) (BP_le (by decide))) (decide_eq_true (hXz.2 hz0))) rfl rfl rfl rfl ?_
              refine h_q hfl rfl ?_
              refine h_done (d_then rfl (d_reg ?_))
              refine h_build (cs := #[.int .i64 0, .int .u64 0, .int .i64 0]) (by kernel_rfl) rfl rfl rfl ?_
              refine h_store 2 (v := .agg #[.int .i64 0, .int .u64 0, .int .i64 0]) (#[.int .i64 0, .int .u64 0, .int .i64 0]) tyDec.2 rfl rfl rfl rfl rfl rfl rfl rfl rfl rfl ?_
              refine h_q hfl rfl ?_
              refine h_done (d_ret (f_then_ret ?_))
              exact f_fin2 (.cell 2 (v := .agg #[.int .i64 0, .int .u64 0, .int .i64 0]) (reads_agg (cs := [.int .i64 0, .int .u64 0, .int .i64 0]) tyDec rfl) rfl rfl) (.tmp rfl) (fun w h => ⟨by rw [valD_no (fun h => h.2.2.2.2 ⟨rfl, hz0⟩)]; rfl, h.up.below⟩) rfl
            · skip
              have hXl : ((p ++ q).drop i).length ≤ 9223372036854775807 := by rw [List.length_drop, List.length_append]; omega
              have hXz : valR ((p ++ q).drop i) = 0 ↔ nv (p ++ q) = 0 := by rw [valR_zero hX, ← plain_zero hX, hi.2]
              have hz : ¬ (true = true ∧ nv (p ++ q) = 0) := fun h => hz0 h.2
              obtain ⟨ra, rs, re, hr⟩ := decR_form (if true then -(valR ((p ++ q).drop i) : Int) else (valR ((p ++ q).drop i) : Int)) (q.length : Int)
              have hok : okD true p q true := ⟨hpl, hq0, hqa, hq18, hz⟩
              have hval : valD true p q true = .tuple #[Dc ra rs, .int .i64 re] := by rw [valD, if_pos hok, ← hr, decR_val hX, hi.2]
              refine d_reg ?_
              refine h_q hfl rfl ?_
              refine h_call (ent_of Tryz.func45 (by kernel_rfl) rfl) (fun w hH => digY _ ((p ++ q).drop i) hXl hX) rfl rfl rfl rfl ?_
              refine h_q hfl rfl ?_
              refine h_alloc zeDig rfl rfl ?_; intro g13_7
              refine h_store 0 (v := .agg (digs (valR ((p ++ q).drop i)))) (digs (valR ((p ++ q).drop i))) tyDigits.2 (digs_size _) (ble_size (digs_size _)) (digs_oneL _) (over_all (c := digs 0) (v := digs (valR ((p ++ q).drop i))) (((digs_size _) : (digs 0).size = 16).trans ((digs_size _) : (digs (valR ((p ++ q).drop i))).size = 16).symm)) rfl rfl rfl rfl rfl rfl ?_
              refine h_q hfl rfl ?_
              refine h_done (d_seq (d_reg ?_))
              refine h_q hfl rfl ?_
              refine h_load 0 (v := .agg (digs (valR ((p ++ q).drop i)))) (reads_all (tyDigC _)) rfl rfl rfl rfl ?_
              refine h_call (ent_of Tryz.func46 (by kernel_rfl) rfl) (fun w hH => zeroB _ (valR ((p ++ q).drop i)) false (Nat.lt_of_lt_of_le (valR_lt hX) (BP_le (by decide))) (decide_eq_false fun e => hz0 (hXz.1 e))) rfl rfl rfl rfl ?_
              refine h_q hfl rfl ?_
              refine h_done (d_else rfl (d_skip (f_to (d_reg ?_))))
              refine h_q hfl rfl ?_
              refine h_load 0 (v := .agg (digs (valR ((p ++ q).drop i)))) (reads_all (tyDigC _)) rfl rfl rfl rfl ?_
              refine h_build (cs := bigs true (valR ((p ++ q).drop i))) (built_big _ _) rfl rfl rfl ?_
              refine h_q hfl rfl ?_
              refine h_call (ent_of Tryz.func47 (by kernel_rfl) rfl) (fun w hH => rdecT _ (valR_lt hX) (fun e => hz ⟨rfl, hXz.1 e⟩) hr) rfl rfl rfl rfl ?_
              refine h_q hfl rfl ?_
              refine h_store 2 (v := Dc ra rs) (#[hiW ra, loW ra, .int .i64 rs]) tyDec.2 rfl rfl rfl rfl rfl rfl rfl rfl rfl rfl ?_
              refine h_q hfl rfl ?_
              refine h_done (d_ret ?_)
              exact f_fin2 (.cell 2 (v := .agg #[hiW ra, loW ra, .int .i64 rs]) (reads_agg (cs := [hiW ra, loW ra, .int .i64 rs]) tyDec rfl) rfl rfl) (.tmp rfl) (fun w h => ⟨by rw [hval]; rfl, h.up.below⟩) rfl
  · skip
    obtain ⟨i, rfl⟩ : ∃ i : Nat, z = (i : Int) := ⟨z.toNat, by omega⟩
    obtain ⟨ch, hch⟩ : ∃ ch, D[i]? = some ch := ⟨_, List.getElem?_eq_getElem (by omega)⟩
    refine d_reg ?_
    refine h_q hfl rfl ?_
    refine h_cmp (cmp_geq_t (by omega)) rfl rfl rfl rfl ?_
    refine h_done (d_then rfl (d_skip (f_to (d_seq (d_block ?_)))))
    by_cases h46 : ch = 46
    · skip
      refine d_reg ?_
      refine h_q hfl rfl ?_
      refine h_val rfl (.int .u8 (ch.toNat : Int)) (fun b w hb hH => by exact exec_index (i := (i)) Tryz.underlying9 hch rfl rfl rfl hb) ?_
      refine h_cmp (cmp_eql_t (byte46' h46)) rfl rfl rfl rfl ?_
      refine h_done (d_then rfl (d_reg1 ?_))
      refine h_q hfl rfl ?_
      refine h_nil (f_block (f_to (d_reg1 ?_)))
      refine h_q hfl rfl ?_
      refine h_ar (z' := (i : Int) - 1) (IntWalk.i64_in _ (by omega)) rfl rfl rfl rfl rfl ?_
      refine h_q hfl rfl ?_
      refine h_nil ?_
      exact f_again ((i : Int) - 1, (i : Int)) 0 ⟨by omega, by omega, left_yes hD hch h46 hp46⟩ (by show ((i : Int) - 1 + 1).toNat < ((i : Int) + 1).toNat; omega) ⟨rfl, rfl, rfl, rfl, rfl, rfl, trivial⟩ rfl
    · skip
      refine d_reg ?_
      refine h_q hfl rfl ?_
      refine h_val rfl (.int .u8 (ch.toNat : Int)) (fun b w hb hH => by exact exec_index (i := (i)) Tryz.underlying9 hch rfl rfl rfl hb) ?_
      refine h_cmp (cmp_eql_f (byte46 h46)) rfl rfl rfl rfl ?_
      refine h_done (d_else rfl (d_skip (f_block (f_to (d_reg1 ?_)))))
      refine h_q hfl rfl ?_
      refine h_ar (z' := (i : Int) - 1) (IntWalk.i64_in _ (by omega)) rfl rfl rfl rfl rfl ?_
      refine h_q hfl rfl ?_
      refine h_nil ?_
      exact f_again ((i : Int) - 1, a) 0 ⟨by omega, by omega, left_no hD hch h46 hz3⟩ (by show ((i : Int) - 1 + 1).toNat < ((i : Int) + 1).toNat; omega) ⟨rfl, rfl, rfl, rfl, rfl, rfl, trivial⟩ rfl

theorem rparseD_any (w : World) (l D p q : List UInt8) (m pt : Bool) (hc : cutS l = (m, D)) (hcut : CutIs D p q pt) (hlen : l.length ≤ 9223372036854775807) : Calls Tryz.prog 19 #[.string (bs l)] w fun e w' => e = .returned (valD m p q pt) ∧ Below w.heap.size w w' := by
  obtain ⟨hp, h⟩ := hcut
  have hl := cut_back hc
  cases m with
  | true =>
    simp only [if_true] at hl
    subst hl
    rcases h with ⟨rfl, rfl, rfl⟩ | ⟨rfl, hD⟩
    · exact rpd_tf w D hp hlen
    · exact rpd_tt w D p q hp hD hlen
  | false =>
    simp only [Bool.false_eq_true, if_false] at hl
    subst hl
    have hh : ∀ c r, l = c :: r → c.toNat ≠ 45 := fun c r e he => by
      have : c = 45 := UInt8.toNat_inj.1 (by simpa using he)
      rw [e, this, cutS_minus] at hc
      cases hc
    rcases h with ⟨rfl, rfl, rfl⟩ | ⟨rfl, hD⟩
    · cases l with
      | nil => exact rpd_ffe w [] hp hlen rfl
      | cons c r => exact rpd_ffn w (c :: r) hp hlen c rfl (hh c r rfl)
    · cases l with
      | nil => cases p <;> cases hD
      | cons c r => exact rpd_ftn w (c :: r) p q hp hD hlen c rfl (hh c r rfl)
end Go.Proofs.YtmamedobphlpkaaGreatDoor
