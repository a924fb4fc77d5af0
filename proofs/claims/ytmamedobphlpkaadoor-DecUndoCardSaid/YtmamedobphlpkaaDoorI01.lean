/-
  Order3
-/
import Derived.Test.YtmamedobphlpkaaDoorG01
set_option linter.unusedSimpArgs false
set_option linter.unusedVariables false

namespace Go.Proofs.YtmamedobphlpkaaDoor
open Go.RowKit

theorem up_scale {c s M : Int} (h : s ≤ M) : roundZ c (s - M) = c * ((10 ^ (M - s).toNat : Nat) : Int) := by
  unfold roundZ
  rw [if_pos (by omega), show (-(s - M)).toNat = (M - s).toNat by omega]
theorem okP_fit {z s : Int} (h : Fits z) : okP z s = (z, s, 0) := by unfold okP; rw [rz_fit h, rE_fit h, show rs z s = s from if_pos h]
theorem okP_over {z s : Int} (h : ¬ Fits z) : okP z s = (0, 0, 20) := by unfold okP; rw [rz_over h, rE_over h, show rs z s = 0 from if_neg h]
theorem sumP_cases {f : Int → Int → Int} {c s d t : Int} (hs : May s) (ht : May t) : sumP f c s d t = (0, 0, 20) ∨
    (Fits (roundZ c (s - max s t)) ∧ Fits (roundZ d (t - max s t)) ∧ Fits (f (roundZ c (s - max s t)) (roundZ d (t - max s t))) ∧ sumP f c s d t = (f (roundZ c (s - max s t)) (roundZ d (t - max s t)), max s t, 0)) := by
  unfold sumP
  rw [if_pos ⟨hs, ht⟩]
  split
  · rename_i h
    by_cases hz : Fits (f (roundZ c (s - max s t)) (roundZ d (t - max s t)))
    · exact .inr ⟨h.1, h.2, hz, okP_fit hz⟩
    · exact .inl (okP_over hz)
  · exact .inl rfl
theorem sumP_fits {f : Int → Int → Int} {c s d t : Int} : Fits (sumP f c s d t).1 := by
  unfold sumP
  split
  · split
    · exact rz_fits _
    · exact (by decide : Fits 0)
  · exact (by decide : Fits 0)
theorem sum_comm (c s d t : Int) : sumP (· + ·) d t c s = sumP (· + ·) c s d t := by
  unfold sumP
  rw [show max t s = max s t by omega]
  by_cases h : May s ∧ May t
  · rw [if_pos h, if_pos ⟨h.2, h.1⟩]
    by_cases h2 : Fits (roundZ c (s - max s t)) ∧ Fits (roundZ d (t - max s t))
    · rw [if_pos h2, if_pos ⟨h2.2, h2.1⟩]
      show okP (roundZ d (t - max s t) + roundZ c (s - max s t)) _ = okP (roundZ c (s - max s t) + roundZ d (t - max s t)) _
      rw [Int.add_comm]
    · rw [if_neg h2, if_neg (fun h3 => h2 ⟨h3.2, h3.1⟩)]
  · rw [if_neg h, if_neg (fun h3 => h ⟨h3.2, h3.1⟩)]
theorem mul_comm3 (c s d t u : Int) : mulP d t c s u = mulP c s d t u := by
  unfold mulP
  rw [Int.mul_comm d c, Int.add_comm t s]
  by_cases h : May s ∧ May t ∧ May u
  · rw [if_pos h, if_pos ⟨h.2.1, h.1, h.2.2⟩]
  · rw [if_neg h, if_neg (fun h3 => h ⟨h3.2.1, h3.1, h3.2.2⟩)]
theorem round_back (c : Int) (n : Nat) : roundZ (c * ((10 ^ n : Nat) : Int)) n = c := by
  have hp : 0 < 10 ^ n := Nat.pow_pos (by decide)
  obtain ⟨h1, h2, _⟩ := roundN_near (c * ((10 ^ n : Nat) : Int)) n
  generalize roundZ (c * ((10 ^ n : Nat) : Int)) n = f at *
  generalize hP : ((10 ^ n : Nat) : Int) = P at *
  have hP0 : 1 ≤ P := by omega
  rw [show c * P - f * P = (c - f) * P from (Int.sub_mul c f P).symm] at h1 h2
  by_cases h : c - f = 0
  · omega
  · exfalso
    rcases Int.lt_or_gt_of_ne h with h | h
    · have : (c - f) * P ≤ -1 * P := Int.mul_le_mul_of_nonneg_right (by omega) (by omega)
      omega
    · have : 1 * P ≤ (c - f) * P := Int.mul_le_mul_of_nonneg_right (by omega) (by omega)
      omega
theorem cmp3_add (a b e : Int) : cmp3 (a + e) (b + e) = cmp3 a b := by
  unfold cmp3
  simp only [Int.add_lt_add_iff_right]
theorem cmp3_scale (a b : Int) {P : Int} (hP : 0 < P) : cmp3 (a * P) (b * P) = cmp3 a b := by
  rcases cmp3_cases a b with ⟨h, e⟩ | ⟨h, e⟩ | ⟨h, e⟩
  · rw [e, cmp3_lt (Int.mul_lt_mul_of_pos_right h hP)]
  · rw [e, cmp3_gt (Int.mul_lt_mul_of_pos_right h hP)]
  · subst h; rw [cmp3_eq, cmp3_eq]
theorem ten_add (a b : Nat) : ((10 ^ a : Nat) : Int) * ((10 ^ b : Nat) : Int) = ((10 ^ (a + b) : Nat) : Int) := by rw [Nat.pow_add, Int.natCast_mul]
theorem ten_pos3 (a : Nat) : 0 < ((10 ^ a : Nat) : Int) := by have : 0 < 10 ^ a := Nat.pow_pos (by decide); omega
/-- how two decimals compare, at any scale that holds both -/
theorem cmpD_at {c s d t M : Int} (hs : s ≤ M) (ht : t ≤ M) : cmpD c s d t = cmp3 (c * ((10 ^ (M - s).toNat : Nat) : Int)) (d * ((10 ^ (M - t).toNat : Nat) : Int)) := by
  unfold cmpD
  rw [← cmp3_scale _ _ (ten_pos3 (M - max s t).toNat), Int.mul_assoc, Int.mul_assoc, ten_add, ten_add,
    show (max s t - s).toNat + (M - max s t).toNat = (M - s).toNat by omega, show (max s t - t).toNat + (M - max s t).toNat = (M - t).toNat by omega]
theorem in_order {c s d t e q M1 M2 : Int} (hM1 : max s q = M1) (hM2 : max t q = M2) :
    cmpD c s d t = cmpD (roundZ c (s - M1) + roundZ e (q - M1)) M1 (roundZ d (t - M2) + roundZ e (q - M2)) M2 := by
  obtain ⟨M, hM⟩ : ∃ M, max M1 M2 = M := ⟨_, rfl⟩
  rw [up_scale (by omega), up_scale (by omega), up_scale (by omega), up_scale (by omega), cmpD_at (M := M) (by omega) (by omega), cmpD_at (M := M) (by omega) (by omega),
    Int.add_mul, Int.add_mul, Int.mul_assoc, Int.mul_assoc, Int.mul_assoc, Int.mul_assoc, ten_add, ten_add, ten_add, ten_add,
    show (M1 - s).toNat + (M - M1).toNat = (M - s).toNat by omega, show (M1 - q).toNat + (M - M1).toNat = (M - q).toNat by omega,
    show (M2 - t).toNat + (M - M2).toNat = (M - t).toNat by omega, show (M2 - q).toNat + (M - M2).toNat = (M - q).toNat by omega, cmp3_add]

theorem undo_ao (w : World) (c s d t u : Int) (hc : Fits c) (hd : Fits d) (hs : -9223372036854775808 ≤ s ∧ s < 9223372036854775808) (ht : -9223372036854775808 ≤ t ∧ t < 9223372036854775808) (hu : -9223372036854775808 ≤ u ∧ u < 9223372036854775808) {m n k : Int} (hm : s % 19 = m) (hn : t % 19 = n) (hk : u % (19 - m) = k) (hk0 : 0 ≤ k ∧ k ≤ 18 - m) {z A M : Int} (hM : max m n = M) (hz : Fits z) (hA : Fits A) (ha : sumP (· + ·) c m d n = (z, M, 0)) (hb : sumP (· - ·) z M d n = (A, M, 0)) (hcm : cmpP A M c m = (0, 0)) (hx : rescP c m (m + k) = (0, 0, 20)) (htab : Lib.TabIs Tryd.prog w "internal/strconv.uint64pow10" .u64 Lib.pow10Tab) (hg : 2 < w.heap.size) : Calls Tryd.prog 8 #[Dc c s, Dc d t, .int .i64 u] w fun e w' => e = .returned (.bool true) ∧ Below w.heap.size w w' := by
  have hm0 : 0 ≤ m ∧ m ≤ 18 := by omega
  refine d_in (args := [Dc c s, Dc d t, .int .i64 u]) 94 Tryd.func8 rfl rfl rfl ?_
  refine d_reg ?_
  refine h_box (cs := #[hiW c, loW c, .int .i64 s]) rfl rfl rfl rfl ?_; intro g3_1
  refine h_box (cs := #[hiW d, loW d, .int .i64 t]) rfl rfl rfl rfl ?_; intro g4_2
  refine h_q hfl rfl ?_
  refine h_done (d_reg ?_)
  refine h_load 1 (v := .agg #[hiW c, loW c, .int .i64 s]) (reads_agg (cs := [hiW c, loW c, .int .i64 s]) tyDec rfl) rfl rfl rfl rfl ?_
  refine h_call (ent_of Tryd.func10 (by kernel_rfl) rfl) (fun w hH => nearL _ hm hs) rfl rfl rfl rfl ?_
  refine h_store 1 (v := Dc c m) (#[hiW c, loW c, .int .i64 m]) tyDec.2 rfl rfl rfl rfl rfl rfl rfl rfl rfl rfl ?_
  refine h_done (d_reg ?_)
  refine h_load 0 (v := .agg #[hiW d, loW d, .int .i64 t]) (reads_agg (cs := [hiW d, loW d, .int .i64 t]) tyDec rfl) rfl rfl rfl rfl ?_
  refine h_call (ent_of Tryd.func10 (by kernel_rfl) rfl) (fun w hH => nearL _ hn ht) rfl rfl rfl rfl ?_
  refine h_store 0 (v := Dc d n) (#[hiW d, loW d, .int .i64 n]) tyDec.2 rfl rfl rfl rfl rfl rfl rfl rfl rfl rfl ?_
  refine h_done (d_seq (d_reg ?_))
  refine h_call (ent_of Tryd.func17 (by kernel_rfl) rfl) (fun w hH => known3_any _ (tab_below htab hH.up.below hg) (Nat.lt_of_lt_of_le hg hH.up.size)) rfl rfl rfl rfl ?_
  refine h_q hfl rfl ?_
  refine h_done (d_else rfl (d_skip (f_to (d_seq (d_reg ?_)))))
  refine h_load 1 (v := .agg #[hiW c, loW c, .int .i64 m]) (reads_agg (cs := [hiW c, loW c, .int .i64 m]) tyDec rfl) rfl rfl rfl rfl ?_
  refine h_load 0 (v := .agg #[hiW d, loW d, .int .i64 n]) (reads_agg (cs := [hiW d, loW d, .int .i64 n]) tyDec rfl) rfl rfl rfl rfl ?_
  refine h_call (ent_of Tryd.func11 (by kernel_rfl) rfl) (fun w hH => addF3 _ ha hc hd) rfl rfl rfl rfl ?_
  refine h_q hfl rfl ?_
  refine h_alloc zeDec rfl rfl ?_; intro g7_3
  refine h_store 0 (v := Dc z M) (#[hiW z, loW z, .int .i64 M]) tyDec.2 rfl rfl rfl rfl rfl rfl rfl rfl rfl rfl ?_
  refine h_q hfl rfl ?_
  refine h_done (d_reg ?_)
  refine h_q hfl rfl ?_
  refine h_cmp (cmp_eql_t (by decide)) rfl rfl rfl rfl ?_
  refine h_done (d_then rfl (d_reg ?_))
  refine h_load 0 (v := .agg #[hiW z, loW z, .int .i64 M]) (reads_agg (cs := [hiW z, loW z, .int .i64 M]) tyDec rfl) rfl rfl rfl rfl ?_
  refine h_load 1 (v := .agg #[hiW d, loW d, .int .i64 n]) (reads_agg (cs := [hiW d, loW d, .int .i64 n]) tyDec rfl) rfl rfl rfl rfl ?_
  refine h_call (ent_of Tryd.func13 (by kernel_rfl) rfl) (fun w hH => subF3 _ hb hz hd) rfl rfl rfl rfl ?_
  refine h_q hfl rfl ?_
  refine h_alloc zeDec rfl rfl ?_; intro g9_4
  refine h_store 0 (v := Dc A M) (#[hiW A, loW A, .int .i64 M]) tyDec.2 rfl rfl rfl rfl rfl rfl rfl rfl rfl rfl ?_
  refine h_q hfl rfl ?_
  refine h_done (d_reg ?_)
  refine h_load 0 (v := .agg #[hiW A, loW A, .int .i64 M]) (reads_agg (cs := [hiW A, loW A, .int .i64 M]) tyDec rfl) rfl rfl rfl rfl ?_
  refine h_load 3 (v := .agg #[hiW c, loW c, .int .i64 m]) (reads_agg (cs := [hiW c, loW c, .int .i64 m]) tyDec rfl) rfl rfl rfl rfl ?_
  refine h_call (ent_of Tryd.func20 (by kernel_rfl) rfl) (fun w hH => cmpF3 _ hcm hA hc) rfl rfl rfl rfl ?_
  refine h_q hfl rfl ?_
  refine h_done (d_reg ?_)
  refine h_q hfl rfl ?_
  refine h_cmp (cmp_neq_f (by decide)) rfl rfl rfl rfl ?_
  refine h_q hfl rfl ?_
  refine h_cmp (cmp_neq_f (by decide)) rfl rfl rfl rfl ?_
  refine h_q hfl rfl ?_
  refine h_cmp (cmp_neq_f (by decide)) rfl rfl rfl rfl ?_
  refine h_q hfl rfl ?_
  refine h_load 1 (v := .int .i64 M) (reads_one tyInt rfl) rfl rfl rfl rfl ?_
  refine h_q hfl rfl ?_
  refine h_load 3 (v := .int .i64 m) (reads_one tyInt rfl) rfl rfl rfl rfl ?_
  refine h_q hfl rfl ?_
  refine h_load 2 (v := .int .i64 n) (reads_one tyInt rfl) rfl rfl rfl rfl ?_
  refine h_builtin (v := .int .i64 M) (fun w cs => run_max2 (by rw [← hM]; split <;> omega) _ _ w cs) rfl rfl rfl ?_
  refine h_cmp (cmp_neq_f (by simp)) rfl rfl rfl rfl ?_
  refine h_q hfl rfl ?_
  refine h_done ?_
  refine WC2.keep (env' := [(2, .int .i64 u), (3, .pointer (some ⟨g3_1, 0, none⟩)), (6, .bool false), (62, .bool false)]) ⟨rfl, rfl, rfl, rfl, trivial⟩ ?_
  refine d_else rfl (d_skip (f_to (d_seq ?_)))
  refine d_par 15 2 [⟨.quiet, 0, fun _ => .agg #[hiW c, loW c, .int .i64 m], []⟩, ⟨.quiet, 0, fun _ => .pointer (some ⟨g3_1, 2, none⟩), []⟩, ⟨.quiet, 0, fun _ => .int .i64 m, [1]⟩, ⟨.quiet, 0, fun _ => .int .i64 u, []⟩, ⟨.quiet, 0, fun _ => .pointer (some ⟨g3_1, 2, none⟩), []⟩, ⟨.quiet, 0, fun _ => .int .i64 m, [4]⟩, ⟨.quiet, 0, fun _ => .int .i64 (19 - m), [5]⟩, ⟨.call, 1, fun _ => .int .i64 k, [3, 6]⟩, ⟨.quiet, 1, fun _ => .int .i64 (m + k), [2, 7]⟩, ⟨.call, 2, fun _ => .tuple #[Dc 0 0, .int .i64 20], [0, 8]⟩, ⟨.quiet, 2, fun _ => .tuple #[Dc 0 0, .int .i64 20], [9]⟩, ⟨.quiet, 2, fun _ => Dc 0 0, [10]⟩, ⟨.quiet, 2, fun _ => .int .i64 20, [10]⟩, ⟨.alloc 26 #[.int .i64 0, .int .u64 0, .int .i64 0], 0, fun _ => undef, []⟩, ⟨.store 13 #[hiW 0, loW 0, .int .i64 0], 2, fun _ => undef, [13, 11]⟩] [(2, .int .i64 u), (3, .pointer (some ⟨g3_1, 0, none⟩)), (6, .bool false)] (by kernel_rfl) (by kernel_rfl) ⟨rfl, rfl, rfl, trivial⟩ ?_ ?_
  · skip
    refine o_cons (o_load 3 (reads_agg (cs := [hiW c, loW c, .int .i64 m]) tyDec rfl) (fun _ _ => rfl) rfl (fun _ _ => rfl) rfl) ?_
    refine o_cons (o_q hfl (fun _ _ => rfl) (fun _ _ => rfl)) ?_
    refine o_cons (o_load 3 (reads_one tyInt rfl) (fun _ _ => rfl) rfl (fun _ _ => rfl) rfl) ?_
    refine o_cons (o_q hfl (fun _ _ => rfl) (fun _ _ => rfl)) ?_
    refine o_cons (o_q hfl (fun _ _ => rfl) (fun _ _ => rfl)) ?_
    refine o_cons (o_load 3 (reads_one tyInt rfl) (fun _ _ => rfl) rfl (fun _ _ => rfl) rfl) ?_
    refine o_cons (o_ar (IntWalk.i64_in _ (by omega)) (fun _ _ => rfl) rfl (fun _ _ => rfl) (fun _ _ => rfl) rfl) ?_
    refine o_cons (o_call (ent_of Tryd.func22 (by kernel_rfl) rfl) (fun w hU => pickL _ hk hu ⟨by omega, by omega⟩) (fun _ _ => rfl) rfl (fun _ _ => rfl) (fun _ _ => rfl)) ?_
    refine o_cons (o_ar (IntWalk.i64_in _ (by omega)) (fun _ _ => rfl) rfl (fun _ _ => rfl) (fun _ _ => rfl) rfl) ?_
    refine o_cons (o_call (ent_of Tryd.func25 (by kernel_rfl) rfl) (fun w hU => rescO _ hx hc) (fun _ _ => rfl) rfl (fun _ _ => rfl) (fun _ _ => rfl)) ?_
    refine o_cons (o_q hfl (fun _ _ => rfl) (fun _ _ => rfl)) ?_
    refine o_cons (o_q hfl (fun _ _ => rfl) (fun _ _ => rfl)) ?_
    refine o_cons (o_q hfl (fun _ _ => rfl) (fun _ _ => rfl)) ?_
    refine o_cons (o_alloc zeDec rfl rfl) ?_
    refine o_cons (o_store (t := 13) (v := Dc 0 0) rfl rfl tyDec.2 rfl rfl rfl rfl (fun _ _ => rfl) rfl (fun _ _ => rfl) (fun _ _ => rfl)) ?_
    exact o_nil
  intro σ5 gs5
  refine WL2.keep (env' := [(3, .pointer (some ⟨g3_1, 0, none⟩)), (6, .bool false), (75, .int .i64 20), (13, .pointer (some ⟨(gs5 13), 0, none⟩))]) ⟨rfl, rfl, rfl, rfl, trivial⟩ ?_
  refine h_q hfl rfl ?_
  refine h_nil (f_to (d_seq (d_reg ?_)))
  refine h_q hfl rfl ?_
  refine h_cmp (cmp_neq_t (by decide)) rfl rfl rfl rfl ?_
  refine h_done (d_then rfl (d_reg ?_))
  refine h_q hfl rfl ?_
  refine h_cmp (cmp_eql_t (by decide)) rfl rfl rfl rfl ?_
  refine h_q hfl rfl ?_
  refine h_done (d_ret (f_then_ret ?_))
  exact f_fin1 (.tmp rfl) (fun w h => ⟨rfl, h.up.below⟩) rfl

theorem undo_ar (w : World) (c s d t u : Int) (hc : Fits c) (hd : Fits d) (hs : -9223372036854775808 ≤ s ∧ s < 9223372036854775808) (ht : -9223372036854775808 ≤ t ∧ t < 9223372036854775808) (hu : -9223372036854775808 ≤ u ∧ u < 9223372036854775808) {m n k : Int} (hm : s % 19 = m) (hn : t % 19 = n) (hk : u % (19 - m) = k) (hk0 : 0 ≤ k ∧ k ≤ 18 - m) {z A M : Int} (hM : max m n = M) (hz : Fits z) (hA : Fits A) (ha : sumP (· + ·) c m d n = (z, M, 0)) (hb : sumP (· - ·) z M d n = (A, M, 0)) (hcm : cmpP A M c m = (0, 0)) {g : Int} (hg0 : Fits g) (hx : rescP c m (m + k) = (g, m + k, 0)) (hy : rescP g (m + k) m = (c, m, 0)) (htab : Lib.TabIs Tryd.prog w "internal/strconv.uint64pow10" .u64 Lib.pow10Tab) (hg : 2 < w.heap.size) : Calls Tryd.prog 8 #[Dc c s, Dc d t, .int .i64 u] w fun e w' => e = .returned (.bool true) ∧ Below w.heap.size w w' := by
  have hm0 : 0 ≤ m ∧ m ≤ 18 := by omega
  refine d_in (args := [Dc c s, Dc d t, .int .i64 u]) 94 Tryd.func8 rfl rfl rfl ?_
  refine d_reg ?_
  refine h_box (cs := #[hiW c, loW c, .int .i64 s]) rfl rfl rfl rfl ?_; intro g3_1
  refine h_box (cs := #[hiW d, loW d, .int .i64 t]) rfl rfl rfl rfl ?_; intro g4_2
  refine h_q hfl rfl ?_
  refine h_done (d_reg ?_)
  refine h_load 1 (v := .agg #[hiW c, loW c, .int .i64 s]) (reads_agg (cs := [hiW c, loW c, .int .i64 s]) tyDec rfl) rfl rfl rfl rfl ?_
  refine h_call (ent_of Tryd.func10 (by kernel_rfl) rfl) (fun w hH => nearL _ hm hs) rfl rfl rfl rfl ?_
  refine h_store 1 (v := Dc c m) (#[hiW c, loW c, .int .i64 m]) tyDec.2 rfl rfl rfl rfl rfl rfl rfl rfl rfl rfl ?_
  refine h_done (d_reg ?_)
  refine h_load 0 (v := .agg #[hiW d, loW d, .int .i64 t]) (reads_agg (cs := [hiW d, loW d, .int .i64 t]) tyDec rfl) rfl rfl rfl rfl ?_
  refine h_call (ent_of Tryd.func10 (by kernel_rfl) rfl) (fun w hH => nearL _ hn ht) rfl rfl rfl rfl ?_
  refine h_store 0 (v := Dc d n) (#[hiW d, loW d, .int .i64 n]) tyDec.2 rfl rfl rfl rfl rfl rfl rfl rfl rfl rfl ?_
  refine h_done (d_seq (d_reg ?_))
  refine h_call (ent_of Tryd.func17 (by kernel_rfl) rfl) (fun w hH => known3_any _ (tab_below htab hH.up.below hg) (Nat.lt_of_lt_of_le hg hH.up.size)) rfl rfl rfl rfl ?_
  refine h_q hfl rfl ?_
  refine h_done (d_else rfl (d_skip (f_to (d_seq (d_reg ?_)))))
  refine h_load 1 (v := .agg #[hiW c, loW c, .int .i64 m]) (reads_agg (cs := [hiW c, loW c, .int .i64 m]) tyDec rfl) rfl rfl rfl rfl ?_
  refine h_load 0 (v := .agg #[hiW d, loW d, .int .i64 n]) (reads_agg (cs := [hiW d, loW d, .int .i64 n]) tyDec rfl) rfl rfl rfl rfl ?_
  refine h_call (ent_of Tryd.func11 (by kernel_rfl) rfl) (fun w hH => addF3 _ ha hc hd) rfl rfl rfl rfl ?_
  refine h_q hfl rfl ?_
  refine h_alloc zeDec rfl rfl ?_; intro g7_3
  refine h_store 0 (v := Dc z M) (#[hiW z, loW z, .int .i64 M]) tyDec.2 rfl rfl rfl rfl rfl rfl rfl rfl rfl rfl ?_
  refine h_q hfl rfl ?_
  refine h_done (d_reg ?_)
  refine h_q hfl rfl ?_
  refine h_cmp (cmp_eql_t (by decide)) rfl rfl rfl rfl ?_
  refine h_done (d_then rfl (d_reg ?_))
  refine h_load 0 (v := .agg #[hiW z, loW z, .int .i64 M]) (reads_agg (cs := [hiW z, loW z, .int .i64 M]) tyDec rfl) rfl rfl rfl rfl ?_
  refine h_load 1 (v := .agg #[hiW d, loW d, .int .i64 n]) (reads_agg (cs := [hiW d, loW d, .int .i64 n]) tyDec rfl) rfl rfl rfl rfl ?_
  refine h_call (ent_of Tryd.func13 (by kernel_rfl) rfl) (fun w hH => subF3 _ hb hz hd) rfl rfl rfl rfl ?_
  refine h_q hfl rfl ?_
  refine h_alloc zeDec rfl rfl ?_; intro g9_4
  refine h_store 0 (v := Dc A M) (#[hiW A, loW A, .int .i64 M]) tyDec.2 rfl rfl rfl rfl rfl rfl rfl rfl rfl rfl ?_
  refine h_q hfl rfl ?_
  refine h_done (d_reg ?_)
  refine h_load 0 (v := .agg #[hiW A, loW A, .int .i64 M]) (reads_agg (cs := [hiW A, loW A, .int .i64 M]) tyDec rfl) rfl rfl rfl rfl ?_
  refine h_load 3 (v := .agg #[hiW c, loW c, .int .i64 m]) (reads_agg (cs := [hiW c, loW c, .int .i64 m]) tyDec rfl) rfl rfl rfl rfl ?_
  refine h_call (ent_of Tryd.func20 (by kernel_rfl) rfl) (fun w hH => cmpF3 _ hcm hA hc) rfl rfl rfl rfl ?_
  refine h_q hfl rfl ?_
  refine h_done (d_reg ?_)
  refine h_q hfl rfl ?_
  refine h_cmp (cmp_neq_f (by decide)) rfl rfl rfl rfl ?_
  refine h_q hfl rfl ?_
  refine h_cmp (cmp_neq_f (by decide)) rfl rfl rfl rfl ?_
  refine h_q hfl rfl ?_
  refine h_cmp (cmp_neq_f (by decide)) rfl rfl rfl rfl ?_
  refine h_q hfl rfl ?_
  refine h_load 1 (v := .int .i64 M) (reads_one tyInt rfl) rfl rfl rfl rfl ?_
  refine h_q hfl rfl ?_
  refine h_load 3 (v := .int .i64 m) (reads_one tyInt rfl) rfl rfl rfl rfl ?_
  refine h_q hfl rfl ?_
  refine h_load 2 (v := .int .i64 n) (reads_one tyInt rfl) rfl rfl rfl rfl ?_
  refine h_builtin (v := .int .i64 M) (fun w cs => run_max2 (by rw [← hM]; split <;> omega) _ _ w cs) rfl rfl rfl ?_
  refine h_cmp (cmp_neq_f (by simp)) rfl rfl rfl rfl ?_
  refine h_q hfl rfl ?_
  refine h_done ?_
  refine WC2.keep (env' := [(2, .int .i64 u), (3, .pointer (some ⟨g3_1, 0, none⟩)), (6, .bool false), (62, .bool false)]) ⟨rfl, rfl, rfl, rfl, trivial⟩ ?_
  refine d_else rfl (d_skip (f_to (d_seq ?_)))
  refine d_par 15 2 [⟨.quiet, 0, fun _ => .agg #[hiW c, loW c, .int .i64 m], []⟩, ⟨.quiet, 0, fun _ => .pointer (some ⟨g3_1, 2, none⟩), []⟩, ⟨.quiet, 0, fun _ => .int .i64 m, [1]⟩, ⟨.quiet, 0, fun _ => .int .i64 u, []⟩, ⟨.quiet, 0, fun _ => .pointer (some ⟨g3_1, 2, none⟩), []⟩, ⟨.quiet, 0, fun _ => .int .i64 m, [4]⟩, ⟨.quiet, 0, fun _ => .int .i64 (19 - m), [5]⟩, ⟨.call, 1, fun _ => .int .i64 k, [3, 6]⟩, ⟨.quiet, 1, fun _ => .int .i64 (m + k), [2, 7]⟩, ⟨.call, 2, fun _ => .tuple #[Dc g (m + k), .int .i64 0], [0, 8]⟩, ⟨.quiet, 2, fun _ => .tuple #[Dc g (m + k), .int .i64 0], [9]⟩, ⟨.quiet, 2, fun _ => Dc g (m + k), [10]⟩, ⟨.quiet, 2, fun _ => .int .i64 0, [10]⟩, ⟨.alloc 26 #[.int .i64 0, .int .u64 0, .int .i64 0], 0, fun _ => undef, []⟩, ⟨.store 13 #[hiW g, loW g, .int .i64 (m + k)], 2, fun _ => undef, [13, 11]⟩] [(2, .int .i64 u), (3, .pointer (some ⟨g3_1, 0, none⟩)), (6, .bool false)] (by kernel_rfl) (by kernel_rfl) ⟨rfl, rfl, rfl, trivial⟩ ?_ ?_
  · skip
    refine o_cons (o_load 3 (reads_agg (cs := [hiW c, loW c, .int .i64 m]) tyDec rfl) (fun _ _ => rfl) rfl (fun _ _ => rfl) rfl) ?_
    refine o_cons (o_q hfl (fun _ _ => rfl) (fun _ _ => rfl)) ?_
    refine o_cons (o_load 3 (reads_one tyInt rfl) (fun _ _ => rfl) rfl (fun _ _ => rfl) rfl) ?_
    refine o_cons (o_q hfl (fun _ _ => rfl) (fun _ _ => rfl)) ?_
    refine o_cons (o_q hfl (fun _ _ => rfl) (fun _ _ => rfl)) ?_
    refine o_cons (o_load 3 (reads_one tyInt rfl) (fun _ _ => rfl) rfl (fun _ _ => rfl) rfl) ?_
    refine o_cons (o_ar (IntWalk.i64_in _ (by omega)) (fun _ _ => rfl) rfl (fun _ _ => rfl) (fun _ _ => rfl) rfl) ?_
    refine o_cons (o_call (ent_of Tryd.func22 (by kernel_rfl) rfl) (fun w hU => pickL _ hk hu ⟨by omega, by omega⟩) (fun _ _ => rfl) rfl (fun _ _ => rfl) (fun _ _ => rfl)) ?_
    refine o_cons (o_ar (IntWalk.i64_in _ (by omega)) (fun _ _ => rfl) rfl (fun _ _ => rfl) (fun _ _ => rfl) rfl) ?_
    refine o_cons (o_call (ent_of Tryd.func25 (by kernel_rfl) rfl) (fun w hU => rescF _ hx hc) (fun _ _ => rfl) rfl (fun _ _ => rfl) (fun _ _ => rfl)) ?_
    refine o_cons (o_q hfl (fun _ _ => rfl) (fun _ _ => rfl)) ?_
    refine o_cons (o_q hfl (fun _ _ => rfl) (fun _ _ => rfl)) ?_
    refine o_cons (o_q hfl (fun _ _ => rfl) (fun _ _ => rfl)) ?_
    refine o_cons (o_alloc zeDec rfl rfl) ?_
    refine o_cons (o_store (t := 13) (v := Dc g (m + k)) rfl rfl tyDec.2 rfl rfl rfl rfl (fun _ _ => rfl) rfl (fun _ _ => rfl) (fun _ _ => rfl)) ?_
    exact o_nil
  intro σ5 gs5
  refine WL2.keep (env' := [(3, .pointer (some ⟨g3_1, 0, none⟩)), (6, .bool false), (75, .int .i64 0), (13, .pointer (some ⟨(gs5 13), 0, none⟩))]) ⟨rfl, rfl, rfl, rfl, trivial⟩ ?_
  refine h_q hfl rfl ?_
  refine h_nil (f_to (d_seq (d_reg ?_)))
  refine h_q hfl rfl ?_
  refine h_cmp (cmp_neq_f (by decide)) rfl rfl rfl rfl ?_
  refine h_done (d_else rfl (d_skip (f_to (d_reg ?_))))
  refine h_load 0 (v := .agg #[hiW g, loW g, .int .i64 (m + k)]) (reads_agg (cs := [hiW g, loW g, .int .i64 (m + k)]) tyDec rfl) rfl rfl rfl rfl ?_
  refine h_q hfl rfl ?_
  refine h_load 4 (v := .int .i64 m) (reads_one tyInt rfl) rfl rfl rfl rfl ?_
  refine h_call (ent_of Tryd.func25 (by kernel_rfl) rfl) (fun w hH => rescF _ hy hg0) rfl rfl rfl rfl ?_
  refine h_q hfl rfl ?_
  refine h_alloc zeDec rfl rfl ?_; intro g15_6
  refine h_store 0 (v := Dc c m) (#[hiW c, loW c, .int .i64 m]) tyDec.2 rfl rfl rfl rfl rfl rfl rfl rfl rfl rfl ?_
  refine h_q hfl rfl ?_
  refine h_done (d_reg ?_)
  refine h_q hfl rfl ?_
  refine h_cmp (cmp_eql_t (by decide)) rfl rfl rfl rfl ?_
  refine h_q hfl rfl ?_
  refine h_load 0 (v := .agg #[hiW c, loW c, .int .i64 m]) (reads_agg (cs := [hiW c, loW c, .int .i64 m]) tyDec rfl) rfl rfl rfl rfl ?_
  refine h_load 5 (v := .agg #[hiW c, loW c, .int .i64 m]) (reads_agg (cs := [hiW c, loW c, .int .i64 m]) tyDec rfl) rfl rfl rfl rfl ?_
  refine h_eqs (eqD_same _ _ _) rfl rfl rfl rfl ?_
  refine h_q hfl rfl ?_
  refine h_done (d_ret ?_)
  exact f_fin1 (.tmp rfl) (fun w h => ⟨rfl, h.up.below⟩) rfl

theorem undo_oo (w : World) (c s d t u : Int) (hc : Fits c) (hd : Fits d) (hs : -9223372036854775808 ≤ s ∧ s < 9223372036854775808) (ht : -9223372036854775808 ≤ t ∧ t < 9223372036854775808) (hu : -9223372036854775808 ≤ u ∧ u < 9223372036854775808) {m n k : Int} (hm : s % 19 = m) (hn : t % 19 = n) (hk : u % (19 - m) = k) (hk0 : 0 ≤ k ∧ k ≤ 18 - m) (ha : sumP (· + ·) c m d n = (0, 0, 20)) (hx : rescP c m (m + k) = (0, 0, 20)) (htab : Lib.TabIs Tryd.prog w "internal/strconv.uint64pow10" .u64 Lib.pow10Tab) (hg : 2 < w.heap.size) : Calls Tryd.prog 8 #[Dc c s, Dc d t, .int .i64 u] w fun e w' => e = .returned (.bool true) ∧ Below w.heap.size w w' := by
  have hm0 : 0 ≤ m ∧ m ≤ 18 := by omega
  refine d_in (args := [Dc c s, Dc d t, .int .i64 u]) 94 Tryd.func8 rfl rfl rfl ?_
  refine d_reg ?_
  refine h_box (cs := #[hiW c, loW c, .int .i64 s]) rfl rfl rfl rfl ?_; intro g3_1
  refine h_box (cs := #[hiW d, loW d, .int .i64 t]) rfl rfl rfl rfl ?_; intro g4_2
  refine h_q hfl rfl ?_
  refine h_done (d_reg ?_)
  refine h_load 1 (v := .agg #[hiW c, loW c, .int .i64 s]) (reads_agg (cs := [hiW c, loW c, .int .i64 s]) tyDec rfl) rfl rfl rfl rfl ?_
  refine h_call (ent_of Tryd.func10 (by kernel_rfl) rfl) (fun w hH => nearL _ hm hs) rfl rfl rfl rfl ?_
  refine h_store 1 (v := Dc c m) (#[hiW c, loW c, .int .i64 m]) tyDec.2 rfl rfl rfl rfl rfl rfl rfl rfl rfl rfl ?_
  refine h_done (d_reg ?_)
  refine h_load 0 (v := .agg #[hiW d, loW d, .int .i64 t]) (reads_agg (cs := [hiW d, loW d, .int .i64 t]) tyDec rfl) rfl rfl rfl rfl ?_
  refine h_call (ent_of Tryd.func10 (by kernel_rfl) rfl) (fun w hH => nearL _ hn ht) rfl rfl rfl rfl ?_
  refine h_store 0 (v := Dc d n) (#[hiW d, loW d, .int .i64 n]) tyDec.2 rfl rfl rfl rfl rfl rfl rfl rfl rfl rfl ?_
  refine h_done (d_seq (d_reg ?_))
  refine h_call (ent_of Tryd.func17 (by kernel_rfl) rfl) (fun w hH => known3_any _ (tab_below htab hH.up.below hg) (Nat.lt_of_lt_of_le hg hH.up.size)) rfl rfl rfl rfl ?_
  refine h_q hfl rfl ?_
  refine h_done (d_else rfl (d_skip (f_to (d_seq (d_reg ?_)))))
  refine h_load 1 (v := .agg #[hiW c, loW c, .int .i64 m]) (reads_agg (cs := [hiW c, loW c, .int .i64 m]) tyDec rfl) rfl rfl rfl rfl ?_
  refine h_load 0 (v := .agg #[hiW d, loW d, .int .i64 n]) (reads_agg (cs := [hiW d, loW d, .int .i64 n]) tyDec rfl) rfl rfl rfl rfl ?_
  refine h_call (ent_of Tryd.func11 (by kernel_rfl) rfl) (fun w hH => addO3 _ ha hc hd) rfl rfl rfl rfl ?_
  refine h_q hfl rfl ?_
  refine h_alloc zeDec rfl rfl ?_; intro g7_3
  refine h_store 0 (v := Dc 0 0) (#[hiW 0, loW 0, .int .i64 0]) tyDec.2 rfl rfl rfl rfl rfl rfl rfl rfl rfl rfl ?_
  refine h_q hfl rfl ?_
  refine h_done (d_reg ?_)
  refine h_q hfl rfl ?_
  refine h_cmp (cmp_eql_f (by decide)) rfl rfl rfl rfl ?_
  refine h_done (d_else rfl (d_skip (f_to (d_seq ?_))))
  refine d_par 15 2 [⟨.quiet, 0, fun _ => .agg #[hiW c, loW c, .int .i64 m], []⟩, ⟨.quiet, 0, fun _ => .pointer (some ⟨g3_1, 2, none⟩), []⟩, ⟨.quiet, 0, fun _ => .int .i64 m, [1]⟩, ⟨.quiet, 0, fun _ => .int .i64 u, []⟩, ⟨.quiet, 0, fun _ => .pointer (some ⟨g3_1, 2, none⟩), []⟩, ⟨.quiet, 0, fun _ => .int .i64 m, [4]⟩, ⟨.quiet, 0, fun _ => .int .i64 (19 - m), [5]⟩, ⟨.call, 1, fun _ => .int .i64 k, [3, 6]⟩, ⟨.quiet, 1, fun _ => .int .i64 (m + k), [2, 7]⟩, ⟨.call, 2, fun _ => .tuple #[Dc 0 0, .int .i64 20], [0, 8]⟩, ⟨.quiet, 2, fun _ => .tuple #[Dc 0 0, .int .i64 20], [9]⟩, ⟨.quiet, 2, fun _ => Dc 0 0, [10]⟩, ⟨.quiet, 2, fun _ => .int .i64 20, [10]⟩, ⟨.alloc 26 #[.int .i64 0, .int .u64 0, .int .i64 0], 0, fun _ => undef, []⟩, ⟨.store 13 #[hiW 0, loW 0, .int .i64 0], 2, fun _ => undef, [13, 11]⟩] [(2, .int .i64 u), (3, .pointer (some ⟨g3_1, 0, none⟩)), (6, .bool false)] (by kernel_rfl) (by kernel_rfl) ⟨rfl, rfl, rfl, trivial⟩ ?_ ?_
  · skip
    refine o_cons (o_load 2 (reads_agg (cs := [hiW c, loW c, .int .i64 m]) tyDec rfl) (fun _ _ => rfl) rfl (fun _ _ => rfl) rfl) ?_
    refine o_cons (o_q hfl (fun _ _ => rfl) (fun _ _ => rfl)) ?_
    refine o_cons (o_load 2 (reads_one tyInt rfl) (fun _ _ => rfl) rfl (fun _ _ => rfl) rfl) ?_
    refine o_cons (o_q hfl (fun _ _ => rfl) (fun _ _ => rfl)) ?_
    refine o_cons (o_q hfl (fun _ _ => rfl) (fun _ _ => rfl)) ?_
    refine o_cons (o_load 2 (reads_one tyInt rfl) (fun _ _ => rfl) rfl (fun _ _ => rfl) rfl) ?_
    refine o_cons (o_ar (IntWalk.i64_in _ (by omega)) (fun _ _ => rfl) rfl (fun _ _ => rfl) (fun _ _ => rfl) rfl) ?_
    refine o_cons (o_call (ent_of Tryd.func22 (by kernel_rfl) rfl) (fun w hU => pickL _ hk hu ⟨by omega, by omega⟩) (fun _ _ => rfl) rfl (fun _ _ => rfl) (fun _ _ => rfl)) ?_
    refine o_cons (o_ar (IntWalk.i64_in _ (by omega)) (fun _ _ => rfl) rfl (fun _ _ => rfl) (fun _ _ => rfl) rfl) ?_
    refine o_cons (o_call (ent_of Tryd.func25 (by kernel_rfl) rfl) (fun w hU => rescO _ hx hc) (fun _ _ => rfl) rfl (fun _ _ => rfl) (fun _ _ => rfl)) ?_
    refine o_cons (o_q hfl (fun _ _ => rfl) (fun _ _ => rfl)) ?_
    refine o_cons (o_q hfl (fun _ _ => rfl) (fun _ _ => rfl)) ?_
    refine o_cons (o_q hfl (fun _ _ => rfl) (fun _ _ => rfl)) ?_
    refine o_cons (o_alloc zeDec rfl rfl) ?_
    refine o_cons (o_store (t := 13) (v := Dc 0 0) rfl rfl tyDec.2 rfl rfl rfl rfl (fun _ _ => rfl) rfl (fun _ _ => rfl) (fun _ _ => rfl)) ?_
    exact o_nil
  intro σ4 gs4
  refine WL2.keep (env' := [(3, .pointer (some ⟨g3_1, 0, none⟩)), (6, .bool false), (75, .int .i64 20), (13, .pointer (some ⟨(gs4 13), 0, none⟩))]) ⟨rfl, rfl, rfl, rfl, trivial⟩ ?_
  refine h_q hfl rfl ?_
  refine h_nil (f_to (d_seq (d_reg ?_)))
  refine h_q hfl rfl ?_
  refine h_cmp (cmp_neq_t (by decide)) rfl rfl rfl rfl ?_
  refine h_done (d_then rfl (d_reg ?_))
  refine h_q hfl rfl ?_
  refine h_cmp (cmp_eql_t (by decide)) rfl rfl rfl rfl ?_
  refine h_q hfl rfl ?_
  refine h_done (d_ret (f_then_ret ?_))
  exact f_fin1 (.tmp rfl) (fun w h => ⟨rfl, h.up.below⟩) rfl

theorem undo_or (w : World) (c s d t u : Int) (hc : Fits c) (hd : Fits d) (hs : -9223372036854775808 ≤ s ∧ s < 9223372036854775808) (ht : -9223372036854775808 ≤ t ∧ t < 9223372036854775808) (hu : -9223372036854775808 ≤ u ∧ u < 9223372036854775808) {m n k : Int} (hm : s % 19 = m) (hn : t % 19 = n) (hk : u % (19 - m) = k) (hk0 : 0 ≤ k ∧ k ≤ 18 - m) (ha : sumP (· + ·) c m d n = (0, 0, 20)) {g : Int} (hg0 : Fits g) (hx : rescP c m (m + k) = (g, m + k, 0)) (hy : rescP g (m + k) m = (c, m, 0)) (htab : Lib.TabIs Tryd.prog w "internal/strconv.uint64pow10" .u64 Lib.pow10Tab) (hg : 2 < w.heap.size) : Calls Tryd.prog 8 #[Dc c s, Dc d t, .int .i64 u] w fun e w' => e = .returned (.bool true) ∧ Below w.heap.size w w' := by
  have hm0 : 0 ≤ m ∧ m ≤ 18 := by omega
  refine d_in (args := [Dc c s, Dc d t, .int .i64 u]) 94 Tryd.func8 rfl rfl rfl ?_
  refine d_reg ?_
  refine h_box (cs := #[hiW c, loW c, .int .i64 s]) rfl rfl rfl rfl ?_; intro g3_1
  refine h_box (cs := #[hiW d, loW d, .int .i64 t]) rfl rfl rfl rfl ?_; intro g4_2
  refine h_q hfl rfl ?_
  refine h_done (d_reg ?_)
  refine h_load 1 (v := .agg #[hiW c, loW c, .int .i64 s]) (reads_agg (cs := [hiW c, loW c, .int .i64 s]) tyDec rfl) rfl rfl rfl rfl ?_
  refine h_call (ent_of Tryd.func10 (by kernel_rfl) rfl) (fun w hH => nearL _ hm hs) rfl rfl rfl rfl ?_
  refine h_store 1 (v := Dc c m) (#[hiW c, loW c, .int .i64 m]) tyDec.2 rfl rfl rfl rfl rfl rfl rfl rfl rfl rfl ?_
  refine h_done (d_reg ?_)
  refine h_load 0 (v := .agg #[hiW d, loW d, .int .i64 t]) (reads_agg (cs := [hiW d, loW d, .int .i64 t]) tyDec rfl) rfl rfl rfl rfl ?_
  refine h_call (ent_of Tryd.func10 (by kernel_rfl) rfl) (fun w hH => nearL _ hn ht) rfl rfl rfl rfl ?_
  refine h_store 0 (v := Dc d n) (#[hiW d, loW d, .int .i64 n]) tyDec.2 rfl rfl rfl rfl rfl rfl rfl rfl rfl rfl ?_
  refine h_done (d_seq (d_reg ?_))
  refine h_call (ent_of Tryd.func17 (by kernel_rfl) rfl) (fun w hH => known3_any _ (tab_below htab hH.up.below hg) (Nat.lt_of_lt_of_le hg hH.up.size)) rfl rfl rfl rfl ?_
  refine h_q hfl rfl ?_
  refine h_done (d_else rfl (d_skip (f_to (d_seq (d_reg ?_)))))
  refine h_load 1 (v := .agg #[hiW c, loW c, .int .i64 m]) (reads_agg (cs := [hiW c, loW c, .int .i64 m]) tyDec rfl) rfl rfl rfl rfl ?_
  refine h_load 0 (v := .agg #[hiW d, loW d, .int .i64 n]) (reads_agg (cs := [hiW d, loW d, .int .i64 n]) tyDec rfl) rfl rfl rfl rfl ?_
  refine h_call (ent_of Tryd.func11 (by kernel_rfl) rfl) (fun w hH => addO3 _ ha hc hd) rfl rfl rfl rfl ?_
  refine h_q hfl rfl ?_
  refine h_alloc zeDec rfl rfl ?_; intro g7_3
  refine h_store 0 (v := Dc 0 0) (#[hiW 0, loW 0, .int .i64 0]) tyDec.2 rfl rfl rfl rfl rfl rfl rfl rfl rfl rfl ?_
  refine h_q hfl rfl ?_
  refine h_done (d_reg ?_)
  refine h_q hfl rfl ?_
  refine h_cmp (cmp_eql_f (by decide)) rfl rfl rfl rfl ?_
  refine h_done (d_else rfl (d_skip (f_to (d_seq ?_))))
  refine d_par 15 2 [⟨.quiet, 0, fun _ => .agg #[hiW c, loW c, .int .i64 m], []⟩, ⟨.quiet, 0, fun _ => .pointer (some ⟨g3_1, 2, none⟩), []⟩, ⟨.quiet, 0, fun _ => .int .i64 m, [1]⟩, ⟨.quiet, 0, fun _ => .int .i64 u, []⟩, ⟨.quiet, 0, fun _ => .pointer (some ⟨g3_1, 2, none⟩), []⟩, ⟨.quiet, 0, fun _ => .int .i64 m, [4]⟩, ⟨.quiet, 0, fun _ => .int .i64 (19 - m), [5]⟩, ⟨.call, 1, fun _ => .int .i64 k, [3, 6]⟩, ⟨.quiet, 1, fun _ => .int .i64 (m + k), [2, 7]⟩, ⟨.call, 2, fun _ => .tuple #[Dc g (m + k), .int .i64 0], [0, 8]⟩, ⟨.quiet, 2, fun _ => .tuple #[Dc g (m + k), .int .i64 0], [9]⟩, ⟨.quiet, 2, fun _ => Dc g (m + k), [10]⟩, ⟨.quiet, 2, fun _ => .int .i64 0, [10]⟩, ⟨.alloc 26 #[.int .i64 0, .int .u64 0, .int .i64 0], 0, fun _ => undef, []⟩, ⟨.store 13 #[hiW g, loW g, .int .i64 (m + k)], 2, fun _ => undef, [13, 11]⟩] [(2, .int .i64 u), (3, .pointer (some ⟨g3_1, 0, none⟩)), (6, .bool false)] (by kernel_rfl) (by kernel_rfl) ⟨rfl, rfl, rfl, trivial⟩ ?_ ?_
  · skip
    refine o_cons (o_load 2 (reads_agg (cs := [hiW c, loW c, .int .i64 m]) tyDec rfl) (fun _ _ => rfl) rfl (fun _ _ => rfl) rfl) ?_
    refine o_cons (o_q hfl (fun _ _ => rfl) (fun _ _ => rfl)) ?_
    refine o_cons (o_load 2 (reads_one tyInt rfl) (fun _ _ => rfl) rfl (fun _ _ => rfl) rfl) ?_
    refine o_cons (o_q hfl (fun _ _ => rfl) (fun _ _ => rfl)) ?_
    refine o_cons (o_q hfl (fun _ _ => rfl) (fun _ _ => rfl)) ?_
    refine o_cons (o_load 2 (reads_one tyInt rfl) (fun _ _ => rfl) rfl (fun _ _ => rfl) rfl) ?_
    refine o_cons (o_ar (IntWalk.i64_in _ (by omega)) (fun _ _ => rfl) rfl (fun _ _ => rfl) (fun _ _ => rfl) rfl) ?_
    refine o_cons (o_call (ent_of Tryd.func22 (by kernel_rfl) rfl) (fun w hU => pickL _ hk hu ⟨by omega, by omega⟩) (fun _ _ => rfl) rfl (fun _ _ => rfl) (fun _ _ => rfl)) ?_
    refine o_cons (o_ar (IntWalk.i64_in _ (by omega)) (fun _ _ => rfl) rfl (fun _ _ => rfl) (fun _ _ => rfl) rfl) ?_
    refine o_cons (o_call (ent_of Tryd.func25 (by kernel_rfl) rfl) (fun w hU => rescF _ hx hc) (fun _ _ => rfl) rfl (fun _ _ => rfl) (fun _ _ => rfl)) ?_
    refine o_cons (o_q hfl (fun _ _ => rfl) (fun _ _ => rfl)) ?_
    refine o_cons (o_q hfl (fun _ _ => rfl) (fun _ _ => rfl)) ?_
    refine o_cons (o_q hfl (fun _ _ => rfl) (fun _ _ => rfl)) ?_
    refine o_cons (o_alloc zeDec rfl rfl) ?_
    refine o_cons (o_store (t := 13) (v := Dc g (m + k)) rfl rfl tyDec.2 rfl rfl rfl rfl (fun _ _ => rfl) rfl (fun _ _ => rfl) (fun _ _ => rfl)) ?_
    exact o_nil
  intro σ4 gs4
  refine WL2.keep (env' := [(3, .pointer (some ⟨g3_1, 0, none⟩)), (6, .bool false), (75, .int .i64 0), (13, .pointer (some ⟨(gs4 13), 0, none⟩))]) ⟨rfl, rfl, rfl, rfl, trivial⟩ ?_
  refine h_q hfl rfl ?_
  refine h_nil (f_to (d_seq (d_reg ?_)))
  refine h_q hfl rfl ?_
  refine h_cmp (cmp_neq_f (by decide)) rfl rfl rfl rfl ?_
  refine h_done (d_else rfl (d_skip (f_to (d_reg ?_))))
  refine h_load 0 (v := .agg #[hiW g, loW g, .int .i64 (m + k)]) (reads_agg (cs := [hiW g, loW g, .int .i64 (m + k)]) tyDec rfl) rfl rfl rfl rfl ?_
  refine h_q hfl rfl ?_
  refine h_load 3 (v := .int .i64 m) (reads_one tyInt rfl) rfl rfl rfl rfl ?_
  refine h_call (ent_of Tryd.func25 (by kernel_rfl) rfl) (fun w hH => rescF _ hy hg0) rfl rfl rfl rfl ?_
  refine h_q hfl rfl ?_
  refine h_alloc zeDec rfl rfl ?_; intro g15_5
  refine h_store 0 (v := Dc c m) (#[hiW c, loW c, .int .i64 m]) tyDec.2 rfl rfl rfl rfl rfl rfl rfl rfl rfl rfl ?_
  refine h_q hfl rfl ?_
  refine h_done (d_reg ?_)
  refine h_q hfl rfl ?_
  refine h_cmp (cmp_eql_t (by decide)) rfl rfl rfl rfl ?_
  refine h_q hfl rfl ?_
  refine h_load 0 (v := .agg #[hiW c, loW c, .int .i64 m]) (reads_agg (cs := [hiW c, loW c, .int .i64 m]) tyDec rfl) rfl rfl rfl rfl ?_
  refine h_load 4 (v := .agg #[hiW c, loW c, .int .i64 m]) (reads_agg (cs := [hiW c, loW c, .int .i64 m]) tyDec rfl) rfl rfl rfl rfl ?_
  refine h_eqs (eqD_same _ _ _) rfl rfl rfl rfl ?_
  refine h_q hfl rfl ?_
  refine h_done (d_ret ?_)
  exact f_fin1 (.tmp rfl) (fun w h => ⟨rfl, h.up.below⟩) rfl

theorem emod_in' {u m k : Int} (h : u % m = k) (hm : 0 < m) : 0 ≤ k ∧ k ≤ m - 1 := by
  have h1 := Int.emod_nonneg u (show m ≠ 0 by omega)
  have h2 := Int.emod_lt_of_pos u hm
  omega
theorem lawUndo (w : World) (c s d t u : Int) (hc : Fits c) (hd : Fits d) (hs : -9223372036854775808 ≤ s ∧ s < 9223372036854775808) (ht : -9223372036854775808 ≤ t ∧ t < 9223372036854775808) (hu : -9223372036854775808 ≤ u ∧ u < 9223372036854775808) (htab : Lib.TabIs Tryd.prog w "internal/strconv.uint64pow10" .u64 Lib.pow10Tab) (hg : 2 < w.heap.size) : Calls Tryd.prog 8 #[Dc c s, Dc d t, .int .i64 u] w fun e w' => e = .returned (.bool true) ∧ Below w.heap.size w w' := by
  obtain ⟨m, hm⟩ : ∃ m, s % 19 = m := ⟨_, rfl⟩
  obtain ⟨n, hn⟩ : ∃ n, t % 19 = n := ⟨_, rfl⟩
  obtain ⟨k, hk⟩ : ∃ k, u % (19 - m) = k := ⟨_, rfl⟩
  have hm0 : May m := by unfold May; omega
  have hn0 : May n := by unfold May; omega
  have hk0 : 0 ≤ k ∧ k ≤ 18 - m := by have := emod_in' hk (by omega); omega
  obtain ⟨j, hj⟩ := Int.eq_ofNat_of_zero_le hk0.1
  have hmk : May m ∧ May (m + k) := ⟨hm0, by unfold May; omega⟩
  have hx : rescP c m (m + k) = okP (c * ((10 ^ j : Nat) : Int)) (m + k) := by
    unfold rescP
    rw [if_pos hmk, up_scale (by omega), show (m + k - m).toNat = j by omega]
  have hback : Fits (c * ((10 ^ j : Nat) : Int)) → rescP (c * ((10 ^ j : Nat) : Int)) (m + k) m = (c, m, 0) := fun _ => by
    unfold rescP
    rw [if_pos ⟨hmk.2, hmk.1⟩, show m + k - m = (j : Int) by omega, round_back, okP_fit hc]
  rcases sumP_cases (f := (· + ·)) (c := c) (d := d) hm0 hn0 with ha | ⟨h1, h2, h3, ha⟩
  · by_cases ho : Fits (c * ((10 ^ j : Nat) : Int))
    · rw [okP_fit ho] at hx
      exact undo_or w c s d t u hc hd hs ht hu hm hn hk hk0 ha ho hx (hback ho) htab hg
    · rw [okP_over ho] at hx
      exact undo_oo w c s d t u hc hd hs ht hu hm hn hk hk0 ha hx htab hg
  · obtain ⟨M, hM⟩ : ∃ M, max m n = M := ⟨_, rfl⟩
    rw [hM] at h1 h2 h3 ha
    obtain ⟨A, hA⟩ : ∃ A, roundZ c (m - M) = A := ⟨_, rfl⟩
    obtain ⟨B, hB⟩ : ∃ B, roundZ d (n - M) = B := ⟨_, rfl⟩
    rw [hA] at h1 h3 ha
    rw [hB] at h2 h3 ha
    have hb : sumP (· - ·) (A + B) M d n = (A, M, 0) := by
      unfold sumP
      rw [if_pos ⟨by unfold May at *; omega, hn0⟩, show max M n = M by omega, hB, show M - M = 0 by omega, show roundZ (A + B) 0 = A + B by simp [roundZ], if_pos ⟨h3, h2⟩]
      show okP (A + B - B) M = _
      rw [show A + B - B = A by omega, okP_fit h1]
    have hcm : cmpP A M c m = (0, 0) := by
      unfold cmpP
      rw [if_pos ⟨by unfold May at *; omega, hm0⟩, cmpD_at (M := M) (by omega) (by omega), show (M - M).toNat = 0 by omega, ← up_scale (by omega), hA]
      simp [cmp3_eq]
    by_cases ho : Fits (c * ((10 ^ j : Nat) : Int))
    · rw [okP_fit ho] at hx
      exact undo_ar w c s d t u hc hd hs ht hu hm hn hk hk0 hM h3 h1 ha hb hcm ho hx (hback ho) htab hg
    · rw [okP_over ho] at hx
      exact undo_ao w c s d t u hc hd hs ht hu hm hn hk hk0 hM h3 h1 ha hb hcm hx htab hg

theorem ord_a (w : World) (c s d t a o u : Int) (hc : Fits c) (hd : Fits d) (ha : Fits a) (hs : -9223372036854775808 ≤ s ∧ s < 9223372036854775808) (ht : -9223372036854775808 ≤ t ∧ t < 9223372036854775808) (ho : -9223372036854775808 ≤ o ∧ o < 9223372036854775808) (hu : -9223372036854775808 ≤ u ∧ u < 9223372036854775808) {m n q v x : Int} {p r f g : Int × Int × Int} {y : Int × Int} (hm : s % 19 = m) (hn : t % 19 = n) (hq : o % 19 = q) (hv : u % 19 = v) (hp : sumP (· + ·) c m d n = p) (hp2 : sumP (· + ·) d n c m = p) (hr : mulP c m d n v = r) (hr2 : mulP d n c m v = r) (hf : sumP (· + ·) c m a q = f) (hgg : sumP (· + ·) d n a q = g) (hx : cmpP c m d n = (x, 0)) (hf1 : Fits f.1) (hg1 : Fits g.1) (hy : cmpP f.1 f.2.1 g.1 g.2.1 = y) (h1 : f.2.2 ≠ 0) (htab : Lib.TabIs Tryd.prog w "internal/strconv.uint64pow10" .u64 Lib.pow10Tab) (hg : 2 < w.heap.size) : Calls Tryd.prog 9 #[Dc c s, Dc d t, Dc a o, .int .i64 u] w fun e w' => e = .returned (.bool true) ∧ Below w.heap.size w w' := by
  refine d_in (args := [Dc c s, Dc d t, Dc a o, .int .i64 u]) 116 Tryd.func9 rfl rfl rfl ?_
  refine d_reg ?_
  refine h_box (cs := #[hiW c, loW c, .int .i64 s]) rfl rfl rfl rfl ?_; intro g4_1
  refine h_box (cs := #[hiW d, loW d, .int .i64 t]) rfl rfl rfl rfl ?_; intro g5_2
  refine h_box (cs := #[hiW a, loW a, .int .i64 o]) rfl rfl rfl rfl ?_; intro g6_3
  refine h_q hfl rfl ?_
  refine h_done (d_reg ?_)
  refine h_load 2 (v := .agg #[hiW c, loW c, .int .i64 s]) (reads_agg (cs := [hiW c, loW c, .int .i64 s]) tyDec rfl) rfl rfl rfl rfl ?_
  refine h_call (ent_of Tryd.func10 (by kernel_rfl) rfl) (fun w hH => nearL _ hm hs) rfl rfl rfl rfl ?_
  refine h_store 2 (v := Dc c m) (#[hiW c, loW c, .int .i64 m]) tyDec.2 rfl rfl rfl rfl rfl rfl rfl rfl rfl rfl ?_
  refine h_done (d_reg ?_)
  refine h_load 1 (v := .agg #[hiW d, loW d, .int .i64 t]) (reads_agg (cs := [hiW d, loW d, .int .i64 t]) tyDec rfl) rfl rfl rfl rfl ?_
  refine h_call (ent_of Tryd.func10 (by kernel_rfl) rfl) (fun w hH => nearL _ hn ht) rfl rfl rfl rfl ?_
  refine h_store 1 (v := Dc d n) (#[hiW d, loW d, .int .i64 n]) tyDec.2 rfl rfl rfl rfl rfl rfl rfl rfl rfl rfl ?_
  refine h_done (d_reg ?_)
  refine h_load 0 (v := .agg #[hiW a, loW a, .int .i64 o]) (reads_agg (cs := [hiW a, loW a, .int .i64 o]) tyDec rfl) rfl rfl rfl rfl ?_
  refine h_call (ent_of Tryd.func10 (by kernel_rfl) rfl) (fun w hH => nearL _ hq ho) rfl rfl rfl rfl ?_
  refine h_store 0 (v := Dc a q) (#[hiW a, loW a, .int .i64 q]) tyDec.2 rfl rfl rfl rfl rfl rfl rfl rfl rfl rfl ?_
  refine h_done (d_reg ?_)
  refine h_q hfl rfl ?_
  refine h_call (ent_of Tryd.func22 (by kernel_rfl) rfl) (fun w hH => pickL _ hv hu (by decide)) rfl rfl rfl rfl ?_
  refine h_q hfl rfl ?_
  refine h_done (d_reg ?_)
  refine h_load 2 (v := .agg #[hiW c, loW c, .int .i64 m]) (reads_agg (cs := [hiW c, loW c, .int .i64 m]) tyDec rfl) rfl rfl rfl rfl ?_
  refine h_load 1 (v := .agg #[hiW d, loW d, .int .i64 n]) (reads_agg (cs := [hiW d, loW d, .int .i64 n]) tyDec rfl) rfl rfl rfl rfl ?_
  refine h_call (ent_of Tryd.func11 (by kernel_rfl) rfl) (fun w hH => addL _ hp hc hd) rfl rfl rfl rfl ?_
  refine h_q hfl rfl ?_
  refine h_alloc zeDec rfl rfl ?_; intro g9_4
  refine h_store 0 (v := Dc p.1 p.2.1) (#[hiW p.1, loW p.1, .int .i64 p.2.1]) tyDec.2 rfl rfl rfl rfl rfl rfl rfl rfl rfl rfl ?_
  refine h_q hfl rfl ?_
  refine h_done (d_reg ?_)
  refine h_load 2 (v := .agg #[hiW d, loW d, .int .i64 n]) (reads_agg (cs := [hiW d, loW d, .int .i64 n]) tyDec rfl) rfl rfl rfl rfl ?_
  refine h_load 3 (v := .agg #[hiW c, loW c, .int .i64 m]) (reads_agg (cs := [hiW c, loW c, .int .i64 m]) tyDec rfl) rfl rfl rfl rfl ?_
  refine h_call (ent_of Tryd.func11 (by kernel_rfl) rfl) (fun w hH => addL _ hp2 hd hc) rfl rfl rfl rfl ?_
  refine h_q hfl rfl ?_
  refine h_alloc zeDec rfl rfl ?_; intro g11_5
  refine h_store 0 (v := Dc p.1 p.2.1) (#[hiW p.1, loW p.1, .int .i64 p.2.1]) tyDec.2 rfl rfl rfl rfl rfl rfl rfl rfl rfl rfl ?_
  refine h_q hfl rfl ?_
  refine h_done (d_reg ?_)
  refine h_load 4 (v := .agg #[hiW c, loW c, .int .i64 m]) (reads_agg (cs := [hiW c, loW c, .int .i64 m]) tyDec rfl) rfl rfl rfl rfl ?_
  refine h_load 3 (v := .agg #[hiW d, loW d, .int .i64 n]) (reads_agg (cs := [hiW d, loW d, .int .i64 n]) tyDec rfl) rfl rfl rfl rfl ?_
  refine h_q hfl rfl ?_
  refine h_call (ent_of Tryd.func23 (by kernel_rfl) rfl) (fun w hH => mulL _ hr hc hd) rfl rfl rfl rfl ?_
  refine h_q hfl rfl ?_
  refine h_alloc zeDec rfl rfl ?_; intro g13_6
  refine h_store 0 (v := Dc r.1 r.2.1) (#[hiW r.1, loW r.1, .int .i64 r.2.1]) tyDec.2 rfl rfl rfl rfl rfl rfl rfl rfl rfl rfl ?_
  refine h_q hfl rfl ?_
  refine h_done (d_reg ?_)
  refine h_load 4 (v := .agg #[hiW d, loW d, .int .i64 n]) (reads_agg (cs := [hiW d, loW d, .int .i64 n]) tyDec rfl) rfl rfl rfl rfl ?_
  refine h_load 5 (v := .agg #[hiW c, loW c, .int .i64 m]) (reads_agg (cs := [hiW c, loW c, .int .i64 m]) tyDec rfl) rfl rfl rfl rfl ?_
  refine h_q hfl rfl ?_
  refine h_call (ent_of Tryd.func23 (by kernel_rfl) rfl) (fun w hH => mulL _ hr2 hd hc) rfl rfl rfl rfl ?_
  refine h_q hfl rfl ?_
  refine h_alloc zeDec rfl rfl ?_; intro g15_7
  refine h_store 0 (v := Dc r.1 r.2.1) (#[hiW r.1, loW r.1, .int .i64 r.2.1]) tyDec.2 rfl rfl rfl rfl rfl rfl rfl rfl rfl rfl ?_
  refine h_q hfl rfl ?_
  refine h_done ?_
  refine WC2.keep (env' := [(4, .pointer (some ⟨g4_1, 0, none⟩)), (5, .pointer (some ⟨g5_2, 0, none⟩)), (6, .pointer (some ⟨g6_3, 0, none⟩)), (8, .bool false), (9, .pointer (some ⟨g9_4, 0, none⟩)), (10, .int .i64 p.2.2), (11, .pointer (some ⟨g11_5, 0, none⟩)), (12, .int .i64 p.2.2), (13, .pointer (some ⟨g13_6, 0, none⟩)), (14, .int .i64 r.2.2), (15, .pointer (some ⟨g15_7, 0, none⟩)), (16, .int .i64 r.2.2)]) ⟨rfl, rfl, rfl, rfl, rfl, rfl, rfl, rfl, rfl, rfl, rfl, rfl, trivial⟩ ?_
  refine d_seq (d_reg ?_)
  refine h_call (ent_of Tryd.func17 (by kernel_rfl) rfl) (fun w hH => known3_any _ (tab_below htab hH.up.below hg) (Nat.lt_of_lt_of_le hg hH.up.size)) rfl rfl rfl rfl ?_
  refine h_q hfl rfl ?_
  refine h_load 3 (v := .agg #[hiW p.1, loW p.1, .int .i64 p.2.1]) (reads_agg (cs := [hiW p.1, loW p.1, .int .i64 p.2.1]) tyDec rfl) rfl rfl rfl rfl ?_
  refine h_load 2 (v := .agg #[hiW p.1, loW p.1, .int .i64 p.2.1]) (reads_agg (cs := [hiW p.1, loW p.1, .int .i64 p.2.1]) tyDec rfl) rfl rfl rfl rfl ?_
  refine h_nes (neD_same _ _ _) rfl rfl rfl rfl ?_
  refine h_q hfl rfl ?_
  refine h_cmp (cmp_neq_f (by simp)) rfl rfl rfl rfl ?_
  refine h_q hfl rfl ?_
  refine h_load 1 (v := .agg #[hiW r.1, loW r.1, .int .i64 r.2.1]) (reads_agg (cs := [hiW r.1, loW r.1, .int .i64 r.2.1]) tyDec rfl) rfl rfl rfl rfl ?_
  refine h_load 0 (v := .agg #[hiW r.1, loW r.1, .int .i64 r.2.1]) (reads_agg (cs := [hiW r.1, loW r.1, .int .i64 r.2.1]) tyDec rfl) rfl rfl rfl rfl ?_
  refine h_nes (neD_same _ _ _) rfl rfl rfl rfl ?_
  refine h_q hfl rfl ?_
  refine h_cmp (cmp_neq_f (by simp)) rfl rfl rfl rfl ?_
  refine h_q hfl rfl ?_
  refine h_done (d_else rfl (d_skip (f_to (d_reg ?_))))
  refine h_load 6 (v := .agg #[hiW c, loW c, .int .i64 m]) (reads_agg (cs := [hiW c, loW c, .int .i64 m]) tyDec rfl) rfl rfl rfl rfl ?_
  refine h_load 4 (v := .agg #[hiW a, loW a, .int .i64 q]) (reads_agg (cs := [hiW a, loW a, .int .i64 q]) tyDec rfl) rfl rfl rfl rfl ?_
  refine h_call (ent_of Tryd.func11 (by kernel_rfl) rfl) (fun w hH => addL _ hf hc ha) rfl rfl rfl rfl ?_
  refine h_q hfl rfl ?_
  refine h_alloc zeDec rfl rfl ?_; intro g17_8
  refine h_store 0 (v := Dc f.1 f.2.1) (#[hiW f.1, loW f.1, .int .i64 f.2.1]) tyDec.2 rfl rfl rfl rfl rfl rfl rfl rfl rfl rfl ?_
  refine h_q hfl rfl ?_
  refine h_done (d_reg ?_)
  refine h_load 6 (v := .agg #[hiW d, loW d, .int .i64 n]) (reads_agg (cs := [hiW d, loW d, .int .i64 n]) tyDec rfl) rfl rfl rfl rfl ?_
  refine h_load 5 (v := .agg #[hiW a, loW a, .int .i64 q]) (reads_agg (cs := [hiW a, loW a, .int .i64 q]) tyDec rfl) rfl rfl rfl rfl ?_
  refine h_call (ent_of Tryd.func11 (by kernel_rfl) rfl) (fun w hH => addL _ hgg hd ha) rfl rfl rfl rfl ?_
  refine h_q hfl rfl ?_
  refine h_alloc zeDec rfl rfl ?_; intro g19_9
  refine h_store 0 (v := Dc g.1 g.2.1) (#[hiW g.1, loW g.1, .int .i64 g.2.1]) tyDec.2 rfl rfl rfl rfl rfl rfl rfl rfl rfl rfl ?_
  refine h_q hfl rfl ?_
  refine h_done ?_
  refine WC2.keep (env' := [(4, .pointer (some ⟨g4_1, 0, none⟩)), (5, .pointer (some ⟨g5_2, 0, none⟩)), (8, .bool false), (17, .pointer (some ⟨g17_8, 0, none⟩)), (18, .int .i64 f.2.2), (19, .pointer (some ⟨g19_9, 0, none⟩)), (20, .int .i64 g.2.2)]) ⟨rfl, rfl, rfl, rfl, rfl, rfl, rfl, trivial⟩ ?_
  refine d_reg ?_
  refine h_load 8 (v := .agg #[hiW c, loW c, .int .i64 m]) (reads_agg (cs := [hiW c, loW c, .int .i64 m]) tyDec rfl) rfl rfl rfl rfl ?_
  refine h_load 7 (v := .agg #[hiW d, loW d, .int .i64 n]) (reads_agg (cs := [hiW d, loW d, .int .i64 n]) tyDec rfl) rfl rfl rfl rfl ?_
  refine h_call (ent_of Tryd.func20 (by kernel_rfl) rfl) (fun w hH => cmpF3 _ hx hc hd) rfl rfl rfl rfl ?_
  refine h_q hfl rfl ?_
  refine h_done (d_reg ?_)
  refine h_load 1 (v := .agg #[hiW f.1, loW f.1, .int .i64 f.2.1]) (reads_agg (cs := [hiW f.1, loW f.1, .int .i64 f.2.1]) tyDec rfl) rfl rfl rfl rfl ?_
  refine h_load 0 (v := .agg #[hiW g.1, loW g.1, .int .i64 g.2.1]) (reads_agg (cs := [hiW g.1, loW g.1, .int .i64 g.2.1]) tyDec rfl) rfl rfl rfl rfl ?_
  refine h_call (ent_of Tryd.func20 (by kernel_rfl) rfl) (fun w hH => cmpL _ hy hf1 hg1) rfl rfl rfl rfl ?_
  refine h_q hfl rfl ?_
  refine h_done (d_reg ?_)
  refine h_q hfl rfl ?_
  refine h_cmp (cmp_neq_t h1) rfl rfl rfl rfl ?_
  refine h_q hfl rfl ?_
  refine h_done (d_ret ?_)
  exact f_fin1 (.tmp rfl) (fun w h => ⟨rfl, h.up.below⟩) rfl

theorem ord_b (w : World) (c s d t a o u : Int) (hc : Fits c) (hd : Fits d) (ha : Fits a) (hs : -9223372036854775808 ≤ s ∧ s < 9223372036854775808) (ht : -9223372036854775808 ≤ t ∧ t < 9223372036854775808) (ho : -9223372036854775808 ≤ o ∧ o < 9223372036854775808) (hu : -9223372036854775808 ≤ u ∧ u < 9223372036854775808) {m n q v x : Int} {p r f g : Int × Int × Int} {y : Int × Int} (hm : s % 19 = m) (hn : t % 19 = n) (hq : o % 19 = q) (hv : u % 19 = v) (hp : sumP (· + ·) c m d n = p) (hp2 : sumP (· + ·) d n c m = p) (hr : mulP c m d n v = r) (hr2 : mulP d n c m v = r) (hf : sumP (· + ·) c m a q = f) (hgg : sumP (· + ·) d n a q = g) (hx : cmpP c m d n = (x, 0)) (hf1 : Fits f.1) (hg1 : Fits g.1) (hy : cmpP f.1 f.2.1 g.1 g.2.1 = y) (h1 : ¬ f.2.2 ≠ 0) (h2 : g.2.2 ≠ 0) (htab : Lib.TabIs Tryd.prog w "internal/strconv.uint64pow10" .u64 Lib.pow10Tab) (hg : 2 < w.heap.size) : Calls Tryd.prog 9 #[Dc c s, Dc d t, Dc a o, .int .i64 u] w fun e w' => e = .returned (.bool true) ∧ Below w.heap.size w w' := by
  refine d_in (args := [Dc c s, Dc d t, Dc a o, .int .i64 u]) 116 Tryd.func9 rfl rfl rfl ?_
  refine d_reg ?_
  refine h_box (cs := #[hiW c, loW c, .int .i64 s]) rfl rfl rfl rfl ?_; intro g4_1
  refine h_box (cs := #[hiW d, loW d, .int .i64 t]) rfl rfl rfl rfl ?_; intro g5_2
  refine h_box (cs := #[hiW a, loW a, .int .i64 o]) rfl rfl rfl rfl ?_; intro g6_3
  refine h_q hfl rfl ?_
  refine h_done (d_reg ?_)
  refine h_load 2 (v := .agg #[hiW c, loW c, .int .i64 s]) (reads_agg (cs := [hiW c, loW c, .int .i64 s]) tyDec rfl) rfl rfl rfl rfl ?_
  refine h_call (ent_of Tryd.func10 (by kernel_rfl) rfl) (fun w hH => nearL _ hm hs) rfl rfl rfl rfl ?_
  refine h_store 2 (v := Dc c m) (#[hiW c, loW c, .int .i64 m]) tyDec.2 rfl rfl rfl rfl rfl rfl rfl rfl rfl rfl ?_
  refine h_done (d_reg ?_)
  refine h_load 1 (v := .agg #[hiW d, loW d, .int .i64 t]) (reads_agg (cs := [hiW d, loW d, .int .i64 t]) tyDec rfl) rfl rfl rfl rfl ?_
  refine h_call (ent_of Tryd.func10 (by kernel_rfl) rfl) (fun w hH => nearL _ hn ht) rfl rfl rfl rfl ?_
  refine h_store 1 (v := Dc d n) (#[hiW d, loW d, .int .i64 n]) tyDec.2 rfl rfl rfl rfl rfl rfl rfl rfl rfl rfl ?_
  refine h_done (d_reg ?_)
  refine h_load 0 (v := .agg #[hiW a, loW a, .int .i64 o]) (reads_agg (cs := [hiW a, loW a, .int .i64 o]) tyDec rfl) rfl rfl rfl rfl ?_
  refine h_call (ent_of Tryd.func10 (by kernel_rfl) rfl) (fun w hH => nearL _ hq ho) rfl rfl rfl rfl ?_
  refine h_store 0 (v := Dc a q) (#[hiW a, loW a, .int .i64 q]) tyDec.2 rfl rfl rfl rfl rfl rfl rfl rfl rfl rfl ?_
  refine h_done (d_reg ?_)
  refine h_q hfl rfl ?_
  refine h_call (ent_of Tryd.func22 (by kernel_rfl) rfl) (fun w hH => pickL _ hv hu (by decide)) rfl rfl rfl rfl ?_
  refine h_q hfl rfl ?_
  refine h_done (d_reg ?_)
  refine h_load 2 (v := .agg #[hiW c, loW c, .int .i64 m]) (reads_agg (cs := [hiW c, loW c, .int .i64 m]) tyDec rfl) rfl rfl rfl rfl ?_
  refine h_load 1 (v := .agg #[hiW d, loW d, .int .i64 n]) (reads_agg (cs := [hiW d, loW d, .int .i64 n]) tyDec rfl) rfl rfl rfl rfl ?_
  refine h_call (ent_of Tryd.func11 (by kernel_rfl) rfl) (fun w hH => addL _ hp hc hd) rfl rfl rfl rfl ?_
  refine h_q hfl rfl ?_
  refine h_alloc zeDec rfl rfl ?_; intro g9_4
  refine h_store 0 (v := Dc p.1 p.2.1) (#[hiW p.1, loW p.1, .int .i64 p.2.1]) tyDec.2 rfl rfl rfl rfl rfl rfl rfl rfl rfl rfl ?_
  refine h_q hfl rfl ?_
  refine h_done (d_reg ?_)
  refine h_load 2 (v := .agg #[hiW d, loW d, .int .i64 n]) (reads_agg (cs := [hiW d, loW d, .int .i64 n]) tyDec rfl) rfl rfl rfl rfl ?_
  refine h_load 3 (v := .agg #[hiW c, loW c, .int .i64 m]) (reads_agg (cs := [hiW c, loW c, .int .i64 m]) tyDec rfl) rfl rfl rfl rfl ?_
  refine h_call (ent_of Tryd.func11 (by kernel_rfl) rfl) (fun w hH => addL _ hp2 hd hc) rfl rfl rfl rfl ?_
  refine h_q hfl rfl ?_
  refine h_alloc zeDec rfl rfl ?_; intro g11_5
  refine h_store 0 (v := Dc p.1 p.2.1) (#[hiW p.1, loW p.1, .int .i64 p.2.1]) tyDec.2 rfl rfl rfl rfl rfl rfl rfl rfl rfl rfl ?_
  refine h_q hfl rfl ?_
  refine h_done (d_reg ?_)
  refine h_load 4 (v := .agg #[hiW c, loW c, .int .i64 m]) (reads_agg (cs := [hiW c, loW c, .int .i64 m]) tyDec rfl) rfl rfl rfl rfl ?_
  refine h_load 3 (v := .agg #[hiW d, loW d, .int .i64 n]) (reads_agg (cs := [hiW d, loW d, .int .i64 n]) tyDec rfl) rfl rfl rfl rfl ?_
  refine h_q hfl rfl ?_
  refine h_call (ent_of Tryd.func23 (by kernel_rfl) rfl) (fun w hH => mulL _ hr hc hd) rfl rfl rfl rfl ?_
  refine h_q hfl rfl ?_
  refine h_alloc zeDec rfl rfl ?_; intro g13_6
  refine h_store 0 (v := Dc r.1 r.2.1) (#[hiW r.1, loW r.1, .int .i64 r.2.1]) tyDec.2 rfl rfl rfl rfl rfl rfl rfl rfl rfl rfl ?_
  refine h_q hfl rfl ?_
  refine h_done (d_reg ?_)
  refine h_load 4 (v := .agg #[hiW d, loW d, .int .i64 n]) (reads_agg (cs := [hiW d, loW d, .int .i64 n]) tyDec rfl) rfl rfl rfl rfl ?_
  refine h_load 5 (v := .agg #[hiW c, loW c, .int .i64 m]) (reads_agg (cs := [hiW c, loW c, .int .i64 m]) tyDec rfl) rfl rfl rfl rfl ?_
  refine h_q hfl rfl ?_
  refine h_call (ent_of Tryd.func23 (by kernel_rfl) rfl) (fun w hH => mulL _ hr2 hd hc) rfl rfl rfl rfl ?_
  refine h_q hfl rfl ?_
  refine h_alloc zeDec rfl rfl ?_; intro g15_7
  refine h_store 0 (v := Dc r.1 r.2.1) (#[hiW r.1, loW r.1, .int .i64 r.2.1]) tyDec.2 rfl rfl rfl rfl rfl rfl rfl rfl rfl rfl ?_
  refine h_q hfl rfl ?_
  refine h_done ?_
  refine WC2.keep (env' := [(4, .pointer (some ⟨g4_1, 0, none⟩)), (5, .pointer (some ⟨g5_2, 0, none⟩)), (6, .pointer (some ⟨g6_3, 0, none⟩)), (8, .bool false), (9, .pointer (some ⟨g9_4, 0, none⟩)), (10, .int .i64 p.2.2), (11, .pointer (some ⟨g11_5, 0, none⟩)), (12, .int .i64 p.2.2), (13, .pointer (some ⟨g13_6, 0, none⟩)), (14, .int .i64 r.2.2), (15, .pointer (some ⟨g15_7, 0, none⟩)), (16, .int .i64 r.2.2)]) ⟨rfl, rfl, rfl, rfl, rfl, rfl, rfl, rfl, rfl, rfl, rfl, rfl, trivial⟩ ?_
  refine d_seq (d_reg ?_)
  refine h_call (ent_of Tryd.func17 (by kernel_rfl) rfl) (fun w hH => known3_any _ (tab_below htab hH.up.below hg) (Nat.lt_of_lt_of_le hg hH.up.size)) rfl rfl rfl rfl ?_
  refine h_q hfl rfl ?_
  refine h_load 3 (v := .agg #[hiW p.1, loW p.1, .int .i64 p.2.1]) (reads_agg (cs := [hiW p.1, loW p.1, .int .i64 p.2.1]) tyDec rfl) rfl rfl rfl rfl ?_
  refine h_load 2 (v := .agg #[hiW p.1, loW p.1, .int .i64 p.2.1]) (reads_agg (cs := [hiW p.1, loW p.1, .int .i64 p.2.1]) tyDec rfl) rfl rfl rfl rfl ?_
  refine h_nes (neD_same _ _ _) rfl rfl rfl rfl ?_
  refine h_q hfl rfl ?_
  refine h_cmp (cmp_neq_f (by simp)) rfl rfl rfl rfl ?_
  refine h_q hfl rfl ?_
  refine h_load 1 (v := .agg #[hiW r.1, loW r.1, .int .i64 r.2.1]) (reads_agg (cs := [hiW r.1, loW r.1, .int .i64 r.2.1]) tyDec rfl) rfl rfl rfl rfl ?_
  refine h_load 0 (v := .agg #[hiW r.1, loW r.1, .int .i64 r.2.1]) (reads_agg (cs := [hiW r.1, loW r.1, .int .i64 r.2.1]) tyDec rfl) rfl rfl rfl rfl ?_
  refine h_nes (neD_same _ _ _) rfl rfl rfl rfl ?_
  refine h_q hfl rfl ?_
  refine h_cmp (cmp_neq_f (by simp)) rfl rfl rfl rfl ?_
  refine h_q hfl rfl ?_
  refine h_done (d_else rfl (d_skip (f_to (d_reg ?_))))
  refine h_load 6 (v := .agg #[hiW c, loW c, .int .i64 m]) (reads_agg (cs := [hiW c, loW c, .int .i64 m]) tyDec rfl) rfl rfl rfl rfl ?_
  refine h_load 4 (v := .agg #[hiW a, loW a, .int .i64 q]) (reads_agg (cs := [hiW a, loW a, .int .i64 q]) tyDec rfl) rfl rfl rfl rfl ?_
  refine h_call (ent_of Tryd.func11 (by kernel_rfl) rfl) (fun w hH => addL _ hf hc ha) rfl rfl rfl rfl ?_
  refine h_q hfl rfl ?_
  refine h_alloc zeDec rfl rfl ?_; intro g17_8
  refine h_store 0 (v := Dc f.1 f.2.1) (#[hiW f.1, loW f.1, .int .i64 f.2.1]) tyDec.2 rfl rfl rfl rfl rfl rfl rfl rfl rfl rfl ?_
  refine h_q hfl rfl ?_
  refine h_done (d_reg ?_)
  refine h_load 6 (v := .agg #[hiW d, loW d, .int .i64 n]) (reads_agg (cs := [hiW d, loW d, .int .i64 n]) tyDec rfl) rfl rfl rfl rfl ?_
  refine h_load 5 (v := .agg #[hiW a, loW a, .int .i64 q]) (reads_agg (cs := [hiW a, loW a, .int .i64 q]) tyDec rfl) rfl rfl rfl rfl ?_
  refine h_call (ent_of Tryd.func11 (by kernel_rfl) rfl) (fun w hH => addL _ hgg hd ha) rfl rfl rfl rfl ?_
  refine h_q hfl rfl ?_
  refine h_alloc zeDec rfl rfl ?_; intro g19_9
  refine h_store 0 (v := Dc g.1 g.2.1) (#[hiW g.1, loW g.1, .int .i64 g.2.1]) tyDec.2 rfl rfl rfl rfl rfl rfl rfl rfl rfl rfl ?_
  refine h_q hfl rfl ?_
  refine h_done ?_
  refine WC2.keep (env' := [(4, .pointer (some ⟨g4_1, 0, none⟩)), (5, .pointer (some ⟨g5_2, 0, none⟩)), (8, .bool false), (17, .pointer (some ⟨g17_8, 0, none⟩)), (18, .int .i64 f.2.2), (19, .pointer (some ⟨g19_9, 0, none⟩)), (20, .int .i64 g.2.2)]) ⟨rfl, rfl, rfl, rfl, rfl, rfl, rfl, trivial⟩ ?_
  refine d_reg ?_
  refine h_load 8 (v := .agg #[hiW c, loW c, .int .i64 m]) (reads_agg (cs := [hiW c, loW c, .int .i64 m]) tyDec rfl) rfl rfl rfl rfl ?_
  refine h_load 7 (v := .agg #[hiW d, loW d, .int .i64 n]) (reads_agg (cs := [hiW d, loW d, .int .i64 n]) tyDec rfl) rfl rfl rfl rfl ?_
  refine h_call (ent_of Tryd.func20 (by kernel_rfl) rfl) (fun w hH => cmpF3 _ hx hc hd) rfl rfl rfl rfl ?_
  refine h_q hfl rfl ?_
  refine h_done (d_reg ?_)
  refine h_load 1 (v := .agg #[hiW f.1, loW f.1, .int .i64 f.2.1]) (reads_agg (cs := [hiW f.1, loW f.1, .int .i64 f.2.1]) tyDec rfl) rfl rfl rfl rfl ?_
  refine h_load 0 (v := .agg #[hiW g.1, loW g.1, .int .i64 g.2.1]) (reads_agg (cs := [hiW g.1, loW g.1, .int .i64 g.2.1]) tyDec rfl) rfl rfl rfl rfl ?_
  refine h_call (ent_of Tryd.func20 (by kernel_rfl) rfl) (fun w hH => cmpL _ hy hf1 hg1) rfl rfl rfl rfl ?_
  refine h_q hfl rfl ?_
  refine h_done (d_reg ?_)
  refine h_q hfl rfl ?_
  refine h_cmp (cmp_neq_f (by omega)) rfl rfl rfl rfl ?_
  refine h_q hfl rfl ?_
  refine h_cmp (cmp_neq_t h2) rfl rfl rfl rfl ?_
  refine h_q hfl rfl ?_
  refine h_done (d_ret ?_)
  exact f_fin1 (.tmp rfl) (fun w h => ⟨rfl, h.up.below⟩) rfl

theorem ord_c (w : World) (c s d t a o u : Int) (hc : Fits c) (hd : Fits d) (ha : Fits a) (hs : -9223372036854775808 ≤ s ∧ s < 9223372036854775808) (ht : -9223372036854775808 ≤ t ∧ t < 9223372036854775808) (ho : -9223372036854775808 ≤ o ∧ o < 9223372036854775808) (hu : -9223372036854775808 ≤ u ∧ u < 9223372036854775808) {m n q v x : Int} {p r f g : Int × Int × Int} {y : Int × Int} (hm : s % 19 = m) (hn : t % 19 = n) (hq : o % 19 = q) (hv : u % 19 = v) (hp : sumP (· + ·) c m d n = p) (hp2 : sumP (· + ·) d n c m = p) (hr : mulP c m d n v = r) (hr2 : mulP d n c m v = r) (hf : sumP (· + ·) c m a q = f) (hgg : sumP (· + ·) d n a q = g) (hx : cmpP c m d n = (x, 0)) (hf1 : Fits f.1) (hg1 : Fits g.1) (hy : cmpP f.1 f.2.1 g.1 g.2.1 = y) (h1 : ¬ f.2.2 ≠ 0) (h2 : ¬ g.2.2 ≠ 0) (h3 : x = y.1) (htab : Lib.TabIs Tryd.prog w "internal/strconv.uint64pow10" .u64 Lib.pow10Tab) (hg : 2 < w.heap.size) : Calls Tryd.prog 9 #[Dc c s, Dc d t, Dc a o, .int .i64 u] w fun e w' => e = .returned (.bool true) ∧ Below w.heap.size w w' := by
  refine d_in (args := [Dc c s, Dc d t, Dc a o, .int .i64 u]) 116 Tryd.func9 rfl rfl rfl ?_
  refine d_reg ?_
  refine h_box (cs := #[hiW c, loW c, .int .i64 s]) rfl rfl rfl rfl ?_; intro g4_1
  refine h_box (cs := #[hiW d, loW d, .int .i64 t]) rfl rfl rfl rfl ?_; intro g5_2
  refine h_box (cs := #[hiW a, loW a, .int .i64 o]) rfl rfl rfl rfl ?_; intro g6_3
  refine h_q hfl rfl ?_
  refine h_done (d_reg ?_)
  refine h_load 2 (v := .agg #[hiW c, loW c, .int .i64 s]) (reads_agg (cs := [hiW c, loW c, .int .i64 s]) tyDec rfl) rfl rfl rfl rfl ?_
  refine h_call (ent_of Tryd.func10 (by kernel_rfl) rfl) (fun w hH => nearL _ hm hs) rfl rfl rfl rfl ?_
  refine h_store 2 (v := Dc c m) (#[hiW c, loW c, .int .i64 m]) tyDec.2 rfl rfl rfl rfl rfl rfl rfl rfl rfl rfl ?_
  refine h_done (d_reg ?_)
  refine h_load 1 (v := .agg #[hiW d, loW d, .int .i64 t]) (reads_agg (cs := [hiW d, loW d, .int .i64 t]) tyDec rfl) rfl rfl rfl rfl ?_
  refine h_call (ent_of Tryd.func10 (by kernel_rfl) rfl) (fun w hH => nearL _ hn ht) rfl rfl rfl rfl ?_
  refine h_store 1 (v := Dc d n) (#[hiW d, loW d, .int .i64 n]) tyDec.2 rfl rfl rfl rfl rfl rfl rfl rfl rfl rfl ?_
  refine h_done (d_reg ?_)
  refine h_load 0 (v := .agg #[hiW a, loW a, .int .i64 o]) (reads_agg (cs := [hiW a, loW a, .int .i64 o]) tyDec rfl) rfl rfl rfl rfl ?_
  refine h_call (ent_of Tryd.func10 (by kernel_rfl) rfl) (fun w hH => nearL _ hq ho) rfl rfl rfl rfl ?_
  refine h_store 0 (v := Dc a q) (#[hiW a, loW a, .int .i64 q]) tyDec.2 rfl rfl rfl rfl rfl rfl rfl rfl rfl rfl ?_
  refine h_done (d_reg ?_)
  refine h_q hfl rfl ?_
  refine h_call (ent_of Tryd.func22 (by kernel_rfl) rfl) (fun w hH => pickL _ hv hu (by decide)) rfl rfl rfl rfl ?_
  refine h_q hfl rfl ?_
  refine h_done (d_reg ?_)
  refine h_load 2 (v := .agg #[hiW c, loW c, .int .i64 m]) (reads_agg (cs := [hiW c, loW c, .int .i64 m]) tyDec rfl) rfl rfl rfl rfl ?_
  refine h_load 1 (v := .agg #[hiW d, loW d, .int .i64 n]) (reads_agg (cs := [hiW d, loW d, .int .i64 n]) tyDec rfl) rfl rfl rfl rfl ?_
  refine h_call (ent_of Tryd.func11 (by kernel_rfl) rfl) (fun w hH => addL _ hp hc hd) rfl rfl rfl rfl ?_
  refine h_q hfl rfl ?_
  refine h_alloc zeDec rfl rfl ?_; intro g9_4
  refine h_store 0 (v := Dc p.1 p.2.1) (#[hiW p.1, loW p.1, .int .i64 p.2.1]) tyDec.2 rfl rfl rfl rfl rfl rfl rfl rfl rfl rfl ?_
  refine h_q hfl rfl ?_
  refine h_done (d_reg ?_)
  refine h_load 2 (v := .agg #[hiW d, loW d, .int .i64 n]) (reads_agg (cs := [hiW d, loW d, .int .i64 n]) tyDec rfl) rfl rfl rfl rfl ?_
  refine h_load 3 (v := .agg #[hiW c, loW c, .int .i64 m]) (reads_agg (cs := [hiW c, loW c, .int .i64 m]) tyDec rfl) rfl rfl rfl rfl ?_
  refine h_call (ent_of Tryd.func11 (by kernel_rfl) rfl) (fun w hH => addL _ hp2 hd hc) rfl rfl rfl rfl ?_
  refine h_q hfl rfl ?_
  refine h_alloc zeDec rfl rfl ?_; intro g11_5
  refine h_store 0 (v := Dc p.1 p.2.1) (#[hiW p.1, loW p.1, .int .i64 p.2.1]) tyDec.2 rfl rfl rfl rfl rfl rfl rfl rfl rfl rfl ?_
  refine h_q hfl rfl ?_
  refine h_done (d_reg ?_)
  refine h_load 4 (v := .agg #[hiW c, loW c, .int .i64 m]) (reads_agg (cs := [hiW c, loW c, .int .i64 m]) tyDec rfl) rfl rfl rfl rfl ?_
  refine h_load 3 (v := .agg #[hiW d, loW d, .int .i64 n]) (reads_agg (cs := [hiW d, loW d, .int .i64 n]) tyDec rfl) rfl rfl rfl rfl ?_
  refine h_q hfl rfl ?_
  refine h_call (ent_of Tryd.func23 (by kernel_rfl) rfl) (fun w hH => mulL _ hr hc hd) rfl rfl rfl rfl ?_
  refine h_q hfl rfl ?_
  refine h_alloc zeDec rfl rfl ?_; intro g13_6
  refine h_store 0 (v := Dc r.1 r.2.1) (#[hiW r.1, loW r.1, .int .i64 r.2.1]) tyDec.2 rfl rfl rfl rfl rfl rfl rfl rfl rfl rfl ?_
  refine h_q hfl rfl ?_
  refine h_done (d_reg ?_)
  refine h_load 4 (v := .agg #[hiW d, loW d, .int .i64 n]) (reads_agg (cs := [hiW d, loW d, .int .i64 n]) tyDec rfl) rfl rfl rfl rfl ?_
  refine h_load 5 (v := .agg #[hiW c, loW c, .int .i64 m]) (reads_agg (cs := [hiW c, loW c, .int .i64 m]) tyDec rfl) rfl rfl rfl rfl ?_
  refine h_q hfl rfl ?_
  refine h_call (ent_of Tryd.func23 (by kernel_rfl) rfl) (fun w hH => mulL _ hr2 hd hc) rfl rfl rfl rfl ?_
  refine h_q hfl rfl ?_
  refine h_alloc zeDec rfl rfl ?_; intro g15_7
  refine h_store 0 (v := Dc r.1 r.2.1) (#[hiW r.1, loW r.1, .int .i64 r.2.1]) tyDec.2 rfl rfl rfl rfl rfl rfl rfl rfl rfl rfl ?_
  refine h_q hfl rfl ?_
  refine h_done ?_
  refine WC2.keep (env' := [(4, .pointer (some ⟨g4_1, 0, none⟩)), (5, .pointer (some ⟨g5_2, 0, none⟩)), (6, .pointer (some ⟨g6_3, 0, none⟩)), (8, .bool false), (9, .pointer (some ⟨g9_4, 0, none⟩)), (10, .int .i64 p.2.2), (11, .pointer (some ⟨g11_5, 0, none⟩)), (12, .int .i64 p.2.2), (13, .pointer (some ⟨g13_6, 0, none⟩)), (14, .int .i64 r.2.2), (15, .pointer (some ⟨g15_7, 0, none⟩)), (16, .int .i64 r.2.2)]) ⟨rfl, rfl, rfl, rfl, rfl, rfl, rfl, rfl, rfl, rfl, rfl, rfl, trivial⟩ ?_
  refine d_seq (d_reg ?_)
  refine h_call (ent_of Tryd.func17 (by kernel_rfl) rfl) (fun w hH => known3_any _ (tab_below htab hH.up.below hg) (Nat.lt_of_lt_of_le hg hH.up.size)) rfl rfl rfl rfl ?_
  refine h_q hfl rfl ?_
  refine h_load 3 (v := .agg #[hiW p.1, loW p.1, .int .i64 p.2.1]) (reads_agg (cs := [hiW p.1, loW p.1, .int .i64 p.2.1]) tyDec rfl) rfl rfl rfl rfl ?_
  refine h_load 2 (v := .agg #[hiW p.1, loW p.1, .int .i64 p.2.1]) (reads_agg (cs := [hiW p.1, loW p.1, .int .i64 p.2.1]) tyDec rfl) rfl rfl rfl rfl ?_
  refine h_nes (neD_same _ _ _) rfl rfl rfl rfl ?_
  refine h_q hfl rfl ?_
  refine h_cmp (cmp_neq_f (by simp)) rfl rfl rfl rfl ?_
  refine h_q hfl rfl ?_
  refine h_load 1 (v := .agg #[hiW r.1, loW r.1, .int .i64 r.2.1]) (reads_agg (cs := [hiW r.1, loW r.1, .int .i64 r.2.1]) tyDec rfl) rfl rfl rfl rfl ?_
  refine h_load 0 (v := .agg #[hiW r.1, loW r.1, .int .i64 r.2.1]) (reads_agg (cs := [hiW r.1, loW r.1, .int .i64 r.2.1]) tyDec rfl) rfl rfl rfl rfl ?_
  refine h_nes (neD_same _ _ _) rfl rfl rfl rfl ?_
  refine h_q hfl rfl ?_
  refine h_cmp (cmp_neq_f (by simp)) rfl rfl rfl rfl ?_
  refine h_q hfl rfl ?_
  refine h_done (d_else rfl (d_skip (f_to (d_reg ?_))))
  refine h_load 6 (v := .agg #[hiW c, loW c, .int .i64 m]) (reads_agg (cs := [hiW c, loW c, .int .i64 m]) tyDec rfl) rfl rfl rfl rfl ?_
  refine h_load 4 (v := .agg #[hiW a, loW a, .int .i64 q]) (reads_agg (cs := [hiW a, loW a, .int .i64 q]) tyDec rfl) rfl rfl rfl rfl ?_
  refine h_call (ent_of Tryd.func11 (by kernel_rfl) rfl) (fun w hH => addL _ hf hc ha) rfl rfl rfl rfl ?_
  refine h_q hfl rfl ?_
  refine h_alloc zeDec rfl rfl ?_; intro g17_8
  refine h_store 0 (v := Dc f.1 f.2.1) (#[hiW f.1, loW f.1, .int .i64 f.2.1]) tyDec.2 rfl rfl rfl rfl rfl rfl rfl rfl rfl rfl ?_
  refine h_q hfl rfl ?_
  refine h_done (d_reg ?_)
  refine h_load 6 (v := .agg #[hiW d, loW d, .int .i64 n]) (reads_agg (cs := [hiW d, loW d, .int .i64 n]) tyDec rfl) rfl rfl rfl rfl ?_
  refine h_load 5 (v := .agg #[hiW a, loW a, .int .i64 q]) (reads_agg (cs := [hiW a, loW a, .int .i64 q]) tyDec rfl) rfl rfl rfl rfl ?_
  refine h_call (ent_of Tryd.func11 (by kernel_rfl) rfl) (fun w hH => addL _ hgg hd ha) rfl rfl rfl rfl ?_
  refine h_q hfl rfl ?_
  refine h_alloc zeDec rfl rfl ?_; intro g19_9
  refine h_store 0 (v := Dc g.1 g.2.1) (#[hiW g.1, loW g.1, .int .i64 g.2.1]) tyDec.2 rfl rfl rfl rfl rfl rfl rfl rfl rfl rfl ?_
  refine h_q hfl rfl ?_
  refine h_done ?_
  refine WC2.keep (env' := [(4, .pointer (some ⟨g4_1, 0, none⟩)), (5, .pointer (some ⟨g5_2, 0, none⟩)), (8, .bool false), (17, .pointer (some ⟨g17_8, 0, none⟩)), (18, .int .i64 f.2.2), (19, .pointer (some ⟨g19_9, 0, none⟩)), (20, .int .i64 g.2.2)]) ⟨rfl, rfl, rfl, rfl, rfl, rfl, rfl, trivial⟩ ?_
  refine d_reg ?_
  refine h_load 8 (v := .agg #[hiW c, loW c, .int .i64 m]) (reads_agg (cs := [hiW c, loW c, .int .i64 m]) tyDec rfl) rfl rfl rfl rfl ?_
  refine h_load 7 (v := .agg #[hiW d, loW d, .int .i64 n]) (reads_agg (cs := [hiW d, loW d, .int .i64 n]) tyDec rfl) rfl rfl rfl rfl ?_
  refine h_call (ent_of Tryd.func20 (by kernel_rfl) rfl) (fun w hH => cmpF3 _ hx hc hd) rfl rfl rfl rfl ?_
  refine h_q hfl rfl ?_
  refine h_done (d_reg ?_)
  refine h_load 1 (v := .agg #[hiW f.1, loW f.1, .int .i64 f.2.1]) (reads_agg (cs := [hiW f.1, loW f.1, .int .i64 f.2.1]) tyDec rfl) rfl rfl rfl rfl ?_
  refine h_load 0 (v := .agg #[hiW g.1, loW g.1, .int .i64 g.2.1]) (reads_agg (cs := [hiW g.1, loW g.1, .int .i64 g.2.1]) tyDec rfl) rfl rfl rfl rfl ?_
  refine h_call (ent_of Tryd.func20 (by kernel_rfl) rfl) (fun w hH => cmpL _ hy hf1 hg1) rfl rfl rfl rfl ?_
  refine h_q hfl rfl ?_
  refine h_done (d_reg ?_)
  refine h_q hfl rfl ?_
  refine h_cmp (cmp_neq_f (by omega)) rfl rfl rfl rfl ?_
  refine h_q hfl rfl ?_
  refine h_cmp (cmp_neq_f (by omega)) rfl rfl rfl rfl ?_
  refine h_q hfl rfl ?_
  refine h_cmp (cmp_eql_t h3) rfl rfl rfl rfl ?_
  refine h_q hfl rfl ?_
  refine h_done (d_ret ?_)
  exact f_fin1 (.tmp rfl) (fun w h => ⟨rfl, h.up.below⟩) rfl

theorem lawOrder (w : World) (c s d t a o u : Int) (hc : Fits c) (hd : Fits d) (ha : Fits a) (hs : -9223372036854775808 ≤ s ∧ s < 9223372036854775808) (ht : -9223372036854775808 ≤ t ∧ t < 9223372036854775808) (ho : -9223372036854775808 ≤ o ∧ o < 9223372036854775808) (hu : -9223372036854775808 ≤ u ∧ u < 9223372036854775808) (htab : Lib.TabIs Tryd.prog w "internal/strconv.uint64pow10" .u64 Lib.pow10Tab) (hg : 2 < w.heap.size) : Calls Tryd.prog 9 #[Dc c s, Dc d t, Dc a o, .int .i64 u] w fun e w' => e = .returned (.bool true) ∧ Below w.heap.size w w' := by
  have hm0 : May (s % 19) := near_may s
  have hn0 : May (t % 19) := near_may t
  have hq0 : May (o % 19) := near_may o
  have hx : cmpP c (s % 19) d (t % 19) = (cmpD c (s % 19) d (t % 19), 0) := by unfold cmpP; rw [if_pos ⟨hm0, hn0⟩]
  by_cases h1 : (sumP (· + ·) c (s % 19) a (o % 19)).2.2 ≠ 0
  · exact ord_a w c s d t a o u hc hd ha hs ht ho hu rfl rfl rfl rfl rfl (sum_comm _ _ _ _) rfl (mul_comm3 _ _ _ _ _) rfl rfl hx sumP_fits sumP_fits rfl h1 htab hg
  · by_cases h2 : (sumP (· + ·) d (t % 19) a (o % 19)).2.2 ≠ 0
    · exact ord_b w c s d t a o u hc hd ha hs ht ho hu rfl rfl rfl rfl rfl (sum_comm _ _ _ _) rfl (mul_comm3 _ _ _ _ _) rfl rfl hx sumP_fits sumP_fits rfl h1 h2 htab hg
    · refine ord_c w c s d t a o u hc hd ha hs ht ho hu rfl rfl rfl rfl rfl (sum_comm _ _ _ _) rfl (mul_comm3 _ _ _ _ _) rfl rfl hx sumP_fits sumP_fits rfl h1 h2 ?_ htab hg
      rcases sumP_cases (f := (· + ·)) (c := c) (d := a) hm0 hq0 with e1 | ⟨_, _, _, e1⟩
      · rw [e1] at h1; exact absurd (by decide) h1
      · rcases sumP_cases (f := (· + ·)) (c := d) (d := a) hn0 hq0 with e2 | ⟨_, _, _, e2⟩
        · rw [e2] at h2; exact absurd (by decide) h2
        · rw [e1, e2]
          unfold cmpP
          rw [if_pos ⟨by show May (max _ _); unfold May at *; omega, by show May (max _ _); unfold May at *; omega⟩]
          exact in_order rfl rfl
end Go.Proofs.YtmamedobphlpkaaDoor
