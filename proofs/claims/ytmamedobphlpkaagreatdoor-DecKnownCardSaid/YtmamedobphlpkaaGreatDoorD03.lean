/-
  TextQ · RTextD · LawTD
-/
import Derived.Test.YtmamedobphlpkaaGreatDoorB06
import Derived.Test.YtmamedobphlpkaaGreatDoorB08
import Derived.Test.YtmamedobphlpkaaGreatDoorD01
import Derived.Test.YtmamedobphlpkaaGreatDoorD02
import Derived.Stop.LaidErr
import Derived.LaidLaws
import Derived.Lay
set_option linter.unusedSimpArgs false
set_option linter.unusedVariables false

namespace Go.Proofs.YtmamedobphlpkaaGreatDoor
open Go.RowKit

/-- l is parsed to v -/
def PV (l : List UInt8) (v : Value) : Prop := ∃ D p q m pt, cutS l = (m, D) ∧ CutIs D p q pt ∧ valD m p q pt = v
theorem parseDL (w : World) {l : List UInt8} {v : Value} (h : PV l v) (hlen : l.length ≤ 9223372036854775807) (hE : ErrIs w) : Calls Tryz.prog 12 #[.string (bs l)] w fun e w' => e = .returned v ∧ Below w.heap.size w w' := by
  obtain ⟨D, p, q, m, pt, h1, h2, rfl⟩ := h
  exact parseD_any w l D p q m pt h1 h2 hlen hE
theorem rparseDL (w : World) {l : List UInt8} {v : Value} (h : PV l v) (hlen : l.length ≤ 9223372036854775807) : Calls Tryz.prog 19 #[.string (bs l)] w fun e w' => e = .returned v ∧ Below w.heap.size w w' := by
  obtain ⟨D, p, q, m, pt, h1, h2, rfl⟩ := h
  exact rparseD_any w l D p q m pt h1 h2 hlen
theorem pad_dd {L : List UInt8} (ha : allD L) (hne : L ≠ []) : L = Lib.repeatL [48] (L.length - (Lib.decDigits (nv L)).length) ++ Lib.decDigits (nv L) ∧ (Lib.decDigits (nv L)).length ≤ L.length := by
  induction L with
  | nil => exact absurd rfl hne
  | cons b r ih =>
    obtain ⟨hb, hr⟩ := allD_cons.1 ha
    by_cases h0 : b.toNat = 48
    · have eb : b = 48 := UInt8.toNat_inj.1 (by simpa using h0)
      subst eb
      by_cases hr0 : r = []
      · subst hr0
        have e : nv [48] = 0 := rfl
        rw [e, dd_zero]
        exact ⟨rfl, Nat.le_refl _⟩
      · obtain ⟨e, hl⟩ := ih hr hr0
        have en : nv (48 :: r) = nv r := by
          show nvA 0 (48 :: r) = nv r
          rw [nvA_cons]; rfl
        rw [en]
        refine ⟨?_, by simp; omega⟩
        rw [List.length_cons, show r.length + 1 - (Lib.decDigits (nv r)).length = (r.length - (Lib.decDigits (nv r)).length) + 1 by omega, Lib.repeatL]
        rw [List.append_assoc, ← e]; rfl
    · have hp : plainN (b :: r) := ⟨by simp, ha, fun _ => head_no48 (b := b) rfl h0⟩
      rw [dd_nv hp]
      exact ⟨by simp [Lib.repeatL], Nat.le_refl _⟩
theorem plain_long {p q : List UInt8} (hp : plainN p) (hq : allD q) (hl : 1 < p.length) : plainN (p ++ q) := by
  refine ⟨fun e => hp.1 (List.append_eq_nil_iff.1 e).1, allD_app.2 ⟨hp.2.1, hq⟩, fun _ => ?_⟩
  rw [head_app hp.1]
  exact hp.2.2 hl
theorem digD_eq {z : Int} {p q : List UInt8} (hp : plainN p) (hq : allD q) (hz : z.natAbs = nv (p ++ q)) : digD z q.length = p ++ q := by
  have hne : p ++ q ≠ [] := fun e => hp.1 (List.append_eq_nil_iff.1 e).1
  obtain ⟨e, hle⟩ := pad_dd (allD_app.2 ⟨hp.2.1, hq⟩) hne
  have hlen : (p ++ q).length = p.length + q.length := List.length_append
  have hp1 := List.length_pos_iff.2 hp.1
  unfold digD
  rw [hz]
  by_cases h1 : 1 < p.length
  · rw [dd_nv (plain_long hp hq h1), show q.length + 1 - (p ++ q).length = 0 by omega]
    simp [Lib.repeatL]
  · have : q.length + 1 = (p ++ q).length := by omega
    rw [this]
    exact e.symm
theorem pointD_eq {z : Int} {p q : List UInt8} (hp : plainN p) (hq : allD q) (hz : z.natAbs = nv (p ++ q)) : pointD z q.length = if q = [] then p else p ++ 46 :: q := by
  unfold pointD
  rw [digD_eq hp hq hz]
  by_cases h : q = []
  · subst h; simp
  · have h0 : q.length ≠ 0 := fun e => h (List.eq_nil_of_length_eq_zero e)
    rw [if_neg h0, if_neg h, show (p ++ q).length - q.length = p.length by rw [List.length_append]; omega]
    simp
theorem cut_val (l : List UInt8) : ∃ v, PV l v ∧ ((∃ er : Int, er ≠ 0 ∧ v = .tuple #[Dc 0 0, .int .i64 er]) ∨ ∃ (z : Int) (k : Nat), Fits z ∧ k ≤ 18 ∧ v = .tuple #[Dc z (k : Int), .int .i64 0] ∧ textD z k = l) := by
  rcases hc : cutS l with ⟨m, D⟩
  obtain ⟨p, q, pt, hcut⟩ := cut_dot D
  refine ⟨_, ⟨D, p, q, m, pt, hc, hcut, rfl⟩, ?_⟩
  by_cases hok : okD m p q pt
  · have hval : valD m p q pt = decR (if m then -(nv (p ++ q) : Int) else (nv (p ++ q) : Int)) (q.length : Int) := if_pos hok
    rw [hval]
    obtain ⟨h1, h2, h3, h4, h5⟩ := hok
    by_cases hf : Fits (if m then -(nv (p ++ q) : Int) else (nv (p ++ q) : Int))
    · refine .inr ⟨_, q.length, hf, h4, if_pos hf, ?_⟩
      have hz : (if m then -(nv (p ++ q) : Int) else (nv (p ++ q) : Int)).natAbs = nv (p ++ q) := by cases m <;> simp
      have hD : (if q = [] then p else p ++ 46 :: q) = D := by
        rcases hcut.2 with ⟨_, a2, a3⟩ | ⟨a1, a3⟩
        · rw [if_pos a2, a3]
        · rw [if_neg (h2 a1), a3]
      unfold textD
      rw [pointD_eq h1 h3 hz, hD, cut_back hc]
      cases m with
      | true =>
        have : nv (p ++ q) ≠ 0 := fun e => h5 ⟨rfl, e⟩
        rw [if_pos (by simp; omega)]; rfl
      | false => rw [if_neg (by simp)]; rfl
    · exact .inl ⟨20, by decide, if_neg hf⟩
  · exact .inl ⟨23, by decide, valD_no hok⟩
theorem digD_all (c : Int) (k : Nat) : allD (digD c k) := by
  unfold digD
  refine allD_app.2 ⟨?_, dd_allD _⟩
  generalize k + 1 - (Lib.decDigits c.natAbs).length = j
  induction j with
  | zero => exact allD_nil
  | succ j ih => exact allD_app.2 ⟨by intro b hb; rw [List.mem_singleton.1 hb]; decide, ih⟩
theorem digD_nv (c : Int) (k : Nat) : nv (digD c k) = c.natAbs := by
  unfold digD
  generalize k + 1 - (Lib.decDigits c.natAbs).length = j
  induction j with
  | zero => simpa [Lib.repeatL] using nv_dd c.natAbs
  | succ j ih =>
    show nvA 0 (48 :: (Lib.repeatL [48] j ++ Lib.decDigits c.natAbs)) = _
    rw [nvA_cons]
    exact ih
theorem digD_long (c : Int) (k : Nat) (h : k + 1 < (digD c k).length) : plainN (digD c k) := by
  have e : digD c k = Lib.decDigits c.natAbs := by
    unfold digD at h ⊢
    rw [List.length_append, Lib.repeatL_length, List.length_singleton] at h
    rw [show k + 1 - (Lib.decDigits c.natAbs).length = 0 by omega]; rfl
  rw [e]; exact plain_dd _
theorem parse_textD {c : Int} {k : Nat} (hc : Fits c) (hk : k ≤ 18) : PV (textD c k) (.tuple #[Dc c (k : Int), .int .i64 0]) := by
  obtain ⟨n, hn⟩ : ∃ n, n = (digD c k).length - k := ⟨_, rfl⟩
  have hl := (digD_length c k).1
  obtain ⟨p, hp⟩ : ∃ p, p = (digD c k).take n := ⟨_, rfl⟩
  obtain ⟨q, hq⟩ : ∃ q, q = (digD c k).drop n := ⟨_, rfl⟩
  have hpq : p ++ q = digD c k := by rw [hp, hq, List.take_append_drop]
  have hpl : p.length = n := by rw [hp, List.length_take]; omega
  have hql : q.length = k := by rw [hq, List.length_drop]; omega
  have hpa : allD p := fun b hb => digD_all c k b (by rw [← hpq]; simp [hb])
  have hqa : allD q := fun b hb => digD_all c k b (by rw [← hpq]; simp [hb])
  have hne : p ≠ [] := fun e => by rw [e] at hpl; simp at hpl; omega
  have hpp : plainN p := ⟨hne, hpa, fun h1 => by
    have := (digD_long c k (by omega)).2.2 (by omega)
    rwa [← hpq, head_app hne] at this⟩
  have h46 : ∀ b ∈ p, b ≠ 46 := fun b hb e => by
    have := hpa b hb
    rw [e] at this
    exact absurd this (by decide)
  have hz : c.natAbs = nv (p ++ q) := by rw [hpq, digD_nv]
  have hpt := pointD_eq hpp hqa hz
  rw [hql] at hpt
  obtain ⟨m, hm⟩ : ∃ m, m = decide (c < 0) := ⟨_, rfl⟩
  have hcut : cutS (textD c k) = (m, pointD c k) := by
    unfold textD
    by_cases h : c < 0
    · rw [if_pos h, hm, decide_eq_true h]; rfl
    · rw [if_neg h, hm, decide_eq_false h]
      rcases cut_ways (pointD c k) with ⟨r, e, _, _⟩ | ⟨e, _⟩
      · exfalso
        rw [hpt] at e
        cases hp' : p with
        | nil => exact hne hp'
        | cons a r' =>
          have ha : isD a := hpa a (by rw [hp']; simp)
          rw [hp'] at e
          have : a = 45 := by
            split at e
            · exact (List.cons.inj e).1
            · exact (List.cons.inj e).1
          rw [this] at ha
          exact absurd ha (by decide)
      · exact e
  have hzz : (if m then -(nv (p ++ q) : Int) else (nv (p ++ q) : Int)) = c := by
    rw [← hz, hm]
    by_cases h : c < 0
    · rw [decide_eq_true h, if_pos rfl]; omega
    · rw [decide_eq_false h, if_neg (by simp)]; omega
  have hm0 : ¬ (m = true ∧ nv (p ++ q) = 0) := fun ⟨h1, h2⟩ => by
    rw [hm] at h1
    have := of_decide_eq_true h1
    omega
  by_cases h0 : q = []
  · refine ⟨pointD c k, p, q, m, false, hcut, ⟨h46, .inl ⟨rfl, h0, by rw [hpt, if_pos h0]⟩⟩, ?_⟩
    rw [valD, if_pos ⟨hpp, by simp, hqa, by omega, hm0⟩, hzz, decR, if_pos hc, hql]
  · refine ⟨pointD c k, p, q, m, true, hcut, ⟨h46, .inr ⟨rfl, by rw [hpt, if_neg h0]⟩⟩, ?_⟩
    rw [valD, if_pos ⟨hpp, fun _ => h0, hqa, by omega, hm0⟩, hzz, decR, if_pos hc, hql]
theorem textD_len {c : Int} {k : Nat} (hc : Fits c) (hk : k ≤ 18) : (textD c k).length ≤ 200 := by
  have h1 := (digD_length c k).2
  have h2 : (Lib.decDigits c.natAbs).length ≤ 39 := dd_len 39 _ (by decide) (fits_nat hc)
  have h3 : (pointD c k).length ≤ (digD c k).length + 1 := by
    unfold pointD
    split
    · omega
    · simp only [List.length_append, List.length_take, List.length_drop, List.length_cons, List.length_nil]; omega
  unfold textD
  split
  · simp; omega
  · omega
end Go.Proofs.YtmamedobphlpkaaGreatDoor

namespace Go.Proofs.YtmamedobphlpkaaGreatDoor
open Go.RowKit

theorem rep_len (j : Nat) (l : List UInt8) : ((Lib.repeatL [48] j ++ l).length : Int) = ((j + l.length : Nat) : Int) := by
  rw [List.length_append, Lib.repeatL_length]; simp
theorem fits_len {c : Int} (hc : Fits c) : (Lib.decDigits c.natAbs).length ≤ 39 := dd_len 39 _ (by decide) (fits_nat hc)

theorem rtextD_ok (w : World) (c : Int) (k : Nat) (hc : Fits c) (hk : k ≤ 18) : Calls Tryz.prog 17 #[Dc c (k : Int)] w fun e w' => e = .returned (.tuple #[.string (bs (textD c k)), .int .i64 0]) ∧ Below w.heap.size w w' := by
  obtain ⟨L, hL⟩ : ∃ L, L = (Lib.decDigits c.natAbs).length := ⟨_, rfl⟩
  have hL1 := dd_pos c.natAbs
  have hL2 := fits_len hc
  rw [← hL] at hL1 hL2
  refine d_in (args := [Dc c (k : Int)]) 46 Tryz.func17 rfl rfl rfl ?_
  refine d_reg ?_
  refine h_box (cs := #[hiW c, loW c, .int .i64 (k : Int)]) rfl rfl rfl rfl ?_; intro g1_1
  refine h_q hfl rfl ?_
  refine h_done (d_seq (d_reg ?_))
  refine h_load 0 (v := .agg #[hiW c, loW c, .int .i64 (k : Int)]) (reads_agg (cs := [hiW c, loW c, .int .i64 (k : Int)]) tyDec rfl) rfl rfl rfl rfl ?_
  refine h_call (ent_of Tryz.func42 (by kernel_rfl) rfl) (fun w hH => rright_yes _ c k (by unfold May; omega)) rfl rfl rfl rfl ?_
  refine h_q hfl rfl ?_
  refine h_done (d_else rfl (d_skip (f_to (d_reg ?_))))
  refine h_q hfl rfl ?_
  refine h_load 0 (v := .agg #[hiW c, loW c]) (reads_agg (cs := [hiW c, loW c, .int .i64 (k : Int)]) tyWide rfl) rfl rfl rfl rfl ?_
  refine h_call (ent_of Tryz.func43 (by kernel_rfl) rfl) (fun w hH => rof_any _ c hc) rfl rfl rfl rfl ?_
  refine h_alloc zeBig rfl rfl ?_; intro g4_2
  refine h_store 0 (v := BigZ c) (bigZ c) tyBig.2 (bigZ_size _) (ble_size zBig_size) (bigZ_one _) (over_all (c := zBig) (v := bigZ c) ((zBig_size : (zBig).size = 17).trans ((bigZ_size _) : (bigZ c).size = 17).symm)) rfl rfl rfl rfl rfl rfl ?_
  refine h_done (d_reg ?_)
  refine h_q hfl rfl ?_
  refine h_load 0 (v := .agg (digs ((c).natAbs))) (reads_D _ _) rfl rfl rfl rfl ?_
  refine h_call (ent_of Tryz.func44 (by kernel_rfl) rfl) (fun w hH => rtext_any _ c.natAbs (Nat.lt_trans (fits_nat hc) (Nat.le_of_ble_eq_true (by kernel_rfl))) (by have := fits_len hc; omega)) rfl rfl rfl rfl ?_
  refine h_q hfl rfl ?_
  refine h_done (d_seq (d_block ?_))
  refine d_loop (α := Nat) (fun j => [(1, .pointer (some ⟨g1_1, 0, none⟩)), (2, .string (bs ([]))), (3, .int .i64 0), (4, .pointer (some ⟨g4_2, 0, none⟩)), (5, .string (bs (Lib.repeatL [48] j ++ Lib.decDigits c.natAbs)))]) (fun j => [(g4_2, 73, bigZ c), (g1_1, 26, #[hiW c, loW c, .int .i64 (k : Int)])]) (fun j => j = 0 ∨ j + L ≤ k + 1) (fun j => k + 1 - j) 0 (.inl rfl) ⟨rfl, rfl, rfl, rfl, rfl, trivial⟩ rfl ?_
  rintro j hj
  refine WC2.at_ (env' := [(1, .pointer (some ⟨g1_1, 0, none⟩)), (2, .string (bs ([]))), (3, .int .i64 0), (4, .pointer (some ⟨g4_2, 0, none⟩)), (5, .string (bs (Lib.repeatL [48] j ++ Lib.decDigits c.natAbs)))]) (rs' := [(g4_2, 73, bigZ c), (g1_1, 26, #[hiW c, loW c, .int .i64 (k : Int)])]) ⟨rfl, rfl, rfl, rfl, rfl, trivial⟩ rfl ?_
  refine d_seq ?_
  by_cases hw : j + L ≤ k
  · skip
    refine d_reg ?_
    refine h_q hfl rfl ?_
    refine h_builtin (v := .int .i64 ((j + L : Nat) : Int)) (fun w cs => (run_len_bs Tryz.underlying9 _ _ w cs).trans (by rw [rep_len, ← hL])) rfl rfl rfl ?_
    refine h_q hfl rfl ?_
    refine h_load 1 (v := .int .i64 (k : Int)) (reads_one tyInt rfl) rfl rfl rfl rfl ?_
    refine h_cmp (cmp_leq_t (by omega)) rfl rfl rfl rfl ?_
    refine h_done (d_then rfl (d_skip (f_to (d_block (d_reg1 ?_)))))
    refine h_q hfl rfl ?_
    refine h_cat (r := Lib.repeatL [48] (j + 1) ++ Lib.decDigits c.natAbs) (by simp [Lib.repeatL]) (by have := rep_len j (Lib.decDigits c.natAbs); rw [← hL] at this; simp only [List.length_cons, List.length_nil]; omega) rfl rfl rfl rfl ?_
    refine h_q hfl rfl ?_
    refine h_nil (f_block ?_)
    exact f_again (j + 1) 0 (.inr (by omega)) (by omega) ⟨rfl, rfl, rfl, rfl, rfl, trivial⟩ rfl
  · skip
    refine d_reg ?_
    refine h_q hfl rfl ?_
    refine h_builtin (v := .int .i64 ((j + L : Nat) : Int)) (fun w cs => (run_len_bs Tryz.underlying9 _ _ w cs).trans (by rw [rep_len, ← hL])) rfl rfl rfl ?_
    refine h_q hfl rfl ?_
    refine h_load 1 (v := .int .i64 (k : Int)) (reads_one tyInt rfl) rfl rfl rfl rfl ?_
    refine h_cmp (cmp_leq_f (by omega)) rfl rfl rfl rfl ?_
    refine h_done (d_else rfl (d_exit (f_then_exit (f_then_exit (f_block_exit (f_to (d_seq ?_)))))))
    have e : Lib.repeatL [48] j ++ Lib.decDigits c.natAbs = digD c k := by unfold digD; rw [← hL, show j = k + 1 - L by omega]
    rw [e]
    have hdl := digD_length c k
    by_cases hk0 : k = 0
    · skip
      refine d_reg ?_
      refine h_q hfl rfl ?_
      refine h_load 1 (v := .int .i64 (k : Int)) (reads_one tyInt rfl) rfl rfl rfl rfl ?_
      refine h_cmp (cmp_gtr_f (by omega)) rfl rfl rfl rfl ?_
      refine h_done (d_else rfl (d_skip (f_to (d_seq ?_))))
      have ep : digD c k = pointD c k := by rw [pointD, if_pos (by omega)]
      have hpl : (pointD c k).length ≤ 200 := by rw [← ep]; omega
      rw [ep]
      by_cases hn : c < 0
      · skip
        refine d_reg ?_
        refine h_q hfl rfl ?_
        refine h_load 0 (v := .bool true) (reads_one tyBool (bigZ_neg hn)) rfl rfl rfl rfl ?_
        refine h_done (d_then rfl (d_reg1 ?_))
        refine h_q hfl rfl ?_
        refine h_cat (r := 45 :: pointD c k) rfl (by have := hpl; simp only [List.length_cons, List.length_nil]; omega) rfl rfl rfl rfl ?_
        refine h_q hfl rfl ?_
        refine h_nil (f_to (d_reg ?_))
        refine h_q hfl rfl ?_
        refine h_done (d_ret ?_)
        exact f_fin2 (.tmp rfl) (.tmp rfl) (fun w h => ⟨by rw [textD, if_pos hn], h.up.below⟩) rfl
      · skip
        refine d_reg ?_
        refine h_q hfl rfl ?_
        refine h_load 0 (v := .bool false) (reads_one tyBool (bigZ_pos hn)) rfl rfl rfl rfl ?_
        refine h_done (d_else rfl (d_skip (f_to (d_reg ?_))))
        refine h_q hfl rfl ?_
        refine h_done (d_ret ?_)
        exact f_fin2 (.tmp rfl) (.tmp rfl) (fun w h => ⟨by rw [textD, if_neg hn], h.up.below⟩) rfl
    · skip
      refine d_reg ?_
      refine h_q hfl rfl ?_
      refine h_load 1 (v := .int .i64 (k : Int)) (reads_one tyInt rfl) rfl rfl rfl rfl ?_
      refine h_cmp (cmp_gtr_t (by omega)) rfl rfl rfl rfl ?_
      refine h_done (d_then rfl ?_)
      refine d_par 16 0 [⟨.quiet, 0, fun _ => .string (bs (digD c k)), []⟩, ⟨.quiet, 0, fun _ => .string (bs (digD c k)), []⟩, ⟨.quiet, 0, fun _ => .int .i64 ((digD c k).length : Int), [1]⟩, ⟨.quiet, 0, fun _ => .pointer (some ⟨g1_1, 2, none⟩), []⟩, ⟨.quiet, 0, fun _ => .int .i64 (k : Int), [3]⟩, ⟨.quiet, 0, fun _ => .int .i64 ((((digD c k).length - k) : Nat) : Int), [2, 4]⟩, ⟨.quiet, 0, fun _ => .string (bs ((digD c k).take ((digD c k).length - k))), [0, 5]⟩, ⟨.quiet, 0, fun _ => .string (bs (((digD c k).take ((digD c k).length - k)) ++ ([46]))), [6]⟩, ⟨.quiet, 0, fun _ => .string (bs (digD c k)), []⟩, ⟨.quiet, 0, fun _ => .string (bs (digD c k)), []⟩, ⟨.quiet, 0, fun _ => .int .i64 ((digD c k).length : Int), [9]⟩, ⟨.quiet, 0, fun _ => .pointer (some ⟨g1_1, 2, none⟩), []⟩, ⟨.quiet, 0, fun _ => .int .i64 (k : Int), [11]⟩, ⟨.quiet, 0, fun _ => .int .i64 ((((digD c k).length - k) : Nat) : Int), [10, 12]⟩, ⟨.quiet, 0, fun _ => .string (bs ((digD c k).drop ((digD c k).length - k))), [8, 13]⟩, ⟨.quiet, 0, fun _ => .string (bs ((((digD c k).take ((digD c k).length - k)) ++ ([46])) ++ ((digD c k).drop ((digD c k).length - k)))), [7, 14]⟩] [(1, .pointer (some ⟨g1_1, 0, none⟩)), (2, .string (bs ([]))), (3, .int .i64 0), (4, .pointer (some ⟨g4_2, 0, none⟩)), (5, .string (bs (digD c k)))] (by kernel_rfl) (by kernel_rfl) ⟨rfl, rfl, rfl, rfl, rfl, trivial⟩ ?_ ?_
      · skip
        refine o_cons (o_q hfl (fun _ _ => rfl) (fun _ _ => rfl)) ?_
        refine o_cons (o_q hfl (fun _ _ => rfl) (fun _ _ => rfl)) ?_
        refine o_cons (o_builtin (fun w cs => run_len_bs Tryz.underlying9 _ _ w cs) (fun _ _ => rfl) rfl (fun _ _ => rfl)) ?_
        refine o_cons (o_q hfl (fun _ _ => rfl) (fun _ _ => rfl)) ?_
        refine o_cons (o_load 1 (reads_one tyInt rfl) (fun _ _ => rfl) rfl (fun _ _ => rfl) rfl) ?_
        refine o_cons (o_ar (by rw [IntWalk.i64_in _ (by omega)]; omega) (fun _ _ => rfl) rfl (fun _ _ => rfl) (fun _ _ => rfl) rfl) ?_
        refine o_cons (o_cut (i := 0) (j := ((digD c k).length - k)) (r := (digD c k).take ((digD c k).length - k)) Tryz.underlying9 rfl (by omega) (by omega) (fun _ _ => rfl) rfl (fun _ _ => rfl) (fun _ _ => rfl) (fun _ _ => ⟨_, rfl⟩)) ?_
        refine o_cons (o_cat (r := ((digD c k).take ((digD c k).length - k)) ++ ([46])) rfl (by simp only [List.length_append, List.length_cons, List.length_nil, List.length_take, List.length_drop]; omega) (fun _ _ => rfl) rfl (fun _ _ => rfl) (fun _ _ => rfl)) ?_
        refine o_cons (o_q hfl (fun _ _ => rfl) (fun _ _ => rfl)) ?_
        refine o_cons (o_q hfl (fun _ _ => rfl) (fun _ _ => rfl)) ?_
        refine o_cons (o_builtin (fun w cs => run_len_bs Tryz.underlying9 _ _ w cs) (fun _ _ => rfl) rfl (fun _ _ => rfl)) ?_
        refine o_cons (o_q hfl (fun _ _ => rfl) (fun _ _ => rfl)) ?_
        refine o_cons (o_load 1 (reads_one tyInt rfl) (fun _ _ => rfl) rfl (fun _ _ => rfl) rfl) ?_
        refine o_cons (o_ar (by rw [IntWalk.i64_in _ (by omega)]; omega) (fun _ _ => rfl) rfl (fun _ _ => rfl) (fun _ _ => rfl) rfl) ?_
        refine o_cons (o_cut (i := ((digD c k).length - k)) (j := (digD c k).length) (r := (digD c k).drop ((digD c k).length - k)) Tryz.underlying9 (by rw [List.take_length]) (by omega) (Nat.le_refl _) (fun _ _ => rfl) rfl (fun _ _ => rfl) (fun _ _ => ⟨_, rfl⟩) (fun _ _ => rfl)) ?_
        refine o_cons (o_cat (r := (((digD c k).take ((digD c k).length - k)) ++ ([46])) ++ ((digD c k).drop ((digD c k).length - k))) rfl (by simp only [List.length_append, List.length_cons, List.length_nil, List.length_take, List.length_drop]; omega) (fun _ _ => rfl) rfl (fun _ _ => rfl) (fun _ _ => rfl)) ?_
        exact o_nil
      intro σ3 gs3
      refine WL2.keep (env' := [(2, .string (bs ([]))), (3, .int .i64 0), (4, .pointer (some ⟨g4_2, 0, none⟩)), (5, .string (bs (digD c k))), (40, .string (bs ((((digD c k).take ((digD c k).length - k)) ++ ([46])) ++ ((digD c k).drop ((digD c k).length - k)))))]) ⟨rfl, rfl, rfl, rfl, rfl, trivial⟩ ?_
      refine h_q hfl rfl ?_
      refine h_nil (f_to (d_seq ?_))
      have ep : (digD c k).take ((digD c k).length - k) ++ [46] ++ (digD c k).drop ((digD c k).length - k) = pointD c k := by rw [pointD, if_neg (by omega)]
      have hpl : (pointD c k).length ≤ 200 := by rw [← ep]; simp only [List.length_append, List.length_cons, List.length_nil, List.length_take, List.length_drop]; omega
      rw [ep]
      by_cases hn : c < 0
      · skip
        refine d_reg ?_
        refine h_q hfl rfl ?_
        refine h_load 0 (v := .bool true) (reads_one tyBool (bigZ_neg hn)) rfl rfl rfl rfl ?_
        refine h_done (d_then rfl (d_reg1 ?_))
        refine h_q hfl rfl ?_
        refine h_cat (r := 45 :: pointD c k) rfl (by have := hpl; simp only [List.length_cons, List.length_nil]; omega) rfl rfl rfl rfl ?_
        refine h_q hfl rfl ?_
        refine h_nil (f_to (d_reg ?_))
        refine h_q hfl rfl ?_
        refine h_done (d_ret ?_)
        exact f_fin2 (.tmp rfl) (.tmp rfl) (fun w h => ⟨by rw [textD, if_pos hn], h.up.below⟩) rfl
      · skip
        refine d_reg ?_
        refine h_q hfl rfl ?_
        refine h_load 0 (v := .bool false) (reads_one tyBool (bigZ_pos hn)) rfl rfl rfl rfl ?_
        refine h_done (d_else rfl (d_skip (f_to (d_reg ?_))))
        refine h_q hfl rfl ?_
        refine h_done (d_ret ?_)
        exact f_fin2 (.tmp rfl) (.tmp rfl) (fun w h => ⟨by rw [textD, if_neg hn], h.up.below⟩) rfl

theorem rtextD_bad (w : World) (c s : Int) (h : ¬ May s) : Calls Tryz.prog 17 #[Dc c s] w fun e w' => e = .returned (.tuple #[.string (bs []), .int .i64 21]) ∧ Below w.heap.size w w' := by
  refine d_in (args := [Dc c s]) 46 Tryz.func17 rfl rfl rfl ?_
  refine d_reg ?_
  refine h_box (cs := #[hiW c, loW c, .int .i64 s]) rfl rfl rfl rfl ?_; intro g1_1
  refine h_q hfl rfl ?_
  refine h_done (d_seq (d_reg ?_))
  refine h_load 0 (v := .agg #[hiW c, loW c, .int .i64 s]) (reads_agg (cs := [hiW c, loW c, .int .i64 s]) tyDec rfl) rfl rfl rfl rfl ?_
  refine h_call (ent_of Tryz.func42 (by kernel_rfl) rfl) (fun w hH => rright_no _ c s h) rfl rfl rfl rfl ?_
  refine h_q hfl rfl ?_
  refine h_done (d_then rfl (d_reg ?_))
  refine h_q hfl rfl ?_
  refine h_done (d_ret (f_then_ret ?_))
  exact f_fin2 (.tmp rfl) (.tmp rfl) (fun w h_ => ⟨rfl, h_.up.below⟩) rfl
end Go.Proofs.YtmamedobphlpkaaGreatDoor

namespace Go.Proofs.YtmamedobphlpkaaGreatDoor
open Go.RowKit

theorem starE : "*" ++ "errors.errorString" = "*errors.errorString" := by decide
theorem errRow (u : TypeId) (h : Tryz.prog.typeName? 3 u = some "*errors.errorString") : u = 187 :=
  typeName_ptr_named (nm := "errors.errorString") (by rw [starE]; kernel_rfl) (by kernel_rfl) (by decide) u (by rw [starE]; exact h)
theorem gErr : Tryz.prog.globalNamed "strconv.ErrRange" = some 7 := by kernel_rfl
theorem gErrType : (Tryz.prog.globals[7]?).map (·.type) = some 119 := by kernel_rfl
theorem err_of {r : List (String × DataW Unit)} {W : World} (h : laidMet Tryz.prog (("strconv.ErrRange", Rows.laid_strconv_ErrRange) :: r) W) : ErrIs W := by
  obtain ⟨a, s, hv, _⟩ := laid_sentinel h gErr gErrType Tryz.underlying119 errRow Tryz.underlying187 Tryz.underlying189 rfl rfl Tryz.underlying9 (by kernel_rfl) (by kernel_rfl)
  have hc := World.var?_cell gErr hv 0
  have hc' : W.cell? ⟨7, 0, none⟩ = some (.iface 187 (.pointer (some a))) := by simpa using hc
  exact ⟨World.block_lt_of_cell? _ _ hc', _, hc', .inr ⟨_, _, rfl⟩⟩
abbrev laid7 : List (String × DataW Unit) := [("math/bits.deBruijn32tab", Rows.laid_math_bits_deBruijn32tab), ("math/bits.deBruijn64tab", Rows.laid_math_bits_deBruijn64tab), ("internal/strconv.uint64pow10", Rows.laid_internal_strconv_uint64pow10), ("unicode/utf8.acceptRanges", Rows.laid_unicode_utf8_acceptRanges), ("strconv.ErrRange", Rows.laid_strconv_ErrRange), ("strconv.ErrSyntax", Rows.laid_strconv_ErrSyntax), ("unicode/utf8.first", Rows.laid_unicode_utf8_first)]
theorem table7_of {W : World} (h : laidMetH Tryz.prog laid7 W) : Lib.TabIs Tryz.prog W "internal/strconv.uint64pow10" .u64 Lib.pow10Tab ∧ 5 < W.heap.size ∧ ErrIs W := by
  have h' : laidMet Tryz.prog laid7 W := h
  have h2 := h'.tail.tail
  have ht : Lib.TabIs Tryz.prog W "internal/strconv.uint64pow10" .u64 Lib.pow10Tab := Lib.tabIs_of_head gPow gPowType Tryz.underlying179 Tryz.underlying22 (by kernel_rfl) (by kernel_rfl) h2
  refine ⟨ht, ?_, err_of h2.tail.tail⟩
  have := ht.cell gPow 0 (by decide)
  exact World.block_lt_of_cell? _ _ this
noncomputable def laidWorld7 (os : Os) : World := World.laidAll Tryz.prog os laid7
theorem tyU8 : U8 Tryz.prog 43 5 := ⟨Tryz.underlying43, Tryz.underlying5, by kernel_rfl⟩
theorem tyUint8 : OneOf Tryz.prog 5 := oneOf Tryz.underlying5 rfl (by kernel_rfl)
theorem as_val {f : FuncId} {args : Array Value} {w : World} {v0 : Value} (v : Value) (hc : Calls Tryz.prog f args w fun e w' => e = .returned v0 ∧ Below w.heap.size w w') (h : v0 = v) : Calls Tryz.prog f args w fun e w' => e = .returned v ∧ Below w.heap.size w w' := h ▸ hc
theorem textDL (w : World) {c : Int} {k : Nat} {l : List UInt8} (h : textD c k = l) (hc : Fits c) (hk : k ≤ 18) (htab : Lib.TabIs Tryz.prog w "internal/strconv.uint64pow10" .u64 Lib.pow10Tab) (hg : 5 < w.heap.size) : Calls Tryz.prog 13 #[Dc c (k : Int)] w fun e w' => e = .returned (.tuple #[.string (bs l), .int .i64 0]) ∧ Below w.heap.size w w' := by
  rw [← h]; exact textd_any w c k hc hk htab hg
theorem neSame (l : List UInt8) : NeAt Tryz.prog 9 (.string (bs l)) (.string (bs l)) false := by have := neS l l; rwa [beq_iff_eq.2 rfl] at this
theorem may_nat {m : Int} (h : May m) : ∃ k : Nat, m = (k : Int) ∧ k ≤ 18 := ⟨m.toNat, by unfold May at h; omega, by unfold May at h; omega⟩
theorem pv_nil : PV [] (.tuple #[Dc 0 0, .int .i64 23]) := ⟨[], [], [], false, false, rfl, ⟨by simp, .inl ⟨rfl, rfl, rfl⟩⟩, by kernel_rfl⟩
end Go.Proofs.YtmamedobphlpkaaGreatDoor
