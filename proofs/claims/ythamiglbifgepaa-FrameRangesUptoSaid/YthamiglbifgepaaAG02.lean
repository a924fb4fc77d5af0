/-
  FrmI
-/
import Derived.Test.YthamiglbifgepaaAD02
import Derived.Test.YthamiglbifgepaaAE03
import Derived.Test.YthamiglbifgepaaAG01
set_option linter.unusedSimpArgs false
set_option linter.unusedVariables false

namespace Go.Proofs.Ythamiglbifgepaa.Sep
open Go.RowKit
open Go.Proofs.Ythamiglbifgepaa.Mem (Dist Blk Chg below0)

theorem parts_le {L : List PtT} {b : List UInt8} (h : L.map (·.2) = (listL b).1) : L.length ≤ b.length := by
  have h5 := list_le b.length b
  have h4 := list_count b.length b
  have h6 := congrArg List.length h
  rw [List.length_map] at h6
  unfold listL at h6
  omega
def lens (M : List PtT) : List Nat := M.map fun p => p.2.length
theorem lens_len {M N : List PtT} (h : lens M = lens N) : M.length = N.length := by have := congrArg List.length h; simpa [lens] using this
theorem lens_at {M N : List PtT} {i : Nat} {p : PtT} (h : lens M = lens N) (hp : N[i]? = some p) : ∃ q, M[i]? = some q ∧ q.2.length = p.2.length := by
  have h1 := congrArg (·[i]?) h
  simp only [lens, List.getElem?_map, hp, Option.map_some] at h1
  obtain ⟨q, h2, h3⟩ := Option.map_eq_some_iff.1 h1
  exact ⟨q, h2, h3⟩
theorem lens_set {M : List PtT} {i : Nat} {p : PtT} {d : List UInt8} (hp : M[i]? = some p) (hd : d.length = p.2.length) : lens (M.set i (p.1, d)) = lens M := by
  unfold lens
  rw [List.map_set]
  refine List.ext_getElem? fun q => ?_
  have hlt := (List.getElem?_eq_some_iff.1 hp).1
  rw [List.getElem?_set, List.getElem?_map]
  split
  · rename_i e
    subst e
    rw [if_pos (by rw [List.length_map]; exact hlt), hp, hd]; rfl
  · rfl
theorem lens_le {L M : List PtT} {b : List UInt8} {i : Nat} {p : PtT} (h : L.map (·.2) = (listL b).1) (hM : lens L = lens M) (hp : M[i]? = some p) : p.2.length ≤ 65536 := by
  obtain ⟨q, h1, h2⟩ := lens_at hM hp
  have h3 : q.2 ∈ (listL b).1 := by rw [← h]; exact List.mem_map_of_mem (List.mem_of_getElem? h1)
  rw [← h2]
  exact list_parts _ _ _ h3
theorem frame_le (x : List UInt8) : (frameL x).length ≤ 65544 := by
  unfold frameL
  split
  · rename_i h; simp only [List.length_append, b4_len]; omega
  · exact Nat.zero_le _

set_option maxRecDepth 100000 in
theorem framelists_true (w : World) (y : List UInt8) (A : Option Addr) (c : Nat) (hy8 : Sl8 w (.slice A y.length c) y) (hyl : y.length ≤ 137438953472) (v1 : Value) (l1 : List PtV) (hv1 : PtsRd w v1 l1) (hl1 : l1.length ≤ 9223372036854775807) (hd1 : ∀ x, x ∈ l1 → x.d.length ≤ 140737488351232) (is : Bool) (ap to : Int) (hap : -9223372036854775808 ≤ ap ∧ ap ≤ 9223372036854775807) : Calls Try.prog 4 #[.slice A y.length c, v1, .bool is, .int .i64 ap, .int .i64 to] w fun e w' => e = .returned (.bool true) ∧ Below w.heap.size w w' := by
  refine d_in (args := [.slice A y.length c, v1, .bool is, .int .i64 ap, .int .i64 to]) 109 Try.func4 rfl rfl rfl ?_
  refine d_reg ?_
  refine h_q hflS rfl ?_
  refine h_done (d_seq ?_)
  cases is
  · skip
    refine d_reg ?_
    refine h_q hflS rfl ?_
    refine h_done (d_else rfl (d_skip (f_to (d_reg ?_))))
    refine h_q hflS rfl ?_
    refine h_act (X := Value) (val := fun v : Value => v) (post := fun o0 => [Vec 5 1 encB o0 ([])]) rfl (by refine a_build0 (e := 5) (t := 23) (k := 1) (enc := encB) ?_ ?_; exact sl_uint8; exact rfl) ?_; rintro o0
    refine h_q hflS rfl ?_
    refine h_act (post := fun ov => [Vec 5 1 encB ov y]) rfl (a_append8 0 sl_uint8 (by kernel_rfl) rfl (y) (fun w hH => (hy8.below (hH.up.below (Nat.le_refl _) (fun _ h => h.elim))).rd) (by simp only [List.length_nil]; omega) rfl rfl rfl (List.nil_append _)) ?_; rintro ov
    refine h_q hflS rfl ?_
    refine h_done (d_reg ?_)
    refine h_q hflS rfl ?_
    refine h_act (post := fun (x : PsV) => [PartsT 23 x.v x.l, fact (x.l.map (·.2) = (listL y).1), Vec 5 1 encB ov y]) rfl (a_does (os' := fun (x : PsV) => [PartsT 23 x.v x.l, fact (x.l.map (·.2) = (listL y).1), Vec 5 1 encB ov y]) [0] 0 (ent_of Try.func12 (by kernel_rfl) rfl) (list_does rd8_vec (by omega) rfl) rfl rfl rfl (fun _ => rfl) rfl rfl rfl) ?_; rintro x
    refine WL2.fact 1 rfl (fun _ h => h.2) ?_; rintro hl
    refine WL2.leave [1] rfl rfl ?_
    refine h_q hflS rfl ?_
    refine h_done (d_reg ?_)
    refine h_q hflS rfl ?_
    refine h_act (post := fun (x2 : PsV) => [PartsT 23 x2.v x2.l, fact (x2.l.map (·.2) = (listL y).1), PartsT 23 x.v x.l, Vec 5 1 encB ov y]) rfl (a_doesU (Below.refl _ _) (fun _ h => h.elim) (os' := fun (x2 : PsV) => [PartsT 23 x2.v x2.l, fact (x2.l.map (·.2) = (listL y).1), PartsT 23 x.v x.l, Vec 5 1 encB ov y]) [] 0 (ent_of Try.func13 (by kernel_rfl) rfl) (rlistU w hy8 (by omega) rfl) rfl rfl rfl (fun _ => rfl) rfl rfl rfl) ?_; rintro x2
    refine WL2.fact 1 rfl (fun _ h => h.2) ?_; rintro h2
    refine WL2.leave [1] rfl rfl ?_
    refine h_q hflS rfl ?_
    refine h_done (d_seq (d_reg ?_))
    refine h_q hflS rfl ?_
    refine h_act (post := fun _ => [PartsT 23 x2.v x2.l, PartsT 23 x.v x.l, Vec 5 1 encB ov y]) rfl (a_call (ent_of Try.func8 (by kernel_rfl) rfl) (fun w hH => known8_true w) rfl rfl rfl) ?_; rintro ⟨⟩
    refine h_q hflS rfl ?_
    refine h_act (post := fun _ => [PartsT 23 x2.v x2.l, PartsT 23 x.v x.l, Vec 5 1 encB ov y]) rfl (a_does (os' := fun _ => [PartsT 23 x2.v x2.l, PartsT 23 x.v x.l, Vec 5 1 encB ov y]) [1, 0] 0 (ent_of Try.func14 (by kernel_rfl) rfl) (same_does rdPs_all rdPs_all (by have := parts_le hl; rw [List.length_map]; omega) (by rw [ptOf_ds, ptOf_ds, hl, h2, beq_self_eq_true])) rfl rfl rfl (fun _ => rfl) rfl rfl rfl) ?_; rintro ⟨⟩
    refine h_q hflS rfl ?_
    refine h_val rfl (.bool false) (fun b w hb hH => exec_cmp rfl rfl rfl (cmp_neq_f (by simp)) hb) ?_
    refine h_q hflS rfl ?_
    refine h_val rfl (.string (bs y)) (fun b w hb hH => exec_str8 Try.underlying23 Try.underlying5 (by kernel_rfl) Try.underlying9 (hH.sl8 2 rfl) rfl rfl hb) ?_
    refine h_q hflS rfl ?_
    refine h_val rfl (.string (bs y)) (fun b w hb hH => exec_str8 Try.underlying23 Try.underlying5 (by kernel_rfl) Try.underlying9 ((hy8.below (hH.up.below (Nat.le_refl _) (fun _ h => h.elim)))) rfl rfl hb) ?_
    refine h_val rfl (.bool false) (fun b w hb hH => exec_diff (by simp) rfl rfl rfl hb) ?_
    refine h_q hflS rfl ?_
    refine h_done ?_
    refine WC2.keep (env' := [(0, .slice A y.length c), (10, .bool false), (13, ov), (14, x.v), (82, .bool false)]) ⟨rfl, rfl, rfl, rfl, rfl, trivial⟩ ?_
    refine d_else rfl (d_skip (f_to (d_seq ?_)))
    have hxl_ := parts_le hl
    refine d_close [1] rfl (fun _ h => Parts.one' h) rfl ?_
    refine d_reg ?_
    refine h_q hflS rfl ?_
    refine h_done (d_block ?_)
    refine d_loop (α := Nat × List PtT) (fun ⟨i, M⟩ => [(0, .slice A y.length c), (10, .bool false), (13, ov), (14, x.v), (18, .int .i64 ((i : Nat) : Int))]) (fun ⟨i, M⟩ => [PartsT 23 x.v M, PartsT 23 x2.v x2.l, Vec 5 1 encB ov y]) (fun ⟨i, M⟩ => i ≤ x.l.length ∧ lens M = lens x.l) (fun ⟨i, M⟩ => x.l.length - i) (0, x.l) ⟨Nat.zero_le _, rfl⟩ ⟨rfl, rfl, rfl, rfl, rfl, trivial⟩ rfl ?_
    rintro ⟨i, M⟩ hI
    refine WC2.at_ (env' := [(0, .slice A y.length c), (10, .bool false), (13, ov), (14, x.v), (18, .int .i64 ((i : Nat) : Int))]) (rs' := [PartsT 23 x.v M, PartsT 23 x2.v x2.l, Vec 5 1 encB ov y]) ⟨rfl, rfl, rfl, rfl, rfl, trivial⟩ rfl ?_
    have hI1 := hI.1
    have hI2 := hI.2
    have hI4 := lens_len hI2
    have hxl : x.l.length ≤ 137438953472 := by omega
    refine d_seq ?_
    rcases Nat.lt_or_ge i x.l.length with hi | hi
    · skip
      obtain ⟨p0, hp0⟩ : ∃ p, M[i]? = some p := ⟨_, List.getElem?_eq_getElem (by omega)⟩
      refine d_reg ?_
      refine h_q hflS rfl ?_
      refine h_val rfl (.int .i64 (M.length : Int)) (fun b w hb hH => e_plen 0 Try.underlying25 rfl rfl rfl hH hb) ?_
      refine h_val rfl (.bool true) (fun b w hb hH => exec_cmp rfl rfl rfl (cmp_lss_t (by omega)) hb) ?_
      refine h_done (d_then rfl (d_skip (f_to (d_seq (d_block (d_reg ?_))))))
      refine h_q hflS rfl ?_
      refine h_done (d_block ?_)
      refine d_loop (α := Nat × List PtT) (fun ⟨q, M2⟩ => [(0, .slice A y.length c), (10, .bool false), (13, ov), (14, x.v), (18, .int .i64 ((i : Nat) : Int)), (83, .int .i64 ((i : Nat) : Int)), (84, x.v), (85, .int .i64 (M.length : Int)), (86, .bool true), (19, .int .i64 ((q : Nat) : Int))]) (fun ⟨q, M2⟩ => [PartsT 23 x.v M2, PartsT 23 x2.v x2.l, Vec 5 1 encB ov y]) (fun ⟨q, M2⟩ => q ≤ p0.2.length ∧ lens M2 = lens M) (fun ⟨q, M2⟩ => p0.2.length - q) (0, M) ⟨Nat.zero_le _, rfl⟩ ⟨rfl, rfl, rfl, rfl, rfl, rfl, rfl, rfl, rfl, rfl, trivial⟩ rfl ?_
      rintro ⟨q, M2⟩ hK
      refine WC2.at_ (env' := [(0, .slice A y.length c), (10, .bool false), (13, ov), (14, x.v), (18, .int .i64 ((i : Nat) : Int)), (83, .int .i64 ((i : Nat) : Int)), (84, x.v), (85, .int .i64 (M.length : Int)), (86, .bool true), (19, .int .i64 ((q : Nat) : Int))]) (rs' := [PartsT 23 x.v M2, PartsT 23 x2.v x2.l, Vec 5 1 encB ov y]) ⟨rfl, rfl, rfl, rfl, rfl, rfl, rfl, rfl, rfl, rfl, trivial⟩ rfl ?_
      have hK1 := hK.1
      have hK2 := hK.2
      have hK3 := lens_len hK2
      refine d_seq ?_
      obtain ⟨p, hp, hpl⟩ := lens_at hK2 hp0
      have hp6 := lens_le hl hI2.symm hp0
      rcases Nat.lt_or_ge q p.2.length with hq | hq
      · skip
        refine d_reg ?_
        refine h_q hflS rfl ?_
        refine h_val rfl (elp x.v (i * 1)) (fun b w hb hH => e_pidx 0 sl_s_uint8 rfl i (by omega) rfl rfl rfl hH hb) ?_
        refine h_val rfl (p.1) (fun b w hb hH => e_pload 0 ty_s_uint8 rfl i hp rfl rfl hH hb) ?_
        refine h_val rfl (.int .i64 (p.2.length : Int)) (fun b w hb hH => e_slen ((hH.rd8 0 rfl (prt_rd8f hp)).rd) Try.underlying23 rfl rfl hb) ?_
        refine h_val rfl (.bool true) (fun b w hb hH => exec_cmp rfl rfl rfl (cmp_lss_t (by omega)) hb) ?_
        refine h_done (d_then rfl (d_skip (f_to (d_seq (d_block ?_)))))
        refine d_open 0 rfl (prts_open_at hp) (fun _ => rfl) ?_; rintro ⟨⟩
        refine WC2.fact 2 rfl one_of_vec ?_; rintro hone
        refine d_reg1 ?_
        refine h_q hflS rfl ?_
        refine h_val rfl (elp x.v (i * 1)) (fun b w hb hH => e_vidx 0 sl_s_uint8 okW rfl i (by rw [List.length_map]; omega) rfl rfl rfl hH hb) ?_
        refine h_val rfl (p.1) (fun b w hb hH => e_wload 0 ty_s_uint8 rfl i (by rw [List.getElem?_map, hp]; rfl) hone rfl rfl hH hb) ?_
        refine h_q hflS rfl ?_
        refine h_val rfl (elp p.1 (q * 1)) (fun b w hb hH => e_vidx 2 sl_uint8 okB rfl q hq rfl rfl rfl hH hb) ?_
        refine h_acts (post := fun _ => [Vec 23 1 encW x.v (M2.map (·.1)), Each (fun x : PtT => Vec 5 1 encB x.1 x.2) (M2.take i), Vec 5 1 encB p.1 (p.2.set q (238 : UInt8)), Each (fun x : PtT => Vec 5 1 encB x.1 x.2) (M2.drop (i + 1)), PartsT 23 x2.v x2.l, Vec 5 1 encB ov y]) rfl rfl (a_vstore1 2 ty_uint8 okB rfl q hq (238 : UInt8) rfl rfl rfl rfl rfl) ?_; rintro ⟨⟩
        refine h_nil (f_block (f_to ?_))
        refine d_close [0, 1, 2, 3] rfl (prts_back hp) rfl ?_
        refine d_reg1 ?_
        refine h_q hflS rfl ?_
        refine h_val rfl (.int .i64 ((q + 1 : Nat) : Int)) (fun b w hb hH => exec_ar rfl rfl rfl rfl (by rw [IntWalk.i64_in _ (by omega)]; omega) hb) ?_
        refine h_q hflS rfl ?_
        refine h_nil ?_
        exact f_again (q + 1, M2.set i (p.1, p.2.set q 238)) 0 ⟨by omega, (lens_set hp (List.length_set ..)).trans hK2⟩ (show p0.2.length - (q + 1) < p0.2.length - q by omega) ⟨rfl, rfl, rfl, rfl, rfl, rfl, rfl, rfl, rfl, rfl, trivial⟩ rfl
      · skip
        refine d_reg ?_
        refine h_q hflS rfl ?_
        refine h_val rfl (elp x.v (i * 1)) (fun b w hb hH => e_pidx 0 sl_s_uint8 rfl i (by omega) rfl rfl rfl hH hb) ?_
        refine h_val rfl (p.1) (fun b w hb hH => e_pload 0 ty_s_uint8 rfl i hp rfl rfl hH hb) ?_
        refine h_val rfl (.int .i64 (p.2.length : Int)) (fun b w hb hH => e_slen ((hH.rd8 0 rfl (prt_rd8f hp)).rd) Try.underlying23 rfl rfl hb) ?_
        refine h_val rfl (.bool false) (fun b w hb hH => exec_cmp rfl rfl rfl (cmp_lss_f (by omega)) hb) ?_
        refine h_done (d_else rfl (d_exit (f_then_exit (f_then_exit (f_block_exit (f_block (f_to (d_reg1 ?_))))))))
        refine h_q hflS rfl ?_
        refine h_val rfl (.int .i64 ((i + 1 : Nat) : Int)) (fun b w hb hH => exec_ar rfl rfl rfl rfl (by rw [IntWalk.i64_in _ (by omega)]; omega) hb) ?_
        refine h_q hflS rfl ?_
        refine h_nil ?_
        exact f_again (i + 1, M2) 0 ⟨hi, hK2.trans hI2⟩ (show x.l.length - (i + 1) < x.l.length - i by omega) ⟨rfl, rfl, rfl, rfl, rfl, trivial⟩ rfl
    · skip
      refine d_reg ?_
      refine h_q hflS rfl ?_
      refine h_val rfl (.int .i64 (M.length : Int)) (fun b w hb hH => e_plen 0 Try.underlying25 rfl rfl rfl hH hb) ?_
      refine h_val rfl (.bool false) (fun b w hb hH => exec_cmp rfl rfl rfl (cmp_lss_f (by omega)) hb) ?_
      refine h_done (d_else rfl (d_exit (f_then_exit (f_then_exit (f_block_exit (f_to (d_reg ?_)))))))
      refine h_q hflS rfl ?_
      refine h_val rfl (.string (bs y)) (fun b w hb hH => exec_str8 Try.underlying23 Try.underlying5 (by kernel_rfl) Try.underlying9 (hH.sl8 2 rfl) rfl rfl hb) ?_
      refine h_q hflS rfl ?_
      refine h_val rfl (.string (bs y)) (fun b w hb hH => exec_str8 Try.underlying23 Try.underlying5 (by kernel_rfl) Try.underlying9 ((hy8.below (hH.up.below (Nat.le_refl _) (fun _ h => h.elim)))) rfl rfl hb) ?_
      refine h_val rfl (.bool true) (fun b w hb hH => exec_same rfl rfl rfl (by simp) hb) ?_
      refine h_q hflS rfl ?_
      refine h_done (d_ret ?_)
      exact f_fin1 (.tmp rfl) (fun w h => ⟨rfl, below0 h.up⟩) rfl
  · skip
    refine d_reg ?_
    refine h_q hflS rfl ?_
    refine h_done (d_then rfl (d_reg ?_))
    refine h_q hflS rfl ?_
    refine h_done (d_seq (d_reg ?_))
    refine h_q hflS rfl ?_
    refine h_done (d_block ?_)
    refine d_nilvec 5 1 encB ?_
    refine d_loop (α := Nat × Value × List UInt8) (fun ⟨k, xv, xl⟩ => [(0, .slice A y.length c), (1, v1), (3, .int .i64 ap), (4, .int .i64 to), (10, .bool false), (11, xv), (12, .int .i64 ((k : Nat) : Int))]) (fun ⟨k, xv, xl⟩ => [Vec 5 1 encB xv xl]) (fun ⟨k, xv, xl⟩ => k ≤ l1.length ∧ k ≤ 20 ∧ xl.length ≤ k * 65544) (fun ⟨k, xv, xl⟩ => l1.length - k) (0, .slice none 0 0, []) ⟨Nat.zero_le _, Nat.zero_le _, Nat.le_refl _⟩ ⟨rfl, rfl, rfl, rfl, rfl, rfl, rfl, trivial⟩ rfl ?_
    rintro ⟨k, xv, xl⟩ hJ
    refine WC2.at_ (env' := [(0, .slice A y.length c), (1, v1), (3, .int .i64 ap), (4, .int .i64 to), (10, .bool false), (11, xv), (12, .int .i64 ((k : Nat) : Int))]) (rs' := [Vec 5 1 encB xv xl]) ⟨rfl, rfl, rfl, rfl, rfl, rfl, rfl, trivial⟩ rfl ?_
    have hJ1 := hJ.1
    have hJ2 := hJ.2.1
    have hJ3 := hJ.2.2
    refine d_seq ?_
    have hc : (k < l1.length ∧ k < 20) ∨ (k < l1.length ∧ 20 ≤ k) ∨ l1.length ≤ k := by omega
    rcases hc with ⟨hk1, hk2⟩ | ⟨hk1, hk2⟩ | hk1
    · skip
      obtain ⟨z, hz⟩ : ∃ z, l1[k]? = some z := ⟨_, List.getElem?_eq_getElem hk1⟩
      have hmz := List.mem_of_getElem? hz
      have hfz := frame_le z.d
      refine d_reg ?_
      refine h_q hflS rfl ?_
      refine h_val rfl (.int .i64 (l1.length : Int)) (fun b w hb hH => e_slen ((argPs0 hv1 hH).1) Try.underlying25 rfl rfl hb) ?_
      refine h_val rfl (.bool true) (fun b w hb hH => exec_cmp rfl rfl rfl (cmp_lss_t (by omega)) hb) ?_
      refine h_q hflS rfl ?_
      refine h_val rfl (.bool true) (fun b w hb hH => exec_cmp rfl rfl rfl (cmp_lss_t (by omega)) hb) ?_
      refine h_q hflS rfl ?_
      refine h_done (d_then rfl (d_skip (f_to (d_seq (d_block (d_reg1 ?_))))))
      refine h_q hflS rfl ?_
      refine h_val rfl (elp v1 (k * 1)) (fun b w hb hH => e_sidx okPt ((argPs0 hv1 hH).1) sl_s_uint8 (j := k) hz rfl rfl rfl hb) ?_
      refine h_val rfl (z.v) (fun b w hb hH => e_sload okPt (by decide) ((argPs0 hv1 hH).1) (j := k) hz ty_s_uint8 (off := 0) rfl rfl rfl hb) ?_
      refine h_act (post := fun fv => [Vec 5 1 encB fv (frameL z.d), Vec 5 1 encB xv xl]) rfl (a_doesU (Below.refl _ _) (fun _ h => h.elim) (os' := fun fv => [Vec 5 1 encB fv (frameL z.d), Vec 5 1 encB xv xl]) [] 0 (ent_of Try.func10 (by kernel_rfl) rfl) (rframeU w (hv1.2 z hmz) (hd1 z hmz) rfl) rfl rfl rfl (fun _ => rfl) rfl rfl rfl) ?_; rintro fv
      refine h_act (post := fun xv2 => [Vec 5 1 encB fv (frameL z.d), Vec 5 1 encB xv2 (xl ++ frameL z.d)]) rfl (a_append8 1 sl_uint8 (by kernel_rfl) rfl (frameL z.d) (fun w hH => hH.vec 0 rfl okB) (by omega) rfl rfl rfl rfl) ?_; rintro xv2
      refine h_q hflS rfl ?_
      refine h_nil (f_block (f_to ?_))
      refine WC2.leave [0] rfl rfl ?_
      refine d_reg1 ?_
      refine h_q hflS rfl ?_
      refine h_val rfl (.int .i64 ((k + 1 : Nat) : Int)) (fun b w hb hH => exec_ar rfl rfl rfl rfl (by rw [IntWalk.i64_in _ (by omega)]; omega) hb) ?_
      refine h_q hflS rfl ?_
      refine h_nil ?_
      exact f_again (k + 1, xv2, xl ++ frameL z.d) 0 ⟨hk1, hk2, by rw [List.length_append, Nat.succ_mul]; omega⟩ (show l1.length - (k + 1) < l1.length - k by omega) ⟨rfl, rfl, rfl, rfl, rfl, rfl, rfl, trivial⟩ rfl
    · skip
      refine d_reg ?_
      refine h_q hflS rfl ?_
      refine h_val rfl (.int .i64 (l1.length : Int)) (fun b w hb hH => e_slen ((argPs0 hv1 hH).1) Try.underlying25 rfl rfl hb) ?_
      refine h_val rfl (.bool true) (fun b w hb hH => exec_cmp rfl rfl rfl (cmp_lss_t (by omega)) hb) ?_
      refine h_q hflS rfl ?_
      refine h_val rfl (.bool false) (fun b w hb hH => exec_cmp rfl rfl rfl (cmp_lss_f (by omega)) hb) ?_
      refine h_q hflS rfl ?_
      refine h_done (d_else rfl (d_exit (f_then_exit (f_then_exit (f_block_exit (f_to (d_seq ?_)))))))
      have hxl3 : xl.length ≤ 1310880 := by omega
      rcases Nat.eq_zero_or_pos xl.length with h0 | h0
      · skip
        refine d_reg ?_
        refine h_q hflS rfl ?_
        refine h_val rfl (.int .i64 (xl.length : Int)) (fun b w hb hH => e_vlen 0 Try.underlying23 rfl rfl rfl hH hb) ?_
        refine h_val rfl (.bool false) (fun b w hb hH => exec_cmp rfl rfl rfl (cmp_gtr_f (by omega)) hb) ?_
        refine h_done (d_else rfl (d_skip (f_to ?_)))
        refine WC2.fact 0 rfl (fun _ h => Vec.is h) ?_; rintro ⟨A2, c2, rfl⟩
        refine WC2.keep (env' := [(0, .slice A y.length c), (1, v1), (3, .int .i64 ap), (4, .int .i64 to), (10, .bool false), (11, .slice A2 xl.length c2), (12, .int .i64 ((k : Nat) : Int)), (21, .int .i64 ((k : Nat) : Int)), (22, v1), (23, .int .i64 (l1.length : Int)), (24, .bool true), (25, .bool true), (26, .int .i64 ((k : Nat) : Int)), (27, .bool false), (28, .bool false), (38, .slice A2 xl.length c2), (39, .int .i64 (xl.length : Int)), (40, .bool false)]) ⟨rfl, rfl, rfl, rfl, rfl, rfl, rfl, rfl, rfl, rfl, rfl, rfl, rfl, rfl, rfl, rfl, rfl, rfl, trivial⟩ ?_
        refine WC2.mid [Vec 5 1 encB (.slice A2 xl.length c2) xl] (.refl _) ?_
        refine d_reg1 ?_
        refine h_q hflS rfl ?_
        refine h_nil (f_to (d_reg ?_))
        refine h_q hflS rfl ?_
        refine h_act (X := Value) (val := fun v : Value => v) (post := fun o0 => [Vec 5 1 encB o0 ([]), Vec 5 1 encB (.slice A2 xl.length c2) xl]) rfl (by refine a_build0 (e := 5) (t := 23) (k := 1) (enc := encB) ?_ ?_; exact sl_uint8; exact rfl) ?_; rintro o0
        refine h_q hflS rfl ?_
        refine h_act (post := fun ov => [Vec 5 1 encB ov xl, Vec 5 1 encB (.slice A2 xl.length c2) xl]) rfl (a_append8 0 sl_uint8 (by kernel_rfl) rfl (xl) (fun w hH => (hH.sl8 1 rfl).rd) (by simp only [List.length_nil]; omega) rfl rfl rfl (List.nil_append _)) ?_; rintro ov
        refine h_q hflS rfl ?_
        refine h_done (d_reg ?_)
        refine h_q hflS rfl ?_
        refine h_act (post := fun (x : PsV) => [PartsT 23 x.v x.l, fact (x.l.map (·.2) = (listL xl).1), Vec 5 1 encB ov xl, Vec 5 1 encB (.slice A2 xl.length c2) xl]) rfl (a_does (os' := fun (x : PsV) => [PartsT 23 x.v x.l, fact (x.l.map (·.2) = (listL xl).1), Vec 5 1 encB ov xl, Vec 5 1 encB (.slice A2 xl.length c2) xl]) [0] 0 (ent_of Try.func12 (by kernel_rfl) rfl) (list_does rd8_vec (by omega) rfl) rfl rfl rfl (fun _ => rfl) rfl rfl rfl) ?_; rintro x
        refine WL2.fact 1 rfl (fun _ h => h.2) ?_; rintro hl
        refine WL2.leave [1] rfl rfl ?_
        refine h_q hflS rfl ?_
        refine h_done (d_reg ?_)
        refine h_q hflS rfl ?_
        refine h_act (post := fun (x2 : PsV) => [PartsT 23 x2.v x2.l, fact (x2.l.map (·.2) = (listL xl).1), PartsT 23 x.v x.l, Vec 5 1 encB ov xl, Vec 5 1 encB (.slice A2 xl.length c2) xl]) rfl (a_does (os' := fun (x2 : PsV) => [PartsT 23 x2.v x2.l, fact (x2.l.map (·.2) = (listL xl).1), PartsT 23 x.v x.l, Vec 5 1 encB ov xl, Vec 5 1 encB (.slice A2 xl.length c2) xl]) [2] 0 (ent_of Try.func13 (by kernel_rfl) rfl) (rlist rd8_vec (by omega) rfl) rfl rfl rfl (fun _ => rfl) rfl rfl rfl) ?_; rintro x2
        refine WL2.fact 1 rfl (fun _ h => h.2) ?_; rintro h2
        refine WL2.leave [1] rfl rfl ?_
        refine h_q hflS rfl ?_
        refine h_done (d_seq (d_reg ?_))
        refine h_q hflS rfl ?_
        refine h_act (post := fun _ => [PartsT 23 x2.v x2.l, PartsT 23 x.v x.l, Vec 5 1 encB ov xl, Vec 5 1 encB (.slice A2 xl.length c2) xl]) rfl (a_call (ent_of Try.func8 (by kernel_rfl) rfl) (fun w hH => known8_true w) rfl rfl rfl) ?_; rintro ⟨⟩
        refine h_q hflS rfl ?_
        refine h_act (post := fun _ => [PartsT 23 x2.v x2.l, PartsT 23 x.v x.l, Vec 5 1 encB ov xl, Vec 5 1 encB (.slice A2 xl.length c2) xl]) rfl (a_does (os' := fun _ => [PartsT 23 x2.v x2.l, PartsT 23 x.v x.l, Vec 5 1 encB ov xl, Vec 5 1 encB (.slice A2 xl.length c2) xl]) [1, 0] 0 (ent_of Try.func14 (by kernel_rfl) rfl) (same_does rdPs_all rdPs_all (by have := parts_le hl; rw [List.length_map]; omega) (by rw [ptOf_ds, ptOf_ds, hl, h2, beq_self_eq_true])) rfl rfl rfl (fun _ => rfl) rfl rfl rfl) ?_; rintro ⟨⟩
        refine h_q hflS rfl ?_
        refine h_val rfl (.bool false) (fun b w hb hH => exec_cmp rfl rfl rfl (cmp_neq_f (by simp)) hb) ?_
        refine h_q hflS rfl ?_
        refine h_val rfl (.string (bs xl)) (fun b w hb hH => exec_str8 Try.underlying23 Try.underlying5 (by kernel_rfl) Try.underlying9 (hH.sl8 2 rfl) rfl rfl hb) ?_
        refine h_q hflS rfl ?_
        refine h_val rfl (.string (bs xl)) (fun b w hb hH => exec_str8 Try.underlying23 Try.underlying5 (by kernel_rfl) Try.underlying9 (hH.sl8 3 rfl) rfl rfl hb) ?_
        refine h_val rfl (.bool false) (fun b w hb hH => exec_diff (by simp) rfl rfl rfl hb) ?_
        refine h_q hflS rfl ?_
        refine h_done ?_
        refine WC2.keep (env' := [(10, .bool false), (0, .slice A2 xl.length c2), (13, ov), (14, x.v), (82, .bool false)]) ⟨rfl, rfl, rfl, rfl, rfl, trivial⟩ ?_
        refine d_else rfl (d_skip (f_to (d_seq ?_)))
        have hxl_ := parts_le hl
        refine d_close [1] rfl (fun _ h => Parts.one' h) rfl ?_
        refine d_reg ?_
        refine h_q hflS rfl ?_
        refine h_done (d_block ?_)
        refine d_loop (α := Nat × List PtT) (fun ⟨i, M⟩ => [(10, .bool false), (0, .slice A2 xl.length c2), (13, ov), (14, x.v), (18, .int .i64 ((i : Nat) : Int))]) (fun ⟨i, M⟩ => [PartsT 23 x.v M, PartsT 23 x2.v x2.l, Vec 5 1 encB ov xl, Vec 5 1 encB (.slice A2 xl.length c2) xl]) (fun ⟨i, M⟩ => i ≤ x.l.length ∧ lens M = lens x.l) (fun ⟨i, M⟩ => x.l.length - i) (0, x.l) ⟨Nat.zero_le _, rfl⟩ ⟨rfl, rfl, rfl, rfl, rfl, trivial⟩ rfl ?_
        rintro ⟨i, M⟩ hI
        refine WC2.at_ (env' := [(10, .bool false), (0, .slice A2 xl.length c2), (13, ov), (14, x.v), (18, .int .i64 ((i : Nat) : Int))]) (rs' := [PartsT 23 x.v M, PartsT 23 x2.v x2.l, Vec 5 1 encB ov xl, Vec 5 1 encB (.slice A2 xl.length c2) xl]) ⟨rfl, rfl, rfl, rfl, rfl, trivial⟩ rfl ?_
        have hI1 := hI.1
        have hI2 := hI.2
        have hI4 := lens_len hI2
        have hxl : x.l.length ≤ 137438953472 := by omega
        refine d_seq ?_
        rcases Nat.lt_or_ge i x.l.length with hi | hi
        · skip
          obtain ⟨p0, hp0⟩ : ∃ p, M[i]? = some p := ⟨_, List.getElem?_eq_getElem (by omega)⟩
          refine d_reg ?_
          refine h_q hflS rfl ?_
          refine h_val rfl (.int .i64 (M.length : Int)) (fun b w hb hH => e_plen 0 Try.underlying25 rfl rfl rfl hH hb) ?_
          refine h_val rfl (.bool true) (fun b w hb hH => exec_cmp rfl rfl rfl (cmp_lss_t (by omega)) hb) ?_
          refine h_done (d_then rfl (d_skip (f_to (d_seq (d_block (d_reg ?_))))))
          refine h_q hflS rfl ?_
          refine h_done (d_block ?_)
          refine d_loop (α := Nat × List PtT) (fun ⟨q, M2⟩ => [(10, .bool false), (0, .slice A2 xl.length c2), (13, ov), (14, x.v), (18, .int .i64 ((i : Nat) : Int)), (83, .int .i64 ((i : Nat) : Int)), (84, x.v), (85, .int .i64 (M.length : Int)), (86, .bool true), (19, .int .i64 ((q : Nat) : Int))]) (fun ⟨q, M2⟩ => [PartsT 23 x.v M2, PartsT 23 x2.v x2.l, Vec 5 1 encB ov xl, Vec 5 1 encB (.slice A2 xl.length c2) xl]) (fun ⟨q, M2⟩ => q ≤ p0.2.length ∧ lens M2 = lens M) (fun ⟨q, M2⟩ => p0.2.length - q) (0, M) ⟨Nat.zero_le _, rfl⟩ ⟨rfl, rfl, rfl, rfl, rfl, rfl, rfl, rfl, rfl, rfl, trivial⟩ rfl ?_
          rintro ⟨q, M2⟩ hK
          refine WC2.at_ (env' := [(10, .bool false), (0, .slice A2 xl.length c2), (13, ov), (14, x.v), (18, .int .i64 ((i : Nat) : Int)), (83, .int .i64 ((i : Nat) : Int)), (84, x.v), (85, .int .i64 (M.length : Int)), (86, .bool true), (19, .int .i64 ((q : Nat) : Int))]) (rs' := [PartsT 23 x.v M2, PartsT 23 x2.v x2.l, Vec 5 1 encB ov xl, Vec 5 1 encB (.slice A2 xl.length c2) xl]) ⟨rfl, rfl, rfl, rfl, rfl, rfl, rfl, rfl, rfl, rfl, trivial⟩ rfl ?_
          have hK1 := hK.1
          have hK2 := hK.2
          have hK3 := lens_len hK2
          refine d_seq ?_
          obtain ⟨p, hp, hpl⟩ := lens_at hK2 hp0
          have hp6 := lens_le hl hI2.symm hp0
          rcases Nat.lt_or_ge q p.2.length with hq | hq
          · skip
            refine d_reg ?_
            refine h_q hflS rfl ?_
            refine h_val rfl (elp x.v (i * 1)) (fun b w hb hH => e_pidx 0 sl_s_uint8 rfl i (by omega) rfl rfl rfl hH hb) ?_
            refine h_val rfl (p.1) (fun b w hb hH => e_pload 0 ty_s_uint8 rfl i hp rfl rfl hH hb) ?_
            refine h_val rfl (.int .i64 (p.2.length : Int)) (fun b w hb hH => e_slen ((hH.rd8 0 rfl (prt_rd8f hp)).rd) Try.underlying23 rfl rfl hb) ?_
            refine h_val rfl (.bool true) (fun b w hb hH => exec_cmp rfl rfl rfl (cmp_lss_t (by omega)) hb) ?_
            refine h_done (d_then rfl (d_skip (f_to (d_seq (d_block ?_)))))
            refine d_open 0 rfl (prts_open_at hp) (fun _ => rfl) ?_; rintro ⟨⟩
            refine WC2.fact 2 rfl one_of_vec ?_; rintro hone
            refine d_reg1 ?_
            refine h_q hflS rfl ?_
            refine h_val rfl (elp x.v (i * 1)) (fun b w hb hH => e_vidx 0 sl_s_uint8 okW rfl i (by rw [List.length_map]; omega) rfl rfl rfl hH hb) ?_
            refine h_val rfl (p.1) (fun b w hb hH => e_wload 0 ty_s_uint8 rfl i (by rw [List.getElem?_map, hp]; rfl) hone rfl rfl hH hb) ?_
            refine h_q hflS rfl ?_
            refine h_val rfl (elp p.1 (q * 1)) (fun b w hb hH => e_vidx 2 sl_uint8 okB rfl q hq rfl rfl rfl hH hb) ?_
            refine h_acts (post := fun _ => [Vec 23 1 encW x.v (M2.map (·.1)), Each (fun x : PtT => Vec 5 1 encB x.1 x.2) (M2.take i), Vec 5 1 encB p.1 (p.2.set q (238 : UInt8)), Each (fun x : PtT => Vec 5 1 encB x.1 x.2) (M2.drop (i + 1)), PartsT 23 x2.v x2.l, Vec 5 1 encB ov xl, Vec 5 1 encB (.slice A2 xl.length c2) xl]) rfl rfl (a_vstore1 2 ty_uint8 okB rfl q hq (238 : UInt8) rfl rfl rfl rfl rfl) ?_; rintro ⟨⟩
            refine h_nil (f_block (f_to ?_))
            refine d_close [0, 1, 2, 3] rfl (prts_back hp) rfl ?_
            refine d_reg1 ?_
            refine h_q hflS rfl ?_
            refine h_val rfl (.int .i64 ((q + 1 : Nat) : Int)) (fun b w hb hH => exec_ar rfl rfl rfl rfl (by rw [IntWalk.i64_in _ (by omega)]; omega) hb) ?_
            refine h_q hflS rfl ?_
            refine h_nil ?_
            exact f_again (q + 1, M2.set i (p.1, p.2.set q 238)) 0 ⟨by omega, (lens_set hp (List.length_set ..)).trans hK2⟩ (show p0.2.length - (q + 1) < p0.2.length - q by omega) ⟨rfl, rfl, rfl, rfl, rfl, rfl, rfl, rfl, rfl, rfl, trivial⟩ rfl
          · skip
            refine d_reg ?_
            refine h_q hflS rfl ?_
            refine h_val rfl (elp x.v (i * 1)) (fun b w hb hH => e_pidx 0 sl_s_uint8 rfl i (by omega) rfl rfl rfl hH hb) ?_
            refine h_val rfl (p.1) (fun b w hb hH => e_pload 0 ty_s_uint8 rfl i hp rfl rfl hH hb) ?_
            refine h_val rfl (.int .i64 (p.2.length : Int)) (fun b w hb hH => e_slen ((hH.rd8 0 rfl (prt_rd8f hp)).rd) Try.underlying23 rfl rfl hb) ?_
            refine h_val rfl (.bool false) (fun b w hb hH => exec_cmp rfl rfl rfl (cmp_lss_f (by omega)) hb) ?_
            refine h_done (d_else rfl (d_exit (f_then_exit (f_then_exit (f_block_exit (f_block (f_to (d_reg1 ?_))))))))
            refine h_q hflS rfl ?_
            refine h_val rfl (.int .i64 ((i + 1 : Nat) : Int)) (fun b w hb hH => exec_ar rfl rfl rfl rfl (by rw [IntWalk.i64_in _ (by omega)]; omega) hb) ?_
            refine h_q hflS rfl ?_
            refine h_nil ?_
            exact f_again (i + 1, M2) 0 ⟨hi, hK2.trans hI2⟩ (show x.l.length - (i + 1) < x.l.length - i by omega) ⟨rfl, rfl, rfl, rfl, rfl, trivial⟩ rfl
        · skip
          refine d_reg ?_
          refine h_q hflS rfl ?_
          refine h_val rfl (.int .i64 (M.length : Int)) (fun b w hb hH => e_plen 0 Try.underlying25 rfl rfl rfl hH hb) ?_
          refine h_val rfl (.bool false) (fun b w hb hH => exec_cmp rfl rfl rfl (cmp_lss_f (by omega)) hb) ?_
          refine h_done (d_else rfl (d_exit (f_then_exit (f_then_exit (f_block_exit (f_to (d_reg ?_)))))))
          refine h_q hflS rfl ?_
          refine h_val rfl (.string (bs xl)) (fun b w hb hH => exec_str8 Try.underlying23 Try.underlying5 (by kernel_rfl) Try.underlying9 (hH.sl8 2 rfl) rfl rfl hb) ?_
          refine h_q hflS rfl ?_
          refine h_val rfl (.string (bs xl)) (fun b w hb hH => exec_str8 Try.underlying23 Try.underlying5 (by kernel_rfl) Try.underlying9 (hH.sl8 3 rfl) rfl rfl hb) ?_
          refine h_val rfl (.bool true) (fun b w hb hH => exec_same rfl rfl rfl (by simp) hb) ?_
          refine h_q hflS rfl ?_
          refine h_done (d_ret ?_)
          exact f_fin1 (.tmp rfl) (fun w h => ⟨rfl, below0 h.up⟩) rfl
      · skip
        obtain ⟨tb, htb⟩ := wrap_any to
        obtain ⟨j, hj⟩ : ∃ j : Nat, ap % (xl.length : Int) = (j : Int) := ⟨(ap % (xl.length : Int)).toNat, by have := Int.emod_nonneg ap (show (xl.length : Int) ≠ 0 by omega); omega⟩
        have hjl : j < xl.length := by have := Int.emod_lt_of_pos ap (show (0 : Int) < (xl.length : Int) by omega); omega
        refine d_reg ?_
        refine h_q hflS rfl ?_
        refine h_val rfl (.int .i64 (xl.length : Int)) (fun b w hb hH => e_vlen 0 Try.underlying23 rfl rfl rfl hH hb) ?_
        refine h_val rfl (.bool true) (fun b w hb hH => exec_cmp rfl rfl rfl (cmp_gtr_t (by omega)) hb) ?_
        refine h_done (d_then rfl (d_reg1 ?_))
        refine h_q hflS rfl ?_
        refine h_val rfl (.int .i64 (xl.length : Int)) (fun b w hb hH => e_vlen 0 Try.underlying23 rfl rfl rfl hH hb) ?_
        refine h_act (post := fun _ => [Vec 5 1 encB xv xl]) rfl (a_call (ent_of Try.func11 (by kernel_rfl) rfl) (fun w hH => pick w ap (xl.length : Int) hap (by omega) hj) rfl rfl rfl) ?_; rintro ⟨⟩
        refine h_q hflS rfl ?_
        refine h_val rfl (.int .u8 (tb.toNat : Int)) (fun b w hb hH => exec_conv Try.underlying3 Try.underlying5 htb rfl rfl hb) ?_
        refine h_val rfl (elp xv (j * 1)) (fun b w hb hH => e_vidx 0 sl_uint8 okB rfl j hjl rfl rfl rfl hH hb) ?_
        refine h_acts (post := fun _ => [Vec 5 1 encB xv (xl.set j tb)]) rfl rfl (a_vstore1 0 ty_uint8 okB rfl j hjl tb rfl rfl rfl rfl rfl) ?_; rintro ⟨⟩
        refine h_nil (f_to ?_)
        obtain ⟨x3, hx3⟩ : ∃ x3, xl.set j tb = x3 := ⟨_, rfl⟩
        have hx3l : x3.length = xl.length := by rw [← hx3, List.length_set]
        rw [hx3]
        skip
        refine WC2.fact 0 rfl (fun _ h => Vec.is h) ?_; rintro ⟨A2, c2, rfl⟩
        refine WC2.keep (env' := [(0, .slice A y.length c), (1, v1), (3, .int .i64 ap), (4, .int .i64 to), (10, .bool false), (11, .slice A2 x3.length c2), (12, .int .i64 ((k : Nat) : Int)), (21, .int .i64 ((k : Nat) : Int)), (22, v1), (23, .int .i64 (l1.length : Int)), (24, .bool true), (25, .bool true), (26, .int .i64 ((k : Nat) : Int)), (27, .bool false), (28, .bool false), (38, .slice A2 x3.length c2), (39, .int .i64 (xl.length : Int)), (40, .bool true), (41, .slice A2 x3.length c2), (42, .int .i64 ap), (43, .slice A2 x3.length c2), (44, .int .i64 (xl.length : Int)), (45, .int .i64 (j : Int)), (46, .int .i64 to), (47, .int .u8 (tb.toNat : Int))]) ⟨rfl, rfl, rfl, rfl, rfl, rfl, rfl, rfl, rfl, rfl, rfl, rfl, rfl, rfl, rfl, rfl, rfl, rfl, rfl, rfl, rfl, rfl, rfl, rfl, rfl, trivial⟩ ?_
        refine WC2.mid [Vec 5 1 encB (.slice A2 x3.length c2) x3] (.refl _) ?_
        refine d_reg1 ?_
        refine h_q hflS rfl ?_
        refine h_nil (f_to (d_reg ?_))
        refine h_q hflS rfl ?_
        refine h_act (X := Value) (val := fun v : Value => v) (post := fun o0 => [Vec 5 1 encB o0 ([]), Vec 5 1 encB (.slice A2 x3.length c2) x3]) rfl (by refine a_build0 (e := 5) (t := 23) (k := 1) (enc := encB) ?_ ?_; exact sl_uint8; exact rfl) ?_; rintro o0
        refine h_q hflS rfl ?_
        refine h_act (post := fun ov => [Vec 5 1 encB ov x3, Vec 5 1 encB (.slice A2 x3.length c2) x3]) rfl (a_append8 0 sl_uint8 (by kernel_rfl) rfl (x3) (fun w hH => (hH.sl8 1 rfl).rd) (by simp only [List.length_nil]; omega) rfl rfl rfl (List.nil_append _)) ?_; rintro ov
        refine h_q hflS rfl ?_
        refine h_done (d_reg ?_)
        refine h_q hflS rfl ?_
        refine h_act (post := fun (x : PsV) => [PartsT 23 x.v x.l, fact (x.l.map (·.2) = (listL x3).1), Vec 5 1 encB ov x3, Vec 5 1 encB (.slice A2 x3.length c2) x3]) rfl (a_does (os' := fun (x : PsV) => [PartsT 23 x.v x.l, fact (x.l.map (·.2) = (listL x3).1), Vec 5 1 encB ov x3, Vec 5 1 encB (.slice A2 x3.length c2) x3]) [0] 0 (ent_of Try.func12 (by kernel_rfl) rfl) (list_does rd8_vec (by omega) rfl) rfl rfl rfl (fun _ => rfl) rfl rfl rfl) ?_; rintro x
        refine WL2.fact 1 rfl (fun _ h => h.2) ?_; rintro hl
        refine WL2.leave [1] rfl rfl ?_
        refine h_q hflS rfl ?_
        refine h_done (d_reg ?_)
        refine h_q hflS rfl ?_
        refine h_act (post := fun (x2 : PsV) => [PartsT 23 x2.v x2.l, fact (x2.l.map (·.2) = (listL x3).1), PartsT 23 x.v x.l, Vec 5 1 encB ov x3, Vec 5 1 encB (.slice A2 x3.length c2) x3]) rfl (a_does (os' := fun (x2 : PsV) => [PartsT 23 x2.v x2.l, fact (x2.l.map (·.2) = (listL x3).1), PartsT 23 x.v x.l, Vec 5 1 encB ov x3, Vec 5 1 encB (.slice A2 x3.length c2) x3]) [2] 0 (ent_of Try.func13 (by kernel_rfl) rfl) (rlist rd8_vec (by omega) rfl) rfl rfl rfl (fun _ => rfl) rfl rfl rfl) ?_; rintro x2
        refine WL2.fact 1 rfl (fun _ h => h.2) ?_; rintro h2
        refine WL2.leave [1] rfl rfl ?_
        refine h_q hflS rfl ?_
        refine h_done (d_seq (d_reg ?_))
        refine h_q hflS rfl ?_
        refine h_act (post := fun _ => [PartsT 23 x2.v x2.l, PartsT 23 x.v x.l, Vec 5 1 encB ov x3, Vec 5 1 encB (.slice A2 x3.length c2) x3]) rfl (a_call (ent_of Try.func8 (by kernel_rfl) rfl) (fun w hH => known8_true w) rfl rfl rfl) ?_; rintro ⟨⟩
        refine h_q hflS rfl ?_
        refine h_act (post := fun _ => [PartsT 23 x2.v x2.l, PartsT 23 x.v x.l, Vec 5 1 encB ov x3, Vec 5 1 encB (.slice A2 x3.length c2) x3]) rfl (a_does (os' := fun _ => [PartsT 23 x2.v x2.l, PartsT 23 x.v x.l, Vec 5 1 encB ov x3, Vec 5 1 encB (.slice A2 x3.length c2) x3]) [1, 0] 0 (ent_of Try.func14 (by kernel_rfl) rfl) (same_does rdPs_all rdPs_all (by have := parts_le hl; rw [List.length_map]; omega) (by rw [ptOf_ds, ptOf_ds, hl, h2, beq_self_eq_true])) rfl rfl rfl (fun _ => rfl) rfl rfl rfl) ?_; rintro ⟨⟩
        refine h_q hflS rfl ?_
        refine h_val rfl (.bool false) (fun b w hb hH => exec_cmp rfl rfl rfl (cmp_neq_f (by simp)) hb) ?_
        refine h_q hflS rfl ?_
        refine h_val rfl (.string (bs x3)) (fun b w hb hH => exec_str8 Try.underlying23 Try.underlying5 (by kernel_rfl) Try.underlying9 (hH.sl8 2 rfl) rfl rfl hb) ?_
        refine h_q hflS rfl ?_
        refine h_val rfl (.string (bs x3)) (fun b w hb hH => exec_str8 Try.underlying23 Try.underlying5 (by kernel_rfl) Try.underlying9 (hH.sl8 3 rfl) rfl rfl hb) ?_
        refine h_val rfl (.bool false) (fun b w hb hH => exec_diff (by simp) rfl rfl rfl hb) ?_
        refine h_q hflS rfl ?_
        refine h_done ?_
        refine WC2.keep (env' := [(10, .bool false), (0, .slice A2 x3.length c2), (13, ov), (14, x.v), (82, .bool false)]) ⟨rfl, rfl, rfl, rfl, rfl, trivial⟩ ?_
        refine d_else rfl (d_skip (f_to (d_seq ?_)))
        have hxl_ := parts_le hl
        refine d_close [1] rfl (fun _ h => Parts.one' h) rfl ?_
        refine d_reg ?_
        refine h_q hflS rfl ?_
        refine h_done (d_block ?_)
        refine d_loop (α := Nat × List PtT) (fun ⟨i, M⟩ => [(10, .bool false), (0, .slice A2 x3.length c2), (13, ov), (14, x.v), (18, .int .i64 ((i : Nat) : Int))]) (fun ⟨i, M⟩ => [PartsT 23 x.v M, PartsT 23 x2.v x2.l, Vec 5 1 encB ov x3, Vec 5 1 encB (.slice A2 x3.length c2) x3]) (fun ⟨i, M⟩ => i ≤ x.l.length ∧ lens M = lens x.l) (fun ⟨i, M⟩ => x.l.length - i) (0, x.l) ⟨Nat.zero_le _, rfl⟩ ⟨rfl, rfl, rfl, rfl, rfl, trivial⟩ rfl ?_
        rintro ⟨i, M⟩ hI
        refine WC2.at_ (env' := [(10, .bool false), (0, .slice A2 x3.length c2), (13, ov), (14, x.v), (18, .int .i64 ((i : Nat) : Int))]) (rs' := [PartsT 23 x.v M, PartsT 23 x2.v x2.l, Vec 5 1 encB ov x3, Vec 5 1 encB (.slice A2 x3.length c2) x3]) ⟨rfl, rfl, rfl, rfl, rfl, trivial⟩ rfl ?_
        have hI1 := hI.1
        have hI2 := hI.2
        have hI4 := lens_len hI2
        have hxl : x.l.length ≤ 137438953472 := by omega
        refine d_seq ?_
        rcases Nat.lt_or_ge i x.l.length with hi | hi
        · skip
          obtain ⟨p0, hp0⟩ : ∃ p, M[i]? = some p := ⟨_, List.getElem?_eq_getElem (by omega)⟩
          refine d_reg ?_
          refine h_q hflS rfl ?_
          refine h_val rfl (.int .i64 (M.length : Int)) (fun b w hb hH => e_plen 0 Try.underlying25 rfl rfl rfl hH hb) ?_
          refine h_val rfl (.bool true) (fun b w hb hH => exec_cmp rfl rfl rfl (cmp_lss_t (by omega)) hb) ?_
          refine h_done (d_then rfl (d_skip (f_to (d_seq (d_block (d_reg ?_))))))
          refine h_q hflS rfl ?_
          refine h_done (d_block ?_)
          refine d_loop (α := Nat × List PtT) (fun ⟨q, M2⟩ => [(10, .bool false), (0, .slice A2 x3.length c2), (13, ov), (14, x.v), (18, .int .i64 ((i : Nat) : Int)), (83, .int .i64 ((i : Nat) : Int)), (84, x.v), (85, .int .i64 (M.length : Int)), (86, .bool true), (19, .int .i64 ((q : Nat) : Int))]) (fun ⟨q, M2⟩ => [PartsT 23 x.v M2, PartsT 23 x2.v x2.l, Vec 5 1 encB ov x3, Vec 5 1 encB (.slice A2 x3.length c2) x3]) (fun ⟨q, M2⟩ => q ≤ p0.2.length ∧ lens M2 = lens M) (fun ⟨q, M2⟩ => p0.2.length - q) (0, M) ⟨Nat.zero_le _, rfl⟩ ⟨rfl, rfl, rfl, rfl, rfl, rfl, rfl, rfl, rfl, rfl, trivial⟩ rfl ?_
          rintro ⟨q, M2⟩ hK
          refine WC2.at_ (env' := [(10, .bool false), (0, .slice A2 x3.length c2), (13, ov), (14, x.v), (18, .int .i64 ((i : Nat) : Int)), (83, .int .i64 ((i : Nat) : Int)), (84, x.v), (85, .int .i64 (M.length : Int)), (86, .bool true), (19, .int .i64 ((q : Nat) : Int))]) (rs' := [PartsT 23 x.v M2, PartsT 23 x2.v x2.l, Vec 5 1 encB ov x3, Vec 5 1 encB (.slice A2 x3.length c2) x3]) ⟨rfl, rfl, rfl, rfl, rfl, rfl, rfl, rfl, rfl, rfl, trivial⟩ rfl ?_
          have hK1 := hK.1
          have hK2 := hK.2
          have hK3 := lens_len hK2
          refine d_seq ?_
          obtain ⟨p, hp, hpl⟩ := lens_at hK2 hp0
          have hp6 := lens_le hl hI2.symm hp0
          rcases Nat.lt_or_ge q p.2.length with hq | hq
          · skip
            refine d_reg ?_
            refine h_q hflS rfl ?_
            refine h_val rfl (elp x.v (i * 1)) (fun b w hb hH => e_pidx 0 sl_s_uint8 rfl i (by omega) rfl rfl rfl hH hb) ?_
            refine h_val rfl (p.1) (fun b w hb hH => e_pload 0 ty_s_uint8 rfl i hp rfl rfl hH hb) ?_
            refine h_val rfl (.int .i64 (p.2.length : Int)) (fun b w hb hH => e_slen ((hH.rd8 0 rfl (prt_rd8f hp)).rd) Try.underlying23 rfl rfl hb) ?_
            refine h_val rfl (.bool true) (fun b w hb hH => exec_cmp rfl rfl rfl (cmp_lss_t (by omega)) hb) ?_
            refine h_done (d_then rfl (d_skip (f_to (d_seq (d_block ?_)))))
            refine d_open 0 rfl (prts_open_at hp) (fun _ => rfl) ?_; rintro ⟨⟩
            refine WC2.fact 2 rfl one_of_vec ?_; rintro hone
            refine d_reg1 ?_
            refine h_q hflS rfl ?_
            refine h_val rfl (elp x.v (i * 1)) (fun b w hb hH => e_vidx 0 sl_s_uint8 okW rfl i (by rw [List.length_map]; omega) rfl rfl rfl hH hb) ?_
            refine h_val rfl (p.1) (fun b w hb hH => e_wload 0 ty_s_uint8 rfl i (by rw [List.getElem?_map, hp]; rfl) hone rfl rfl hH hb) ?_
            refine h_q hflS rfl ?_
            refine h_val rfl (elp p.1 (q * 1)) (fun b w hb hH => e_vidx 2 sl_uint8 okB rfl q hq rfl rfl rfl hH hb) ?_
            refine h_acts (post := fun _ => [Vec 23 1 encW x.v (M2.map (·.1)), Each (fun x : PtT => Vec 5 1 encB x.1 x.2) (M2.take i), Vec 5 1 encB p.1 (p.2.set q (238 : UInt8)), Each (fun x : PtT => Vec 5 1 encB x.1 x.2) (M2.drop (i + 1)), PartsT 23 x2.v x2.l, Vec 5 1 encB ov x3, Vec 5 1 encB (.slice A2 x3.length c2) x3]) rfl rfl (a_vstore1 2 ty_uint8 okB rfl q hq (238 : UInt8) rfl rfl rfl rfl rfl) ?_; rintro ⟨⟩
            refine h_nil (f_block (f_to ?_))
            refine d_close [0, 1, 2, 3] rfl (prts_back hp) rfl ?_
            refine d_reg1 ?_
            refine h_q hflS rfl ?_
            refine h_val rfl (.int .i64 ((q + 1 : Nat) : Int)) (fun b w hb hH => exec_ar rfl rfl rfl rfl (by rw [IntWalk.i64_in _ (by omega)]; omega) hb) ?_
            refine h_q hflS rfl ?_
            refine h_nil ?_
            exact f_again (q + 1, M2.set i (p.1, p.2.set q 238)) 0 ⟨by omega, (lens_set hp (List.length_set ..)).trans hK2⟩ (show p0.2.length - (q + 1) < p0.2.length - q by omega) ⟨rfl, rfl, rfl, rfl, rfl, rfl, rfl, rfl, rfl, rfl, trivial⟩ rfl
          · skip
            refine d_reg ?_
            refine h_q hflS rfl ?_
            refine h_val rfl (elp x.v (i * 1)) (fun b w hb hH => e_pidx 0 sl_s_uint8 rfl i (by omega) rfl rfl rfl hH hb) ?_
            refine h_val rfl (p.1) (fun b w hb hH => e_pload 0 ty_s_uint8 rfl i hp rfl rfl hH hb) ?_
            refine h_val rfl (.int .i64 (p.2.length : Int)) (fun b w hb hH => e_slen ((hH.rd8 0 rfl (prt_rd8f hp)).rd) Try.underlying23 rfl rfl hb) ?_
            refine h_val rfl (.bool false) (fun b w hb hH => exec_cmp rfl rfl rfl (cmp_lss_f (by omega)) hb) ?_
            refine h_done (d_else rfl (d_exit (f_then_exit (f_then_exit (f_block_exit (f_block (f_to (d_reg1 ?_))))))))
            refine h_q hflS rfl ?_
            refine h_val rfl (.int .i64 ((i + 1 : Nat) : Int)) (fun b w hb hH => exec_ar rfl rfl rfl rfl (by rw [IntWalk.i64_in _ (by omega)]; omega) hb) ?_
            refine h_q hflS rfl ?_
            refine h_nil ?_
            exact f_again (i + 1, M2) 0 ⟨hi, hK2.trans hI2⟩ (show x.l.length - (i + 1) < x.l.length - i by omega) ⟨rfl, rfl, rfl, rfl, rfl, trivial⟩ rfl
        · skip
          refine d_reg ?_
          refine h_q hflS rfl ?_
          refine h_val rfl (.int .i64 (M.length : Int)) (fun b w hb hH => e_plen 0 Try.underlying25 rfl rfl rfl hH hb) ?_
          refine h_val rfl (.bool false) (fun b w hb hH => exec_cmp rfl rfl rfl (cmp_lss_f (by omega)) hb) ?_
          refine h_done (d_else rfl (d_exit (f_then_exit (f_then_exit (f_block_exit (f_to (d_reg ?_)))))))
          refine h_q hflS rfl ?_
          refine h_val rfl (.string (bs x3)) (fun b w hb hH => exec_str8 Try.underlying23 Try.underlying5 (by kernel_rfl) Try.underlying9 (hH.sl8 2 rfl) rfl rfl hb) ?_
          refine h_q hflS rfl ?_
          refine h_val rfl (.string (bs x3)) (fun b w hb hH => exec_str8 Try.underlying23 Try.underlying5 (by kernel_rfl) Try.underlying9 (hH.sl8 3 rfl) rfl rfl hb) ?_
          refine h_val rfl (.bool true) (fun b w hb hH => exec_same rfl rfl rfl (by simp) hb) ?_
          refine h_q hflS rfl ?_
          refine h_done (d_ret ?_)
          exact f_fin1 (.tmp rfl) (fun w h => ⟨rfl, below0 h.up⟩) rfl
    · skip
      refine d_reg ?_
      refine h_q hflS rfl ?_
      refine h_val rfl (.int .i64 (l1.length : Int)) (fun b w hb hH => e_slen ((argPs0 hv1 hH).1) Try.underlying25 rfl rfl hb) ?_
      refine h_val rfl (.bool false) (fun b w hb hH => exec_cmp rfl rfl rfl (cmp_lss_f (by omega)) hb) ?_
      refine h_q hflS rfl ?_
      refine h_done (d_else rfl (d_exit (f_then_exit (f_then_exit (f_block_exit (f_to (d_seq ?_)))))))
      have hxl3 : xl.length ≤ 1310880 := by omega
      rcases Nat.eq_zero_or_pos xl.length with h0 | h0
      · skip
        refine d_reg ?_
        refine h_q hflS rfl ?_
        refine h_val rfl (.int .i64 (xl.length : Int)) (fun b w hb hH => e_vlen 0 Try.underlying23 rfl rfl rfl hH hb) ?_
        refine h_val rfl (.bool false) (fun b w hb hH => exec_cmp rfl rfl rfl (cmp_gtr_f (by omega)) hb) ?_
        refine h_done (d_else rfl (d_skip (f_to ?_)))
        refine WC2.fact 0 rfl (fun _ h => Vec.is h) ?_; rintro ⟨A2, c2, rfl⟩
        refine WC2.keep (env' := [(0, .slice A y.length c), (1, v1), (3, .int .i64 ap), (4, .int .i64 to), (10, .bool false), (11, .slice A2 xl.length c2), (12, .int .i64 ((k : Nat) : Int)), (21, .int .i64 ((k : Nat) : Int)), (22, v1), (23, .int .i64 (l1.length : Int)), (24, .bool false), (25, .bool false), (26, undef), (27, undef), (28, .bool false), (38, .slice A2 xl.length c2), (39, .int .i64 (xl.length : Int)), (40, .bool false)]) ⟨rfl, rfl, rfl, rfl, rfl, rfl, rfl, rfl, rfl, rfl, rfl, rfl, rfl, rfl, rfl, rfl, rfl, rfl, trivial⟩ ?_
        refine WC2.mid [Vec 5 1 encB (.slice A2 xl.length c2) xl] (.refl _) ?_
        refine d_reg1 ?_
        refine h_q hflS rfl ?_
        refine h_nil (f_to (d_reg ?_))
        refine h_q hflS rfl ?_
        refine h_act (X := Value) (val := fun v : Value => v) (post := fun o0 => [Vec 5 1 encB o0 ([]), Vec 5 1 encB (.slice A2 xl.length c2) xl]) rfl (by refine a_build0 (e := 5) (t := 23) (k := 1) (enc := encB) ?_ ?_; exact sl_uint8; exact rfl) ?_; rintro o0
        refine h_q hflS rfl ?_
        refine h_act (post := fun ov => [Vec 5 1 encB ov xl, Vec 5 1 encB (.slice A2 xl.length c2) xl]) rfl (a_append8 0 sl_uint8 (by kernel_rfl) rfl (xl) (fun w hH => (hH.sl8 1 rfl).rd) (by simp only [List.length_nil]; omega) rfl rfl rfl (List.nil_append _)) ?_; rintro ov
        refine h_q hflS rfl ?_
        refine h_done (d_reg ?_)
        refine h_q hflS rfl ?_
        refine h_act (post := fun (x : PsV) => [PartsT 23 x.v x.l, fact (x.l.map (·.2) = (listL xl).1), Vec 5 1 encB ov xl, Vec 5 1 encB (.slice A2 xl.length c2) xl]) rfl (a_does (os' := fun (x : PsV) => [PartsT 23 x.v x.l, fact (x.l.map (·.2) = (listL xl).1), Vec 5 1 encB ov xl, Vec 5 1 encB (.slice A2 xl.length c2) xl]) [0] 0 (ent_of Try.func12 (by kernel_rfl) rfl) (list_does rd8_vec (by omega) rfl) rfl rfl rfl (fun _ => rfl) rfl rfl rfl) ?_; rintro x
        refine WL2.fact 1 rfl (fun _ h => h.2) ?_; rintro hl
        refine WL2.leave [1] rfl rfl ?_
        refine h_q hflS rfl ?_
        refine h_done (d_reg ?_)
        refine h_q hflS rfl ?_
        refine h_act (post := fun (x2 : PsV) => [PartsT 23 x2.v x2.l, fact (x2.l.map (·.2) = (listL xl).1), PartsT 23 x.v x.l, Vec 5 1 encB ov xl, Vec 5 1 encB (.slice A2 xl.length c2) xl]) rfl (a_does (os' := fun (x2 : PsV) => [PartsT 23 x2.v x2.l, fact (x2.l.map (·.2) = (listL xl).1), PartsT 23 x.v x.l, Vec 5 1 encB ov xl, Vec 5 1 encB (.slice A2 xl.length c2) xl]) [2] 0 (ent_of Try.func13 (by kernel_rfl) rfl) (rlist rd8_vec (by omega) rfl) rfl rfl rfl (fun _ => rfl) rfl rfl rfl) ?_; rintro x2
        refine WL2.fact 1 rfl (fun _ h => h.2) ?_; rintro h2
        refine WL2.leave [1] rfl rfl ?_
        refine h_q hflS rfl ?_
        refine h_done (d_seq (d_reg ?_))
        refine h_q hflS rfl ?_
        refine h_act (post := fun _ => [PartsT 23 x2.v x2.l, PartsT 23 x.v x.l, Vec 5 1 encB ov xl, Vec 5 1 encB (.slice A2 xl.length c2) xl]) rfl (a_call (ent_of Try.func8 (by kernel_rfl) rfl) (fun w hH => known8_true w) rfl rfl rfl) ?_; rintro ⟨⟩
        refine h_q hflS rfl ?_
        refine h_act (post := fun _ => [PartsT 23 x2.v x2.l, PartsT 23 x.v x.l, Vec 5 1 encB ov xl, Vec 5 1 encB (.slice A2 xl.length c2) xl]) rfl (a_does (os' := fun _ => [PartsT 23 x2.v x2.l, PartsT 23 x.v x.l, Vec 5 1 encB ov xl, Vec 5 1 encB (.slice A2 xl.length c2) xl]) [1, 0] 0 (ent_of Try.func14 (by kernel_rfl) rfl) (same_does rdPs_all rdPs_all (by have := parts_le hl; rw [List.length_map]; omega) (by rw [ptOf_ds, ptOf_ds, hl, h2, beq_self_eq_true])) rfl rfl rfl (fun _ => rfl) rfl rfl rfl) ?_; rintro ⟨⟩
        refine h_q hflS rfl ?_
        refine h_val rfl (.bool false) (fun b w hb hH => exec_cmp rfl rfl rfl (cmp_neq_f (by simp)) hb) ?_
        refine h_q hflS rfl ?_
        refine h_val rfl (.string (bs xl)) (fun b w hb hH => exec_str8 Try.underlying23 Try.underlying5 (by kernel_rfl) Try.underlying9 (hH.sl8 2 rfl) rfl rfl hb) ?_
        refine h_q hflS rfl ?_
        refine h_val rfl (.string (bs xl)) (fun b w hb hH => exec_str8 Try.underlying23 Try.underlying5 (by kernel_rfl) Try.underlying9 (hH.sl8 3 rfl) rfl rfl hb) ?_
        refine h_val rfl (.bool false) (fun b w hb hH => exec_diff (by simp) rfl rfl rfl hb) ?_
        refine h_q hflS rfl ?_
        refine h_done ?_
        refine WC2.keep (env' := [(10, .bool false), (0, .slice A2 xl.length c2), (13, ov), (14, x.v), (82, .bool false)]) ⟨rfl, rfl, rfl, rfl, rfl, trivial⟩ ?_
        refine d_else rfl (d_skip (f_to (d_seq ?_)))
        have hxl_ := parts_le hl
        refine d_close [1] rfl (fun _ h => Parts.one' h) rfl ?_
        refine d_reg ?_
        refine h_q hflS rfl ?_
        refine h_done (d_block ?_)
        refine d_loop (α := Nat × List PtT) (fun ⟨i, M⟩ => [(10, .bool false), (0, .slice A2 xl.length c2), (13, ov), (14, x.v), (18, .int .i64 ((i : Nat) : Int))]) (fun ⟨i, M⟩ => [PartsT 23 x.v M, PartsT 23 x2.v x2.l, Vec 5 1 encB ov xl, Vec 5 1 encB (.slice A2 xl.length c2) xl]) (fun ⟨i, M⟩ => i ≤ x.l.length ∧ lens M = lens x.l) (fun ⟨i, M⟩ => x.l.length - i) (0, x.l) ⟨Nat.zero_le _, rfl⟩ ⟨rfl, rfl, rfl, rfl, rfl, trivial⟩ rfl ?_
        rintro ⟨i, M⟩ hI
        refine WC2.at_ (env' := [(10, .bool false), (0, .slice A2 xl.length c2), (13, ov), (14, x.v), (18, .int .i64 ((i : Nat) : Int))]) (rs' := [PartsT 23 x.v M, PartsT 23 x2.v x2.l, Vec 5 1 encB ov xl, Vec 5 1 encB (.slice A2 xl.length c2) xl]) ⟨rfl, rfl, rfl, rfl, rfl, trivial⟩ rfl ?_
        have hI1 := hI.1
        have hI2 := hI.2
        have hI4 := lens_len hI2
        have hxl : x.l.length ≤ 137438953472 := by omega
        refine d_seq ?_
        rcases Nat.lt_or_ge i x.l.length with hi | hi
        · skip
          obtain ⟨p0, hp0⟩ : ∃ p, M[i]? = some p := ⟨_, List.getElem?_eq_getElem (by omega)⟩
          refine d_reg ?_
          refine h_q hflS rfl ?_
          refine h_val rfl (.int .i64 (M.length : Int)) (fun b w hb hH => e_plen 0 Try.underlying25 rfl rfl rfl hH hb) ?_
          refine h_val rfl (.bool true) (fun b w hb hH => exec_cmp rfl rfl rfl (cmp_lss_t (by omega)) hb) ?_
          refine h_done (d_then rfl (d_skip (f_to (d_seq (d_block (d_reg ?_))))))
          refine h_q hflS rfl ?_
          refine h_done (d_block ?_)
          refine d_loop (α := Nat × List PtT) (fun ⟨q, M2⟩ => [(10, .bool false), (0, .slice A2 xl.length c2), (13, ov), (14, x.v), (18, .int .i64 ((i : Nat) : Int)), (83, .int .i64 ((i : Nat) : Int)), (84, x.v), (85, .int .i64 (M.length : Int)), (86, .bool true), (19, .int .i64 ((q : Nat) : Int))]) (fun ⟨q, M2⟩ => [PartsT 23 x.v M2, PartsT 23 x2.v x2.l, Vec 5 1 encB ov xl, Vec 5 1 encB (.slice A2 xl.length c2) xl]) (fun ⟨q, M2⟩ => q ≤ p0.2.length ∧ lens M2 = lens M) (fun ⟨q, M2⟩ => p0.2.length - q) (0, M) ⟨Nat.zero_le _, rfl⟩ ⟨rfl, rfl, rfl, rfl, rfl, rfl, rfl, rfl, rfl, rfl, trivial⟩ rfl ?_
          rintro ⟨q, M2⟩ hK
          refine WC2.at_ (env' := [(10, .bool false), (0, .slice A2 xl.length c2), (13, ov), (14, x.v), (18, .int .i64 ((i : Nat) : Int)), (83, .int .i64 ((i : Nat) : Int)), (84, x.v), (85, .int .i64 (M.length : Int)), (86, .bool true), (19, .int .i64 ((q : Nat) : Int))]) (rs' := [PartsT 23 x.v M2, PartsT 23 x2.v x2.l, Vec 5 1 encB ov xl, Vec 5 1 encB (.slice A2 xl.length c2) xl]) ⟨rfl, rfl, rfl, rfl, rfl, rfl, rfl, rfl, rfl, rfl, trivial⟩ rfl ?_
          have hK1 := hK.1
          have hK2 := hK.2
          have hK3 := lens_len hK2
          refine d_seq ?_
          obtain ⟨p, hp, hpl⟩ := lens_at hK2 hp0
          have hp6 := lens_le hl hI2.symm hp0
          rcases Nat.lt_or_ge q p.2.length with hq | hq
          · skip
            refine d_reg ?_
            refine h_q hflS rfl ?_
            refine h_val rfl (elp x.v (i * 1)) (fun b w hb hH => e_pidx 0 sl_s_uint8 rfl i (by omega) rfl rfl rfl hH hb) ?_
            refine h_val rfl (p.1) (fun b w hb hH => e_pload 0 ty_s_uint8 rfl i hp rfl rfl hH hb) ?_
            refine h_val rfl (.int .i64 (p.2.length : Int)) (fun b w hb hH => e_slen ((hH.rd8 0 rfl (prt_rd8f hp)).rd) Try.underlying23 rfl rfl hb) ?_
            refine h_val rfl (.bool true) (fun b w hb hH => exec_cmp rfl rfl rfl (cmp_lss_t (by omega)) hb) ?_
            refine h_done (d_then rfl (d_skip (f_to (d_seq (d_block ?_)))))
            refine d_open 0 rfl (prts_open_at hp) (fun _ => rfl) ?_; rintro ⟨⟩
            refine WC2.fact 2 rfl one_of_vec ?_; rintro hone
            refine d_reg1 ?_
            refine h_q hflS rfl ?_
            refine h_val rfl (elp x.v (i * 1)) (fun b w hb hH => e_vidx 0 sl_s_uint8 okW rfl i (by rw [List.length_map]; omega) rfl rfl rfl hH hb) ?_
            refine h_val rfl (p.1) (fun b w hb hH => e_wload 0 ty_s_uint8 rfl i (by rw [List.getElem?_map, hp]; rfl) hone rfl rfl hH hb) ?_
            refine h_q hflS rfl ?_
            refine h_val rfl (elp p.1 (q * 1)) (fun b w hb hH => e_vidx 2 sl_uint8 okB rfl q hq rfl rfl rfl hH hb) ?_
            refine h_acts (post := fun _ => [Vec 23 1 encW x.v (M2.map (·.1)), Each (fun x : PtT => Vec 5 1 encB x.1 x.2) (M2.take i), Vec 5 1 encB p.1 (p.2.set q (238 : UInt8)), Each (fun x : PtT => Vec 5 1 encB x.1 x.2) (M2.drop (i + 1)), PartsT 23 x2.v x2.l, Vec 5 1 encB ov xl, Vec 5 1 encB (.slice A2 xl.length c2) xl]) rfl rfl (a_vstore1 2 ty_uint8 okB rfl q hq (238 : UInt8) rfl rfl rfl rfl rfl) ?_; rintro ⟨⟩
            refine h_nil (f_block (f_to ?_))
            refine d_close [0, 1, 2, 3] rfl (prts_back hp) rfl ?_
            refine d_reg1 ?_
            refine h_q hflS rfl ?_
            refine h_val rfl (.int .i64 ((q + 1 : Nat) : Int)) (fun b w hb hH => exec_ar rfl rfl rfl rfl (by rw [IntWalk.i64_in _ (by omega)]; omega) hb) ?_
            refine h_q hflS rfl ?_
            refine h_nil ?_
            exact f_again (q + 1, M2.set i (p.1, p.2.set q 238)) 0 ⟨by omega, (lens_set hp (List.length_set ..)).trans hK2⟩ (show p0.2.length - (q + 1) < p0.2.length - q by omega) ⟨rfl, rfl, rfl, rfl, rfl, rfl, rfl, rfl, rfl, rfl, trivial⟩ rfl
          · skip
            refine d_reg ?_
            refine h_q hflS rfl ?_
            refine h_val rfl (elp x.v (i * 1)) (fun b w hb hH => e_pidx 0 sl_s_uint8 rfl i (by omega) rfl rfl rfl hH hb) ?_
            refine h_val rfl (p.1) (fun b w hb hH => e_pload 0 ty_s_uint8 rfl i hp rfl rfl hH hb) ?_
            refine h_val rfl (.int .i64 (p.2.length : Int)) (fun b w hb hH => e_slen ((hH.rd8 0 rfl (prt_rd8f hp)).rd) Try.underlying23 rfl rfl hb) ?_
            refine h_val rfl (.bool false) (fun b w hb hH => exec_cmp rfl rfl rfl (cmp_lss_f (by omega)) hb) ?_
            refine h_done (d_else rfl (d_exit (f_then_exit (f_then_exit (f_block_exit (f_block (f_to (d_reg1 ?_))))))))
            refine h_q hflS rfl ?_
            refine h_val rfl (.int .i64 ((i + 1 : Nat) : Int)) (fun b w hb hH => exec_ar rfl rfl rfl rfl (by rw [IntWalk.i64_in _ (by omega)]; omega) hb) ?_
            refine h_q hflS rfl ?_
            refine h_nil ?_
            exact f_again (i + 1, M2) 0 ⟨hi, hK2.trans hI2⟩ (show x.l.length - (i + 1) < x.l.length - i by omega) ⟨rfl, rfl, rfl, rfl, rfl, trivial⟩ rfl
        · skip
          refine d_reg ?_
          refine h_q hflS rfl ?_
          refine h_val rfl (.int .i64 (M.length : Int)) (fun b w hb hH => e_plen 0 Try.underlying25 rfl rfl rfl hH hb) ?_
          refine h_val rfl (.bool false) (fun b w hb hH => exec_cmp rfl rfl rfl (cmp_lss_f (by omega)) hb) ?_
          refine h_done (d_else rfl (d_exit (f_then_exit (f_then_exit (f_block_exit (f_to (d_reg ?_)))))))
          refine h_q hflS rfl ?_
          refine h_val rfl (.string (bs xl)) (fun b w hb hH => exec_str8 Try.underlying23 Try.underlying5 (by kernel_rfl) Try.underlying9 (hH.sl8 2 rfl) rfl rfl hb) ?_
          refine h_q hflS rfl ?_
          refine h_val rfl (.string (bs xl)) (fun b w hb hH => exec_str8 Try.underlying23 Try.underlying5 (by kernel_rfl) Try.underlying9 (hH.sl8 3 rfl) rfl rfl hb) ?_
          refine h_val rfl (.bool true) (fun b w hb hH => exec_same rfl rfl rfl (by simp) hb) ?_
          refine h_q hflS rfl ?_
          refine h_done (d_ret ?_)
          exact f_fin1 (.tmp rfl) (fun w h => ⟨rfl, below0 h.up⟩) rfl
      · skip
        obtain ⟨tb, htb⟩ := wrap_any to
        obtain ⟨j, hj⟩ : ∃ j : Nat, ap % (xl.length : Int) = (j : Int) := ⟨(ap % (xl.length : Int)).toNat, by have := Int.emod_nonneg ap (show (xl.length : Int) ≠ 0 by omega); omega⟩
        have hjl : j < xl.length := by have := Int.emod_lt_of_pos ap (show (0 : Int) < (xl.length : Int) by omega); omega
        refine d_reg ?_
        refine h_q hflS rfl ?_
        refine h_val rfl (.int .i64 (xl.length : Int)) (fun b w hb hH => e_vlen 0 Try.underlying23 rfl rfl rfl hH hb) ?_
        refine h_val rfl (.bool true) (fun b w hb hH => exec_cmp rfl rfl rfl (cmp_gtr_t (by omega)) hb) ?_
        refine h_done (d_then rfl (d_reg1 ?_))
        refine h_q hflS rfl ?_
        refine h_val rfl (.int .i64 (xl.length : Int)) (fun b w hb hH => e_vlen 0 Try.underlying23 rfl rfl rfl hH hb) ?_
        refine h_act (post := fun _ => [Vec 5 1 encB xv xl]) rfl (a_call (ent_of Try.func11 (by kernel_rfl) rfl) (fun w hH => pick w ap (xl.length : Int) hap (by omega) hj) rfl rfl rfl) ?_; rintro ⟨⟩
        refine h_q hflS rfl ?_
        refine h_val rfl (.int .u8 (tb.toNat : Int)) (fun b w hb hH => exec_conv Try.underlying3 Try.underlying5 htb rfl rfl hb) ?_
        refine h_val rfl (elp xv (j * 1)) (fun b w hb hH => e_vidx 0 sl_uint8 okB rfl j hjl rfl rfl rfl hH hb) ?_
        refine h_acts (post := fun _ => [Vec 5 1 encB xv (xl.set j tb)]) rfl rfl (a_vstore1 0 ty_uint8 okB rfl j hjl tb rfl rfl rfl rfl rfl) ?_; rintro ⟨⟩
        refine h_nil (f_to ?_)
        obtain ⟨x3, hx3⟩ : ∃ x3, xl.set j tb = x3 := ⟨_, rfl⟩
        have hx3l : x3.length = xl.length := by rw [← hx3, List.length_set]
        rw [hx3]
        skip
        refine WC2.fact 0 rfl (fun _ h => Vec.is h) ?_; rintro ⟨A2, c2, rfl⟩
        refine WC2.keep (env' := [(0, .slice A y.length c), (1, v1), (3, .int .i64 ap), (4, .int .i64 to), (10, .bool false), (11, .slice A2 x3.length c2), (12, .int .i64 ((k : Nat) : Int)), (21, .int .i64 ((k : Nat) : Int)), (22, v1), (23, .int .i64 (l1.length : Int)), (24, .bool false), (25, .bool false), (26, undef), (27, undef), (28, .bool false), (38, .slice A2 x3.length c2), (39, .int .i64 (xl.length : Int)), (40, .bool true), (41, .slice A2 x3.length c2), (42, .int .i64 ap), (43, .slice A2 x3.length c2), (44, .int .i64 (xl.length : Int)), (45, .int .i64 (j : Int)), (46, .int .i64 to), (47, .int .u8 (tb.toNat : Int))]) ⟨rfl, rfl, rfl, rfl, rfl, rfl, rfl, rfl, rfl, rfl, rfl, rfl, rfl, rfl, rfl, rfl, rfl, rfl, rfl, rfl, rfl, rfl, rfl, rfl, rfl, trivial⟩ ?_
        refine WC2.mid [Vec 5 1 encB (.slice A2 x3.length c2) x3] (.refl _) ?_
        refine d_reg1 ?_
        refine h_q hflS rfl ?_
        refine h_nil (f_to (d_reg ?_))
        refine h_q hflS rfl ?_
        refine h_act (X := Value) (val := fun v : Value => v) (post := fun o0 => [Vec 5 1 encB o0 ([]), Vec 5 1 encB (.slice A2 x3.length c2) x3]) rfl (by refine a_build0 (e := 5) (t := 23) (k := 1) (enc := encB) ?_ ?_; exact sl_uint8; exact rfl) ?_; rintro o0
        refine h_q hflS rfl ?_
        refine h_act (post := fun ov => [Vec 5 1 encB ov x3, Vec 5 1 encB (.slice A2 x3.length c2) x3]) rfl (a_append8 0 sl_uint8 (by kernel_rfl) rfl (x3) (fun w hH => (hH.sl8 1 rfl).rd) (by simp only [List.length_nil]; omega) rfl rfl rfl (List.nil_append _)) ?_; rintro ov
        refine h_q hflS rfl ?_
        refine h_done (d_reg ?_)
        refine h_q hflS rfl ?_
        refine h_act (post := fun (x : PsV) => [PartsT 23 x.v x.l, fact (x.l.map (·.2) = (listL x3).1), Vec 5 1 encB ov x3, Vec 5 1 encB (.slice A2 x3.length c2) x3]) rfl (a_does (os' := fun (x : PsV) => [PartsT 23 x.v x.l, fact (x.l.map (·.2) = (listL x3).1), Vec 5 1 encB ov x3, Vec 5 1 encB (.slice A2 x3.length c2) x3]) [0] 0 (ent_of Try.func12 (by kernel_rfl) rfl) (list_does rd8_vec (by omega) rfl) rfl rfl rfl (fun _ => rfl) rfl rfl rfl) ?_; rintro x
        refine WL2.fact 1 rfl (fun _ h => h.2) ?_; rintro hl
        refine WL2.leave [1] rfl rfl ?_
        refine h_q hflS rfl ?_
        refine h_done (d_reg ?_)
        refine h_q hflS rfl ?_
        refine h_act (post := fun (x2 : PsV) => [PartsT 23 x2.v x2.l, fact (x2.l.map (·.2) = (listL x3).1), PartsT 23 x.v x.l, Vec 5 1 encB ov x3, Vec 5 1 encB (.slice A2 x3.length c2) x3]) rfl (a_does (os' := fun (x2 : PsV) => [PartsT 23 x2.v x2.l, fact (x2.l.map (·.2) = (listL x3).1), PartsT 23 x.v x.l, Vec 5 1 encB ov x3, Vec 5 1 encB (.slice A2 x3.length c2) x3]) [2] 0 (ent_of Try.func13 (by kernel_rfl) rfl) (rlist rd8_vec (by omega) rfl) rfl rfl rfl (fun _ => rfl) rfl rfl rfl) ?_; rintro x2
        refine WL2.fact 1 rfl (fun _ h => h.2) ?_; rintro h2
        refine WL2.leave [1] rfl rfl ?_
        refine h_q hflS rfl ?_
        refine h_done (d_seq (d_reg ?_))
        refine h_q hflS rfl ?_
        refine h_act (post := fun _ => [PartsT 23 x2.v x2.l, PartsT 23 x.v x.l, Vec 5 1 encB ov x3, Vec 5 1 encB (.slice A2 x3.length c2) x3]) rfl (a_call (ent_of Try.func8 (by kernel_rfl) rfl) (fun w hH => known8_true w) rfl rfl rfl) ?_; rintro ⟨⟩
        refine h_q hflS rfl ?_
        refine h_act (post := fun _ => [PartsT 23 x2.v x2.l, PartsT 23 x.v x.l, Vec 5 1 encB ov x3, Vec 5 1 encB (.slice A2 x3.length c2) x3]) rfl (a_does (os' := fun _ => [PartsT 23 x2.v x2.l, PartsT 23 x.v x.l, Vec 5 1 encB ov x3, Vec 5 1 encB (.slice A2 x3.length c2) x3]) [1, 0] 0 (ent_of Try.func14 (by kernel_rfl) rfl) (same_does rdPs_all rdPs_all (by have := parts_le hl; rw [List.length_map]; omega) (by rw [ptOf_ds, ptOf_ds, hl, h2, beq_self_eq_true])) rfl rfl rfl (fun _ => rfl) rfl rfl rfl) ?_; rintro ⟨⟩
        refine h_q hflS rfl ?_
        refine h_val rfl (.bool false) (fun b w hb hH => exec_cmp rfl rfl rfl (cmp_neq_f (by simp)) hb) ?_
        refine h_q hflS rfl ?_
        refine h_val rfl (.string (bs x3)) (fun b w hb hH => exec_str8 Try.underlying23 Try.underlying5 (by kernel_rfl) Try.underlying9 (hH.sl8 2 rfl) rfl rfl hb) ?_
        refine h_q hflS rfl ?_
        refine h_val rfl (.string (bs x3)) (fun b w hb hH => exec_str8 Try.underlying23 Try.underlying5 (by kernel_rfl) Try.underlying9 (hH.sl8 3 rfl) rfl rfl hb) ?_
        refine h_val rfl (.bool false) (fun b w hb hH => exec_diff (by simp) rfl rfl rfl hb) ?_
        refine h_q hflS rfl ?_
        refine h_done ?_
        refine WC2.keep (env' := [(10, .bool false), (0, .slice A2 x3.length c2), (13, ov), (14, x.v), (82, .bool false)]) ⟨rfl, rfl, rfl, rfl, rfl, trivial⟩ ?_
        refine d_else rfl (d_skip (f_to (d_seq ?_)))
        have hxl_ := parts_le hl
        refine d_close [1] rfl (fun _ h => Parts.one' h) rfl ?_
        refine d_reg ?_
        refine h_q hflS rfl ?_
        refine h_done (d_block ?_)
        refine d_loop (α := Nat × List PtT) (fun ⟨i, M⟩ => [(10, .bool false), (0, .slice A2 x3.length c2), (13, ov), (14, x.v), (18, .int .i64 ((i : Nat) : Int))]) (fun ⟨i, M⟩ => [PartsT 23 x.v M, PartsT 23 x2.v x2.l, Vec 5 1 encB ov x3, Vec 5 1 encB (.slice A2 x3.length c2) x3]) (fun ⟨i, M⟩ => i ≤ x.l.length ∧ lens M = lens x.l) (fun ⟨i, M⟩ => x.l.length - i) (0, x.l) ⟨Nat.zero_le _, rfl⟩ ⟨rfl, rfl, rfl, rfl, rfl, trivial⟩ rfl ?_
        rintro ⟨i, M⟩ hI
        refine WC2.at_ (env' := [(10, .bool false), (0, .slice A2 x3.length c2), (13, ov), (14, x.v), (18, .int .i64 ((i : Nat) : Int))]) (rs' := [PartsT 23 x.v M, PartsT 23 x2.v x2.l, Vec 5 1 encB ov x3, Vec 5 1 encB (.slice A2 x3.length c2) x3]) ⟨rfl, rfl, rfl, rfl, rfl, trivial⟩ rfl ?_
        have hI1 := hI.1
        have hI2 := hI.2
        have hI4 := lens_len hI2
        have hxl : x.l.length ≤ 137438953472 := by omega
        refine d_seq ?_
        rcases Nat.lt_or_ge i x.l.length with hi | hi
        · skip
          obtain ⟨p0, hp0⟩ : ∃ p, M[i]? = some p := ⟨_, List.getElem?_eq_getElem (by omega)⟩
          refine d_reg ?_
          refine h_q hflS rfl ?_
          refine h_val rfl (.int .i64 (M.length : Int)) (fun b w hb hH => e_plen 0 Try.underlying25 rfl rfl rfl hH hb) ?_
          refine h_val rfl (.bool true) (fun b w hb hH => exec_cmp rfl rfl rfl (cmp_lss_t (by omega)) hb) ?_
          refine h_done (d_then rfl (d_skip (f_to (d_seq (d_block (d_reg ?_))))))
          refine h_q hflS rfl ?_
          refine h_done (d_block ?_)
          refine d_loop (α := Nat × List PtT) (fun ⟨q, M2⟩ => [(10, .bool false), (0, .slice A2 x3.length c2), (13, ov), (14, x.v), (18, .int .i64 ((i : Nat) : Int)), (83, .int .i64 ((i : Nat) : Int)), (84, x.v), (85, .int .i64 (M.length : Int)), (86, .bool true), (19, .int .i64 ((q : Nat) : Int))]) (fun ⟨q, M2⟩ => [PartsT 23 x.v M2, PartsT 23 x2.v x2.l, Vec 5 1 encB ov x3, Vec 5 1 encB (.slice A2 x3.length c2) x3]) (fun ⟨q, M2⟩ => q ≤ p0.2.length ∧ lens M2 = lens M) (fun ⟨q, M2⟩ => p0.2.length - q) (0, M) ⟨Nat.zero_le _, rfl⟩ ⟨rfl, rfl, rfl, rfl, rfl, rfl, rfl, rfl, rfl, rfl, trivial⟩ rfl ?_
          rintro ⟨q, M2⟩ hK
          refine WC2.at_ (env' := [(10, .bool false), (0, .slice A2 x3.length c2), (13, ov), (14, x.v), (18, .int .i64 ((i : Nat) : Int)), (83, .int .i64 ((i : Nat) : Int)), (84, x.v), (85, .int .i64 (M.length : Int)), (86, .bool true), (19, .int .i64 ((q : Nat) : Int))]) (rs' := [PartsT 23 x.v M2, PartsT 23 x2.v x2.l, Vec 5 1 encB ov x3, Vec 5 1 encB (.slice A2 x3.length c2) x3]) ⟨rfl, rfl, rfl, rfl, rfl, rfl, rfl, rfl, rfl, rfl, trivial⟩ rfl ?_
          have hK1 := hK.1
          have hK2 := hK.2
          have hK3 := lens_len hK2
          refine d_seq ?_
          obtain ⟨p, hp, hpl⟩ := lens_at hK2 hp0
          have hp6 := lens_le hl hI2.symm hp0
          rcases Nat.lt_or_ge q p.2.length with hq | hq
          · skip
            refine d_reg ?_
            refine h_q hflS rfl ?_
            refine h_val rfl (elp x.v (i * 1)) (fun b w hb hH => e_pidx 0 sl_s_uint8 rfl i (by omega) rfl rfl rfl hH hb) ?_
            refine h_val rfl (p.1) (fun b w hb hH => e_pload 0 ty_s_uint8 rfl i hp rfl rfl hH hb) ?_
            refine h_val rfl (.int .i64 (p.2.length : Int)) (fun b w hb hH => e_slen ((hH.rd8 0 rfl (prt_rd8f hp)).rd) Try.underlying23 rfl rfl hb) ?_
            refine h_val rfl (.bool true) (fun b w hb hH => exec_cmp rfl rfl rfl (cmp_lss_t (by omega)) hb) ?_
            refine h_done (d_then rfl (d_skip (f_to (d_seq (d_block ?_)))))
            refine d_open 0 rfl (prts_open_at hp) (fun _ => rfl) ?_; rintro ⟨⟩
            refine WC2.fact 2 rfl one_of_vec ?_; rintro hone
            refine d_reg1 ?_
            refine h_q hflS rfl ?_
            refine h_val rfl (elp x.v (i * 1)) (fun b w hb hH => e_vidx 0 sl_s_uint8 okW rfl i (by rw [List.length_map]; omega) rfl rfl rfl hH hb) ?_
            refine h_val rfl (p.1) (fun b w hb hH => e_wload 0 ty_s_uint8 rfl i (by rw [List.getElem?_map, hp]; rfl) hone rfl rfl hH hb) ?_
            refine h_q hflS rfl ?_
            refine h_val rfl (elp p.1 (q * 1)) (fun b w hb hH => e_vidx 2 sl_uint8 okB rfl q hq rfl rfl rfl hH hb) ?_
            refine h_acts (post := fun _ => [Vec 23 1 encW x.v (M2.map (·.1)), Each (fun x : PtT => Vec 5 1 encB x.1 x.2) (M2.take i), Vec 5 1 encB p.1 (p.2.set q (238 : UInt8)), Each (fun x : PtT => Vec 5 1 encB x.1 x.2) (M2.drop (i + 1)), PartsT 23 x2.v x2.l, Vec 5 1 encB ov x3, Vec 5 1 encB (.slice A2 x3.length c2) x3]) rfl rfl (a_vstore1 2 ty_uint8 okB rfl q hq (238 : UInt8) rfl rfl rfl rfl rfl) ?_; rintro ⟨⟩
            refine h_nil (f_block (f_to ?_))
            refine d_close [0, 1, 2, 3] rfl (prts_back hp) rfl ?_
            refine d_reg1 ?_
            refine h_q hflS rfl ?_
            refine h_val rfl (.int .i64 ((q + 1 : Nat) : Int)) (fun b w hb hH => exec_ar rfl rfl rfl rfl (by rw [IntWalk.i64_in _ (by omega)]; omega) hb) ?_
            refine h_q hflS rfl ?_
            refine h_nil ?_
            exact f_again (q + 1, M2.set i (p.1, p.2.set q 238)) 0 ⟨by omega, (lens_set hp (List.length_set ..)).trans hK2⟩ (show p0.2.length - (q + 1) < p0.2.length - q by omega) ⟨rfl, rfl, rfl, rfl, rfl, rfl, rfl, rfl, rfl, rfl, trivial⟩ rfl
          · skip
            refine d_reg ?_
            refine h_q hflS rfl ?_
            refine h_val rfl (elp x.v (i * 1)) (fun b w hb hH => e_pidx 0 sl_s_uint8 rfl i (by omega) rfl rfl rfl hH hb) ?_
            refine h_val rfl (p.1) (fun b w hb hH => e_pload 0 ty_s_uint8 rfl i hp rfl rfl hH hb) ?_
            refine h_val rfl (.int .i64 (p.2.length : Int)) (fun b w hb hH => e_slen ((hH.rd8 0 rfl (prt_rd8f hp)).rd) Try.underlying23 rfl rfl hb) ?_
            refine h_val rfl (.bool false) (fun b w hb hH => exec_cmp rfl rfl rfl (cmp_lss_f (by omega)) hb) ?_
            refine h_done (d_else rfl (d_exit (f_then_exit (f_then_exit (f_block_exit (f_block (f_to (d_reg1 ?_))))))))
            refine h_q hflS rfl ?_
            refine h_val rfl (.int .i64 ((i + 1 : Nat) : Int)) (fun b w hb hH => exec_ar rfl rfl rfl rfl (by rw [IntWalk.i64_in _ (by omega)]; omega) hb) ?_
            refine h_q hflS rfl ?_
            refine h_nil ?_
            exact f_again (i + 1, M2) 0 ⟨hi, hK2.trans hI2⟩ (show x.l.length - (i + 1) < x.l.length - i by omega) ⟨rfl, rfl, rfl, rfl, rfl, trivial⟩ rfl
        · skip
          refine d_reg ?_
          refine h_q hflS rfl ?_
          refine h_val rfl (.int .i64 (M.length : Int)) (fun b w hb hH => e_plen 0 Try.underlying25 rfl rfl rfl hH hb) ?_
          refine h_val rfl (.bool false) (fun b w hb hH => exec_cmp rfl rfl rfl (cmp_lss_f (by omega)) hb) ?_
          refine h_done (d_else rfl (d_exit (f_then_exit (f_then_exit (f_block_exit (f_to (d_reg ?_)))))))
          refine h_q hflS rfl ?_
          refine h_val rfl (.string (bs x3)) (fun b w hb hH => exec_str8 Try.underlying23 Try.underlying5 (by kernel_rfl) Try.underlying9 (hH.sl8 2 rfl) rfl rfl hb) ?_
          refine h_q hflS rfl ?_
          refine h_val rfl (.string (bs x3)) (fun b w hb hH => exec_str8 Try.underlying23 Try.underlying5 (by kernel_rfl) Try.underlying9 (hH.sl8 3 rfl) rfl rfl hb) ?_
          refine h_val rfl (.bool true) (fun b w hb hH => exec_same rfl rfl rfl (by simp) hb) ?_
          refine h_q hflS rfl ?_
          refine h_done (d_ret ?_)
          exact f_fin1 (.tmp rfl) (fun w h => ⟨rfl, below0 h.up⟩) rfl
end Go.Proofs.Ythamiglbifgepaa.Sep
