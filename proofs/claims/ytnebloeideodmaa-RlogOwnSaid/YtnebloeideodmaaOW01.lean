/-
  RlAj
-/
import Derived.Test.YtnebloeideodmaaOV01
set_option linter.unusedSimpArgs false
set_option linter.unusedVariables false

namespace Go.Proofs.Ytnebloeideodmaa.Sep
open Go.RowKit
open Go.Proofs.Ytnebloeideodmaa.Mem (Dist Blk Chg below0)

theorem enT_eq {v : Value} {l m : List EntD} (h : l = m) : ∀ rs, Parts [EnT v l] rs → EnT v m rs := fun rs hr => h ▸ hr.one'

set_option maxRecDepth 100000 in
set_option maxHeartbeats 1000000 in
theorem own_law (X : Ass) (v0 : Value) (l0 : List EntV) (hX0 : RdEs X v0 l0) (ho0 : ∀ x, x ∈ l0 → x.e.ok) (most : Int) (hmo : -9223372036854775808 ≤ most ∧ most ≤ 9223372036854775807) : Does Try.prog 7 #[v0, .int .i64 most] [X] (fun (_ : Unit) => .bool true) (fun (_ : Unit) => [X]) := by
  obtain ⟨lf, hlf⟩ : ∃ l, handL 3 1 ((l0.take 20).map (·.e)) = l := ⟨_, rfl⟩
  have hl20 : ((l0.take 20).map (·.e)).length ≤ 20 := by rw [List.length_map, List.length_take]; omega
  have hlfl : lf.length ≤ 20 := by rw [← hlf, handL_len]; exact hl20
  have hI : InvL 3 1 lf := by rw [← hlf]; exact hand_inv (by omega) (by omega) (by omega) (by omega)
  obtain ⟨m0, hm0⟩ : ∃ r, most % 25 = r := ⟨_, rfl⟩
  have hm1 := Int.emod_nonneg most (show (25 : Int) ≠ 0 by decide)
  have hm2 := Int.emod_lt_of_pos most (show (0 : Int) < 25 by decide)
  rw [hm0] at hm1 hm2
  obtain ⟨mm, hmm⟩ : ∃ m, 1 + m0 = m := ⟨_, rfl⟩
  obtain ⟨qq, hqq⟩ : ∃ q, (min mm (lf.length : Int)).toNat = q := ⟨_, rfl⟩
  refine d_ins (args := [v0, .int .i64 most]) 89 Try.func7 rfl rfl rfl ?_; intro w rs
  refine d_reg ?_
  refine h_q hflS rfl ?_
  refine h_act (post := fun g3 => [cell g3 3 #[.int .i64 most], X]) rfl (a_box (cs := #[.int .i64 most]) rfl rfl rfl) ?_; rintro g3
  refine h_q hflS rfl ?_
  refine h_done (d_reg ?_)
  refine h_q hflS rfl ?_
  refine h_act (post := fun fs => [EnT fs lf, cell g3 3 #[.int .i64 most], X]) rfl (a_makes (os' := fun fs => [EnT fs lf, cell g3 3 #[.int .i64 most], X]) [] 0 (ent_of Try.func20 (by kernel_rfl) rfl) (fun w hH => hand_v w l0 v0 (hH.rdEs 1 rfl hX0) ho0 3 1 20 (by decide) (by decide) (by decide) lf hlf) rfl rfl rfl (fun _ => rfl) rfl rfl rfl) ?_; rintro fs
  refine h_q hflS rfl ?_
  refine h_done ?_
  refine d_open 0 rfl EnT.openE (fun _ => rfl) ?_; rintro ⟨⟨A0, c0, L0⟩, hv0, hL0, hc0⟩
  have hv0 : fs = .slice A0 L0.length c0 := hv0
  have hL0 : L0.map (·.e) = lf := hL0
  have hc0 : L0.length ≤ c0 := hc0
  have hl0 : L0.length = lf.length := by rw [← hL0, List.length_map]
  subst hv0
  refine WC2.keep (env' := [(1, .int .i64 most), (3, .pointer (some ⟨g3, 0, none⟩)), (4, .bool false), (13, v0), (14, .slice A0 L0.length c0), (0, .slice A0 L0.length c0)]) ⟨rfl, rfl, rfl, rfl, rfl, rfl, trivial⟩ ?_
  refine WC2.mid [EnE A0 c0 L0, cell g3 3 #[.int .i64 most], X] (.refl _) ?_
  refine d_open 0 rfl ents_eq (fun _ => rfl) ?_; rintro ⟨⟩
  refine WC2.keep (env' := [(1, .int .i64 most), (3, .pointer (some ⟨g3, 0, none⟩)), (4, .bool false), (13, v0), (14, .slice A0 L0.length c0), (0, .slice A0 L0.length c0)]) ⟨rfl, rfl, rfl, rfl, rfl, rfl, trivial⟩ ?_
  refine WC2.mid [Vec 32 5 encV (.slice A0 L0.length c0) L0, Each dat L0, cell g3 3 #[.int .i64 most], X] (.refl _) ?_
  have hd0 := hd_of (inv_mem hI) hL0
  refine d_reg ?_
  refine h_q hflS rfl ?_
  refine h_act (post := fun _ => [Vec 32 5 encV (.slice A0 L0.length c0) L0, Each dat L0, cell g3 3 #[.int .i64 most], X]) rfl (a_call (ent_of Try.func9 (by kernel_rfl) rfl) (fun w hH => lbase_any w 3 1 14) rfl rfl rfl) ?_; rintro ⟨⟩
  refine h_q hflS rfl ?_
  refine h_act (post := fun cp => [EnT cp lf, Vec 32 5 encV (.slice A0 L0.length c0) L0, Each dat L0, cell g3 3 #[.int .i64 most], X]) rfl (a_makes (os' := fun cp => [EnT cp lf, Vec 32 5 encV (.slice A0 L0.length c0) L0, Each dat L0, cell g3 3 #[.int .i64 most], X]) [] 0 (ent_of Try.func21 (by kernel_rfl) rfl) (fun w hH => copies_v w (.slice A0 L0.length c0) L0 (own_rd 0 1 rfl rfl hH) (by omega) hd0 lf hL0) rfl rfl rfl (fun _ => rfl) rfl rfl rfl) ?_; rintro cp
  refine h_open 0 rfl EnT.openE (fun _ => rfl) ?_; rintro ⟨⟨A4, c4, L4⟩, hv4, hL4, hc4⟩
  have hv4 : cp = .slice A4 L4.length c4 := hv4
  have hL4 : L4.map (·.e) = lf := hL4
  have hc4 : L4.length ≤ c4 := hc4
  have hl4 : L4.length = lf.length := by rw [← hL4, List.length_map]
  subst hv4
  refine WL2.keep (env' := [(1, .int .i64 most), (3, .pointer (some ⟨g3, 0, none⟩)), (4, .bool false), (13, v0), (14, .slice A0 L0.length c0), (0, .slice A0 L0.length c0), (16, .agg #[.int .u64 3, .int .u64 1, .int .i64 14]), (17, .slice A0 L0.length c0), (18, .slice A4 L4.length c4)]) ⟨rfl, rfl, rfl, rfl, rfl, rfl, rfl, rfl, rfl, trivial⟩ ?_
  refine WL2.mid [EnE A4 c4 L4, Vec 32 5 encV (.slice A0 L0.length c0) L0, Each dat L0, cell g3 3 #[.int .i64 most], X] (.refl _) ?_
  have hd4 := hd_of (inv_mem hI) hL4
  refine h_act (post := fun g => [EnE A4 c4 L4, LogD g 3 1 14 lf, Vec 32 5 encV (.slice A0 L0.length c0) L0, Each dat L0, cell g3 3 #[.int .i64 most], X]) rfl (a_does (os' := fun g => [EnE A4 c4 L4, LogD g 3 1 14 lf, Vec 32 5 encV (.slice A0 L0.length c0) L0, Each dat L0, cell g3 3 #[.int .i64 most], X]) [0] 0 (ent_of Try.func8 (by kernel_rfl) rfl) (lnew_v 3 1 14 (by decide) (by decide) (by decide) (EnE A4 c4 L4) A4 c4 L4 enE_rd hd4 (by omega) lf hL4 (by decide) hI.hf) rfl rfl rfl (fun _ => rfl) rfl rfl rfl) ?_; rintro g
  refine h_q hflS rfl ?_
  refine h_done (d_seq (d_reg ?_))
  refine h_q hflS rfl ?_
  refine h_act (post := fun _ => [EnE A4 c4 L4, LogD g 3 1 14 lf, Vec 32 5 encV (.slice A0 L0.length c0) L0, Each dat L0, cell g3 3 #[.int .i64 most], X]) rfl (a_call (ent_of Try.func11 (by kernel_rfl) rfl) (fun w hH => Run.known_calls w) rfl rfl rfl) ?_; rintro ⟨⟩
  refine h_q hflS rfl ?_
  refine h_val rfl (.bool false) (fun b w hb hH => exec_cmp rfl rfl rfl (cmp_neq_f (by omega)) hb) ?_
  refine h_q hflS rfl ?_
  refine h_val rfl (.bool false) (fun b w hb hH => exec_pnil_eql (by kernel_rfl) rfl rfl rfl hb) ?_
  refine h_q hflS rfl ?_
  refine h_done (d_else rfl (d_skip (f_to (d_seq (d_reg ?_)))))
  refine h_q hflS rfl ?_
  refine h_done (d_block ?_)
  refine d_loop (α := Nat) (fun r => [(3, .pointer (some ⟨g3, 0, none⟩)), (4, .bool false), (0, .slice A0 L0.length c0), (5, .pointer (some ⟨g, 0, none⟩)), (7, .int .i64 (r : Int))]) (fun r => [EnE A4 c4 L4, LogD g 3 1 14 lf, Vec 32 5 encV (.slice A0 L0.length c0) L0, Each dat L0, cell g3 3 #[.int .i64 most], X]) (fun r => r ≤ 2) (fun r => 2 - r) 0 (by decide) ⟨rfl, rfl, rfl, rfl, rfl, trivial⟩ rfl ?_
  rintro r hR9
  refine WC2.at_ (env' := [(3, .pointer (some ⟨g3, 0, none⟩)), (4, .bool false), (0, .slice A0 L0.length c0), (5, .pointer (some ⟨g, 0, none⟩)), (7, .int .i64 (r : Int))]) (rs' := [EnE A4 c4 L4, LogD g 3 1 14 lf, Vec 32 5 encV (.slice A0 L0.length c0) L0, Each dat L0, cell g3 3 #[.int .i64 most], X]) ⟨rfl, rfl, rfl, rfl, rfl, trivial⟩ rfl ?_
  refine d_seq ?_
  rcases Nat.lt_or_ge r 2 with hr2 | hr2
  · skip
    refine d_reg ?_
    refine h_q hflS rfl ?_
    refine h_val rfl (.bool true) (fun b w hb hH => exec_cmp rfl rfl rfl (cmp_lss_t (by omega)) hb) ?_
    refine h_done (d_then rfl (d_skip (f_to (d_seq (d_block (d_reg ?_))))))
    refine h_q hflS rfl ?_
    refine h_act (post := fun ev => [EnT ev lf, EnE A4 c4 L4, LogD g 3 1 14 lf, Vec 32 5 encV (.slice A0 L0.length c0) L0, Each dat L0, cell g3 3 #[.int .i64 most], X]) rfl (a_does (os' := fun ev => [EnT ev lf, EnE A4 c4 L4, LogD g 3 1 14 lf, Vec 32 5 encV (.slice A0 L0.length c0) L0, Each dat L0, cell g3 3 #[.int .i64 most], X]) [1] 0 (ent_of Try.func26 (by kernel_rfl) rfl) (entries_D g 3 1 14 lf hI 4 99 (by decide) (by decide) (by omega) lf (partM_all (bi := 3) (by omega))) rfl rfl rfl (fun _ => rfl) rfl rfl rfl) ?_; rintro ev
    refine h_q hflS rfl ?_
    refine h_done (d_reg ?_)
    refine h_q hflS rfl ?_
    refine h_done (d_block ?_)
    refine d_open 0 rfl EnT.openE (fun _ => rfl) ?_; rintro ⟨⟨A6, c6, L6⟩, hv6, hL6, hc6⟩
    have hv6 : ev = .slice A6 L6.length c6 := hv6
    have hL6 : L6.map (·.e) = lf := hL6
    have hc6 : L6.length ≤ c6 := hc6
    have hl6 : L6.length = lf.length := by rw [← hL6, List.length_map]
    subst hv6
    refine WC2.keep (env' := [(3, .pointer (some ⟨g3, 0, none⟩)), (4, .bool false), (0, .slice A0 L0.length c0), (5, .pointer (some ⟨g, 0, none⟩)), (7, .int .i64 (r : Int)), (32, .int .i64 (r : Int)), (33, .bool true), (36, .pointer (some ⟨g, 0, none⟩)), (37, .slice A6 L6.length c6), (8, .slice A6 L6.length c6), (9, .int .i64 0)]) ⟨rfl, rfl, rfl, rfl, rfl, rfl, rfl, rfl, rfl, rfl, rfl, trivial⟩ ?_
    refine WC2.mid [EnE A6 c6 L6, EnE A4 c4 L4, LogD g 3 1 14 lf, Vec 32 5 encV (.slice A0 L0.length c0) L0, Each dat L0, cell g3 3 #[.int .i64 most], X] (.refl _) ?_
    refine d_open 0 rfl ents_eq (fun _ => rfl) ?_; rintro ⟨⟩
    have hd6 := hd_of (inv_mem hI) hL6
    refine d_close [1] rfl pr_each rfl ?_
    refine d_close [1] rfl pr_vec rfl ?_
    refine WC2.keep (env' := [(3, .pointer (some ⟨g3, 0, none⟩)), (4, .bool false), (0, .slice A0 L0.length c0), (5, .pointer (some ⟨g, 0, none⟩)), (7, .int .i64 (r : Int)), (32, .int .i64 (r : Int)), (33, .bool true), (36, .pointer (some ⟨g, 0, none⟩)), (37, .slice A6 L6.length c6), (8, .slice A6 L6.length c6), (9, .int .i64 0)]) ⟨rfl, rfl, rfl, rfl, rfl, rfl, rfl, rfl, rfl, rfl, rfl, trivial⟩ ?_
    refine WC2.mid [Vec 32 5 encV (.slice A6 L6.length c6) ((L6.map fun x => (x, x.e.d)).map (·.1)), Each (fun x : EntV × List UInt8 => Vec 5 1 encB x.1.v x.2) (L6.map fun x => (x, x.e.d)), EnE A4 c4 L4, LogD g 3 1 14 lf, Vec 32 5 encV (.slice A0 L0.length c0) L0, Each dat L0, cell g3 3 #[.int .i64 most], X] (.refl _) ?_
    refine d_loop (α := Nat × List (EntV × List UInt8)) (fun ⟨i, P⟩ => [(3, .pointer (some ⟨g3, 0, none⟩)), (4, .bool false), (0, .slice A0 L0.length c0), (5, .pointer (some ⟨g, 0, none⟩)), (7, .int .i64 (r : Int)), (32, .int .i64 (r : Int)), (33, .bool true), (36, .pointer (some ⟨g, 0, none⟩)), (37, .slice A6 L6.length c6), (8, .slice A6 L6.length c6), (9, .int .i64 (i : Int))]) (fun ⟨i, P⟩ => [Vec 32 5 encV (.slice A6 L6.length c6) (P.map (·.1)), Each (fun x : EntV × List UInt8 => Vec 5 1 encB x.1.v x.2) P, EnE A4 c4 L4, LogD g 3 1 14 lf, Vec 32 5 encV (.slice A0 L0.length c0) L0, Each dat L0, cell g3 3 #[.int .i64 most], X]) (fun ⟨i, P⟩ => i ≤ lf.length ∧ PrOk lf.length P) (fun ⟨i, P⟩ => lf.length - i) (0, L6.map fun x => (x, x.e.d)) ⟨Nat.zero_le _, pr_start (by rw [hl6]) hd6⟩ ⟨rfl, rfl, rfl, rfl, rfl, rfl, rfl, rfl, rfl, rfl, rfl, trivial⟩ rfl ?_
    rintro ⟨i, P⟩ hJ
    refine WC2.at_ (env' := [(3, .pointer (some ⟨g3, 0, none⟩)), (4, .bool false), (0, .slice A0 L0.length c0), (5, .pointer (some ⟨g, 0, none⟩)), (7, .int .i64 (r : Int)), (32, .int .i64 (r : Int)), (33, .bool true), (36, .pointer (some ⟨g, 0, none⟩)), (37, .slice A6 L6.length c6), (8, .slice A6 L6.length c6), (9, .int .i64 (i : Int))]) (rs' := [Vec 32 5 encV (.slice A6 L6.length c6) (P.map (·.1)), Each (fun x : EntV × List UInt8 => Vec 5 1 encB x.1.v x.2) P, EnE A4 c4 L4, LogD g 3 1 14 lf, Vec 32 5 encV (.slice A0 L0.length c0) L0, Each dat L0, cell g3 3 #[.int .i64 most], X]) ⟨rfl, rfl, rfl, rfl, rfl, rfl, rfl, rfl, rfl, rfl, rfl, trivial⟩ rfl ?_
    have hJ1 : i ≤ lf.length := hJ.1
    have hJ2 : PrOk lf.length P := hJ.2
    have hJ3 : (P.map (·.1)).length = lf.length := by rw [List.length_map]; exact hJ2.1
    refine d_seq ?_
    rcases Nat.lt_or_ge i lf.length with hn8 | hn8
    · skip
      obtain ⟨x, d8, hp8, hx8, hd8⟩ := pr_at hJ2 hn8
      have hx9 := pr_has (n := 0) (y := (setT x 77)) hp8
      have hlt8 := (List.getElem?_eq_some_iff.1 hx8).1
      refine d_reg ?_
      refine h_q hflS rfl ?_
      refine h_val rfl (.int .i64 (L6.length : Int)) (fun b w hb hH => e_len sl_api_Entry rfl rfl hH hb) ?_
      refine h_val rfl (.bool true) (fun b w hb hH => exec_cmp rfl rfl rfl (cmp_lss_t (by omega)) hb) ?_
      refine h_done (d_then rfl (d_skip (f_to (d_seq (d_block (d_reg ?_))))))
      refine h_q hflS rfl ?_
      refine h_val rfl (elp (.slice A6 L6.length c6) (i * 5)) (fun b w hb hH => e_vidx 0 sl_api_Entry okV rfl i hlt8 rfl rfl rfl hH hb) ?_
      refine h_val rfl (elp (.slice A6 L6.length c6) (i * 5 + 1)) (fun b w hb hH => e_sfield okV (by decide) (hH.vec 0 rfl okV) (j := i) hx8 fd_api_Entry_1 rfl rfl hb) ?_
      refine h_acts (post := fun _ => [Vec 32 5 encV (.slice A6 L6.length c6) ((P.map (·.1)).set i (setT x 77)), Each (fun x : EntV × List UInt8 => Vec 5 1 encB x.1.v x.2) P, EnE A4 c4 L4, LogD g 3 1 14 lf, Vec 32 5 encV (.slice A0 L0.length c0) L0, Each dat L0, cell g3 3 #[.int .i64 most], X]) rfl rfl (a_vstore 0 okV rfl i (a := x) (b := (setT x 77)) hx8 ty_uint64.2 rfl rfl (by decide) rfl rfl rfl rfl rfl) ?_; rintro ⟨⟩
      refine h_done ?_
      refine d_open 1 rfl (pr_open (t := 77) hp8) (fun _ => rfl) ?_; rintro ⟨⟩
      refine WC2.keep (env' := [(3, .pointer (some ⟨g3, 0, none⟩)), (4, .bool false), (0, .slice A0 L0.length c0), (5, .pointer (some ⟨g, 0, none⟩)), (7, .int .i64 (r : Int)), (32, .int .i64 (r : Int)), (33, .bool true), (36, .pointer (some ⟨g, 0, none⟩)), (37, .slice A6 L6.length c6), (8, .slice A6 L6.length c6), (9, .int .i64 (i : Int)), (38, .int .i64 (i : Int)), (39, .slice A6 L6.length c6), (40, .int .i64 (L6.length : Int)), (41, .bool true), (44, .slice A6 L6.length c6), (45, .int .i64 (i : Int)), (46, elp (.slice A6 L6.length c6) (i * 5)), (47, elp (.slice A6 L6.length c6) (i * 5 + 1))]) ⟨rfl, rfl, rfl, rfl, rfl, rfl, rfl, rfl, rfl, rfl, rfl, rfl, rfl, rfl, rfl, rfl, rfl, rfl, rfl, trivial⟩ ?_
      refine WC2.mid [Each (fun x : EntV × List UInt8 => Vec 5 1 encB x.1.v x.2) (P.take i), Vec 5 1 encB ((setT x 77).v) d8, Each (fun x : EntV × List UInt8 => Vec 5 1 encB x.1.v x.2) (P.drop (i + 1)), Vec 32 5 encV (.slice A6 L6.length c6) ((P.map (·.1)).set i (setT x 77)), EnE A4 c4 L4, LogD g 3 1 14 lf, Vec 32 5 encV (.slice A0 L0.length c0) L0, Each dat L0, cell g3 3 #[.int .i64 most], X] (.refl _) ?_
      refine d_reg ?_
      refine h_q hflS rfl ?_
      refine h_done (d_block ?_)
      refine d_loop (α := Nat × List UInt8) (fun ⟨k9, ds⟩ => [(3, .pointer (some ⟨g3, 0, none⟩)), (4, .bool false), (0, .slice A0 L0.length c0), (5, .pointer (some ⟨g, 0, none⟩)), (7, .int .i64 (r : Int)), (32, .int .i64 (r : Int)), (33, .bool true), (36, .pointer (some ⟨g, 0, none⟩)), (37, .slice A6 L6.length c6), (8, .slice A6 L6.length c6), (9, .int .i64 (i : Int)), (38, .int .i64 (i : Int)), (39, .slice A6 L6.length c6), (40, .int .i64 (L6.length : Int)), (41, .bool true), (44, .slice A6 L6.length c6), (45, .int .i64 (i : Int)), (46, elp (.slice A6 L6.length c6) (i * 5)), (47, elp (.slice A6 L6.length c6) (i * 5 + 1)), (10, .int .i64 (k9 : Int))]) (fun ⟨k9, ds⟩ => [Each (fun x : EntV × List UInt8 => Vec 5 1 encB x.1.v x.2) (P.take i), Vec 5 1 encB ((setT x 77).v) ds, Each (fun x : EntV × List UInt8 => Vec 5 1 encB x.1.v x.2) (P.drop (i + 1)), Vec 32 5 encV (.slice A6 L6.length c6) ((P.map (·.1)).set i (setT x 77)), EnE A4 c4 L4, LogD g 3 1 14 lf, Vec 32 5 encV (.slice A0 L0.length c0) L0, Each dat L0, cell g3 3 #[.int .i64 most], X]) (fun ⟨k9, ds⟩ => k9 ≤ ds.length ∧ ds.length = d8.length) (fun ⟨k9, ds⟩ => ds.length - k9) (0, d8) ⟨Nat.zero_le _, rfl⟩ ⟨rfl, rfl, rfl, rfl, rfl, rfl, rfl, rfl, rfl, rfl, rfl, rfl, rfl, rfl, rfl, rfl, rfl, rfl, rfl, rfl, trivial⟩ rfl ?_
      rintro ⟨k9, ds⟩ hK
      refine WC2.at_ (env' := [(3, .pointer (some ⟨g3, 0, none⟩)), (4, .bool false), (0, .slice A0 L0.length c0), (5, .pointer (some ⟨g, 0, none⟩)), (7, .int .i64 (r : Int)), (32, .int .i64 (r : Int)), (33, .bool true), (36, .pointer (some ⟨g, 0, none⟩)), (37, .slice A6 L6.length c6), (8, .slice A6 L6.length c6), (9, .int .i64 (i : Int)), (38, .int .i64 (i : Int)), (39, .slice A6 L6.length c6), (40, .int .i64 (L6.length : Int)), (41, .bool true), (44, .slice A6 L6.length c6), (45, .int .i64 (i : Int)), (46, elp (.slice A6 L6.length c6) (i * 5)), (47, elp (.slice A6 L6.length c6) (i * 5 + 1)), (10, .int .i64 (k9 : Int))]) (rs' := [Each (fun x : EntV × List UInt8 => Vec 5 1 encB x.1.v x.2) (P.take i), Vec 5 1 encB ((setT x 77).v) ds, Each (fun x : EntV × List UInt8 => Vec 5 1 encB x.1.v x.2) (P.drop (i + 1)), Vec 32 5 encV (.slice A6 L6.length c6) ((P.map (·.1)).set i (setT x 77)), EnE A4 c4 L4, LogD g 3 1 14 lf, Vec 32 5 encV (.slice A0 L0.length c0) L0, Each dat L0, cell g3 3 #[.int .i64 most], X]) ⟨rfl, rfl, rfl, rfl, rfl, rfl, rfl, rfl, rfl, rfl, rfl, rfl, rfl, rfl, rfl, rfl, rfl, rfl, rfl, rfl, trivial⟩ rfl ?_
      have hK1 : k9 ≤ ds.length := hK.1
      have hK2 : ds.length = d8.length := hK.2
      refine d_seq ?_
      rcases Nat.lt_or_ge k9 ds.length with hk9 | hk9
      · skip
        refine d_reg ?_
        refine h_q hflS rfl ?_
        refine h_val rfl (elp (.slice A6 L6.length c6) (i * 5)) (fun b w hb hH => e_vidx 3 sl_api_Entry okV rfl i (by rw [List.length_set]; exact hlt8) rfl rfl rfl hH hb) ?_
        refine h_val rfl (elp (.slice A6 L6.length c6) (i * 5 + 3)) (fun b w hb hH => e_sfield okV (by decide) (hH.vec 3 rfl okV) (j := i) hx9 fd_api_Entry_3 rfl rfl hb) ?_
        refine h_val rfl ((setT x 77).v) (fun b w hb hH => e_sload okV (by decide) (hH.vec 3 rfl okV) (j := i) hx9 ty_s_uint8 (off := 3) rfl rfl rfl hb) ?_
        refine h_val rfl (.int .i64 (ds.length : Int)) (fun b w hb hH => e_vlen 1 Try.underlying30 rfl rfl rfl hH hb) ?_
        refine h_val rfl (.bool true) (fun b w hb hH => exec_cmp rfl rfl rfl (cmp_lss_t (by omega)) hb) ?_
        refine h_done (d_then rfl (d_skip (f_to (d_seq (d_block (d_reg1 ?_))))))
        refine h_q hflS rfl ?_
        refine h_val rfl (elp (.slice A6 L6.length c6) (i * 5)) (fun b w hb hH => e_vidx 3 sl_api_Entry okV rfl i (by rw [List.length_set]; exact hlt8) rfl rfl rfl hH hb) ?_
        refine h_val rfl (elp (.slice A6 L6.length c6) (i * 5 + 3)) (fun b w hb hH => e_sfield okV (by decide) (hH.vec 3 rfl okV) (j := i) hx9 fd_api_Entry_3 rfl rfl hb) ?_
        refine h_val rfl ((setT x 77).v) (fun b w hb hH => e_sload okV (by decide) (hH.vec 3 rfl okV) (j := i) hx9 ty_s_uint8 (off := 3) rfl rfl rfl hb) ?_
        refine h_q hflS rfl ?_
        refine h_val rfl (elp ((setT x 77).v) (k9 * 1)) (fun b w hb hH => e_vidx 1 sl_uint8 okB rfl k9 hk9 rfl rfl rfl hH hb) ?_
        refine h_acts (post := fun _ => [Each (fun x : EntV × List UInt8 => Vec 5 1 encB x.1.v x.2) (P.take i), Vec 5 1 encB ((setT x 77).v) (ds.set k9 238), Each (fun x : EntV × List UInt8 => Vec 5 1 encB x.1.v x.2) (P.drop (i + 1)), Vec 32 5 encV (.slice A6 L6.length c6) ((P.map (·.1)).set i (setT x 77)), EnE A4 c4 L4, LogD g 3 1 14 lf, Vec 32 5 encV (.slice A0 L0.length c0) L0, Each dat L0, cell g3 3 #[.int .i64 most], X]) rfl rfl (a_vstore1 1 ty_uint8 okB rfl k9 hk9 238 rfl rfl rfl rfl rfl) ?_; rintro ⟨⟩
        refine h_nil (f_block (f_to (d_reg1 ?_)))
        refine h_q hflS rfl ?_
        refine h_val rfl (.int .i64 ((k9 + 1 : Nat) : Int)) (fun b w hb hH => exec_ar rfl rfl rfl rfl (by rw [IntWalk.i64_in _ (by omega)]; omega) hb) ?_
        refine h_q hflS rfl ?_
        refine h_nil ?_
        exact f_again (k9 + 1, ds.set k9 238) 0 ⟨by rw [List.length_set]; omega, by rw [List.length_set]; exact hK2⟩ (show (ds.set k9 238).length - (k9 + 1) < ds.length - k9 by rw [List.length_set]; omega) ⟨rfl, rfl, rfl, rfl, rfl, rfl, rfl, rfl, rfl, rfl, rfl, rfl, rfl, rfl, rfl, rfl, rfl, rfl, rfl, rfl, trivial⟩ rfl
      · skip
        obtain ⟨P9, hP9⟩ : ∃ Q, P.take i ++ ((setT x 77), ds) :: P.drop (i + 1) = Q := ⟨_, rfl⟩
        have hPk := pr_set (y := (setT x 77)) hJ2 hp8 hK2
        rw [hP9] at hPk
        refine d_reg ?_
        refine h_q hflS rfl ?_
        refine h_val rfl (elp (.slice A6 L6.length c6) (i * 5)) (fun b w hb hH => e_vidx 3 sl_api_Entry okV rfl i (by rw [List.length_set]; exact hlt8) rfl rfl rfl hH hb) ?_
        refine h_val rfl (elp (.slice A6 L6.length c6) (i * 5 + 3)) (fun b w hb hH => e_sfield okV (by decide) (hH.vec 3 rfl okV) (j := i) hx9 fd_api_Entry_3 rfl rfl hb) ?_
        refine h_val rfl ((setT x 77).v) (fun b w hb hH => e_sload okV (by decide) (hH.vec 3 rfl okV) (j := i) hx9 ty_s_uint8 (off := 3) rfl rfl rfl hb) ?_
        refine h_val rfl (.int .i64 (ds.length : Int)) (fun b w hb hH => e_vlen 1 Try.underlying30 rfl rfl rfl hH hb) ?_
        refine h_val rfl (.bool false) (fun b w hb hH => exec_cmp rfl rfl rfl (cmp_lss_f (by omega)) hb) ?_
        refine h_done (d_else rfl (d_exit (f_then_exit (f_then_exit (f_block_exit (f_block (f_to ?_)))))))
        refine d_close [0, 1, 2] rfl (pr_back hP9) rfl ?_
        refine d_close [1] rfl (pr_close hp8 hP9) rfl ?_
        refine WC2.keep (env' := [(3, .pointer (some ⟨g3, 0, none⟩)), (4, .bool false), (0, .slice A0 L0.length c0), (5, .pointer (some ⟨g, 0, none⟩)), (7, .int .i64 (r : Int)), (32, .int .i64 (r : Int)), (33, .bool true), (36, .pointer (some ⟨g, 0, none⟩)), (37, .slice A6 L6.length c6), (8, .slice A6 L6.length c6), (9, .int .i64 (i : Int)), (38, .int .i64 (i : Int)), (39, .slice A6 L6.length c6), (40, .int .i64 (L6.length : Int)), (41, .bool true), (44, .slice A6 L6.length c6), (45, .int .i64 (i : Int)), (46, elp (.slice A6 L6.length c6) (i * 5)), (47, elp (.slice A6 L6.length c6) (i * 5 + 1)), (10, .int .i64 (k9 : Int)), (48, .int .i64 (k9 : Int)), (49, .slice A6 L6.length c6), (50, .int .i64 (i : Int)), (51, elp (.slice A6 L6.length c6) (i * 5)), (52, elp (.slice A6 L6.length c6) (i * 5 + 3)), (53, (setT x 77).v), (54, .int .i64 (ds.length : Int)), (55, .bool false)]) ⟨rfl, rfl, rfl, rfl, rfl, rfl, rfl, rfl, rfl, rfl, rfl, rfl, rfl, rfl, rfl, rfl, rfl, rfl, rfl, rfl, rfl, rfl, rfl, rfl, rfl, rfl, rfl, rfl, trivial⟩ ?_
        refine WC2.mid [Vec 32 5 encV (.slice A6 L6.length c6) (P9.map (·.1)), Each (fun x : EntV × List UInt8 => Vec 5 1 encB x.1.v x.2) P9, EnE A4 c4 L4, LogD g 3 1 14 lf, Vec 32 5 encV (.slice A0 L0.length c0) L0, Each dat L0, cell g3 3 #[.int .i64 most], X] (.refl _) ?_
        refine d_reg1 ?_
        refine h_q hflS rfl ?_
        refine h_val rfl (.int .i64 ((i + 1 : Nat) : Int)) (fun b w hb hH => exec_ar rfl rfl rfl rfl (by rw [IntWalk.i64_in _ (by omega)]; omega) hb) ?_
        refine h_q hflS rfl ?_
        refine h_nil ?_
        exact f_again (i + 1, P9) 0 ⟨hn8, hPk⟩ (show lf.length - (i + 1) < lf.length - i by omega) ⟨rfl, rfl, rfl, rfl, rfl, rfl, rfl, rfl, rfl, rfl, rfl, trivial⟩ rfl
    · skip
      refine d_reg ?_
      refine h_q hflS rfl ?_
      refine h_val rfl (.int .i64 (L6.length : Int)) (fun b w hb hH => e_len sl_api_Entry rfl rfl hH hb) ?_
      refine h_val rfl (.bool false) (fun b w hb hH => exec_cmp rfl rfl rfl (cmp_lss_f (by omega)) hb) ?_
      refine h_done (d_else rfl (d_exit (f_then_exit (f_then_exit (f_block_exit (f_block (f_to (d_reg1 ?_))))))))
      refine h_q hflS rfl ?_
      refine h_val rfl (.int .i64 ((r + 1 : Nat) : Int)) (fun b w hb hH => exec_ar rfl rfl rfl rfl (by rw [IntWalk.i64_in _ (by omega)]; omega) hb) ?_
      refine h_q hflS rfl ?_
      refine h_nil ?_
      exact f_again (r + 1) 2 (show r + 1 ≤ 2 by omega) (show 2 - (r + 1) < 2 - r by omega) ⟨rfl, rfl, rfl, rfl, rfl, trivial⟩ rfl
  · skip
    refine d_reg ?_
    refine h_q hflS rfl ?_
    refine h_val rfl (.bool false) (fun b w hb hH => exec_cmp rfl rfl rfl (cmp_lss_f (by omega)) hb) ?_
    refine h_done (d_else rfl (d_exit (f_then_exit (f_then_exit (f_block_exit (f_to (d_reg ?_)))))))
    refine h_q hflS rfl ?_
    refine h_val rfl (.int .i64 most) (fun b w hb hH => exec_load rfl rfl (reads_one ty_int rfl) (hH.row 4 rfl) hb) ?_
    refine h_act (post := fun _ => [EnE A4 c4 L4, LogD g 3 1 14 lf, Vec 32 5 encV (.slice A0 L0.length c0) L0, Each dat L0, cell g3 3 #[.int .i64 most], X]) rfl (a_call (ent_of Try.func19 (by kernel_rfl) rfl) (fun w hH => pick w most 25 hmo (by decide) hm0) rfl rfl rfl) ?_; rintro ⟨⟩
    refine h_val rfl (.int .i64 mm) (fun b w hb hH => exec_ar rfl rfl rfl rfl (by rw [IntWalk.i64_in _ (by omega)]; exact hmm) hb) ?_
    refine h_acts (post := fun _ => [EnE A4 c4 L4, LogD g 3 1 14 lf, Vec 32 5 encV (.slice A0 L0.length c0) L0, Each dat L0, cell g3 3 #[.int .i64 mm], X]) rfl rfl (a_store 4 (v := .int .i64 mm) #[.int .i64 mm] ty_int.2 rfl rfl rfl rfl rfl rfl rfl rfl rfl) ?_; rintro ⟨⟩
    refine h_done (d_reg ?_)
    refine h_q hflS rfl ?_
    refine h_act (post := fun g11 => [cell g11 34 #[.slice none 0 0], EnE A4 c4 L4, LogD g 3 1 14 lf, Vec 32 5 encV (.slice A0 L0.length c0) L0, Each dat L0, cell g3 3 #[.int .i64 mm], X]) rfl (a_alloc ze_s_api_Entry rfl) ?_; rintro g11
    refine h_done ?_
    rcases Int.lt_or_le (lf.length : Int) mm with hmn | hmn
    · skip
      refine d_reg ?_
      refine h_q hflS rfl ?_
      refine h_act (post := fun g12 => [cell g12 4 #[.bool false], cell g11 34 #[.slice none 0 0], EnE A4 c4 L4, LogD g 3 1 14 lf, Vec 32 5 encV (.slice A0 L0.length c0) L0, Each dat L0, cell g3 3 #[.int .i64 mm], X]) rfl (a_alloc ze_bool rfl) ?_; rintro g12
      refine h_acts (post := fun _ => [cell g12 4 #[.bool true], cell g11 34 #[.slice none 0 0], EnE A4 c4 L4, LogD g 3 1 14 lf, Vec 32 5 encV (.slice A0 L0.length c0) L0, Each dat L0, cell g3 3 #[.int .i64 mm], X]) rfl rfl (a_store 0 (v := .bool true) #[.bool true] ty_bool.2 rfl rfl rfl rfl rfl rfl rfl rfl rfl) ?_; rintro ⟨⟩
      refine h_done ?_
      refine d_close [0, 1, 6] rfl (owI_0 (lf := lf)) rfl ?_
      refine d_open 2 rfl LogD.open_ (fun _ => rfl) ?_; rintro ⟨v, sl, f⟩
      refine WC2.fact 3 rfl (fun _ h => h.2) ?_; rintro hR
      refine WC2.leave [3] rfl rfl ?_
      have hR : RingD sl f lf := hR
      refine d_reg ?_
      refine h_q hflS rfl ?_
      refine h_act (post := fun gl => [cell gl 22 #[.pointer (some ⟨g, 0, none⟩)], cell g 67 #[.int .u64 3, .int .u64 1, .int .i64 14, v, .int .i64 (f : Int), .int .i64 (lf.length : Int)], Vec 32 5 encV v sl, Each dat sl, OwI g3 g11 g12 mm lf 0, EnE A4 c4 L4, Vec 32 5 encV (.slice A0 L0.length c0) L0, Each dat L0, X]) rfl (a_does (os' := fun gl => [cell gl 22 #[.pointer (some ⟨g, 0, none⟩)], cell g 67 #[.int .u64 3, .int .u64 1, .int .i64 14, v, .int .i64 (f : Int), .int .i64 (lf.length : Int)], Vec 32 5 encV v sl, Each dat sl, OwI g3 g11 g12 mm lf 0, EnE A4 c4 L4, Vec 32 5 encV (.slice A0 L0.length c0) L0, Each dat L0, X]) [] 0 (ent_of Try.func27 (by kernel_rfl) rfl) (all_any g) rfl rfl rfl (fun _ => rfl) rfl rfl rfl) ?_; rintro gl
      refine h_val rfl (.func (.func 28) #[] #[.pointer (some ⟨g12, 0, none⟩), .pointer (some ⟨g11, 0, none⟩), .pointer (some ⟨g3, 0, none⟩)]) (fun b w hb hH => e_func rfl rfl hb) ?_
      refine h_act (post := fun _ => [cell gl 22 #[.pointer (some ⟨g, 0, none⟩)], cell g 67 #[.int .u64 3, .int .u64 1, .int .i64 14, v, .int .i64 (f : Int), .int .i64 (lf.length : Int)], Vec 32 5 encV v sl, Each dat sl, OwI g3 g11 g12 mm lf lf.length, EnE A4 c4 L4, Vec 32 5 encV (.slice A0 L0.length c0) L0, Each dat L0, X]) rfl (a_doesc (os' := fun _ => [cell gl 22 #[.pointer (some ⟨g, 0, none⟩)], cell g 67 #[.int .u64 3, .int .u64 1, .int .i64 14, v, .int .i64 (f : Int), .int .i64 (lf.length : Int)], Vec 32 5 encV v sl, Each dat sl, OwI g3 g11 g12 mm lf lf.length, EnE A4 c4 L4, Vec 32 5 encV (.slice A0 L0.length c0) L0, Each dat L0, X]) (vs := [.func (.func 28) #[] #[.pointer (some ⟨g12, 0, none⟩), .pointer (some ⟨g11, 0, none⟩), .pointer (some ⟨g3, 0, none⟩)]]) (caps := [.pointer (some ⟨gl, 0, none⟩)]) [4, 0, 1, 2, 3] 0 (ent_of Try.func57 (by kernel_rfl) rfl) (log_all1 g 3 1 14 lf hI v sl f hR (.func 28) #[.pointer (some ⟨g12, 0, none⟩), .pointer (some ⟨g11, 0, none⟩), .pointer (some ⟨g3, 0, none⟩)] gl (fun n => OwI g3 g11 g12 mm lf n) (by omega) (fun i y hy => (own1 g3 g11 g12 mm lf (by omega) i y hy _ (by simp; have := (List.getElem?_eq_some_iff.1 hy).1; omega)).toF (vs := [.int .u64 y.e.i, .agg #[.int .i64 y.e.k, .int .u64 y.e.t, .int .u64 y.e.i, y.v, .int .i64 y.e.c]]) (caps := [.pointer (some ⟨g12, 0, none⟩), .pointer (some ⟨g11, 0, none⟩), .pointer (some ⟨g3, 0, none⟩)]) (ent_of Try.func28 (by kernel_rfl) rfl))) rfl rfl rfl (fun _ => rfl) rfl rfl rfl) ?_; rintro ⟨⟩
      refine h_done ?_
      refine d_open 4 rfl OwI.open_ (fun _ => rfl) ?_; rintro gv
      have hqe : lf.length = qq := by omega
      refine d_close [2] rfl (enT_eq (l := lf.take (lf.length)) (m := lf.take qq) (by rw [hqe])) rfl ?_
      refine d_close [5, 6, 7] rfl (LogD.mk rfl hR) rfl ?_
      refine d_seq ?_
      refine d_emps 1 rfl ?_
      refine d_parS 17 3 [⟨.quiet, [none, none, none], fun _ => .bool true, []⟩, ⟨.quiet, [none, none, none], fun _ => .bool true, [0]⟩, ⟨.quiet, [none, none, none], fun _ => gv, [1]⟩, ⟨.quiet, [none, none, none], fun _ => .slice A0 L0.length c0, [1]⟩, ⟨.quiet, [none, none, none], fun _ => .int .i64 mm, [1]⟩, ⟨.quiet, [none, none, none], fun _ => .slice A0 L0.length c0, [1]⟩, ⟨.quiet, [none, none, none], fun _ => .int .i64 (L0.length : Int), [5, 1]⟩, ⟨.quiet, [none, none, none], fun _ => .int .i64 (qq : Int), [4, 6, 1]⟩, ⟨.quiet, [none, none, none], fun _ => .slice A0 (L0.take qq).length c0, [3, 7, 1]⟩, ⟨.actv 0, [some false, some false, some false], fun _ => .bool true, [2, 8, 1]⟩, ⟨.quiet, [some true, none, none], fun _ => .bool true, [1, 9]⟩, ⟨.quiet, [some true, none, none], fun _ => .bool true, [10]⟩, ⟨.quiet, [some true, none, none], fun _ => .pointer (some ⟨g, 0, none⟩), [11]⟩, ⟨.act 1, [some true, some false, some false], fun _ => undef, [12, 11]⟩, ⟨.quiet, [some true, none, none], fun _ => .slice A0 L0.length c0, [11]⟩, ⟨.actv 2, [some true, some true, some false], fun _ => .bool true, [13, 14, 11]⟩, ⟨.quiet, [some true, some true, some true], fun _ => .bool true, [11, 15]⟩] [(3, .pointer (some ⟨g3, 0, none⟩)), (4, .bool false), (0, .slice A0 L0.length c0), (5, .pointer (some ⟨g, 0, none⟩)), (11, .pointer (some ⟨g11, 0, none⟩)), (12, .pointer (some ⟨g12, 0, none⟩))] (fun ρ => match ρ with | [rq0, rq1, rq2] => [selS rq1 (fun ez => EnT ez lf) (emp), LogD g 3 1 14 lf, EnT gv (lf.take qq), cell g12 4 #[.bool true], cell g11 34 #[gv], cell g3 3 #[.int .i64 mm], cell gl 22 #[.pointer (some ⟨g, 0, none⟩)], EnE A4 c4 L4, Vec 32 5 encV (.slice A0 L0.length c0) L0, Each dat L0, X] | _ => []) (by kernel_rfl) (by kernel_rfl) ⟨rfl, rfl, rfl, rfl, rfl, rfl, trivial⟩ rfl ?_ ?_
      · skip
        refine s_cons (by intro r0_ r1_ r2_; exact ⟨rfl, fun b w hH hb => exec_load rfl rfl (reads_one ty_bool rfl) (hH.row 3 rfl) hb⟩) ?_
        refine s_cons (by intro r0_ r1_ r2_; exact ⟨rfl, fun b w hH hb => exec_q1 hflS rfl hb⟩) ?_
        refine s_cons (by intro r0_ r1_ r2_; exact ⟨rfl, fun b w hH hb => exec_load rfl rfl (reads_one ty_s_api_Entry rfl) (hH.row 4 rfl) hb⟩) ?_
        refine s_cons (by intro r0_ r1_ r2_; exact ⟨rfl, fun b w hH hb => exec_q1 hflS rfl hb⟩) ?_
        refine s_cons (by intro r0_ r1_ r2_; exact ⟨rfl, fun b w hH hb => exec_load rfl rfl (reads_one ty_int rfl) (hH.row 5 rfl) hb⟩) ?_
        refine s_cons (by intro r0_ r1_ r2_; exact ⟨rfl, fun b w hH hb => exec_q1 hflS rfl hb⟩) ?_
        refine s_cons (by intro r0_ r1_ r2_; exact ⟨rfl, fun b w hH hb => e_len sl_api_Entry rfl rfl hH hb⟩) ?_
        refine s_cons (by intro r0_ r1_ r2_; exact ⟨rfl, fun b w hH hb => exec_builtin2 rfl rfl (fun cs => (fun w cs => run_min2 (by omega) _ _ w cs) w cs) hb⟩) ?_
        refine s_cons (by intro r0_ r1_ r2_; exact ⟨rfl, fun b w hH hb => e_sub_hi (j := qq) sl_api_Entry (sub_hi5k (by omega)) (by omega) rfl rfl rfl hH hb⟩) ?_
        refine s_cons (by exact ⟨rfl, Acts.su (a_call (ent_of Try.func25 (by kernel_rfl) rfl) (fun w hH => same_v w gv (.slice A0 (L0.take qq).length c0) (lf.take qq) (lf.take qq) (EnT.rd 2 rfl hH) ⟨L0.take qq, by rw [List.map_take, hL0], ents_hi (own_rd 8 9 rfl rfl hH) (by omega)⟩ rfl (by rw [List.length_take]; omega)) rfl rfl rfl) rfl⟩) ?_
        refine s_cons (by intro v0_ r1_ r2_; exact ⟨rfl, fun b w hH hb => exec_q1 hflS rfl hb⟩) ?_
        refine s_cons (by intro v0_ r1_ r2_; exact ⟨rfl, fun b w hH hb => exec_q1 hflS rfl hb⟩) ?_
        refine s_cons (by intro v0_ r1_ r2_; exact ⟨rfl, fun b w hH hb => exec_q1 hflS rfl hb⟩) ?_
        refine s_cons (by intro v0_; exact ⟨rfl, Acts.s (a_does (os' := fun ez => [EnT ez lf, LogD g 3 1 14 lf, EnT gv (lf.take qq), cell g12 4 #[.bool true], cell g11 34 #[gv], cell g3 3 #[.int .i64 mm], cell gl 22 #[.pointer (some ⟨g, 0, none⟩)], EnE A4 c4 L4, Vec 32 5 encV (.slice A0 L0.length c0) L0, Each dat L0, X]) [1, 0] 1 (ent_of Try.func26 (by kernel_rfl) rfl) (entries_D g 3 1 14 lf hI 4 99 (by decide) (by decide) (by omega) lf (partM_all (bi := 3) (by omega))) rfl rfl rfl (fun _ => rfl) rfl rfl rfl) (fun _ => rfl)⟩) ?_
        refine s_cons (by intro v0_ r1_ r2_; exact ⟨rfl, fun b w hH hb => exec_q1 hflS rfl hb⟩) ?_
        refine s_cons (by intro v0_ ez; exact ⟨rfl, Acts.su (a_call (ent_of Try.func25 (by kernel_rfl) rfl) (fun w hH => same_v w ez (.slice A0 L0.length c0) lf lf (EnT.rd 0 rfl hH) ⟨L0, hL0, (own_rd 8 9 rfl rfl hH)⟩ rfl (by omega)) rfl rfl rfl) rfl⟩) ?_
        refine s_cons (by intro v0_ ez v2_; exact ⟨rfl, fun b w hH hb => exec_q1 hflS rfl hb⟩) ?_
        exact s_nil
      intro v0_ ez v2_
      refine WL2.keep (env' := [(4, .bool false), (88, .bool true)]) ⟨rfl, rfl, trivial⟩ ?_
      refine h_q hflS rfl ?_
      refine h_nil (f_to (d_ret ?_))
      exact f_fin1 (.tmp rfl) (fun w h => tells () rfl [10] rfl h same_parts) rfl
    · skip
      refine d_reg ?_
      refine h_q hflS rfl ?_
      refine h_act (post := fun g12 => [cell g12 4 #[.bool false], cell g11 34 #[.slice none 0 0], EnE A4 c4 L4, LogD g 3 1 14 lf, Vec 32 5 encV (.slice A0 L0.length c0) L0, Each dat L0, cell g3 3 #[.int .i64 mm], X]) rfl (a_alloc ze_bool rfl) ?_; rintro g12
      refine h_acts (post := fun _ => [cell g12 4 #[.bool true], cell g11 34 #[.slice none 0 0], EnE A4 c4 L4, LogD g 3 1 14 lf, Vec 32 5 encV (.slice A0 L0.length c0) L0, Each dat L0, cell g3 3 #[.int .i64 mm], X]) rfl rfl (a_store 0 (v := .bool true) #[.bool true] ty_bool.2 rfl rfl rfl rfl rfl rfl rfl rfl rfl) ?_; rintro ⟨⟩
      refine h_done ?_
      refine d_close [0, 1, 6] rfl (owI_0 (lf := lf)) rfl ?_
      refine d_open 2 rfl LogD.open_ (fun _ => rfl) ?_; rintro ⟨v, sl, f⟩
      refine WC2.fact 3 rfl (fun _ h => h.2) ?_; rintro hR
      refine WC2.leave [3] rfl rfl ?_
      have hR : RingD sl f lf := hR
      refine d_reg ?_
      refine h_q hflS rfl ?_
      refine h_act (post := fun gl => [cell gl 22 #[.pointer (some ⟨g, 0, none⟩)], cell g 67 #[.int .u64 3, .int .u64 1, .int .i64 14, v, .int .i64 (f : Int), .int .i64 (lf.length : Int)], Vec 32 5 encV v sl, Each dat sl, OwI g3 g11 g12 mm lf 0, EnE A4 c4 L4, Vec 32 5 encV (.slice A0 L0.length c0) L0, Each dat L0, X]) rfl (a_does (os' := fun gl => [cell gl 22 #[.pointer (some ⟨g, 0, none⟩)], cell g 67 #[.int .u64 3, .int .u64 1, .int .i64 14, v, .int .i64 (f : Int), .int .i64 (lf.length : Int)], Vec 32 5 encV v sl, Each dat sl, OwI g3 g11 g12 mm lf 0, EnE A4 c4 L4, Vec 32 5 encV (.slice A0 L0.length c0) L0, Each dat L0, X]) [] 0 (ent_of Try.func27 (by kernel_rfl) rfl) (all_any g) rfl rfl rfl (fun _ => rfl) rfl rfl rfl) ?_; rintro gl
      refine h_val rfl (.func (.func 28) #[] #[.pointer (some ⟨g12, 0, none⟩), .pointer (some ⟨g11, 0, none⟩), .pointer (some ⟨g3, 0, none⟩)]) (fun b w hb hH => e_func rfl rfl hb) ?_
      refine h_act (post := fun _ => [cell gl 22 #[.pointer (some ⟨g, 0, none⟩)], cell g 67 #[.int .u64 3, .int .u64 1, .int .i64 14, v, .int .i64 (f : Int), .int .i64 (lf.length : Int)], Vec 32 5 encV v sl, Each dat sl, OwI g3 g11 g12 mm lf mm.toNat, EnE A4 c4 L4, Vec 32 5 encV (.slice A0 L0.length c0) L0, Each dat L0, X]) rfl (a_doesc (os' := fun _ => [cell gl 22 #[.pointer (some ⟨g, 0, none⟩)], cell g 67 #[.int .u64 3, .int .u64 1, .int .i64 14, v, .int .i64 (f : Int), .int .i64 (lf.length : Int)], Vec 32 5 encV v sl, Each dat sl, OwI g3 g11 g12 mm lf mm.toNat, EnE A4 c4 L4, Vec 32 5 encV (.slice A0 L0.length c0) L0, Each dat L0, X]) (vs := [.func (.func 28) #[] #[.pointer (some ⟨g12, 0, none⟩), .pointer (some ⟨g11, 0, none⟩), .pointer (some ⟨g3, 0, none⟩)]]) (caps := [.pointer (some ⟨gl, 0, none⟩)]) [4, 0, 1, 2, 3] 0 (ent_of Try.func57 (by kernel_rfl) rfl) (log_all1S g 3 1 14 lf hI v sl f hR (.func 28) #[.pointer (some ⟨g12, 0, none⟩), .pointer (some ⟨g11, 0, none⟩), .pointer (some ⟨g3, 0, none⟩)] gl (fun n => OwI g3 g11 g12 mm lf n) (OwI g3 g11 g12 mm lf mm.toNat) (mm.toNat - 1) (by omega) (by omega) (fun i y hi hy => (own1 g3 g11 g12 mm lf (by omega) i y hy _ (by simp; omega)).toF (vs := [.int .u64 y.e.i, .agg #[.int .i64 y.e.k, .int .u64 y.e.t, .int .u64 y.e.i, y.v, .int .i64 y.e.c]]) (caps := [.pointer (some ⟨g12, 0, none⟩), .pointer (some ⟨g11, 0, none⟩), .pointer (some ⟨g3, 0, none⟩)]) (ent_of Try.func28 (by kernel_rfl) rfl)) (fun y hy => by have h9 := (own1 g3 g11 g12 mm lf (by omega) (mm.toNat - 1) y hy _ (show decide (((mm.toNat - 1 + 1 : Nat) : Int) < mm) = false by simp; omega)).toF (vs := [.int .u64 y.e.i, .agg #[.int .i64 y.e.k, .int .u64 y.e.t, .int .u64 y.e.i, y.v, .int .i64 y.e.c]]) (caps := [.pointer (some ⟨g12, 0, none⟩), .pointer (some ⟨g11, 0, none⟩), .pointer (some ⟨g3, 0, none⟩)]) (ent_of Try.func28 (by kernel_rfl) rfl); rw [show mm.toNat - 1 + 1 = mm.toNat by omega] at h9; exact h9)) rfl rfl rfl (fun _ => rfl) rfl rfl rfl) ?_; rintro ⟨⟩
      refine h_done ?_
      refine d_open 4 rfl OwI.open_ (fun _ => rfl) ?_; rintro gv
      have hqe : mm.toNat = qq := by omega
      refine d_close [2] rfl (enT_eq (l := lf.take (mm.toNat)) (m := lf.take qq) (by rw [hqe])) rfl ?_
      refine d_close [5, 6, 7] rfl (LogD.mk rfl hR) rfl ?_
      refine d_seq ?_
      refine d_emps 1 rfl ?_
      refine d_parS 17 3 [⟨.quiet, [none, none, none], fun _ => .bool true, []⟩, ⟨.quiet, [none, none, none], fun _ => .bool true, [0]⟩, ⟨.quiet, [none, none, none], fun _ => gv, [1]⟩, ⟨.quiet, [none, none, none], fun _ => .slice A0 L0.length c0, [1]⟩, ⟨.quiet, [none, none, none], fun _ => .int .i64 mm, [1]⟩, ⟨.quiet, [none, none, none], fun _ => .slice A0 L0.length c0, [1]⟩, ⟨.quiet, [none, none, none], fun _ => .int .i64 (L0.length : Int), [5, 1]⟩, ⟨.quiet, [none, none, none], fun _ => .int .i64 (qq : Int), [4, 6, 1]⟩, ⟨.quiet, [none, none, none], fun _ => .slice A0 (L0.take qq).length c0, [3, 7, 1]⟩, ⟨.actv 0, [some false, some false, some false], fun _ => .bool true, [2, 8, 1]⟩, ⟨.quiet, [some true, none, none], fun _ => .bool true, [1, 9]⟩, ⟨.quiet, [some true, none, none], fun _ => .bool true, [10]⟩, ⟨.quiet, [some true, none, none], fun _ => .pointer (some ⟨g, 0, none⟩), [11]⟩, ⟨.act 1, [some true, some false, some false], fun _ => undef, [12, 11]⟩, ⟨.quiet, [some true, none, none], fun _ => .slice A0 L0.length c0, [11]⟩, ⟨.actv 2, [some true, some true, some false], fun _ => .bool true, [13, 14, 11]⟩, ⟨.quiet, [some true, some true, some true], fun _ => .bool true, [11, 15]⟩] [(3, .pointer (some ⟨g3, 0, none⟩)), (4, .bool false), (0, .slice A0 L0.length c0), (5, .pointer (some ⟨g, 0, none⟩)), (11, .pointer (some ⟨g11, 0, none⟩)), (12, .pointer (some ⟨g12, 0, none⟩))] (fun ρ => match ρ with | [rq0, rq1, rq2] => [selS rq1 (fun ez => EnT ez lf) (emp), LogD g 3 1 14 lf, EnT gv (lf.take qq), cell g12 4 #[.bool true], cell g11 34 #[gv], cell g3 3 #[.int .i64 mm], cell gl 22 #[.pointer (some ⟨g, 0, none⟩)], EnE A4 c4 L4, Vec 32 5 encV (.slice A0 L0.length c0) L0, Each dat L0, X] | _ => []) (by kernel_rfl) (by kernel_rfl) ⟨rfl, rfl, rfl, rfl, rfl, rfl, trivial⟩ rfl ?_ ?_
      · skip
        refine s_cons (by intro r0_ r1_ r2_; exact ⟨rfl, fun b w hH hb => exec_load rfl rfl (reads_one ty_bool rfl) (hH.row 3 rfl) hb⟩) ?_
        refine s_cons (by intro r0_ r1_ r2_; exact ⟨rfl, fun b w hH hb => exec_q1 hflS rfl hb⟩) ?_
        refine s_cons (by intro r0_ r1_ r2_; exact ⟨rfl, fun b w hH hb => exec_load rfl rfl (reads_one ty_s_api_Entry rfl) (hH.row 4 rfl) hb⟩) ?_
        refine s_cons (by intro r0_ r1_ r2_; exact ⟨rfl, fun b w hH hb => exec_q1 hflS rfl hb⟩) ?_
        refine s_cons (by intro r0_ r1_ r2_; exact ⟨rfl, fun b w hH hb => exec_load rfl rfl (reads_one ty_int rfl) (hH.row 5 rfl) hb⟩) ?_
        refine s_cons (by intro r0_ r1_ r2_; exact ⟨rfl, fun b w hH hb => exec_q1 hflS rfl hb⟩) ?_
        refine s_cons (by intro r0_ r1_ r2_; exact ⟨rfl, fun b w hH hb => e_len sl_api_Entry rfl rfl hH hb⟩) ?_
        refine s_cons (by intro r0_ r1_ r2_; exact ⟨rfl, fun b w hH hb => exec_builtin2 rfl rfl (fun cs => (fun w cs => run_min2 (by omega) _ _ w cs) w cs) hb⟩) ?_
        refine s_cons (by intro r0_ r1_ r2_; exact ⟨rfl, fun b w hH hb => e_sub_hi (j := qq) sl_api_Entry (sub_hi5k (by omega)) (by omega) rfl rfl rfl hH hb⟩) ?_
        refine s_cons (by exact ⟨rfl, Acts.su (a_call (ent_of Try.func25 (by kernel_rfl) rfl) (fun w hH => same_v w gv (.slice A0 (L0.take qq).length c0) (lf.take qq) (lf.take qq) (EnT.rd 2 rfl hH) ⟨L0.take qq, by rw [List.map_take, hL0], ents_hi (own_rd 8 9 rfl rfl hH) (by omega)⟩ rfl (by rw [List.length_take]; omega)) rfl rfl rfl) rfl⟩) ?_
        refine s_cons (by intro v0_ r1_ r2_; exact ⟨rfl, fun b w hH hb => exec_q1 hflS rfl hb⟩) ?_
        refine s_cons (by intro v0_ r1_ r2_; exact ⟨rfl, fun b w hH hb => exec_q1 hflS rfl hb⟩) ?_
        refine s_cons (by intro v0_ r1_ r2_; exact ⟨rfl, fun b w hH hb => exec_q1 hflS rfl hb⟩) ?_
        refine s_cons (by intro v0_; exact ⟨rfl, Acts.s (a_does (os' := fun ez => [EnT ez lf, LogD g 3 1 14 lf, EnT gv (lf.take qq), cell g12 4 #[.bool true], cell g11 34 #[gv], cell g3 3 #[.int .i64 mm], cell gl 22 #[.pointer (some ⟨g, 0, none⟩)], EnE A4 c4 L4, Vec 32 5 encV (.slice A0 L0.length c0) L0, Each dat L0, X]) [1, 0] 1 (ent_of Try.func26 (by kernel_rfl) rfl) (entries_D g 3 1 14 lf hI 4 99 (by decide) (by decide) (by omega) lf (partM_all (bi := 3) (by omega))) rfl rfl rfl (fun _ => rfl) rfl rfl rfl) (fun _ => rfl)⟩) ?_
        refine s_cons (by intro v0_ r1_ r2_; exact ⟨rfl, fun b w hH hb => exec_q1 hflS rfl hb⟩) ?_
        refine s_cons (by intro v0_ ez; exact ⟨rfl, Acts.su (a_call (ent_of Try.func25 (by kernel_rfl) rfl) (fun w hH => same_v w ez (.slice A0 L0.length c0) lf lf (EnT.rd 0 rfl hH) ⟨L0, hL0, (own_rd 8 9 rfl rfl hH)⟩ rfl (by omega)) rfl rfl rfl) rfl⟩) ?_
        refine s_cons (by intro v0_ ez v2_; exact ⟨rfl, fun b w hH hb => exec_q1 hflS rfl hb⟩) ?_
        exact s_nil
      intro v0_ ez v2_
      refine WL2.keep (env' := [(4, .bool false), (88, .bool true)]) ⟨rfl, rfl, trivial⟩ ?_
      refine h_q hflS rfl ?_
      refine h_nil (f_to (d_ret ?_))
      exact f_fin1 (.tmp rfl) (fun w h => tells () rfl [10] rfl h same_parts) rfl
end Go.Proofs.Ytnebloeideodmaa.Sep
