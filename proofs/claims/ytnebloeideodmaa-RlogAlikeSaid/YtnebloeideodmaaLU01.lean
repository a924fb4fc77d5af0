/-
  RlAlike
-/
import Derived.Test.YtnebloeideodmaaLB01
import Derived.Test.YtnebloeideodmaaLS01
import Derived.Test.YtnebloeideodmaaLT01
set_option linter.unusedSimpArgs false
set_option linter.unusedVariables false

namespace Go.Proofs.Ytnebloeideodmaa.Sep
open Go.RowKit
open Go.Proofs.Ytnebloeideodmaa.Mem (Dist Blk Chg below0)

set_option maxRecDepth 100000 in
set_option maxHeartbeats 1000000 in
theorem alike_law (X : Ass) (v0 : Value) (l0 : List EntV) (hX0 : RdEs X v0 l0) (ho0 : ∀ x, x ∈ l0 → x.e.ok) (v1 : Value) (l1 : List EntV) (hX1 : RdEs X v1 l1) (ho1 : ∀ x, x ∈ l1 → x.e.ok) (v2 : Value) (l2 : List EntV) (hX2 : RdEs X v2 l2) (ho2 : ∀ x, x ∈ l2 → x.e.ok) (at_ from_ n_ : Int) (hfr : -9223372036854775808 ≤ from_ ∧ from_ ≤ 9223372036854775807) (hn_ : -9223372036854775808 ≤ n_ ∧ n_ ≤ 9223372036854775807) : Does Try.prog 6 #[v0, v1, v2, .int .i64 at_, .int .i64 from_, .int .i64 n_] [X] (fun (_ : Unit) => .bool true) (fun (_ : Unit) => [X]) := by
  obtain ⟨lc, hlc⟩ : ∃ l, handL 1 1 ((l0.take 10).map (·.e)) = l := ⟨_, rfl⟩
  obtain ⟨tmx, htm⟩ : ∃ t, ltm 1 lc = t := ⟨_, rfl⟩
  have hl10 : ((l0.take 10).map (·.e)).length ≤ 10 := by rw [List.length_map, List.length_take]; omega
  have hlcl : lc.length ≤ 10 := by rw [← hlc, handL_len]; exact hl10
  have hIc : InvL 1 1 lc := by rw [← hlc]; exact hand_inv (by omega) (by omega) (by omega) (by omega)
  have htb := ltm_hand ((l0.take 10).map (·.e)) 1 1 1 (by decide) (by decide) (by decide)
  rw [hlc, htm] at htb
  obtain ⟨la, hla⟩ : ∃ l, handL (1 + (lc.length : Int)) (tmx + 1) ((l1.take 8).map (·.e)) = l := ⟨_, rfl⟩
  obtain ⟨lb, hlb⟩ : ∃ l, handL (1 + (lc.length : Int)) (tmx + 30) ((l2.take 8).map (·.e)) = l := ⟨_, rfl⟩
  have hl18 : ((l1.take 8).map (·.e)).length ≤ 8 := by rw [List.length_map, List.length_take]; omega
  have hl28 : ((l2.take 8).map (·.e)).length ≤ 8 := by rw [List.length_map, List.length_take]; omega
  have hlal : la.length ≤ 8 := by rw [← hla, handL_len]; exact hl18
  have hlbl : lb.length ≤ 8 := by rw [← hlb, handL_len]; exact hl28
  have hA : InvL 1 1 (lc ++ la) := by rw [← hla, ← htm]; exact hand_app hIc (by omega) (by omega) (by omega) (by omega) (by omega)
  have hB : InvL 1 1 (lc ++ lb) := by rw [← hlb, ← htm]; exact hand_app hIc (by omega) (by omega) (by omega) (by omega) (by omega)
  have hne : ∀ x ∈ la, ∀ y ∈ lb, x.t ≠ y.t := by
    rw [← hla, ← hlb]
    intro x hx y hy
    have h1 := handL_tm _ _ _ (by omega) x hx
    have h2 := handL_tm _ _ _ (by omega) y hy
    omega
  obtain ⟨es, hes⟩ : ∃ l, lc ++ la = l := ⟨_, rfl⟩
  obtain ⟨eb, heb⟩ : ∃ l, lc ++ lb = l := ⟨_, rfl⟩
  have hesl : es.length = lc.length + la.length := by rw [← hes, List.length_append]
  have hebl : eb.length = lc.length + lb.length := by rw [← heb, List.length_append]
  have hI : InvL 1 1 es := by rw [← hes]; exact hA
  have hIb : InvL 1 1 eb := by rw [← heb]; exact hB
  obtain ⟨k, hk⟩ : ∃ k : Nat, from_ % ((eb.length + 1 : Nat) : Int) = (k : Int) := ⟨(from_ % ((eb.length + 1 : Nat) : Int)).toNat, by have := Int.emod_nonneg from_ (show ((eb.length + 1 : Nat) : Int) ≠ 0 by omega); omega⟩
  have hk1 := Int.emod_lt_of_pos from_ (show (0 : Int) < ((eb.length + 1 : Nat) : Int) by omega)
  rw [hk] at hk1
  have hkb : k ≤ eb.length := by omega
  obtain ⟨m, hm⟩ : ∃ m : Nat, n_ % ((eb.length - k + 1 : Nat) : Int) = (m : Int) := ⟨(n_ % ((eb.length - k + 1 : Nat) : Int)).toNat, by have := Int.emod_nonneg n_ (show ((eb.length - k + 1 : Nat) : Int) ≠ 0 by omega); omega⟩
  have hm1 := Int.emod_lt_of_pos n_ (show (0 : Int) < ((eb.length - k + 1 : Nat) : Int) by omega)
  rw [hm] at hm1
  have hkm : k + m ≤ eb.length := by omega
  obtain ⟨tv, htv, htv1, htv2⟩ := trm_at hIb k hkb
  have htv0 := htv1 (by decide)
  have hfs := alk_fol hIb (m := m) hkb htv
  obtain ⟨pv, hpv⟩ : ∃ p, 1 + (k : Int) = p := ⟨_, rfl⟩
  obtain ⟨rt, hrt⟩ : ∃ b, decide ((lc.length : Int) > 0) = b := ⟨_, rfl⟩
  obtain ⟨rk, hrk⟩ : ∃ b, decide ((k : Int) > 0) = b := ⟨_, rfl⟩
  refine d_ins (args := [v0, v1, v2, .int .i64 at_, .int .i64 from_, .int .i64 n_]) 160 Try.func6 rfl rfl rfl ?_; intro w rs
  refine d_reg ?_
  refine h_q hflS rfl ?_
  refine h_done (d_reg ?_)
  refine h_q hflS rfl ?_
  refine h_act (post := fun cm => [EnT cm lc, X]) rfl (a_makes (os' := fun cm => [EnT cm lc, X]) [] 0 (ent_of Try.func20 (by kernel_rfl) rfl) (fun w hH => hand_v w l0 v0 (hH.rdEs 0 rfl hX0) ho0 1 1 10 (by decide) (by decide) (by decide) lc hlc) rfl rfl rfl (fun _ => rfl) rfl rfl rfl) ?_; rintro cm
  refine h_q hflS rfl ?_
  refine h_done (d_reg ?_)
  refine h_q hflS rfl ?_
  refine h_done (d_seq ?_)
  refine d_open 0 rfl EnT.openE (fun _ => rfl) ?_; rintro ⟨⟨A0, c0, L0⟩, hv0, hL0, hc0⟩
  have hv0 : cm = .slice A0 L0.length c0 := hv0
  have hL0 : L0.map (·.e) = lc := hL0
  have hc0 : L0.length ≤ c0 := hc0
  have hl0 : L0.length = lc.length := by rw [← hL0, List.length_map]
  subst hv0
  refine WC2.keep (env' := [(0, v0), (1, v1), (2, v2), (3, .int .i64 at_), (4, .int .i64 from_), (5, .int .i64 n_), (12, .bool false), (28, v0), (29, .slice A0 L0.length c0), (13, .slice A0 L0.length c0), (14, .int .u64 1)]) ⟨rfl, rfl, rfl, rfl, rfl, rfl, rfl, rfl, rfl, rfl, rfl, trivial⟩ ?_
  refine WC2.mid [EnE A0 c0 L0, X] (.refl _) ?_
  refine d_open 0 rfl ents_eq (fun _ => rfl) ?_; rintro ⟨⟩
  refine WC2.keep (env' := [(0, v0), (1, v1), (2, v2), (3, .int .i64 at_), (4, .int .i64 from_), (5, .int .i64 n_), (12, .bool false), (28, v0), (29, .slice A0 L0.length c0), (13, .slice A0 L0.length c0), (14, .int .u64 1)]) ⟨rfl, rfl, rfl, rfl, rfl, rfl, rfl, rfl, rfl, rfl, rfl, trivial⟩ ?_
  refine WC2.mid [Vec 32 5 encV (.slice A0 L0.length c0) L0, Each dat L0, X] (.refl _) ?_
  have hd0 : ∀ x, x ∈ L0 → x.e.d.length ≤ 140737488351232 := hand_map_d (by rw [hL0, ← hlc])
  refine d_reg ?_
  refine h_q hflS rfl ?_
  refine h_val rfl (.int .i64 (L0.length : Int)) (fun b w hb hH => e_len sl_api_Entry rfl rfl hH hb) ?_
  refine h_val rfl (.bool rt) (fun b w hb hH => exec_cmp rfl rfl rfl (congrArg some (by rw [← hrt, hl0])) hb) ?_
  refine h_done ?_
  refine d_mid [(1, v1), (2, v2), (4, .int .i64 from_), (5, .int .i64 n_), (12, .bool false), (13, .slice A0 L0.length c0), (14, .int .u64 tmx)] [Vec 32 5 encV (.slice A0 L0.length c0) L0, Each dat L0, X] ?_ ?_
  · skip
    cases rt
    · skip
      have h0 : lc.length = 0 := by have := of_decide_eq_false hrt; omega
      obtain rfl : 1 = tmx := by rw [← htm, List.length_eq_zero_iff.1 h0]; rfl
      refine d_else rfl (d_skip ?_)
      exact f_mid 0 ⟨rfl, rfl, rfl, rfl, rfl, rfl, rfl, trivial⟩ rfl
    · skip
      have h0 : 0 < lc.length := by have := of_decide_eq_true hrt; omega
      obtain ⟨y, hy⟩ : ∃ y, L0[L0.length - 1]? = some y := ⟨_, List.getElem?_eq_getElem (by omega)⟩
      have hye := map_at hL0 hy
      obtain rfl : y.e.t = tmx := by rw [← htm]; exact (ltm_at (by omega) hye).symm
      refine d_then rfl (d_reg1 ?_)
      refine h_q hflS rfl ?_
      refine h_val rfl (.int .i64 (L0.length : Int)) (fun b w hb hH => e_len sl_api_Entry rfl rfl hH hb) ?_
      refine h_val rfl (.int .i64 ((L0.length - 1 : Nat) : Int)) (fun b w hb hH => exec_ar rfl rfl rfl rfl (by rw [IntWalk.i64_in _ (by omega)]; omega) hb) ?_
      refine h_val rfl (elp (.slice A0 L0.length c0) ((L0.length - 1) * 5)) (fun b w hb hH => e_vidx 0 sl_api_Entry okV rfl (L0.length - 1) (by omega) rfl rfl rfl hH hb) ?_
      refine h_val rfl (elp (.slice A0 L0.length c0) ((L0.length - 1) * 5 + 1)) (fun b w hb hH => e_sfield okV (by decide) (hH.vec 0 rfl okV) (j := (L0.length - 1)) hy fd_api_Entry_1 rfl rfl hb) ?_
      refine h_val rfl (.int .u64 y.e.t) (fun b w hb hH => e_sload okV (by decide) (hH.vec 0 rfl okV) (j := (L0.length - 1)) hy ty_uint64 (off := 1) rfl rfl rfl hb) ?_
      refine h_q hflS rfl ?_
      refine h_nil ?_
      exact f_mid 0 ⟨rfl, rfl, rfl, rfl, rfl, rfl, rfl, trivial⟩ rfl
  refine f_to (d_reg ?_)
  refine h_q hflS rfl ?_
  refine h_val rfl (.int .i64 (L0.length : Int)) (fun b w hb hH => e_len sl_api_Entry rfl rfl hH hb) ?_
  refine h_val rfl (.int .u64 (lc.length : Int)) (fun b w hb hH => exec_conv Try.underlying3 Try.underlying26 (by rw [IntWalk.u64_in _ (by omega)]; omega) rfl rfl hb) ?_
  refine h_val rfl (.int .u64 (1 + (lc.length : Int))) (fun b w hb hH => exec_ar rfl rfl rfl rfl (by rw [IntWalk.u64_in _ (by omega)]) hb) ?_
  refine h_q hflS rfl ?_
  refine h_done (d_reg ?_)
  refine h_q hflS rfl ?_
  refine h_act (post := fun ca => [EnT ca lc, Vec 32 5 encV (.slice A0 L0.length c0) L0, Each dat L0, X]) rfl (a_makes (os' := fun ca => [EnT ca lc, Vec 32 5 encV (.slice A0 L0.length c0) L0, Each dat L0, X]) [] 0 (ent_of Try.func21 (by kernel_rfl) rfl) (fun w hH => copies_v w (.slice A0 L0.length c0) L0 (own_rd 0 1 rfl rfl hH) (by omega) hd0 lc hL0) rfl rfl rfl (fun _ => rfl) rfl rfl rfl) ?_; rintro ca
  refine h_q hflS rfl ?_
  refine h_val rfl (.int .u64 (tmx + 1)) (fun b w hb hH => exec_ar rfl rfl rfl rfl (by rw [IntWalk.u64_in _ (by omega)]) hb) ?_
  refine h_q hflS rfl ?_
  refine h_act (post := fun ha => [EnT ha la, EnT ca lc, Vec 32 5 encV (.slice A0 L0.length c0) L0, Each dat L0, X]) rfl (a_makes (os' := fun ha => [EnT ha la, EnT ca lc, Vec 32 5 encV (.slice A0 L0.length c0) L0, Each dat L0, X]) [] 0 (ent_of Try.func20 (by kernel_rfl) rfl) (fun w hH => hand_v w l1 v1 (hH.rdEs 3 rfl hX1) ho1 (1 + (lc.length : Int)) (tmx + 1) 8 (by omega) (by omega) (by decide) la hla) rfl rfl rfl (fun _ => rfl) rfl rfl rfl) ?_; rintro ha
  refine h_act (post := fun av => [emp, EnT av (lc ++ la), Vec 32 5 encV (.slice A0 L0.length c0) L0, Each dat L0, X]) rfl (a_appendEn 1 0 (by decide) sl_api_Entry (by kernel_rfl) rfl rfl (by omega) rfl rfl rfl) ?_; rintro av
  refine h_q hflS rfl ?_
  refine h_done ?_
  rw [hes]
  refine d_open 1 rfl EnT.openE (fun _ => rfl) ?_; rintro ⟨⟨A1, c1, L1⟩, hv1, hL1, hc1⟩
  have hv1 : av = .slice A1 L1.length c1 := hv1
  have hL1 : L1.map (·.e) = es := hL1
  have hc1 : L1.length ≤ c1 := hc1
  have hl1 : L1.length = es.length := by rw [← hL1, List.length_map]
  subst hv1
  refine WC2.keep (env' := [(1, v1), (2, v2), (4, .int .i64 from_), (5, .int .i64 n_), (12, .bool false), (13, .slice A0 L0.length c0), (14, .int .u64 tmx), (40, .slice A0 L0.length c0), (41, .int .i64 (L0.length : Int)), (42, .int .u64 (lc.length : Int)), (43, .int .u64 (1 + (lc.length : Int))), (15, .int .u64 (1 + (lc.length : Int))), (44, .slice A0 L0.length c0), (45, ca), (46, .int .u64 (1 + (lc.length : Int))), (47, .int .u64 tmx), (48, .int .u64 (tmx + 1)), (49, v1), (50, ha), (51, .slice A1 L1.length c1), (16, .slice A1 L1.length c1)]) ⟨rfl, rfl, rfl, rfl, rfl, rfl, rfl, rfl, rfl, rfl, rfl, rfl, rfl, rfl, rfl, rfl, rfl, rfl, rfl, rfl, rfl, trivial⟩ ?_
  refine WC2.mid [EnE A1 c1 L1, emp, Vec 32 5 encV (.slice A0 L0.length c0) L0, Each dat L0, X] (.refl _) ?_
  refine d_open 0 rfl ents_eq (fun _ => rfl) ?_; rintro ⟨⟩
  refine WC2.keep (env' := [(1, v1), (2, v2), (4, .int .i64 from_), (5, .int .i64 n_), (12, .bool false), (13, .slice A0 L0.length c0), (14, .int .u64 tmx), (40, .slice A0 L0.length c0), (41, .int .i64 (L0.length : Int)), (42, .int .u64 (lc.length : Int)), (43, .int .u64 (1 + (lc.length : Int))), (15, .int .u64 (1 + (lc.length : Int))), (44, .slice A0 L0.length c0), (45, ca), (46, .int .u64 (1 + (lc.length : Int))), (47, .int .u64 tmx), (48, .int .u64 (tmx + 1)), (49, v1), (50, ha), (51, .slice A1 L1.length c1), (16, .slice A1 L1.length c1)]) ⟨rfl, rfl, rfl, rfl, rfl, rfl, rfl, rfl, rfl, rfl, rfl, rfl, rfl, rfl, rfl, rfl, rfl, rfl, rfl, rfl, rfl, trivial⟩ ?_
  refine WC2.mid [Vec 32 5 encV (.slice A1 L1.length c1) L1, Each dat L1, emp, Vec 32 5 encV (.slice A0 L0.length c0) L0, Each dat L0, X] (.refl _) ?_
  have hd1 := hd_of (inv_mem hI) hL1
  refine d_reg ?_
  refine h_q hflS rfl ?_
  refine h_act (post := fun cb => [EnT cb lc, Vec 32 5 encV (.slice A1 L1.length c1) L1, Each dat L1, emp, Vec 32 5 encV (.slice A0 L0.length c0) L0, Each dat L0, X]) rfl (a_makes (os' := fun cb => [EnT cb lc, Vec 32 5 encV (.slice A1 L1.length c1) L1, Each dat L1, emp, Vec 32 5 encV (.slice A0 L0.length c0) L0, Each dat L0, X]) [] 0 (ent_of Try.func21 (by kernel_rfl) rfl) (fun w hH => copies_v w (.slice A0 L0.length c0) L0 (own_rd 3 4 rfl rfl hH) (by omega) hd0 lc hL0) rfl rfl rfl (fun _ => rfl) rfl rfl rfl) ?_; rintro cb
  refine h_q hflS rfl ?_
  refine h_val rfl (.int .u64 (tmx + 30)) (fun b w hb hH => exec_ar rfl rfl rfl rfl (by rw [IntWalk.u64_in _ (by omega)]) hb) ?_
  refine h_q hflS rfl ?_
  refine h_act (post := fun hb9 => [EnT hb9 lb, EnT cb lc, Vec 32 5 encV (.slice A1 L1.length c1) L1, Each dat L1, emp, Vec 32 5 encV (.slice A0 L0.length c0) L0, Each dat L0, X]) rfl (a_makes (os' := fun hb9 => [EnT hb9 lb, EnT cb lc, Vec 32 5 encV (.slice A1 L1.length c1) L1, Each dat L1, emp, Vec 32 5 encV (.slice A0 L0.length c0) L0, Each dat L0, X]) [] 0 (ent_of Try.func20 (by kernel_rfl) rfl) (fun w hH => hand_v w l2 v2 (hH.rdEs 6 rfl hX2) ho2 (1 + (lc.length : Int)) (tmx + 30) 8 (by omega) (by omega) (by decide) lb hlb) rfl rfl rfl (fun _ => rfl) rfl rfl rfl) ?_; rintro hb9
  refine h_act (post := fun bv => [emp, EnT bv (lc ++ lb), Vec 32 5 encV (.slice A1 L1.length c1) L1, Each dat L1, emp, Vec 32 5 encV (.slice A0 L0.length c0) L0, Each dat L0, X]) rfl (a_appendEn 1 0 (by decide) sl_api_Entry (by kernel_rfl) rfl rfl (by omega) rfl rfl rfl) ?_; rintro bv
  refine h_q hflS rfl ?_
  refine h_done ?_
  rw [heb]
  refine d_open 1 rfl EnT.openE (fun _ => rfl) ?_; rintro ⟨⟨A2, c2, L2⟩, hv2, hL2, hc2⟩
  have hv2 : bv = .slice A2 L2.length c2 := hv2
  have hL2 : L2.map (·.e) = eb := hL2
  have hc2 : L2.length ≤ c2 := hc2
  have hl2 : L2.length = eb.length := by rw [← hL2, List.length_map]
  subst hv2
  refine WC2.keep (env' := [(1, v1), (2, v2), (4, .int .i64 from_), (5, .int .i64 n_), (12, .bool false), (13, .slice A0 L0.length c0), (14, .int .u64 tmx), (40, .slice A0 L0.length c0), (41, .int .i64 (L0.length : Int)), (42, .int .u64 (lc.length : Int)), (43, .int .u64 (1 + (lc.length : Int))), (15, .int .u64 (1 + (lc.length : Int))), (44, .slice A0 L0.length c0), (45, ca), (46, .int .u64 (1 + (lc.length : Int))), (47, .int .u64 tmx), (48, .int .u64 (tmx + 1)), (49, v1), (50, ha), (51, .slice A1 L1.length c1), (16, .slice A1 L1.length c1), (52, .slice A0 L0.length c0), (53, cb), (54, .int .u64 (1 + (lc.length : Int))), (55, .int .u64 tmx), (56, .int .u64 (tmx + 30)), (57, v2), (58, hb9), (59, .slice A2 L2.length c2), (17, .slice A2 L2.length c2)]) ⟨rfl, rfl, rfl, rfl, rfl, rfl, rfl, rfl, rfl, rfl, rfl, rfl, rfl, rfl, rfl, rfl, rfl, rfl, rfl, rfl, rfl, rfl, rfl, rfl, rfl, rfl, rfl, rfl, rfl, rfl, trivial⟩ ?_
  refine WC2.mid [EnE A2 c2 L2, emp, Vec 32 5 encV (.slice A1 L1.length c1) L1, Each dat L1, emp, Vec 32 5 encV (.slice A0 L0.length c0) L0, Each dat L0, X] (.refl _) ?_
  refine d_open 0 rfl ents_eq (fun _ => rfl) ?_; rintro ⟨⟩
  refine WC2.keep (env' := [(1, v1), (2, v2), (4, .int .i64 from_), (5, .int .i64 n_), (12, .bool false), (13, .slice A0 L0.length c0), (14, .int .u64 tmx), (40, .slice A0 L0.length c0), (41, .int .i64 (L0.length : Int)), (42, .int .u64 (lc.length : Int)), (43, .int .u64 (1 + (lc.length : Int))), (15, .int .u64 (1 + (lc.length : Int))), (44, .slice A0 L0.length c0), (45, ca), (46, .int .u64 (1 + (lc.length : Int))), (47, .int .u64 tmx), (48, .int .u64 (tmx + 1)), (49, v1), (50, ha), (51, .slice A1 L1.length c1), (16, .slice A1 L1.length c1), (52, .slice A0 L0.length c0), (53, cb), (54, .int .u64 (1 + (lc.length : Int))), (55, .int .u64 tmx), (56, .int .u64 (tmx + 30)), (57, v2), (58, hb9), (59, .slice A2 L2.length c2), (17, .slice A2 L2.length c2)]) ⟨rfl, rfl, rfl, rfl, rfl, rfl, rfl, rfl, rfl, rfl, rfl, rfl, rfl, rfl, rfl, rfl, rfl, rfl, rfl, rfl, rfl, rfl, rfl, rfl, rfl, rfl, rfl, rfl, rfl, rfl, trivial⟩ ?_
  refine WC2.mid [Vec 32 5 encV (.slice A2 L2.length c2) L2, Each dat L2, emp, Vec 32 5 encV (.slice A1 L1.length c1) L1, Each dat L1, emp, Vec 32 5 encV (.slice A0 L0.length c0) L0, Each dat L0, X] (.refl _) ?_
  have hd2 := hd_of (inv_mem hIb) hL2
  have hsl : ((L2.drop k).take m).length = m := by rw [List.length_take, List.length_drop]; omega
  refine d_reg ?_
  refine h_q hflS rfl ?_
  refine h_act (post := fun _ => [Vec 32 5 encV (.slice A2 L2.length c2) L2, Each dat L2, emp, Vec 32 5 encV (.slice A1 L1.length c1) L1, Each dat L1, emp, Vec 32 5 encV (.slice A0 L0.length c0) L0, Each dat L0, X]) rfl (a_call (ent_of Try.func9 (by kernel_rfl) rfl) (fun w hH => lbase_any w 1 1 14) rfl rfl rfl) ?_; rintro ⟨⟩
  refine h_q hflS rfl ?_
  refine h_act (post := fun cp => [EnT cp es, Vec 32 5 encV (.slice A2 L2.length c2) L2, Each dat L2, emp, Vec 32 5 encV (.slice A1 L1.length c1) L1, Each dat L1, emp, Vec 32 5 encV (.slice A0 L0.length c0) L0, Each dat L0, X]) rfl (a_makes (os' := fun cp => [EnT cp es, Vec 32 5 encV (.slice A2 L2.length c2) L2, Each dat L2, emp, Vec 32 5 encV (.slice A1 L1.length c1) L1, Each dat L1, emp, Vec 32 5 encV (.slice A0 L0.length c0) L0, Each dat L0, X]) [] 0 (ent_of Try.func21 (by kernel_rfl) rfl) (fun w hH => copies_v w (.slice A1 L1.length c1) L1 (own_rd 3 4 rfl rfl hH) (by omega) hd1 es hL1) rfl rfl rfl (fun _ => rfl) rfl rfl rfl) ?_; rintro cp
  refine h_open 0 rfl EnT.openE (fun _ => rfl) ?_; rintro ⟨⟨A4, c4, L4⟩, hv4, hL4, hc4⟩
  have hv4 : cp = .slice A4 L4.length c4 := hv4
  have hL4 : L4.map (·.e) = es := hL4
  have hc4 : L4.length ≤ c4 := hc4
  have hl4 : L4.length = es.length := by rw [← hL4, List.length_map]
  subst hv4
  refine WL2.keep (env' := [(1, v1), (2, v2), (4, .int .i64 from_), (5, .int .i64 n_), (12, .bool false), (13, .slice A0 L0.length c0), (14, .int .u64 tmx), (40, .slice A0 L0.length c0), (41, .int .i64 (L0.length : Int)), (42, .int .u64 (lc.length : Int)), (43, .int .u64 (1 + (lc.length : Int))), (15, .int .u64 (1 + (lc.length : Int))), (44, .slice A0 L0.length c0), (45, ca), (46, .int .u64 (1 + (lc.length : Int))), (47, .int .u64 tmx), (48, .int .u64 (tmx + 1)), (49, v1), (50, ha), (51, .slice A1 L1.length c1), (16, .slice A1 L1.length c1), (52, .slice A0 L0.length c0), (53, cb), (54, .int .u64 (1 + (lc.length : Int))), (55, .int .u64 tmx), (56, .int .u64 (tmx + 30)), (57, v2), (58, hb9), (59, .slice A2 L2.length c2), (17, .slice A2 L2.length c2), (61, .agg #[.int .u64 1, .int .u64 1, .int .i64 14]), (62, .slice A1 L1.length c1), (63, .slice A4 L4.length c4)]) ⟨rfl, rfl, rfl, rfl, rfl, rfl, rfl, rfl, rfl, rfl, rfl, rfl, rfl, rfl, rfl, rfl, rfl, rfl, rfl, rfl, rfl, rfl, rfl, rfl, rfl, rfl, rfl, rfl, rfl, rfl, rfl, rfl, rfl, trivial⟩ ?_
  refine WL2.mid [EnE A4 c4 L4, Vec 32 5 encV (.slice A2 L2.length c2) L2, Each dat L2, emp, Vec 32 5 encV (.slice A1 L1.length c1) L1, Each dat L1, emp, Vec 32 5 encV (.slice A0 L0.length c0) L0, Each dat L0, X] (.refl _) ?_
  have hd4 := hd_of (inv_mem hI) hL4
  refine h_act (post := fun g => [EnE A4 c4 L4, LogD g 1 1 14 es, Vec 32 5 encV (.slice A2 L2.length c2) L2, Each dat L2, emp, Vec 32 5 encV (.slice A1 L1.length c1) L1, Each dat L1, emp, Vec 32 5 encV (.slice A0 L0.length c0) L0, Each dat L0, X]) rfl (a_does (os' := fun g => [EnE A4 c4 L4, LogD g 1 1 14 es, Vec 32 5 encV (.slice A2 L2.length c2) L2, Each dat L2, emp, Vec 32 5 encV (.slice A1 L1.length c1) L1, Each dat L1, emp, Vec 32 5 encV (.slice A0 L0.length c0) L0, Each dat L0, X]) [0] 0 (ent_of Try.func8 (by kernel_rfl) rfl) (lnew_v 1 1 14 (by decide) (by decide) (by decide) (EnE A4 c4 L4) A4 c4 L4 enE_rd hd4 (by omega) es hL4 (by decide) hI.hf) rfl rfl rfl (fun _ => rfl) rfl rfl rfl) ?_; rintro g
  refine h_q hflS rfl ?_
  refine h_done (d_seq (d_reg ?_))
  refine h_q hflS rfl ?_
  refine h_act (post := fun _ => [EnE A4 c4 L4, LogD g 1 1 14 es, Vec 32 5 encV (.slice A2 L2.length c2) L2, Each dat L2, emp, Vec 32 5 encV (.slice A1 L1.length c1) L1, Each dat L1, emp, Vec 32 5 encV (.slice A0 L0.length c0) L0, Each dat L0, X]) rfl (a_call (ent_of Try.func11 (by kernel_rfl) rfl) (fun w hH => Run.known_calls w) rfl rfl rfl) ?_; rintro ⟨⟩
  refine h_q hflS rfl ?_
  refine h_val rfl (.bool false) (fun b w hb hH => exec_cmp rfl rfl rfl (cmp_neq_f (by omega)) hb) ?_
  refine h_q hflS rfl ?_
  refine h_val rfl (.bool false) (fun b w hb hH => exec_pnil_eql (by kernel_rfl) rfl rfl rfl hb) ?_
  refine h_q hflS rfl ?_
  refine h_done ?_
  refine WC2.keep (env' := [(4, .int .i64 from_), (5, .int .i64 n_), (12, .bool false), (13, .slice A0 L0.length c0), (16, .slice A1 L1.length c1), (17, .slice A2 L2.length c2), (18, .pointer (some ⟨g, 0, none⟩)), (76, .bool false)]) ⟨rfl, rfl, rfl, rfl, rfl, rfl, rfl, rfl, trivial⟩ ?_
  refine d_else rfl (d_skip (f_to (d_reg ?_)))
  refine h_q hflS rfl ?_
  refine h_val rfl (.int .i64 (L2.length : Int)) (fun b w hb hH => e_len sl_api_Entry rfl rfl hH hb) ?_
  refine h_val rfl (.int .i64 ((eb.length + 1 : Nat) : Int)) (fun b w hb hH => exec_ar rfl rfl rfl rfl (by rw [IntWalk.i64_in _ (by omega)]; omega) hb) ?_
  refine h_act (post := fun _ => [EnE A4 c4 L4, LogD g 1 1 14 es, Vec 32 5 encV (.slice A2 L2.length c2) L2, Each dat L2, emp, Vec 32 5 encV (.slice A1 L1.length c1) L1, Each dat L1, emp, Vec 32 5 encV (.slice A0 L0.length c0) L0, Each dat L0, X]) rfl (a_call (ent_of Try.func19 (by kernel_rfl) rfl) (fun w hH => pick w from_ ((eb.length + 1 : Nat) : Int) hfr (by omega) hk) rfl rfl rfl) ?_; rintro ⟨⟩
  refine h_q hflS rfl ?_
  refine h_done (d_reg ?_)
  refine h_q hflS rfl ?_
  refine h_val rfl (.int .i64 (L2.length : Int)) (fun b w hb hH => e_len sl_api_Entry rfl rfl hH hb) ?_
  refine h_q hflS rfl ?_
  refine h_val rfl (.int .i64 ((eb.length - k : Nat) : Int)) (fun b w hb hH => exec_ar rfl rfl rfl rfl (by rw [IntWalk.i64_in _ (by omega)]; omega) hb) ?_
  refine h_val rfl (.int .i64 ((eb.length - k + 1 : Nat) : Int)) (fun b w hb hH => exec_ar rfl rfl rfl rfl (by rw [IntWalk.i64_in _ (by omega)]; omega) hb) ?_
  refine h_act (post := fun _ => [EnE A4 c4 L4, LogD g 1 1 14 es, Vec 32 5 encV (.slice A2 L2.length c2) L2, Each dat L2, emp, Vec 32 5 encV (.slice A1 L1.length c1) L1, Each dat L1, emp, Vec 32 5 encV (.slice A0 L0.length c0) L0, Each dat L0, X]) rfl (a_call (ent_of Try.func19 (by kernel_rfl) rfl) (fun w hH => pick w n_ ((eb.length - k + 1 : Nat) : Int) hn_ (by omega) hm) rfl rfl rfl) ?_; rintro ⟨⟩
  refine h_val rfl (.int .i64 ((k + m : Nat) : Int)) (fun b w hb hH => exec_ar rfl rfl rfl rfl (by rw [IntWalk.i64_in _ (by omega)]; omega) hb) ?_
  refine h_val rfl (.slice (lowA A2 c2 k) ((L2.drop k).take m).length (c2 - k)) (fun b w hb hH => e_sub (i := k) (j := (k + m)) sl_api_Entry (sub_mid5 (by omega)) (by omega) (by omega) rfl rfl rfl rfl hH hb) ?_
  refine h_q hflS rfl ?_
  refine h_done (d_reg ?_)
  refine h_q hflS rfl ?_
  refine h_done (d_reg ?_)
  refine h_q hflS rfl ?_
  refine h_done (d_seq (d_reg ?_))
  refine h_q hflS rfl ?_
  refine h_val rfl (.bool rk) (fun b w hb hH => exec_cmp rfl rfl rfl (congrArg some hrk) hb) ?_
  refine h_done ?_
  refine d_mid [(12, .bool false), (13, .slice A0 L0.length c0), (16, .slice A1 L1.length c1), (17, .slice A2 L2.length c2), (18, .pointer (some ⟨g, 0, none⟩)), (20, .int .i64 (k : Int)), (21, .slice (lowA A2 c2 k) ((L2.drop k).take m).length (c2 - k)), (22, .int .u64 pv), (23, .int .u64 tv)] [EnE A4 c4 L4, LogD g 1 1 14 es, Vec 32 5 encV (.slice A2 L2.length c2) L2, Each dat L2, emp, Vec 32 5 encV (.slice A1 L1.length c1) L1, Each dat L1, emp, Vec 32 5 encV (.slice A0 L0.length c0) L0, Each dat L0, X] ?_ ?_
  · skip
    cases rk
    · skip
      obtain rfl : k = 0 := by have := of_decide_eq_false hrk; omega
      obtain rfl : 1 = pv := by rw [← hpv]; rfl
      obtain rfl : 1 = tv := by rw [show (1 : Int) + ((0 : Nat) : Int) = 1 by rfl, termM_base] at htv; exact congrArg Prod.fst htv
      refine d_else rfl (d_skip ?_)
      exact f_mid 0 ⟨rfl, rfl, rfl, rfl, rfl, rfl, rfl, rfl, rfl, trivial⟩ rfl
    · skip
      have h0 : 0 < k := by have := of_decide_eq_true hrk; omega
      obtain ⟨z, hz⟩ : ∃ z, L2[k - 1]? = some z := ⟨_, List.getElem?_eq_getElem (by omega)⟩
      have hze := map_at hL2 hz
      have hzi := (hIb.at_ hze).1
      obtain rfl : z.e.i = pv := by omega
      obtain rfl : z.e.t = tv := by rw [termM_at (k := k - 1) (by omega) hze] at htv; exact congrArg Prod.fst htv
      refine d_then rfl (d_reg ?_)
      refine h_q hflS rfl ?_
      refine h_val rfl (.int .i64 ((k - 1 : Nat) : Int)) (fun b w hb hH => exec_ar rfl rfl rfl rfl (by rw [IntWalk.i64_in _ (by omega)]; omega) hb) ?_
      refine h_val rfl (elp (.slice A2 L2.length c2) ((k - 1) * 5)) (fun b w hb hH => e_vidx 2 sl_api_Entry okV rfl (k - 1) (by omega) rfl rfl rfl hH hb) ?_
      refine h_val rfl (elp (.slice A2 L2.length c2) ((k - 1) * 5 + 2)) (fun b w hb hH => e_sfield okV (by decide) (hH.vec 2 rfl okV) (j := (k - 1)) hz fd_api_Entry_2 rfl rfl hb) ?_
      refine h_val rfl (.int .u64 z.e.i) (fun b w hb hH => e_sload okV (by decide) (hH.vec 2 rfl okV) (j := (k - 1)) hz ty_uint64 (off := 2) rfl rfl rfl hb) ?_
      refine h_q hflS rfl ?_
      refine h_done (d_reg1 ?_)
      refine h_q hflS rfl ?_
      refine h_val rfl (.int .i64 ((k - 1 : Nat) : Int)) (fun b w hb hH => exec_ar rfl rfl rfl rfl (by rw [IntWalk.i64_in _ (by omega)]; omega) hb) ?_
      refine h_val rfl (elp (.slice A2 L2.length c2) ((k - 1) * 5)) (fun b w hb hH => e_vidx 2 sl_api_Entry okV rfl (k - 1) (by omega) rfl rfl rfl hH hb) ?_
      refine h_val rfl (elp (.slice A2 L2.length c2) ((k - 1) * 5 + 1)) (fun b w hb hH => e_sfield okV (by decide) (hH.vec 2 rfl okV) (j := (k - 1)) hz fd_api_Entry_1 rfl rfl hb) ?_
      refine h_val rfl (.int .u64 z.e.t) (fun b w hb hH => e_sload okV (by decide) (hH.vec 2 rfl okV) (j := (k - 1)) hz ty_uint64 (off := 1) rfl rfl rfl hb) ?_
      refine h_q hflS rfl ?_
      refine h_nil ?_
      exact f_mid 0 ⟨rfl, rfl, rfl, rfl, rfl, rfl, rfl, rfl, rfl, trivial⟩ rfl
  refine f_to ?_
  rcases Nat.lt_or_ge lc.length k with hkn | hkn
  · skip
    have hhas : hasM 1 1 es pv tv = false := by rw [← hes, ← hpv]; exact alk_no hne hkn (by rw [heb]; omega) (by rw [heb]; exact htv)
    refine d_reg ?_
    refine h_q hflS rfl ?_
    refine h_act (post := fun cps => [EnT cps ((eb.drop k).take m), EnE A4 c4 L4, LogD g 1 1 14 es, Vec 32 5 encV (.slice A2 L2.length c2) L2, Each dat L2, emp, Vec 32 5 encV (.slice A1 L1.length c1) L1, Each dat L1, emp, Vec 32 5 encV (.slice A0 L0.length c0) L0, Each dat L0, X]) rfl (a_makes (os' := fun cps => [EnT cps ((eb.drop k).take m), EnE A4 c4 L4, LogD g 1 1 14 es, Vec 32 5 encV (.slice A2 L2.length c2) L2, Each dat L2, emp, Vec 32 5 encV (.slice A1 L1.length c1) L1, Each dat L1, emp, Vec 32 5 encV (.slice A0 L0.length c0) L0, Each dat L0, X]) [] 0 (ent_of Try.func21 (by kernel_rfl) rfl) (fun w hH => copies_v w (.slice (lowA A2 c2 k) ((L2.drop k).take m).length (c2 - k)) ((L2.drop k).take m) (ents_mid (own_rd 2 3 rfl rfl hH) (by omega) hc2) (by rw [List.length_take, List.length_drop]; omega) (fun x hx => hd2 x (List.mem_of_mem_drop (List.mem_of_mem_take hx))) ((eb.drop k).take m) (by rw [List.map_take, List.map_drop, hL2])) rfl rfl rfl (fun _ => rfl) rfl rfl rfl) ?_; rintro cps
    refine h_open 0 rfl EnT.openE (fun _ => rfl) ?_; rintro ⟨⟨A3, c3, L3⟩, hv3, hL3, hc3⟩
    have hv3 : cps = .slice A3 L3.length c3 := hv3
    have hL3 : L3.map (·.e) = ((eb.drop k).take m) := hL3
    have hc3 : L3.length ≤ c3 := hc3
    have hl3 : L3.length = ((eb.drop k).take m).length := by rw [← hL3, List.length_map]
    subst hv3
    refine WL2.keep (env' := [(12, .bool false), (13, .slice A0 L0.length c0), (16, .slice A1 L1.length c1), (17, .slice A2 L2.length c2), (18, .pointer (some ⟨g, 0, none⟩)), (20, .int .i64 (k : Int)), (21, .slice (lowA A2 c2 k) ((L2.drop k).take m).length (c2 - k)), (22, .int .u64 pv), (23, .int .u64 tv), (109, .pointer (some ⟨g, 0, none⟩)), (110, .int .u64 pv), (111, .int .u64 tv), (112, .slice (lowA A2 c2 k) ((L2.drop k).take m).length (c2 - k)), (113, .slice A3 L3.length c3)]) ⟨rfl, rfl, rfl, rfl, rfl, rfl, rfl, rfl, rfl, rfl, rfl, rfl, rfl, rfl, trivial⟩ ?_
    refine WL2.mid [EnE A3 c3 L3, EnE A4 c4 L4, LogD g 1 1 14 es, Vec 32 5 encV (.slice A2 L2.length c2) L2, Each dat L2, emp, Vec 32 5 encV (.slice A1 L1.length c1) L1, Each dat L1, emp, Vec 32 5 encV (.slice A0 L0.length c0) L0, Each dat L0, X] (.refl _) ?_
    have hd3 := hd_of (fun e he => inv_mem hIb e (List.mem_of_mem_drop (List.mem_of_mem_take he))) hL3
    have hl3 : L3.length = m := by rw [hl3, List.length_take, List.length_drop]; omega
    refine h_act (post := fun _ => [EnE A3 c3 L3, EnE A4 c4 L4, LogD g 1 1 14 es, Vec 32 5 encV (.slice A2 L2.length c2) L2, Each dat L2, emp, Vec 32 5 encV (.slice A1 L1.length c1) L1, Each dat L1, emp, Vec 32 5 encV (.slice A0 L0.length c0) L0, Each dat L0, X]) rfl (a_does (os' := fun _ => [EnE A3 c3 L3, EnE A4 c4 L4, LogD g 1 1 14 es, Vec 32 5 encV (.slice A2 L2.length c2) L2, Each dat L2, emp, Vec 32 5 encV (.slice A1 L1.length c1) L1, Each dat L1, emp, Vec 32 5 encV (.slice A0 L0.length c0) L0, Each dat L0, X]) [2, 0] 0 (ent_of Try.func13 (by kernel_rfl) rfl) (put_no g 1 1 14 es hI (EnE A3 c3 L3) A3 c3 L3 enE_rd hd3 (by omega) pv tv (by omega) (by omega) (by rw [hhas]; rfl)) rfl rfl rfl (fun _ => rfl) rfl rfl rfl) ?_; rintro ⟨⟩
    refine h_q hflS rfl ?_
    refine h_done (d_seq (d_reg ?_))
    refine h_q hflS rfl ?_
    refine h_val rfl (.int .i64 (L0.length : Int)) (fun b w hb hH => e_len sl_api_Entry rfl rfl hH hb) ?_
    refine h_val rfl (.bool false) (fun b w hb hH => exec_cmp rfl rfl rfl (cmp_leq_f (by omega)) hb) ?_
    refine h_val rfl (.bool false) (fun b w hb hH => exec_nes (neB_same false) rfl rfl rfl hb) ?_
    refine h_done (d_else rfl (d_skip (f_to (d_seq (d_reg ?_)))))
    refine h_q hflS rfl ?_
    refine h_done (d_then rfl (d_reg ?_))
    refine h_q hflS rfl ?_
    refine h_act (post := fun gv => [EnT gv es, EnE A3 c3 L3, EnE A4 c4 L4, LogD g 1 1 14 es, Vec 32 5 encV (.slice A2 L2.length c2) L2, Each dat L2, emp, Vec 32 5 encV (.slice A1 L1.length c1) L1, Each dat L1, emp, Vec 32 5 encV (.slice A0 L0.length c0) L0, Each dat L0, X]) rfl (a_does (os' := fun gv => [EnT gv es, EnE A3 c3 L3, EnE A4 c4 L4, LogD g 1 1 14 es, Vec 32 5 encV (.slice A2 L2.length c2) L2, Each dat L2, emp, Vec 32 5 encV (.slice A1 L1.length c1) L1, Each dat L1, emp, Vec 32 5 encV (.slice A0 L0.length c0) L0, Each dat L0, X]) [2] 0 (ent_of Try.func26 (by kernel_rfl) rfl) (entries_D g 1 1 14 es hI 2 99 (by decide) (by decide) (by omega) es (partM_all (bi := 1) (by omega))) rfl rfl rfl (fun _ => rfl) rfl rfl rfl) ?_; rintro gv
    refine h_q hflS rfl ?_
    refine h_act (post := fun _ => [EnT gv es, EnE A3 c3 L3, EnE A4 c4 L4, LogD g 1 1 14 es, Vec 32 5 encV (.slice A2 L2.length c2) L2, Each dat L2, emp, Vec 32 5 encV (.slice A1 L1.length c1) L1, Each dat L1, emp, Vec 32 5 encV (.slice A0 L0.length c0) L0, Each dat L0, X]) rfl (a_call (ent_of Try.func25 (by kernel_rfl) rfl) (fun w hH => same_v w gv (.slice A1 L1.length c1) es es (EnT.rd 0 rfl hH) ⟨L1, hL1, (own_rd 7 8 rfl rfl hH)⟩ rfl (by omega)) rfl rfl rfl) ?_; rintro ⟨⟩
    refine h_q hflS rfl ?_
    refine h_done (d_ret (f_then_ret ?_))
    exact f_fin1 (.tmp rfl) (fun w h => tells () rfl [12] rfl h same_parts) rfl
  · skip
    have hhas : hasM 1 1 es pv tv = true := by rw [← hes, ← hpv]; exact alk_has hkn (by rw [heb]; exact htv)
    obtain ⟨⟨es2, fr⟩, hput⟩ : ∃ r, putL 1 1 es ((eb.drop k).take m) = r := ⟨_, rfl⟩
    have hp3 := alk_put (es2 := es2) (fr := fr) hA hB hne hkn (by rw [heb]; exact hkm) (by rw [hes, heb]; exact hput)
    rw [hes, heb] at hp3
    obtain ⟨hp2, htop⟩ := hp3
    have hI2 : InvL 1 1 es2 := by have := put_inv hI (hasM_iff.1 hhas) (by rw [← hpv]; exact hfs); rw [hput] at this; exact this
    have hl2m := put_len (bi := 1) (bt := 1) (es := es) (l := (eb.drop k).take m)
    rw [hput, List.length_take, List.length_drop] at hl2m
    have hl2m : es2.length ≤ es.length + min m (eb.length - k) := hl2m
    refine d_reg ?_
    refine h_q hflS rfl ?_
    refine h_act (post := fun cps => [EnT cps ((eb.drop k).take m), EnE A4 c4 L4, LogD g 1 1 14 es, Vec 32 5 encV (.slice A2 L2.length c2) L2, Each dat L2, emp, Vec 32 5 encV (.slice A1 L1.length c1) L1, Each dat L1, emp, Vec 32 5 encV (.slice A0 L0.length c0) L0, Each dat L0, X]) rfl (a_makes (os' := fun cps => [EnT cps ((eb.drop k).take m), EnE A4 c4 L4, LogD g 1 1 14 es, Vec 32 5 encV (.slice A2 L2.length c2) L2, Each dat L2, emp, Vec 32 5 encV (.slice A1 L1.length c1) L1, Each dat L1, emp, Vec 32 5 encV (.slice A0 L0.length c0) L0, Each dat L0, X]) [] 0 (ent_of Try.func21 (by kernel_rfl) rfl) (fun w hH => copies_v w (.slice (lowA A2 c2 k) ((L2.drop k).take m).length (c2 - k)) ((L2.drop k).take m) (ents_mid (own_rd 2 3 rfl rfl hH) (by omega) hc2) (by rw [List.length_take, List.length_drop]; omega) (fun x hx => hd2 x (List.mem_of_mem_drop (List.mem_of_mem_take hx))) ((eb.drop k).take m) (by rw [List.map_take, List.map_drop, hL2])) rfl rfl rfl (fun _ => rfl) rfl rfl rfl) ?_; rintro cps
    refine h_open 0 rfl EnT.openE (fun _ => rfl) ?_; rintro ⟨⟨A3, c3, L3⟩, hv3, hL3, hc3⟩
    have hv3 : cps = .slice A3 L3.length c3 := hv3
    have hL3 : L3.map (·.e) = ((eb.drop k).take m) := hL3
    have hc3 : L3.length ≤ c3 := hc3
    have hl3 : L3.length = ((eb.drop k).take m).length := by rw [← hL3, List.length_map]
    subst hv3
    refine WL2.keep (env' := [(12, .bool false), (13, .slice A0 L0.length c0), (16, .slice A1 L1.length c1), (17, .slice A2 L2.length c2), (18, .pointer (some ⟨g, 0, none⟩)), (20, .int .i64 (k : Int)), (21, .slice (lowA A2 c2 k) ((L2.drop k).take m).length (c2 - k)), (22, .int .u64 pv), (23, .int .u64 tv), (109, .pointer (some ⟨g, 0, none⟩)), (110, .int .u64 pv), (111, .int .u64 tv), (112, .slice (lowA A2 c2 k) ((L2.drop k).take m).length (c2 - k)), (113, .slice A3 L3.length c3)]) ⟨rfl, rfl, rfl, rfl, rfl, rfl, rfl, rfl, rfl, rfl, rfl, rfl, rfl, rfl, trivial⟩ ?_
    refine WL2.mid [EnE A3 c3 L3, EnE A4 c4 L4, LogD g 1 1 14 es, Vec 32 5 encV (.slice A2 L2.length c2) L2, Each dat L2, emp, Vec 32 5 encV (.slice A1 L1.length c1) L1, Each dat L1, emp, Vec 32 5 encV (.slice A0 L0.length c0) L0, Each dat L0, X] (.refl _) ?_
    have hd3 := hd_of (fun e he => inv_mem hIb e (List.mem_of_mem_drop (List.mem_of_mem_take he))) hL3
    have hl3 : L3.length = m := by rw [hl3, List.length_take, List.length_drop]; omega
    refine h_act (post := fun _ => [EnE A3 c3 L3, EnE A4 c4 L4, LogD g 1 1 14 es2, Vec 32 5 encV (.slice A2 L2.length c2) L2, Each dat L2, emp, Vec 32 5 encV (.slice A1 L1.length c1) L1, Each dat L1, emp, Vec 32 5 encV (.slice A0 L0.length c0) L0, Each dat L0, X]) rfl (a_does (os' := fun _ => [EnE A3 c3 L3, EnE A4 c4 L4, LogD g 1 1 14 es2, Vec 32 5 encV (.slice A2 L2.length c2) L2, Each dat L2, emp, Vec 32 5 encV (.slice A1 L1.length c1) L1, Each dat L1, emp, Vec 32 5 encV (.slice A0 L0.length c0) L0, Each dat L0, X]) [2, 0] 0 (ent_of Try.func13 (by kernel_rfl) rfl) (put_ok g 1 1 14 es hI (EnE A3 c3 L3) A3 c3 L3 enE_rd hd3 (by omega) hc3 pv tv (by omega) (by omega) hhas (by rw [hL3, ← hpv]; exact hfs) es2 fr (by rw [hL3]; exact hput)) rfl rfl rfl (fun _ => rfl) rfl rfl rfl) ?_; rintro ⟨⟩
    refine h_q hflS rfl ?_
    refine h_done (d_seq (d_reg ?_))
    refine h_q hflS rfl ?_
    refine h_val rfl (.int .i64 (L0.length : Int)) (fun b w hb hH => e_len sl_api_Entry rfl rfl hH hb) ?_
    refine h_val rfl (.bool true) (fun b w hb hH => exec_cmp rfl rfl rfl (cmp_leq_t (by omega)) hb) ?_
    refine h_val rfl (.bool false) (fun b w hb hH => exec_nes (neB_same true) rfl rfl rfl hb) ?_
    refine h_done (d_else rfl (d_skip (f_to (d_seq (d_reg ?_)))))
    refine h_q hflS rfl ?_
    refine h_done (d_else rfl (d_skip (f_to (d_reg ?_))))
    refine h_q hflS rfl ?_
    refine h_act (post := fun gv => [EnT gv es2, EnE A3 c3 L3, EnE A4 c4 L4, LogD g 1 1 14 es2, Vec 32 5 encV (.slice A2 L2.length c2) L2, Each dat L2, emp, Vec 32 5 encV (.slice A1 L1.length c1) L1, Each dat L1, emp, Vec 32 5 encV (.slice A0 L0.length c0) L0, Each dat L0, X]) rfl (a_does (os' := fun gv => [EnT gv es2, EnE A3 c3 L3, EnE A4 c4 L4, LogD g 1 1 14 es2, Vec 32 5 encV (.slice A2 L2.length c2) L2, Each dat L2, emp, Vec 32 5 encV (.slice A1 L1.length c1) L1, Each dat L1, emp, Vec 32 5 encV (.slice A0 L0.length c0) L0, Each dat L0, X]) [2] 0 (ent_of Try.func26 (by kernel_rfl) rfl) (entries_D g 1 1 14 es2 hI2 2 99 (by decide) (by decide) (by omega) es2 (partM_all (bi := 1) (by omega))) rfl rfl rfl (fun _ => rfl) rfl rfl rfl) ?_; rintro gv
    refine h_q hflS rfl ?_
    refine h_done ?_
    refine d_open 0 rfl EnT.openE (fun _ => rfl) ?_; rintro ⟨⟨A5, c5, L5⟩, hv5, hL5, hc5⟩
    have hv5 : gv = .slice A5 L5.length c5 := hv5
    have hL5 : L5.map (·.e) = es2 := hL5
    have hc5 : L5.length ≤ c5 := hc5
    have hl5 : L5.length = es2.length := by rw [← hL5, List.length_map]
    subst hv5
    refine WC2.keep (env' := [(12, .bool false), (13, .slice A0 L0.length c0), (16, .slice A1 L1.length c1), (17, .slice A2 L2.length c2), (18, .pointer (some ⟨g, 0, none⟩)), (20, .int .i64 (k : Int)), (21, .slice (lowA A2 c2 k) ((L2.drop k).take m).length (c2 - k)), (22, .int .u64 pv), (23, .int .u64 tv), (109, .pointer (some ⟨g, 0, none⟩)), (110, .int .u64 pv), (111, .int .u64 tv), (112, .slice (lowA A2 c2 k) ((L2.drop k).take m).length (c2 - k)), (113, .slice A3 L3.length c3), (114, .tuple #[.int .u64 fr, .bool true]), (108, .tuple #[.int .u64 fr, .bool true]), (115, .int .u64 fr), (116, .bool true), (24, .int .u64 fr), (25, .bool true), (117, .bool true), (118, .int .i64 (k : Int)), (119, .slice A0 L0.length c0), (120, .int .i64 (L0.length : Int)), (121, .bool true), (122, .bool false), (123, .bool true), (124, .bool false), (129, .pointer (some ⟨g, 0, none⟩)), (130, .slice A5 L5.length c5), (26, .slice A5 L5.length c5)]) ⟨rfl, rfl, rfl, rfl, rfl, rfl, rfl, rfl, rfl, rfl, rfl, rfl, rfl, rfl, rfl, rfl, rfl, rfl, rfl, rfl, rfl, rfl, rfl, rfl, rfl, rfl, rfl, rfl, rfl, rfl, rfl, trivial⟩ ?_
    refine WC2.mid [EnE A5 c5 L5, EnE A3 c3 L3, EnE A4 c4 L4, LogD g 1 1 14 es2, Vec 32 5 encV (.slice A2 L2.length c2) L2, Each dat L2, emp, Vec 32 5 encV (.slice A1 L1.length c1) L1, Each dat L1, emp, Vec 32 5 encV (.slice A0 L0.length c0) L0, Each dat L0, X] (.refl _) ?_
    refine d_open 0 rfl ents_eq (fun _ => rfl) ?_; rintro ⟨⟩
    refine WC2.keep (env' := [(12, .bool false), (13, .slice A0 L0.length c0), (16, .slice A1 L1.length c1), (17, .slice A2 L2.length c2), (18, .pointer (some ⟨g, 0, none⟩)), (20, .int .i64 (k : Int)), (21, .slice (lowA A2 c2 k) ((L2.drop k).take m).length (c2 - k)), (22, .int .u64 pv), (23, .int .u64 tv), (109, .pointer (some ⟨g, 0, none⟩)), (110, .int .u64 pv), (111, .int .u64 tv), (112, .slice (lowA A2 c2 k) ((L2.drop k).take m).length (c2 - k)), (113, .slice A3 L3.length c3), (114, .tuple #[.int .u64 fr, .bool true]), (108, .tuple #[.int .u64 fr, .bool true]), (115, .int .u64 fr), (116, .bool true), (24, .int .u64 fr), (25, .bool true), (117, .bool true), (118, .int .i64 (k : Int)), (119, .slice A0 L0.length c0), (120, .int .i64 (L0.length : Int)), (121, .bool true), (122, .bool false), (123, .bool true), (124, .bool false), (129, .pointer (some ⟨g, 0, none⟩)), (130, .slice A5 L5.length c5), (26, .slice A5 L5.length c5)]) ⟨rfl, rfl, rfl, rfl, rfl, rfl, rfl, rfl, rfl, rfl, rfl, rfl, rfl, rfl, rfl, rfl, rfl, rfl, rfl, rfl, rfl, rfl, rfl, rfl, rfl, rfl, rfl, rfl, rfl, rfl, rfl, trivial⟩ ?_
    refine WC2.mid [Vec 32 5 encV (.slice A5 L5.length c5) L5, Each dat L5, EnE A3 c3 L3, EnE A4 c4 L4, LogD g 1 1 14 es2, Vec 32 5 encV (.slice A2 L2.length c2) L2, Each dat L2, emp, Vec 32 5 encV (.slice A1 L1.length c1) L1, Each dat L1, emp, Vec 32 5 encV (.slice A0 L0.length c0) L0, Each dat L0, X] (.refl _) ?_
    refine d_reg ?_
    refine h_q hflS rfl ?_
    refine h_val rfl (.int .i64 ((((L2.drop k).take m).length) : Int)) (fun b w hb hH => e_len sl_api_Entry rfl rfl hH hb) ?_
    refine h_val rfl (.int .i64 ((k + m : Nat) : Int)) (fun b w hb hH => exec_ar rfl rfl rfl rfl (by rw [IntWalk.i64_in _ (by omega)]; omega) hb) ?_
    refine h_q hflS rfl ?_
    refine h_done (d_seq (d_seq ?_))
    refine d_parS 14 1 [⟨.quiet, [none], fun _ => .slice A5 L5.length c5, []⟩, ⟨.quiet, [none], fun _ => .int .i64 (L5.length : Int), [0]⟩, ⟨.quiet, [none], fun _ => .int .i64 ((k + m : Nat) : Int), []⟩, ⟨.quiet, [none], fun _ => .bool false, [1, 2]⟩, ⟨.quiet, [none], fun _ => .bool false, [3]⟩, ⟨.quiet, [none], fun _ => .slice A5 L5.length c5, [4]⟩, ⟨.quiet, [none], fun _ => .int .i64 ((k + m : Nat) : Int), [4]⟩, ⟨.quiet, [none], fun _ => .slice A5 (L5.take (k + m)).length c5, [5, 6, 4]⟩, ⟨.quiet, [none], fun _ => .slice A2 L2.length c2, [4]⟩, ⟨.quiet, [none], fun _ => .int .i64 ((k + m : Nat) : Int), [4]⟩, ⟨.quiet, [none], fun _ => .slice A2 (L2.take (k + m)).length c2, [8, 9, 4]⟩, ⟨.actv 0, [some false], fun _ => .bool true, [7, 10, 4]⟩, ⟨.quiet, [some true], fun _ => .bool false, [11, 4]⟩, ⟨.quiet, [some true], fun _ => .bool false, [4, 12]⟩] [(12, .bool false), (13, .slice A0 L0.length c0), (16, .slice A1 L1.length c1), (17, .slice A2 L2.length c2), (26, .slice A5 L5.length c5), (27, .int .i64 ((k + m : Nat) : Int))] (fun ρ => match ρ with | [rq0] => [Vec 32 5 encV (.slice A5 L5.length c5) L5, Each dat L5, EnE A3 c3 L3, EnE A4 c4 L4, LogD g 1 1 14 es2, Vec 32 5 encV (.slice A2 L2.length c2) L2, Each dat L2, emp, Vec 32 5 encV (.slice A1 L1.length c1) L1, Each dat L1, emp, Vec 32 5 encV (.slice A0 L0.length c0) L0, Each dat L0, X] | _ => []) (by kernel_rfl) (by kernel_rfl) ⟨rfl, rfl, rfl, rfl, rfl, rfl, trivial⟩ rfl ?_ ?_
    · skip
      refine s_cons (by intro r0_; exact ⟨rfl, fun b w hH hb => exec_q1 hflS rfl hb⟩) ?_
      refine s_cons (by intro r0_; exact ⟨rfl, fun b w hH hb => e_len sl_api_Entry rfl rfl hH hb⟩) ?_
      refine s_cons (by intro r0_; exact ⟨rfl, fun b w hH hb => exec_q1 hflS rfl hb⟩) ?_
      refine s_cons (by intro r0_; exact ⟨rfl, fun b w hH hb => exec_cmp rfl rfl rfl (cmp_lss_f (by omega)) hb⟩) ?_
      refine s_cons (by intro r0_; exact ⟨rfl, fun b w hH hb => exec_q1 hflS rfl hb⟩) ?_
      refine s_cons (by intro r0_; exact ⟨rfl, fun b w hH hb => exec_q1 hflS rfl hb⟩) ?_
      refine s_cons (by intro r0_; exact ⟨rfl, fun b w hH hb => exec_q1 hflS rfl hb⟩) ?_
      refine s_cons (by intro r0_; exact ⟨rfl, fun b w hH hb => e_sub_hi (j := (k + m)) sl_api_Entry (sub_hi5k (by omega)) (by omega) rfl rfl rfl hH hb⟩) ?_
      refine s_cons (by intro r0_; exact ⟨rfl, fun b w hH hb => exec_q1 hflS rfl hb⟩) ?_
      refine s_cons (by intro r0_; exact ⟨rfl, fun b w hH hb => exec_q1 hflS rfl hb⟩) ?_
      refine s_cons (by intro r0_; exact ⟨rfl, fun b w hH hb => e_sub_hi (j := (k + m)) sl_api_Entry (sub_hi5k (by omega)) (by omega) rfl rfl rfl hH hb⟩) ?_
      refine s_cons (by exact ⟨rfl, Acts.su (a_call (ent_of Try.func25 (by kernel_rfl) rfl) (fun w hH => same_v w (.slice A5 (L5.take (k + m)).length c5) (.slice A2 (L2.take (k + m)).length c2) (es2.take (k + m)) (eb.take (k + m)) ⟨L5.take (k + m), by rw [List.map_take, hL5], ents_hi (own_rd 0 1 rfl rfl hH) (by omega)⟩ ⟨L2.take (k + m), by rw [List.map_take, hL2], ents_hi (own_rd 5 6 rfl rfl hH) (by omega)⟩ htop.2 (by rw [List.length_take]; omega)) rfl rfl rfl) rfl⟩) ?_
      refine s_cons (by intro v0_; exact ⟨rfl, fun b w hH hb => exec_q1 hflS rfl hb⟩) ?_
      refine s_cons (by intro v0_; exact ⟨rfl, fun b w hH hb => exec_q1 hflS rfl hb⟩) ?_
      exact s_nil
    intro v0_
    refine WL2.keep (env' := [(12, .bool false), (13, .slice A0 L0.length c0), (16, .slice A1 L1.length c1), (26, .slice A5 L5.length c5), (27, .int .i64 ((k + m : Nat) : Int)), (148, .bool false)]) ⟨rfl, rfl, rfl, rfl, rfl, rfl, trivial⟩ ?_
    refine WL2.leave [7, 10] rfl rfl ?_
    refine h_nil (f_to (d_else rfl (d_skip (f_to (d_seq ?_)))))
    rcases Nat.lt_or_ge lc.length (k + m) with hkt | hkt
    · skip
      refine d_reg ?_
      refine h_q hflS rfl ?_
      refine h_val rfl (.int .i64 (L0.length : Int)) (fun b w hb hH => e_len sl_api_Entry rfl rfl hH hb) ?_
      refine h_val rfl (.bool false) (fun b w hb hH => exec_cmp rfl rfl rfl (cmp_leq_f (by omega)) hb) ?_
      refine h_done (d_else rfl (d_skip (f_to (d_reg ?_))))
      refine h_q hflS rfl ?_
      refine h_val rfl (.int .i64 (L5.length : Int)) (fun b w hb hH => e_len sl_api_Entry rfl rfl hH hb) ?_
      refine h_q hflS rfl ?_
      refine h_val rfl (.bool true) (fun b w hb hH => exec_cmp rfl rfl rfl (cmp_eql_t (by rw [if_neg (by omega)] at hp2; rw [hl5, hp2, List.length_take]; omega)) hb) ?_
      refine h_q hflS rfl ?_
      refine h_done (d_ret ?_)
      exact f_fin1 (.tmp rfl) (fun w h => tells () rfl [11] rfl h same_parts) rfl
    · skip
      refine d_reg ?_
      refine h_q hflS rfl ?_
      refine h_val rfl (.int .i64 (L0.length : Int)) (fun b w hb hH => e_len sl_api_Entry rfl rfl hH hb) ?_
      refine h_val rfl (.bool true) (fun b w hb hH => exec_cmp rfl rfl rfl (cmp_leq_t (by omega)) hb) ?_
      refine h_done (d_then rfl (d_reg ?_))
      refine h_q hflS rfl ?_
      refine h_act (post := fun _ => [Vec 32 5 encV (.slice A5 L5.length c5) L5, Each dat L5, EnE A3 c3 L3, EnE A4 c4 L4, LogD g 1 1 14 es2, Vec 32 5 encV (.slice A2 L2.length c2) L2, Each dat L2, Vec 32 5 encV (.slice A1 L1.length c1) L1, Each dat L1, Vec 32 5 encV (.slice A0 L0.length c0) L0, Each dat L0, X]) rfl (a_call (ent_of Try.func25 (by kernel_rfl) rfl) (fun w hH => same_v w (.slice A5 L5.length c5) (.slice A1 L1.length c1) es2 es ⟨L5, hL5, (own_rd 0 1 rfl rfl hH)⟩ ⟨L1, hL1, (own_rd 7 8 rfl rfl hH)⟩ (by rw [hp2, if_pos hkt]) (by omega)) rfl rfl rfl) ?_; rintro ⟨⟩
      refine h_q hflS rfl ?_
      refine h_done (d_ret (f_then_ret ?_))
      exact f_fin1 (.tmp rfl) (fun w h => tells () rfl [11] rfl h same_parts) rfl
end Go.Proofs.Ytnebloeideodmaa.Sep
