/-
  RpcD · DskS · DskW
-/
import Derived.Test.YtaipejaeeohpkaaGreatDoorUB02
import Derived.Test.YtaipejaeeohpkaaGreatDoorUB04
set_option linter.unusedSimpArgs false
set_option linter.unusedVariables false
set_option maxRecDepth 100000
namespace Go.Proofs.YtaipejaeeohpkaaGreatDoor.Sep
open Go.RowKit
open Go.Proofs.YtaipejaeeohpkaaGreatDoor.Mem (Dist Blk Chg below0)
section
variable {P : Program} {ops : Array Oper} {Q : Exit → Act → World → Prop} {n : Nat} {env : List (Nat × Value)} {B : Nat → Prop} {w0 : World} {os : List Ass} {t : Ass}
theorem new_thing (h : t []) : ∀ rs, Parts os rs → ∃ _ : Unit, ∃ rs', rs.Perm rs' ∧ Parts (t :: os) rs' := fun rs hr => ⟨(), rs, .refl _, [], rs, rfl, h, hr⟩
theorem d_new (h0 : t []) {c : Code} (h : WC2 P Q n env B w0 (t :: os) c) : WC2 P Q n env B w0 os c := WC2.via (fun _ : Unit => _) (new_thing h0) fun _ => h
theorem fact_add {xs : List Ass} {p : Prop} (hp : p) {z : List RowT} (h : Parts xs z) : Parts (xs ++ [fact p]) z := by
 have := Parts.app h (show Parts [fact p] [] from ⟨[], [], rfl, ⟨rfl, hp⟩, rfl⟩)
 rwa [List.append_nil] at this
end
structure EsV where
  v : Value
  l : List EntV
theorem reade_does (u : World) (v : Value) (l : List UInt8) (hv : Sl8 u v l) (hl : l.length ≤ 140737488355328) (e : EntD) (en : Nat) (hD : decE l = (e, en)) : DoesU u Tryz.prog 137 #[v] [] (fun (x : SlV) => .tuple #[.agg #[.int .i64 e.k, .int .u64 e.t, .int .u64 e.i, .slice x.A e.d.length x.c, .int .i64 e.c], .int .i64 (en : Int)]) (fun (x : SlV) => [Vec 5 1 encB (.slice x.A e.d.length x.c) e.d]) := by
  obtain ⟨⟨n0, l0, f0⟩, h0⟩ : ∃ R, rbyte 2 l 0 = R := ⟨_, rfl⟩
  obtain ⟨⟨n1, l1, f1⟩, h1⟩ : ∃ R, rnum 72057594037927935 l0 f0 = R := ⟨_, rfl⟩
  obtain ⟨⟨n2, l2, f2⟩, h2⟩ : ∃ R, rnum 72057594037927935 l1 f1 = R := ⟨_, rfl⟩
  have hn0 := rbyte_le 2 l 0
  rw [h0] at hn0
  have hn0 : n0 ≤ 2 := hn0
  refine d_insU (args := [v]) 47 Tryz.func137 rfl rfl rfl ?_; intro w rs hU hS
  refine d_reg ?_
  refine h_q hflS rfl ?_
  refine h_act (post := fun g2 => [cell g2 34 #[.int .i64 0, .int .u64 0, .int .u64 0, .slice none 0 0, .int .i64 0]]) rfl (a_alloc ze_api_Entry rfl) ?_; rintro g2
  refine h_q hflS rfl ?_
  refine h_done (d_seq ?_)
  by_cases h16 : 160 < l.length
  · skip
    obtain ⟨rfl, rfl⟩ := decE_is (decE_long h16) hD
    refine d_reg ?_
    refine h_q hflS rfl ?_
    refine h_val rfl (.int .i64 (l.length : Int)) (fun b w hb hH => e_slen ((arg8 hv hU hS hH).rd) Tryz.underlying30 rfl rfl hb) ?_
    refine h_val rfl (.bool true) (fun b w hb hH => xCm rfl rfl rfl (cmp_gtr_t (by omega)) hb) ?_
    refine h_done (d_then rfl ?_)
    refine d_nilvec 5 1 encB ?_
    refine d_reg ?_
    refine h_q hflS rfl ?_
    refine h_val rfl (.agg #[.int .i64 0, .int .u64 0, .int .u64 0, .slice none 0 0, .int .i64 0]) (fun b w hb hH => exec_build rfl rfl (by kernel_rfl) hb) ?_
    refine h_acts (post := fun _ => [Vec 5 1 encB (.slice none 0 0) ([]), cell g2 34 #[.int .i64 0, .int .u64 0, .int .u64 0, .slice none 0 0, .int .i64 0]]) rfl rfl (a_store 1 (v := .agg #[.int .i64 0, .int .u64 0, .int .u64 0, .slice none 0 0, .int .i64 0]) #[.int .i64 0, .int .u64 0, .int .u64 0, .slice none 0 0, .int .i64 0] tyEn.2 rfl rfl rfl rfl rfl rfl rfl rfl rfl) ?_; rintro ⟨⟩
    refine h_q hflS rfl ?_
    refine h_done (d_ret (fTr ?_))
    exact f_fin2 (.cell 1 (v := .agg #[.int .i64 0, .int .u64 0, .int .u64 0, .slice none 0 0, .int .i64 0]) (rAg (cs := [.int .i64 0, .int .u64 0, .int .u64 0, .slice none 0 0, .int .i64 0]) tyEn rfl) rfl rfl) (.tmp rfl) (fun w h => tells (⟨none, 0⟩) rfl [0] rfl h sPr) rfl
  · skip
    refine d_reg ?_
    refine h_q hflS rfl ?_
    refine h_val rfl (.int .i64 (l.length : Int)) (fun b w hb hH => e_slen ((arg8 hv hU hS hH).rd) Tryz.underlying30 rfl rfl hb) ?_
    refine h_val rfl (.bool false) (fun b w hb hH => xCm rfl rfl rfl (cmp_gtr_f (by omega)) hb) ?_
    refine h_done (d_else rfl (d_skip (f_to (d_reg ?_))))
    refine h_q hflS rfl ?_
    refine h_act (post := fun g => [RdT g l 0, cell g2 34 #[.int .i64 0, .int .u64 0, .int .u64 0, .slice none 0 0, .int .i64 0]]) rfl (a_doesU hU hS (os' := fun g => [RdT g l 0, cell g2 34 #[.int .i64 0, .int .u64 0, .int .u64 0, .slice none 0 0, .int .i64 0]]) [] 0 (ent_of Tryz.func166 (by kernel_rfl) rfl) (rd_new u v l hv hl) rfl rfl rfl (fun _ => rfl) rfl rfl rfl) ?_; rintro g
    refine h_q hflS rfl ?_
    refine h_done (d_reg ?_)
    refine h_q hflS rfl ?_
    refine h_act (post := fun g5 => [cell g5 34 #[.int .i64 0, .int .u64 0, .int .u64 0, .slice none 0 0, .int .i64 0], RdT g l 0, cell g2 34 #[.int .i64 0, .int .u64 0, .int .u64 0, .slice none 0 0, .int .i64 0]]) rfl (a_alloc ze_api_Entry rfl) ?_; rintro g5
    refine h_done (d_reg ?_)
    refine h_q hflS rfl ?_
    refine h_act (post := fun _ => [cell g5 34 #[.int .i64 0, .int .u64 0, .int .u64 0, .slice none 0 0, .int .i64 0], RdT g l0 f0, cell g2 34 #[.int .i64 0, .int .u64 0, .int .u64 0, .slice none 0 0, .int .i64 0]]) rfl (a_does (os' := fun _ => [cell g5 34 #[.int .i64 0, .int .u64 0, .int .u64 0, .slice none 0 0, .int .i64 0], RdT g l0 f0, cell g2 34 #[.int .i64 0, .int .u64 0, .int .u64 0, .slice none 0 0, .int .i64 0]]) [1] 0 (ent_of Tryz.func167 (by kernel_rfl) rfl) (rd_byte g l 0 2 (by decide) (n0, l0, f0) h0) rfl rfl rfl (fun _ => rfl) rfl rfl rfl) ?_; rintro ⟨⟩
    refine h_val rfl (.int .i64 (n0 : Int)) (fun b w hb hH => exec_conv Tryz.underlying5 Tryz.underlying3 (IntWalk.i64_in _ (by omega)) rfl rfl hb) ?_
    refine h_q hflS rfl ?_
    refine h_acts (post := fun _ => [cell g5 34 #[.int .i64 (n0 : Int), .int .u64 0, .int .u64 0, .slice none 0 0, .int .i64 0], RdT g l0 f0, cell g2 34 #[.int .i64 0, .int .u64 0, .int .u64 0, .slice none 0 0, .int .i64 0]]) rfl rfl (a_store 0 (v := .int .i64 (n0 : Int)) #[.int .i64 (n0 : Int), .int .u64 0, .int .u64 0, .slice none 0 0, .int .i64 0] ty_int.2 rfl rfl rfl rfl rfl rfl rfl rfl rfl) ?_; rintro ⟨⟩
    refine h_done (d_reg ?_)
    refine h_q hflS rfl ?_
    refine h_act (post := fun _ => [cell g5 34 #[.int .i64 (n0 : Int), .int .u64 0, .int .u64 0, .slice none 0 0, .int .i64 0], RdT g l1 f1, cell g2 34 #[.int .i64 0, .int .u64 0, .int .u64 0, .slice none 0 0, .int .i64 0]]) rfl (a_does (os' := fun _ => [cell g5 34 #[.int .i64 (n0 : Int), .int .u64 0, .int .u64 0, .slice none 0 0, .int .i64 0], RdT g l1 f1, cell g2 34 #[.int .i64 0, .int .u64 0, .int .u64 0, .slice none 0 0, .int .i64 0]]) [1] 0 (ent_of Tryz.func168 (by kernel_rfl) rfl) (rd_num g l0 f0 72057594037927935 (by decide) (n1, l1, f1) h1) rfl rfl rfl (fun _ => rfl) rfl rfl rfl) ?_; rintro ⟨⟩
    refine h_q hflS rfl ?_
    refine h_acts (post := fun _ => [cell g5 34 #[.int .i64 (n0 : Int), .int .u64 (n1 : Int), .int .u64 0, .slice none 0 0, .int .i64 0], RdT g l1 f1, cell g2 34 #[.int .i64 0, .int .u64 0, .int .u64 0, .slice none 0 0, .int .i64 0]]) rfl rfl (a_store 0 (v := .int .u64 (n1 : Int)) #[.int .i64 (n0 : Int), .int .u64 (n1 : Int), .int .u64 0, .slice none 0 0, .int .i64 0] ty_uint64.2 rfl rfl rfl rfl rfl rfl rfl rfl rfl) ?_; rintro ⟨⟩
    refine h_done (d_reg ?_)
    refine h_q hflS rfl ?_
    refine h_act (post := fun _ => [cell g5 34 #[.int .i64 (n0 : Int), .int .u64 (n1 : Int), .int .u64 0, .slice none 0 0, .int .i64 0], RdT g l2 f2, cell g2 34 #[.int .i64 0, .int .u64 0, .int .u64 0, .slice none 0 0, .int .i64 0]]) rfl (a_does (os' := fun _ => [cell g5 34 #[.int .i64 (n0 : Int), .int .u64 (n1 : Int), .int .u64 0, .slice none 0 0, .int .i64 0], RdT g l2 f2, cell g2 34 #[.int .i64 0, .int .u64 0, .int .u64 0, .slice none 0 0, .int .i64 0]]) [1] 0 (ent_of Tryz.func168 (by kernel_rfl) rfl) (rd_num g l1 f1 72057594037927935 (by decide) (n2, l2, f2) h2) rfl rfl rfl (fun _ => rfl) rfl rfl rfl) ?_; rintro ⟨⟩
    refine h_q hflS rfl ?_
    refine h_acts (post := fun _ => [cell g5 34 #[.int .i64 (n0 : Int), .int .u64 (n1 : Int), .int .u64 (n2 : Int), .slice none 0 0, .int .i64 0], RdT g l2 f2, cell g2 34 #[.int .i64 0, .int .u64 0, .int .u64 0, .slice none 0 0, .int .i64 0]]) rfl rfl (a_store 0 (v := .int .u64 (n2 : Int)) #[.int .i64 (n0 : Int), .int .u64 (n1 : Int), .int .u64 (n2 : Int), .slice none 0 0, .int .i64 0] ty_uint64.2 rfl rfl rfl rfl rfl rfl rfl rfl rfl) ?_; rintro ⟨⟩
    refine h_done (d_seq (d_reg ?_))
    refine h_q hflS rfl ?_
    refine h_val rfl (.int .i64 (n0 : Int)) (fun b w hb hH => xLd rfl rfl (rOn ty_int rfl) (hH.row 0 rfl) hb) ?_
    refine h_done (d_block ?_)
    have hk : n0 = 1 ∨ n0 = 2 ∨ (n0 ≠ 1 ∧ n0 ≠ 2) := by omega
    rcases hk with hk | hk | ⟨hk, hk2⟩
    · skip
      obtain ⟨⟨x, l3, f3⟩, ht⟩ : ∃ R, rtext 128 l2 f2 = R := ⟨_, rfl⟩
      have h3 : rtail n0 l2 f2 = ((x, 0), l3, f3) := by rw [hk]; exact rtail_one ht
      have hread := readE_of h0 h1 h2 h3
      refine d_reg ?_
      refine h_q hflS rfl ?_
      refine h_val rfl (.bool true) (fun b w hb hH => xCm rfl rfl rfl (cEt (by omega)) hb) ?_
      refine h_q hflS rfl ?_
      refine h_done (d_then rfl (d_reg1 ?_))
      refine h_q hflS rfl ?_
      refine h_act (post := fun v9 => [Vec 5 1 encB v9 x, cell g5 34 #[.int .i64 (n0 : Int), .int .u64 (n1 : Int), .int .u64 (n2 : Int), .slice none 0 0, .int .i64 0], RdT g l3 f3, cell g2 34 #[.int .i64 0, .int .u64 0, .int .u64 0, .slice none 0 0, .int .i64 0]]) rfl (a_does (os' := fun v9 => [Vec 5 1 encB v9 x, cell g5 34 #[.int .i64 (n0 : Int), .int .u64 (n1 : Int), .int .u64 (n2 : Int), .slice none 0 0, .int .i64 0], RdT g l3 f3, cell g2 34 #[.int .i64 0, .int .u64 0, .int .u64 0, .slice none 0 0, .int .i64 0]]) [1] 0 (ent_of Tryz.func169 (by kernel_rfl) rfl) (rd_text g l2 f2 128 (by decide) (x, l3, f3) ht) rfl rfl rfl (fun _ => rfl) rfl rfl rfl) ?_; rintro v9
      refine WL2.fact 0 rfl (fun _ h => Vec.is h) ?_; rintro ⟨A9, c9, rfl⟩
      refine h_q hflS rfl ?_
      refine h_acts (post := fun _ => [Vec 5 1 encB (.slice A9 x.length c9) x, cell g5 34 #[.int .i64 (n0 : Int), .int .u64 (n1 : Int), .int .u64 (n2 : Int), .slice A9 x.length c9, .int .i64 0], RdT g l3 f3, cell g2 34 #[.int .i64 0, .int .u64 0, .int .u64 0, .slice none 0 0, .int .i64 0]]) rfl rfl (a_store 1 (v := .slice A9 x.length c9) #[.int .i64 (n0 : Int), .int .u64 (n1 : Int), .int .u64 (n2 : Int), .slice A9 x.length c9, .int .i64 0] tyS8.2 rfl rfl rfl rfl rfl rfl rfl rfl rfl) ?_; rintro ⟨⟩
      refine h_nil (f_block (f_to (d_seq ?_)))
      by_cases hf : rend l3 f3 = 0
      · skip
        refine d_reg ?_
        refine h_q hflS rfl ?_
        refine h_act (post := fun _ => [Vec 5 1 encB (.slice A9 x.length c9) x, cell g5 34 #[.int .i64 (n0 : Int), .int .u64 (n1 : Int), .int .u64 (n2 : Int), .slice A9 x.length c9, .int .i64 0], RdT g l3 f3, cell g2 34 #[.int .i64 0, .int .u64 0, .int .u64 0, .slice none 0 0, .int .i64 0]]) rfl (a_does (os' := fun _ => [Vec 5 1 encB (.slice A9 x.length c9) x, cell g5 34 #[.int .i64 (n0 : Int), .int .u64 (n1 : Int), .int .u64 (n2 : Int), .slice A9 x.length c9, .int .i64 0], RdT g l3 f3, cell g2 34 #[.int .i64 0, .int .u64 0, .int .u64 0, .slice none 0 0, .int .i64 0]]) [2] 0 (ent_of Tryz.func170 (by kernel_rfl) rfl) (rd_end g l3 f3 0 hf) rfl rfl rfl (fun _ => rfl) rfl rfl rfl) ?_; rintro ⟨⟩
        refine h_q hflS rfl ?_
        refine h_done (d_reg ?_)
        refine h_q hflS rfl ?_
        refine h_val rfl (.bool false) (fun b w hb hH => xCm rfl rfl rfl (cmp_neq_f rfl) hb) ?_
        refine h_done (d_else rfl (d_skip (f_to (d_seq ?_))))
        rcases Bool.eq_false_or_eq_true (rightE (⟨(n0 : Int), (n1 : Int), (n2 : Int), x, ((0 : Nat) : Int)⟩ : EntD)) with hR | hR
        · skip
          obtain ⟨rfl, rfl⟩ := decE_is (decE_right h16 hread hf hR) hD
          refine d_reg ?_
          refine h_q hflS rfl ?_
          refine h_val rfl (.agg #[.int .i64 (n0 : Int), .int .u64 (n1 : Int), .int .u64 (n2 : Int), .slice A9 x.length c9, .int .i64 0]) (fun b w hb hH => xLd rfl rfl (rAg (cs := [.int .i64 (n0 : Int), .int .u64 (n1 : Int), .int .u64 (n2 : Int), .slice A9 x.length c9, .int .i64 0]) tyEn rfl) (hH.row 1 rfl) hb) ?_
          refine h_act (post := fun _ => [Vec 5 1 encB (.slice A9 x.length c9) x, cell g5 34 #[.int .i64 (n0 : Int), .int .u64 (n1 : Int), .int .u64 (n2 : Int), .slice A9 x.length c9, .int .i64 0], RdT g l3 f3, cell g2 34 #[.int .i64 0, .int .u64 0, .int .u64 0, .slice none 0 0, .int .i64 0]]) rfl (a_call (ent_of Tryz.func44 (by kernel_rfl) rfl) (fun w hH => rightE_any w ⟨(⟨(n0 : Int), (n1 : Int), (n2 : Int), x, ((0 : Nat) : Int)⟩ : EntD), A9, c9⟩ (hH.sl8 0 rfl) true hR) rfl rfl rfl) ?_; rintro ⟨⟩
          refine h_q hflS rfl ?_
          refine h_done (d_else rfl (d_skip (f_to (d_reg ?_))))
          refine h_q hflS rfl ?_
          refine h_val rfl (.agg #[.int .i64 (n0 : Int), .int .u64 (n1 : Int), .int .u64 (n2 : Int), .slice A9 x.length c9, .int .i64 0]) (fun b w hb hH => xLd rfl rfl (rAg (cs := [.int .i64 (n0 : Int), .int .u64 (n1 : Int), .int .u64 (n2 : Int), .slice A9 x.length c9, .int .i64 0]) tyEn rfl) (hH.row 1 rfl) hb) ?_
          refine h_acts (post := fun _ => [Vec 5 1 encB (.slice A9 x.length c9) x, cell g5 34 #[.int .i64 (n0 : Int), .int .u64 (n1 : Int), .int .u64 (n2 : Int), .slice A9 x.length c9, .int .i64 0], RdT g l3 f3, cell g2 34 #[.int .i64 (n0 : Int), .int .u64 (n1 : Int), .int .u64 (n2 : Int), .slice A9 x.length c9, .int .i64 0]]) rfl rfl (a_store 3 (v := .agg #[.int .i64 (n0 : Int), .int .u64 (n1 : Int), .int .u64 (n2 : Int), .slice A9 x.length c9, .int .i64 0]) #[.int .i64 (n0 : Int), .int .u64 (n1 : Int), .int .u64 (n2 : Int), .slice A9 x.length c9, .int .i64 0] tyEn.2 rfl rfl rfl rfl rfl rfl rfl rfl rfl) ?_; rintro ⟨⟩
          refine h_q hflS rfl ?_
          refine h_done (d_ret ?_)
          exact f_fin2 (.cell 3 (v := .agg #[.int .i64 (n0 : Int), .int .u64 (n1 : Int), .int .u64 (n2 : Int), .slice A9 x.length c9, .int .i64 0]) (rAg (cs := [.int .i64 (n0 : Int), .int .u64 (n1 : Int), .int .u64 (n2 : Int), .slice A9 x.length c9, .int .i64 0]) tyEn rfl) rfl rfl) (.tmp rfl) (fun w h => tells (⟨A9, c9⟩) rfl [0] rfl h sPr) rfl
        · skip
          obtain ⟨rfl, rfl⟩ := decE_is (decE_wrong h16 hread hf hR) hD
          refine d_reg ?_
          refine h_q hflS rfl ?_
          refine h_val rfl (.agg #[.int .i64 (n0 : Int), .int .u64 (n1 : Int), .int .u64 (n2 : Int), .slice A9 x.length c9, .int .i64 0]) (fun b w hb hH => xLd rfl rfl (rAg (cs := [.int .i64 (n0 : Int), .int .u64 (n1 : Int), .int .u64 (n2 : Int), .slice A9 x.length c9, .int .i64 0]) tyEn rfl) (hH.row 1 rfl) hb) ?_
          refine h_act (post := fun _ => [Vec 5 1 encB (.slice A9 x.length c9) x, cell g5 34 #[.int .i64 (n0 : Int), .int .u64 (n1 : Int), .int .u64 (n2 : Int), .slice A9 x.length c9, .int .i64 0], RdT g l3 f3, cell g2 34 #[.int .i64 0, .int .u64 0, .int .u64 0, .slice none 0 0, .int .i64 0]]) rfl (a_call (ent_of Tryz.func44 (by kernel_rfl) rfl) (fun w hH => rightE_any w ⟨(⟨(n0 : Int), (n1 : Int), (n2 : Int), x, ((0 : Nat) : Int)⟩ : EntD), A9, c9⟩ (hH.sl8 0 rfl) false hR) rfl rfl rfl) ?_; rintro ⟨⟩
          refine h_q hflS rfl ?_
          refine h_done (d_then rfl ?_)
          refine d_nilvec 5 1 encB ?_
          refine d_reg ?_
          refine h_q hflS rfl ?_
          refine h_val rfl (.agg #[.int .i64 0, .int .u64 0, .int .u64 0, .slice none 0 0, .int .i64 0]) (fun b w hb hH => exec_build rfl rfl (by kernel_rfl) hb) ?_
          refine h_acts (post := fun _ => [Vec 5 1 encB (.slice none 0 0) ([]), Vec 5 1 encB (.slice A9 x.length c9) x, cell g5 34 #[.int .i64 (n0 : Int), .int .u64 (n1 : Int), .int .u64 (n2 : Int), .slice A9 x.length c9, .int .i64 0], RdT g l3 f3, cell g2 34 #[.int .i64 0, .int .u64 0, .int .u64 0, .slice none 0 0, .int .i64 0]]) rfl rfl (a_store 4 (v := .agg #[.int .i64 0, .int .u64 0, .int .u64 0, .slice none 0 0, .int .i64 0]) #[.int .i64 0, .int .u64 0, .int .u64 0, .slice none 0 0, .int .i64 0] tyEn.2 rfl rfl rfl rfl rfl rfl rfl rfl rfl) ?_; rintro ⟨⟩
          refine h_q hflS rfl ?_
          refine h_done (d_ret (fTr ?_))
          exact f_fin2 (.cell 4 (v := .agg #[.int .i64 0, .int .u64 0, .int .u64 0, .slice none 0 0, .int .i64 0]) (rAg (cs := [.int .i64 0, .int .u64 0, .int .u64 0, .slice none 0 0, .int .i64 0]) tyEn rfl) rfl rfl) (.tmp rfl) (fun w h => tells (⟨none, 0⟩) rfl [0] rfl h sPr) rfl
      · skip
        obtain ⟨rfl, rfl⟩ := decE_is (decE_bad h16 hread hf) hD
        refine d_reg ?_
        refine h_q hflS rfl ?_
        refine h_act (post := fun _ => [Vec 5 1 encB (.slice A9 x.length c9) x, cell g5 34 #[.int .i64 (n0 : Int), .int .u64 (n1 : Int), .int .u64 (n2 : Int), .slice A9 x.length c9, .int .i64 0], RdT g l3 f3, cell g2 34 #[.int .i64 0, .int .u64 0, .int .u64 0, .slice none 0 0, .int .i64 0]]) rfl (a_does (os' := fun _ => [Vec 5 1 encB (.slice A9 x.length c9) x, cell g5 34 #[.int .i64 (n0 : Int), .int .u64 (n1 : Int), .int .u64 (n2 : Int), .slice A9 x.length c9, .int .i64 0], RdT g l3 f3, cell g2 34 #[.int .i64 0, .int .u64 0, .int .u64 0, .slice none 0 0, .int .i64 0]]) [2] 0 (ent_of Tryz.func170 (by kernel_rfl) rfl) (rd_end g l3 f3 (rend l3 f3) rfl) rfl rfl rfl (fun _ => rfl) rfl rfl rfl) ?_; rintro ⟨⟩
        refine h_q hflS rfl ?_
        refine h_done (d_reg ?_)
        refine h_q hflS rfl ?_
        refine h_val rfl (.bool true) (fun b w hb hH => xCm rfl rfl rfl (cmp_neq_t (by omega)) hb) ?_
        refine h_done (d_then rfl ?_)
        refine d_nilvec 5 1 encB ?_
        refine d_reg ?_
        refine h_q hflS rfl ?_
        refine h_val rfl (.agg #[.int .i64 0, .int .u64 0, .int .u64 0, .slice none 0 0, .int .i64 0]) (fun b w hb hH => exec_build rfl rfl (by kernel_rfl) hb) ?_
        refine h_q hflS rfl ?_
        refine h_acts (post := fun _ => [Vec 5 1 encB (.slice none 0 0) ([]), Vec 5 1 encB (.slice A9 x.length c9) x, cell g5 34 #[.int .i64 (n0 : Int), .int .u64 (n1 : Int), .int .u64 (n2 : Int), .slice A9 x.length c9, .int .i64 0], RdT g l3 f3, cell g2 34 #[.int .i64 0, .int .u64 0, .int .u64 0, .slice none 0 0, .int .i64 0]]) rfl rfl (a_store 4 (v := .agg #[.int .i64 0, .int .u64 0, .int .u64 0, .slice none 0 0, .int .i64 0]) #[.int .i64 0, .int .u64 0, .int .u64 0, .slice none 0 0, .int .i64 0] tyEn.2 rfl rfl rfl rfl rfl rfl rfl rfl rfl) ?_; rintro ⟨⟩
        refine h_q hflS rfl ?_
        refine h_done (d_ret (fTr ?_))
        exact f_fin2 (.cell 4 (v := .agg #[.int .i64 0, .int .u64 0, .int .u64 0, .slice none 0 0, .int .i64 0]) (rAg (cs := [.int .i64 0, .int .u64 0, .int .u64 0, .slice none 0 0, .int .i64 0]) tyEn rfl) rfl rfl) (.tmp rfl) (fun w h => tells (⟨none, 0⟩) rfl [0] rfl h sPr) rfl
    · skip
      obtain ⟨⟨c0, l3, f3⟩, ht⟩ : ∃ R, rbyte 254 l2 f2 = R := ⟨_, rfl⟩
      have hc0 := rbyte_le 254 l2 f2
      rw [ht] at hc0
      have hc0 : c0 ≤ 254 := hc0
      have h3 : rtail n0 l2 f2 = (([], c0), l3, f3) := by rw [hk]; exact rtail_two ht
      have hread := readE_of h0 h1 h2 h3
      refine d_reg ?_
      refine h_q hflS rfl ?_
      refine h_val rfl (.bool false) (fun b w hb hH => xCm rfl rfl rfl (cEf (by omega)) hb) ?_
      refine h_q hflS rfl ?_
      refine h_done (d_else rfl (d_reg ?_))
      refine h_q hflS rfl ?_
      refine h_val rfl (.bool true) (fun b w hb hH => xCm rfl rfl rfl (cEt (by omega)) hb) ?_
      refine h_q hflS rfl ?_
      refine h_done (d_then rfl (d_reg1 ?_))
      refine h_q hflS rfl ?_
      refine h_act (post := fun _ => [cell g5 34 #[.int .i64 (n0 : Int), .int .u64 (n1 : Int), .int .u64 (n2 : Int), .slice none 0 0, .int .i64 0], RdT g l3 f3, cell g2 34 #[.int .i64 0, .int .u64 0, .int .u64 0, .slice none 0 0, .int .i64 0]]) rfl (a_does (os' := fun _ => [cell g5 34 #[.int .i64 (n0 : Int), .int .u64 (n1 : Int), .int .u64 (n2 : Int), .slice none 0 0, .int .i64 0], RdT g l3 f3, cell g2 34 #[.int .i64 0, .int .u64 0, .int .u64 0, .slice none 0 0, .int .i64 0]]) [1] 0 (ent_of Tryz.func167 (by kernel_rfl) rfl) (rd_byte g l2 f2 254 (by decide) (c0, l3, f3) ht) rfl rfl rfl (fun _ => rfl) rfl rfl rfl) ?_; rintro ⟨⟩
      refine h_val rfl (.int .i64 (c0 : Int)) (fun b w hb hH => exec_conv Tryz.underlying5 Tryz.underlying3 (IntWalk.i64_in _ (by omega)) rfl rfl hb) ?_
      refine h_q hflS rfl ?_
      refine h_acts (post := fun _ => [cell g5 34 #[.int .i64 (n0 : Int), .int .u64 (n1 : Int), .int .u64 (n2 : Int), .slice none 0 0, .int .i64 (c0 : Int)], RdT g l3 f3, cell g2 34 #[.int .i64 0, .int .u64 0, .int .u64 0, .slice none 0 0, .int .i64 0]]) rfl rfl (a_store 0 (v := .int .i64 (c0 : Int)) #[.int .i64 (n0 : Int), .int .u64 (n1 : Int), .int .u64 (n2 : Int), .slice none 0 0, .int .i64 (c0 : Int)] ty_int.2 rfl rfl rfl rfl rfl rfl rfl rfl rfl) ?_; rintro ⟨⟩
      refine h_nil (f_block (f_to (d_seq ?_)))
      by_cases hf : rend l3 f3 = 0
      · skip
        refine d_reg ?_
        refine h_q hflS rfl ?_
        refine h_act (post := fun _ => [cell g5 34 #[.int .i64 (n0 : Int), .int .u64 (n1 : Int), .int .u64 (n2 : Int), .slice none 0 0, .int .i64 (c0 : Int)], RdT g l3 f3, cell g2 34 #[.int .i64 0, .int .u64 0, .int .u64 0, .slice none 0 0, .int .i64 0]]) rfl (a_does (os' := fun _ => [cell g5 34 #[.int .i64 (n0 : Int), .int .u64 (n1 : Int), .int .u64 (n2 : Int), .slice none 0 0, .int .i64 (c0 : Int)], RdT g l3 f3, cell g2 34 #[.int .i64 0, .int .u64 0, .int .u64 0, .slice none 0 0, .int .i64 0]]) [1] 0 (ent_of Tryz.func170 (by kernel_rfl) rfl) (rd_end g l3 f3 0 hf) rfl rfl rfl (fun _ => rfl) rfl rfl rfl) ?_; rintro ⟨⟩
        refine h_q hflS rfl ?_
        refine h_done (d_reg ?_)
        refine h_q hflS rfl ?_
        refine h_val rfl (.bool false) (fun b w hb hH => xCm rfl rfl rfl (cmp_neq_f rfl) hb) ?_
        refine h_done (d_else rfl (d_skip (f_to (d_seq ?_))))
        rcases Bool.eq_false_or_eq_true (rightE (⟨(n0 : Int), (n1 : Int), (n2 : Int), [], (c0 : Int)⟩ : EntD)) with hR | hR
        · skip
          obtain ⟨rfl, rfl⟩ := decE_is (decE_right h16 hread hf hR) hD
          refine d_reg ?_
          refine h_q hflS rfl ?_
          refine h_val rfl (.agg #[.int .i64 (n0 : Int), .int .u64 (n1 : Int), .int .u64 (n2 : Int), .slice none 0 0, .int .i64 (c0 : Int)]) (fun b w hb hH => xLd rfl rfl (rAg (cs := [.int .i64 (n0 : Int), .int .u64 (n1 : Int), .int .u64 (n2 : Int), .slice none 0 0, .int .i64 (c0 : Int)]) tyEn rfl) (hH.row 0 rfl) hb) ?_
          refine h_act (post := fun _ => [cell g5 34 #[.int .i64 (n0 : Int), .int .u64 (n1 : Int), .int .u64 (n2 : Int), .slice none 0 0, .int .i64 (c0 : Int)], RdT g l3 f3, cell g2 34 #[.int .i64 0, .int .u64 0, .int .u64 0, .slice none 0 0, .int .i64 0]]) rfl (a_call (ent_of Tryz.func44 (by kernel_rfl) rfl) (fun w hH => rightE_any w ⟨(⟨(n0 : Int), (n1 : Int), (n2 : Int), [], (c0 : Int)⟩ : EntD), none, 0⟩ (sl8_nil w) true hR) rfl rfl rfl) ?_; rintro ⟨⟩
          refine h_q hflS rfl ?_
          refine h_done (d_else rfl (d_skip (f_to ?_)))
          refine d_nilvec 5 1 encB ?_
          refine d_reg ?_
          refine h_q hflS rfl ?_
          refine h_val rfl (.agg #[.int .i64 (n0 : Int), .int .u64 (n1 : Int), .int .u64 (n2 : Int), .slice none 0 0, .int .i64 (c0 : Int)]) (fun b w hb hH => xLd rfl rfl (rAg (cs := [.int .i64 (n0 : Int), .int .u64 (n1 : Int), .int .u64 (n2 : Int), .slice none 0 0, .int .i64 (c0 : Int)]) tyEn rfl) (hH.row 1 rfl) hb) ?_
          refine h_acts (post := fun _ => [Vec 5 1 encB (.slice none 0 0) ([]), cell g5 34 #[.int .i64 (n0 : Int), .int .u64 (n1 : Int), .int .u64 (n2 : Int), .slice none 0 0, .int .i64 (c0 : Int)], RdT g l3 f3, cell g2 34 #[.int .i64 (n0 : Int), .int .u64 (n1 : Int), .int .u64 (n2 : Int), .slice none 0 0, .int .i64 (c0 : Int)]]) rfl rfl (a_store 3 (v := .agg #[.int .i64 (n0 : Int), .int .u64 (n1 : Int), .int .u64 (n2 : Int), .slice none 0 0, .int .i64 (c0 : Int)]) #[.int .i64 (n0 : Int), .int .u64 (n1 : Int), .int .u64 (n2 : Int), .slice none 0 0, .int .i64 (c0 : Int)] tyEn.2 rfl rfl rfl rfl rfl rfl rfl rfl rfl) ?_; rintro ⟨⟩
          refine h_q hflS rfl ?_
          refine h_done (d_ret ?_)
          exact f_fin2 (.cell 3 (v := .agg #[.int .i64 (n0 : Int), .int .u64 (n1 : Int), .int .u64 (n2 : Int), .slice none 0 0, .int .i64 (c0 : Int)]) (rAg (cs := [.int .i64 (n0 : Int), .int .u64 (n1 : Int), .int .u64 (n2 : Int), .slice none 0 0, .int .i64 (c0 : Int)]) tyEn rfl) rfl rfl) (.tmp rfl) (fun w h => tells (⟨none, 0⟩) rfl [0] rfl h sPr) rfl
        · skip
          obtain ⟨rfl, rfl⟩ := decE_is (decE_wrong h16 hread hf hR) hD
          refine d_reg ?_
          refine h_q hflS rfl ?_
          refine h_val rfl (.agg #[.int .i64 (n0 : Int), .int .u64 (n1 : Int), .int .u64 (n2 : Int), .slice none 0 0, .int .i64 (c0 : Int)]) (fun b w hb hH => xLd rfl rfl (rAg (cs := [.int .i64 (n0 : Int), .int .u64 (n1 : Int), .int .u64 (n2 : Int), .slice none 0 0, .int .i64 (c0 : Int)]) tyEn rfl) (hH.row 0 rfl) hb) ?_
          refine h_act (post := fun _ => [cell g5 34 #[.int .i64 (n0 : Int), .int .u64 (n1 : Int), .int .u64 (n2 : Int), .slice none 0 0, .int .i64 (c0 : Int)], RdT g l3 f3, cell g2 34 #[.int .i64 0, .int .u64 0, .int .u64 0, .slice none 0 0, .int .i64 0]]) rfl (a_call (ent_of Tryz.func44 (by kernel_rfl) rfl) (fun w hH => rightE_any w ⟨(⟨(n0 : Int), (n1 : Int), (n2 : Int), [], (c0 : Int)⟩ : EntD), none, 0⟩ (sl8_nil w) false hR) rfl rfl rfl) ?_; rintro ⟨⟩
          refine h_q hflS rfl ?_
          refine h_done (d_then rfl ?_)
          refine d_nilvec 5 1 encB ?_
          refine d_reg ?_
          refine h_q hflS rfl ?_
          refine h_val rfl (.agg #[.int .i64 0, .int .u64 0, .int .u64 0, .slice none 0 0, .int .i64 0]) (fun b w hb hH => exec_build rfl rfl (by kernel_rfl) hb) ?_
          refine h_acts (post := fun _ => [Vec 5 1 encB (.slice none 0 0) ([]), cell g5 34 #[.int .i64 (n0 : Int), .int .u64 (n1 : Int), .int .u64 (n2 : Int), .slice none 0 0, .int .i64 (c0 : Int)], RdT g l3 f3, cell g2 34 #[.int .i64 0, .int .u64 0, .int .u64 0, .slice none 0 0, .int .i64 0]]) rfl rfl (a_store 3 (v := .agg #[.int .i64 0, .int .u64 0, .int .u64 0, .slice none 0 0, .int .i64 0]) #[.int .i64 0, .int .u64 0, .int .u64 0, .slice none 0 0, .int .i64 0] tyEn.2 rfl rfl rfl rfl rfl rfl rfl rfl rfl) ?_; rintro ⟨⟩
          refine h_q hflS rfl ?_
          refine h_done (d_ret (fTr ?_))
          exact f_fin2 (.cell 3 (v := .agg #[.int .i64 0, .int .u64 0, .int .u64 0, .slice none 0 0, .int .i64 0]) (rAg (cs := [.int .i64 0, .int .u64 0, .int .u64 0, .slice none 0 0, .int .i64 0]) tyEn rfl) rfl rfl) (.tmp rfl) (fun w h => tells (⟨none, 0⟩) rfl [0] rfl h sPr) rfl
      · skip
        obtain ⟨rfl, rfl⟩ := decE_is (decE_bad h16 hread hf) hD
        refine d_reg ?_
        refine h_q hflS rfl ?_
        refine h_act (post := fun _ => [cell g5 34 #[.int .i64 (n0 : Int), .int .u64 (n1 : Int), .int .u64 (n2 : Int), .slice none 0 0, .int .i64 (c0 : Int)], RdT g l3 f3, cell g2 34 #[.int .i64 0, .int .u64 0, .int .u64 0, .slice none 0 0, .int .i64 0]]) rfl (a_does (os' := fun _ => [cell g5 34 #[.int .i64 (n0 : Int), .int .u64 (n1 : Int), .int .u64 (n2 : Int), .slice none 0 0, .int .i64 (c0 : Int)], RdT g l3 f3, cell g2 34 #[.int .i64 0, .int .u64 0, .int .u64 0, .slice none 0 0, .int .i64 0]]) [1] 0 (ent_of Tryz.func170 (by kernel_rfl) rfl) (rd_end g l3 f3 (rend l3 f3) rfl) rfl rfl rfl (fun _ => rfl) rfl rfl rfl) ?_; rintro ⟨⟩
        refine h_q hflS rfl ?_
        refine h_done (d_reg ?_)
        refine h_q hflS rfl ?_
        refine h_val rfl (.bool true) (fun b w hb hH => xCm rfl rfl rfl (cmp_neq_t (by omega)) hb) ?_
        refine h_done (d_then rfl ?_)
        refine d_nilvec 5 1 encB ?_
        refine d_reg ?_
        refine h_q hflS rfl ?_
        refine h_val rfl (.agg #[.int .i64 0, .int .u64 0, .int .u64 0, .slice none 0 0, .int .i64 0]) (fun b w hb hH => exec_build rfl rfl (by kernel_rfl) hb) ?_
        refine h_q hflS rfl ?_
        refine h_acts (post := fun _ => [Vec 5 1 encB (.slice none 0 0) ([]), cell g5 34 #[.int .i64 (n0 : Int), .int .u64 (n1 : Int), .int .u64 (n2 : Int), .slice none 0 0, .int .i64 (c0 : Int)], RdT g l3 f3, cell g2 34 #[.int .i64 0, .int .u64 0, .int .u64 0, .slice none 0 0, .int .i64 0]]) rfl rfl (a_store 3 (v := .agg #[.int .i64 0, .int .u64 0, .int .u64 0, .slice none 0 0, .int .i64 0]) #[.int .i64 0, .int .u64 0, .int .u64 0, .slice none 0 0, .int .i64 0] tyEn.2 rfl rfl rfl rfl rfl rfl rfl rfl rfl) ?_; rintro ⟨⟩
        refine h_q hflS rfl ?_
        refine h_done (d_ret (fTr ?_))
        exact f_fin2 (.cell 3 (v := .agg #[.int .i64 0, .int .u64 0, .int .u64 0, .slice none 0 0, .int .i64 0]) (rAg (cs := [.int .i64 0, .int .u64 0, .int .u64 0, .slice none 0 0, .int .i64 0]) tyEn rfl) rfl rfl) (.tmp rfl) (fun w h => tells (⟨none, 0⟩) rfl [0] rfl h sPr) rfl
    · skip
      have h3 := rtail_else l2 f2 hk hk2
      have hread := readE_of h0 h1 h2 h3
      refine d_reg ?_
      refine h_q hflS rfl ?_
      refine h_val rfl (.bool false) (fun b w hb hH => xCm rfl rfl rfl (cEf (by omega)) hb) ?_
      refine h_q hflS rfl ?_
      refine h_done (d_else rfl (d_reg ?_))
      refine h_q hflS rfl ?_
      refine h_val rfl (.bool false) (fun b w hb hH => xCm rfl rfl rfl (cEf (by omega)) hb) ?_
      refine h_q hflS rfl ?_
      refine h_done (d_else rfl (d_skip (f_block (f_to (d_seq ?_)))))
      by_cases hf : rend l2 f2 = 0
      · skip
        refine d_reg ?_
        refine h_q hflS rfl ?_
        refine h_act (post := fun _ => [cell g5 34 #[.int .i64 (n0 : Int), .int .u64 (n1 : Int), .int .u64 (n2 : Int), .slice none 0 0, .int .i64 0], RdT g l2 f2, cell g2 34 #[.int .i64 0, .int .u64 0, .int .u64 0, .slice none 0 0, .int .i64 0]]) rfl (a_does (os' := fun _ => [cell g5 34 #[.int .i64 (n0 : Int), .int .u64 (n1 : Int), .int .u64 (n2 : Int), .slice none 0 0, .int .i64 0], RdT g l2 f2, cell g2 34 #[.int .i64 0, .int .u64 0, .int .u64 0, .slice none 0 0, .int .i64 0]]) [1] 0 (ent_of Tryz.func170 (by kernel_rfl) rfl) (rd_end g l2 f2 0 hf) rfl rfl rfl (fun _ => rfl) rfl rfl rfl) ?_; rintro ⟨⟩
        refine h_q hflS rfl ?_
        refine h_done (d_reg ?_)
        refine h_q hflS rfl ?_
        refine h_val rfl (.bool false) (fun b w hb hH => xCm rfl rfl rfl (cmp_neq_f rfl) hb) ?_
        refine h_done (d_else rfl (d_skip (f_to (d_seq ?_))))
        rcases Bool.eq_false_or_eq_true (rightE (⟨(n0 : Int), (n1 : Int), (n2 : Int), [], ((0 : Nat) : Int)⟩ : EntD)) with hR | hR
        · skip
          obtain ⟨rfl, rfl⟩ := decE_is (decE_right h16 hread hf hR) hD
          refine d_reg ?_
          refine h_q hflS rfl ?_
          refine h_val rfl (.agg #[.int .i64 (n0 : Int), .int .u64 (n1 : Int), .int .u64 (n2 : Int), .slice none 0 0, .int .i64 0]) (fun b w hb hH => xLd rfl rfl (rAg (cs := [.int .i64 (n0 : Int), .int .u64 (n1 : Int), .int .u64 (n2 : Int), .slice none 0 0, .int .i64 0]) tyEn rfl) (hH.row 0 rfl) hb) ?_
          refine h_act (post := fun _ => [cell g5 34 #[.int .i64 (n0 : Int), .int .u64 (n1 : Int), .int .u64 (n2 : Int), .slice none 0 0, .int .i64 0], RdT g l2 f2, cell g2 34 #[.int .i64 0, .int .u64 0, .int .u64 0, .slice none 0 0, .int .i64 0]]) rfl (a_call (ent_of Tryz.func44 (by kernel_rfl) rfl) (fun w hH => rightE_any w ⟨(⟨(n0 : Int), (n1 : Int), (n2 : Int), [], ((0 : Nat) : Int)⟩ : EntD), none, 0⟩ (sl8_nil w) true hR) rfl rfl rfl) ?_; rintro ⟨⟩
          refine h_q hflS rfl ?_
          refine h_done (d_else rfl (d_skip (f_to ?_)))
          refine d_nilvec 5 1 encB ?_
          refine d_reg ?_
          refine h_q hflS rfl ?_
          refine h_val rfl (.agg #[.int .i64 (n0 : Int), .int .u64 (n1 : Int), .int .u64 (n2 : Int), .slice none 0 0, .int .i64 0]) (fun b w hb hH => xLd rfl rfl (rAg (cs := [.int .i64 (n0 : Int), .int .u64 (n1 : Int), .int .u64 (n2 : Int), .slice none 0 0, .int .i64 0]) tyEn rfl) (hH.row 1 rfl) hb) ?_
          refine h_acts (post := fun _ => [Vec 5 1 encB (.slice none 0 0) ([]), cell g5 34 #[.int .i64 (n0 : Int), .int .u64 (n1 : Int), .int .u64 (n2 : Int), .slice none 0 0, .int .i64 0], RdT g l2 f2, cell g2 34 #[.int .i64 (n0 : Int), .int .u64 (n1 : Int), .int .u64 (n2 : Int), .slice none 0 0, .int .i64 0]]) rfl rfl (a_store 3 (v := .agg #[.int .i64 (n0 : Int), .int .u64 (n1 : Int), .int .u64 (n2 : Int), .slice none 0 0, .int .i64 0]) #[.int .i64 (n0 : Int), .int .u64 (n1 : Int), .int .u64 (n2 : Int), .slice none 0 0, .int .i64 0] tyEn.2 rfl rfl rfl rfl rfl rfl rfl rfl rfl) ?_; rintro ⟨⟩
          refine h_q hflS rfl ?_
          refine h_done (d_ret ?_)
          exact f_fin2 (.cell 3 (v := .agg #[.int .i64 (n0 : Int), .int .u64 (n1 : Int), .int .u64 (n2 : Int), .slice none 0 0, .int .i64 0]) (rAg (cs := [.int .i64 (n0 : Int), .int .u64 (n1 : Int), .int .u64 (n2 : Int), .slice none 0 0, .int .i64 0]) tyEn rfl) rfl rfl) (.tmp rfl) (fun w h => tells (⟨none, 0⟩) rfl [0] rfl h sPr) rfl
        · skip
          obtain ⟨rfl, rfl⟩ := decE_is (decE_wrong h16 hread hf hR) hD
          refine d_reg ?_
          refine h_q hflS rfl ?_
          refine h_val rfl (.agg #[.int .i64 (n0 : Int), .int .u64 (n1 : Int), .int .u64 (n2 : Int), .slice none 0 0, .int .i64 0]) (fun b w hb hH => xLd rfl rfl (rAg (cs := [.int .i64 (n0 : Int), .int .u64 (n1 : Int), .int .u64 (n2 : Int), .slice none 0 0, .int .i64 0]) tyEn rfl) (hH.row 0 rfl) hb) ?_
          refine h_act (post := fun _ => [cell g5 34 #[.int .i64 (n0 : Int), .int .u64 (n1 : Int), .int .u64 (n2 : Int), .slice none 0 0, .int .i64 0], RdT g l2 f2, cell g2 34 #[.int .i64 0, .int .u64 0, .int .u64 0, .slice none 0 0, .int .i64 0]]) rfl (a_call (ent_of Tryz.func44 (by kernel_rfl) rfl) (fun w hH => rightE_any w ⟨(⟨(n0 : Int), (n1 : Int), (n2 : Int), [], ((0 : Nat) : Int)⟩ : EntD), none, 0⟩ (sl8_nil w) false hR) rfl rfl rfl) ?_; rintro ⟨⟩
          refine h_q hflS rfl ?_
          refine h_done (d_then rfl ?_)
          refine d_nilvec 5 1 encB ?_
          refine d_reg ?_
          refine h_q hflS rfl ?_
          refine h_val rfl (.agg #[.int .i64 0, .int .u64 0, .int .u64 0, .slice none 0 0, .int .i64 0]) (fun b w hb hH => exec_build rfl rfl (by kernel_rfl) hb) ?_
          refine h_acts (post := fun _ => [Vec 5 1 encB (.slice none 0 0) ([]), cell g5 34 #[.int .i64 (n0 : Int), .int .u64 (n1 : Int), .int .u64 (n2 : Int), .slice none 0 0, .int .i64 0], RdT g l2 f2, cell g2 34 #[.int .i64 0, .int .u64 0, .int .u64 0, .slice none 0 0, .int .i64 0]]) rfl rfl (a_store 3 (v := .agg #[.int .i64 0, .int .u64 0, .int .u64 0, .slice none 0 0, .int .i64 0]) #[.int .i64 0, .int .u64 0, .int .u64 0, .slice none 0 0, .int .i64 0] tyEn.2 rfl rfl rfl rfl rfl rfl rfl rfl rfl) ?_; rintro ⟨⟩
          refine h_q hflS rfl ?_
          refine h_done (d_ret (fTr ?_))
          exact f_fin2 (.cell 3 (v := .agg #[.int .i64 0, .int .u64 0, .int .u64 0, .slice none 0 0, .int .i64 0]) (rAg (cs := [.int .i64 0, .int .u64 0, .int .u64 0, .slice none 0 0, .int .i64 0]) tyEn rfl) rfl rfl) (.tmp rfl) (fun w h => tells (⟨none, 0⟩) rfl [0] rfl h sPr) rfl
      · skip
        obtain ⟨rfl, rfl⟩ := decE_is (decE_bad h16 hread hf) hD
        refine d_reg ?_
        refine h_q hflS rfl ?_
        refine h_act (post := fun _ => [cell g5 34 #[.int .i64 (n0 : Int), .int .u64 (n1 : Int), .int .u64 (n2 : Int), .slice none 0 0, .int .i64 0], RdT g l2 f2, cell g2 34 #[.int .i64 0, .int .u64 0, .int .u64 0, .slice none 0 0, .int .i64 0]]) rfl (a_does (os' := fun _ => [cell g5 34 #[.int .i64 (n0 : Int), .int .u64 (n1 : Int), .int .u64 (n2 : Int), .slice none 0 0, .int .i64 0], RdT g l2 f2, cell g2 34 #[.int .i64 0, .int .u64 0, .int .u64 0, .slice none 0 0, .int .i64 0]]) [1] 0 (ent_of Tryz.func170 (by kernel_rfl) rfl) (rd_end g l2 f2 (rend l2 f2) rfl) rfl rfl rfl (fun _ => rfl) rfl rfl rfl) ?_; rintro ⟨⟩
        refine h_q hflS rfl ?_
        refine h_done (d_reg ?_)
        refine h_q hflS rfl ?_
        refine h_val rfl (.bool true) (fun b w hb hH => xCm rfl rfl rfl (cmp_neq_t (by omega)) hb) ?_
        refine h_done (d_then rfl ?_)
        refine d_nilvec 5 1 encB ?_
        refine d_reg ?_
        refine h_q hflS rfl ?_
        refine h_val rfl (.agg #[.int .i64 0, .int .u64 0, .int .u64 0, .slice none 0 0, .int .i64 0]) (fun b w hb hH => exec_build rfl rfl (by kernel_rfl) hb) ?_
        refine h_q hflS rfl ?_
        refine h_acts (post := fun _ => [Vec 5 1 encB (.slice none 0 0) ([]), cell g5 34 #[.int .i64 (n0 : Int), .int .u64 (n1 : Int), .int .u64 (n2 : Int), .slice none 0 0, .int .i64 0], RdT g l2 f2, cell g2 34 #[.int .i64 0, .int .u64 0, .int .u64 0, .slice none 0 0, .int .i64 0]]) rfl rfl (a_store 3 (v := .agg #[.int .i64 0, .int .u64 0, .int .u64 0, .slice none 0 0, .int .i64 0]) #[.int .i64 0, .int .u64 0, .int .u64 0, .slice none 0 0, .int .i64 0] tyEn.2 rfl rfl rfl rfl rfl rfl rfl rfl rfl) ?_; rintro ⟨⟩
        refine h_q hflS rfl ?_
        refine h_done (d_ret (fTr ?_))
        exact f_fin2 (.cell 3 (v := .agg #[.int .i64 0, .int .u64 0, .int .u64 0, .slice none 0 0, .int .i64 0]) (rAg (cs := [.int .i64 0, .int .u64 0, .int .u64 0, .slice none 0 0, .int .i64 0]) tyEn rfl) rfl rfl) (.tmp rfl) (fun w h => tells (⟨none, 0⟩) rfl [0] rfl h sPr) rfl
theorem samee_true (w : World) (x y : EntV) (hx : Sl8 w x.v x.e.d) (hy : Sl8 w y.v y.e.d) (h : x.e = y.e) : Calls Tryz.prog 87 #[.agg #[.int .i64 x.e.k, .int .u64 x.e.t, .int .u64 x.e.i, x.v, .int .i64 x.e.c], .agg #[.int .i64 y.e.k, .int .u64 y.e.t, .int .u64 y.e.i, y.v, .int .i64 y.e.c]] w fun e w' => e = .returned (.bool true) ∧ Below w.heap.size w w' := by
 refine d_in (args := [.agg #[.int .i64 x.e.k, .int .u64 x.e.t, .int .u64 x.e.i, x.v, .int .i64 x.e.c], .agg #[.int .i64 y.e.k, .int .u64 y.e.t, .int .u64 y.e.i, y.v, .int .i64 y.e.c]]) 40 Tryz.func87 rfl rfl rfl ?_
 refine d_reg ?_
 refine h_q hflS rfl ?_
 refine h_act (post := fun gx => [cell gx 34 #[.int .i64 x.e.k, .int .u64 x.e.t, .int .u64 x.e.i, x.v, .int .i64 x.e.c]]) rfl (a_box (cs := #[.int .i64 x.e.k, .int .u64 x.e.t, .int .u64 x.e.i, x.v, .int .i64 x.e.c]) rfl rfl rfl) ?_; rintro gx
 refine h_act (post := fun gy => [cell gy 34 #[.int .i64 y.e.k, .int .u64 y.e.t, .int .u64 y.e.i, y.v, .int .i64 y.e.c], cell gx 34 #[.int .i64 x.e.k, .int .u64 x.e.t, .int .u64 x.e.i, x.v, .int .i64 x.e.c]]) rfl (a_box (cs := #[.int .i64 y.e.k, .int .u64 y.e.t, .int .u64 y.e.i, y.v, .int .i64 y.e.c]) rfl rfl rfl) ?_; rintro gy
 refine h_q hflS rfl ?_
 refine h_done (d_reg ?_)
 refine h_q hflS rfl ?_
 refine h_val rfl (.int .i64 x.e.k) (fun b w hb hH => xLd rfl rfl (rOn ty_int rfl) (hH.row 1 rfl) hb) ?_
 refine h_q hflS rfl ?_
 refine h_val rfl (.int .i64 y.e.k) (fun b w hb hH => xLd rfl rfl (rOn ty_int rfl) (hH.row 0 rfl) hb) ?_
 refine h_val rfl (.bool true) (fun b w hb hH => xCm rfl rfl rfl (cEt (by rw [h])) hb) ?_
 refine h_q hflS rfl ?_
 refine h_val rfl (.int .u64 x.e.t) (fun b w hb hH => xLd rfl rfl (rOn ty_uint64 rfl) (hH.row 1 rfl) hb) ?_
 refine h_q hflS rfl ?_
 refine h_val rfl (.int .u64 y.e.t) (fun b w hb hH => xLd rfl rfl (rOn ty_uint64 rfl) (hH.row 0 rfl) hb) ?_
 refine h_val rfl (.bool true) (fun b w hb hH => xCm rfl rfl rfl (cEt (by rw [h])) hb) ?_
 refine h_q hflS rfl ?_
 refine h_val rfl (.int .u64 x.e.i) (fun b w hb hH => xLd rfl rfl (rOn ty_uint64 rfl) (hH.row 1 rfl) hb) ?_
 refine h_q hflS rfl ?_
 refine h_val rfl (.int .u64 y.e.i) (fun b w hb hH => xLd rfl rfl (rOn ty_uint64 rfl) (hH.row 0 rfl) hb) ?_
 refine h_val rfl (.bool true) (fun b w hb hH => xCm rfl rfl rfl (cEt (by rw [h])) hb) ?_
 refine h_q hflS rfl ?_
 refine h_val rfl (x.v) (fun b w hb hH => xLd rfl rfl (rOn tyS8 rfl) (hH.row 1 rfl) hb) ?_
 refine h_val rfl (.string (bs x.e.d)) (fun b w hb hH => exec_str8 Tryz.underlying30 Tryz.underlying5 (by kernel_rfl) Tryz.underlying9 (arg80 hx hH) rfl rfl hb) ?_
 refine h_q hflS rfl ?_
 refine h_val rfl (y.v) (fun b w hb hH => xLd rfl rfl (rOn tyS8 rfl) (hH.row 0 rfl) hb) ?_
 refine h_val rfl (.string (bs y.e.d)) (fun b w hb hH => exec_str8 Tryz.underlying30 Tryz.underlying5 (by kernel_rfl) Tryz.underlying9 (arg80 hy hH) rfl rfl hb) ?_
 refine h_val rfl (.bool true) (fun b w hb hH => exec_same rfl rfl rfl (by rw [h]; simp) hb) ?_
 refine h_q hflS rfl ?_
 refine h_val rfl (.int .i64 x.e.c) (fun b w hb hH => xLd rfl rfl (rOn ty_int rfl) (hH.row 1 rfl) hb) ?_
 refine h_q hflS rfl ?_
 refine h_val rfl (.int .i64 y.e.c) (fun b w hb hH => xLd rfl rfl (rOn ty_int rfl) (hH.row 0 rfl) hb) ?_
 refine h_val rfl (.bool true) (fun b w hb hH => xCm rfl rfl rfl (cEt (by rw [h])) hb) ?_
 refine h_q hflS rfl ?_
 refine h_done (d_ret ?_)
 exact f_fin1 (.tmp rfl) (fun w h => ⟨rfl, below0 h.up⟩) rfl
theorem copye_does (u : World) (v : Value) (l : List EntV) (hv : EntsRd u v l) (hl : l.length * 56 ≤ 140737488351232) (hd : ∀ x, x ∈ l → x.e.d.length ≤ 140737488351232) : DoesU u Tryz.prog 34 #[v] [] (fun (x : EsV) => x.v) (fun (x : EsV) => [Ents 34 x.v x.l, fact (x.l.map (·.e) = l.map (·.e))]) := by
  refine d_insU (args := [v]) 29 Tryz.func34 rfl rfl rfl ?_; intro w rs hU hS
  refine d_reg ?_
  refine h_q hflS rfl ?_
  refine h_done (d_reg ?_)
  refine h_q hflS rfl ?_
  refine h_done (d_seq (d_reg ?_))
  refine h_q hflS rfl ?_
  refine h_done (d_block ?_)
  refine d_new (t := Ents 34 (.slice none 0 0) ([])) (entsT_nil) ?_
  refine d_loop (α := Nat × List EntV × Value) (fun ⟨i, L, ev⟩ => [(0, v), (2, .slice none 0 0), (3, ev), (4, .int .i64 ((i : Nat) : Int))]) (fun ⟨i, L, ev⟩ => [Ents 34 ev L]) (fun ⟨i, L, ev⟩ => i ≤ l.length ∧ L.map (·.e) = (l.take i).map (·.e)) (fun ⟨i, L, ev⟩ => l.length - i) (0, [], .slice none 0 0) ⟨Nat.zero_le _, rfl⟩ ⟨rfl, rfl, rfl, rfl, trivial⟩ rfl ?_
  rintro ⟨i, L, ev⟩ hI
  refine WC2.at_ (env' := [(0, v), (2, .slice none 0 0), (3, ev), (4, .int .i64 ((i : Nat) : Int))]) (rs' := [Ents 34 ev L]) ⟨rfl, rfl, rfl, rfl, trivial⟩ rfl ?_
  have hI1 : i ≤ l.length := hI.1
  have hI2 : L.map (·.e) = (l.take i).map (·.e) := hI.2
  have hLl : L.length = i := by have := congrArg List.length hI2; rw [List.length_map, List.length_map, List.length_take] at this; omega
  refine d_seq ?_
  rcases Nat.lt_or_ge i l.length with hi | hi
  · skip
    obtain ⟨x, hx⟩ : ∃ x, l[i]? = some x := ⟨_, List.getElem?_eq_getElem hi⟩
    have hm := List.mem_of_getElem? hx
    have hdx := hd x hm
    refine d_reg ?_
    refine h_q hflS rfl ?_
    refine h_val rfl (.int .i64 (l.length : Int)) (fun b w hb hH => e_slen ((argEs hv hU hS hH).1) Tryz.underlying52 rfl rfl hb) ?_
    refine h_val rfl (.bool true) (fun b w hb hH => xCm rfl rfl rfl (cmp_lss_t (by omega)) hb) ?_
    refine h_done (d_then rfl (d_skip (f_to (d_seq (d_block ?_)))))
    refine d_open 0 rfl ents_open (fun _ => rfl) ?_; rintro ⟨⟩
    refine d_reg ?_
    refine h_q hflS rfl ?_
    refine h_val rfl (elp v (i * 5)) (fun b w hb hH => e_sidx okV ((argEs hv hU hS hH).1) sl_api_Entry (j := i) hx rfl rfl rfl hb) ?_
    refine h_val rfl (.agg (encV x).toArray) (fun b w hb hH => e_sagg okV (by decide) ((argEs hv hU hS hH).1) (j := i) hx tyEn rfl rfl hb) ?_
    refine h_act (post := fun g5 => [cell g5 34 #[.int .i64 0, .int .u64 0, .int .u64 0, .slice none 0 0, .int .i64 0], Vec 34 5 encV ev L, Each (fun x : EntV => Vec 5 1 encB x.v x.e.d) L]) rfl (a_alloc ze_api_Entry rfl) ?_; rintro g5
    refine h_acts (post := fun _ => [cell g5 34 #[.int .i64 x.e.k, .int .u64 x.e.t, .int .u64 x.e.i, x.v, .int .i64 x.e.c], Vec 34 5 encV ev L, Each (fun x : EntV => Vec 5 1 encB x.v x.e.d) L]) rfl rfl (a_store 0 (v := .agg (encV x).toArray) #[.int .i64 x.e.k, .int .u64 x.e.t, .int .u64 x.e.i, x.v, .int .i64 x.e.c] tyEn.2 rfl rfl rfl rfl rfl rfl rfl rfl rfl) ?_; rintro ⟨⟩
    refine h_done (d_reg ?_)
    refine h_q hflS rfl ?_
    refine h_act (X := Value) (val := fun v : Value => v) (post := fun d0 => [Vec 5 1 encB d0 ([]), cell g5 34 #[.int .i64 x.e.k, .int .u64 x.e.t, .int .u64 x.e.i, x.v, .int .i64 x.e.c], Vec 34 5 encV ev L, Each (fun x : EntV => Vec 5 1 encB x.v x.e.d) L]) rfl (by refine a_build0 (e := 5) (t := 30) (k := 1) (enc := encB) ?_ ?_; exact sl_uint8; exact rfl) ?_; rintro d0
    refine h_q hflS rfl ?_
    refine h_val rfl (elp v (i * 5)) (fun b w hb hH => e_sidx okV ((argEs hv hU hS hH).1) sl_api_Entry (j := i) hx rfl rfl rfl hb) ?_
    refine h_val rfl (elp v (i * 5 + 3)) (fun b w hb hH => eSf okV (by decide) ((argEs hv hU hS hH).1) (j := i) hx fd_api_Entry_3 rfl rfl hb) ?_
    refine h_val rfl (x.v) (fun b w hb hH => e_sload okV (by decide) ((argEs hv hU hS hH).1) (j := i) hx tyS8 (off := 3) rfl rfl rfl hb) ?_
    refine h_act (post := fun d1 => [Vec 5 1 encB d1 x.e.d, cell g5 34 #[.int .i64 x.e.k, .int .u64 x.e.t, .int .u64 x.e.i, x.v, .int .i64 x.e.c], Vec 34 5 encV ev L, Each (fun x : EntV => Vec 5 1 encB x.v x.e.d) L]) rfl (a_append8 0 sl_uint8 (by kernel_rfl) rfl (x.e.d) (fun w hH => (arg8 (hv.2 x hm) hU hS hH).rd) (by simp only [List.length_nil]; omega) rfl rfl rfl (List.nil_append _)) ?_; rintro d1
    refine h_q hflS rfl ?_
    refine h_acts (post := fun _ => [Vec 5 1 encB d1 x.e.d, cell g5 34 #[.int .i64 x.e.k, .int .u64 x.e.t, .int .u64 x.e.i, d1, .int .i64 x.e.c], Vec 34 5 encV ev L, Each (fun x : EntV => Vec 5 1 encB x.v x.e.d) L]) rfl rfl (a_storev 1 0 (v := d1) #[.int .i64 x.e.k, .int .u64 x.e.t, .int .u64 x.e.i, d1, .int .i64 x.e.c] tyS8.2 rfl (fun _ h => Vec.c1 h) rfl rfl rfl rfl rfl rfl rfl) ?_; rintro ⟨⟩
    refine h_done ?_
    refine WC2.fact 0 rfl (fun _ h => Vec.is h) ?_; rintro ⟨A3, c3, rfl⟩
    refine WC2.keep (env' := [(0, v), (2, .slice none 0 0), (3, ev), (4, .int .i64 ((i : Nat) : Int)), (6, .int .i64 ((i : Nat) : Int)), (7, v), (8, .int .i64 (l.length : Int)), (9, .bool true), (12, v), (13, .int .i64 ((i : Nat) : Int)), (14, elp v (i * 5)), (15, .agg (encV x).toArray), (5, .pointer (some ⟨g5, 0, none⟩)), (16, d0), (17, v), (18, .int .i64 ((i : Nat) : Int)), (19, elp v (i * 5)), (20, elp v (i * 5 + 3)), (21, x.v), (22, .slice A3 x.e.d.length c3), (23, .pointer (some ⟨g5, 3, none⟩))]) ⟨rfl, rfl, rfl, rfl, rfl, rfl, rfl, rfl, rfl, rfl, rfl, rfl, rfl, rfl, rfl, rfl, rfl, rfl, rfl, rfl, rfl, trivial⟩ ?_
    refine WC2.mid [Vec 5 1 encB (.slice A3 x.e.d.length c3) x.e.d, cell g5 34 #[.int .i64 x.e.k, .int .u64 x.e.t, .int .u64 x.e.i, .slice A3 x.e.d.length c3, .int .i64 x.e.c], Vec 34 5 encV ev L, Each (fun x : EntV => Vec 5 1 encB x.v x.e.d) L] (.refl _) ?_
    refine d_reg1 ?_
    refine h_q hflS rfl ?_
    refine h_val rfl (.agg #[.int .i64 x.e.k, .int .u64 x.e.t, .int .u64 x.e.i, .slice A3 x.e.d.length c3, .int .i64 x.e.c]) (fun b w hb hH => xLd rfl rfl (rAg (cs := [.int .i64 x.e.k, .int .u64 x.e.t, .int .u64 x.e.i, .slice A3 x.e.d.length c3, .int .i64 x.e.c]) tyEn rfl) (hH.row 1 rfl) hb) ?_
    refine h_act (X := Value) (val := fun v : Value => v) (post := fun u1 => [Vec 34 5 encV u1 ([(⟨x.e, A3, c3⟩ : EntV)]), Vec 5 1 encB (.slice A3 x.e.d.length c3) x.e.d, cell g5 34 #[.int .i64 x.e.k, .int .u64 x.e.t, .int .u64 x.e.i, .slice A3 x.e.d.length c3, .int .i64 x.e.c], Vec 34 5 encV ev L, Each (fun x : EntV => Vec 5 1 encB x.v x.e.d) L]) rfl (by refine a_buildK (e := 34) (t := 52) (k := 5) (enc := encV) (x := .tmp 25) (c := .agg #[.int .i64 x.e.k, .int .u64 x.e.t, .int .u64 x.e.i, .slice A3 x.e.d.length c3, .int .i64 x.e.c]) ?_ ?_ ?_ (⟨x.e, A3, c3⟩ : EntV) ?_ ?_ ?_; exact sl_api_Entry; exact (by decide); exact okV; exact rfl; exact rfl; exact rfl) ?_; rintro u1
    refine h_act (post := fun ev2 => [Vec 34 5 encV u1 ([(⟨x.e, A3, c3⟩ : EntV)]), Vec 5 1 encB (.slice A3 x.e.d.length c3) x.e.d, cell g5 34 #[.int .i64 x.e.k, .int .u64 x.e.t, .int .u64 x.e.i, .slice A3 x.e.d.length c3, .int .i64 x.e.c], Vec 34 5 encV ev2 (L ++ [(⟨x.e, A3, c3⟩ : EntV)]), Each (fun x : EntV => Vec 5 1 encB x.v x.e.d) L]) rfl (a_appendK (nb := 56) 3 sl_api_Entry okV (by kernel_rfl) (by decide) rfl ([(⟨x.e, A3, c3⟩ : EntV)]) (fun w hH => hH.vec 0 rfl okV) (by simp only [List.length_cons, List.length_nil]; omega) rfl rfl rfl rfl) ?_; rintro ev2
    refine h_q hflS rfl ?_
    refine h_nil (f_block (f_to ?_))
    refine WC2.leave [0, 2] rfl rfl ?_
    refine d_close [1, 2, 0] rfl ents_push rfl ?_
    refine d_reg1 ?_
    refine h_q hflS rfl ?_
    refine h_val rfl (.int .i64 ((i + 1 : Nat) : Int)) (fun b w hb hH => exec_ar rfl rfl rfl rfl (by rw [IntWalk.i64_in _ (by omega)]; omega) hb) ?_
    refine h_q hflS rfl ?_
    refine h_nil ?_
    exact f_again (i + 1, L ++ [(⟨x.e, A3, c3⟩ : EntV)], ev2) 0 ⟨hi, by rw [List.map_append, hI2, List.take_add_one, hx, List.map_append]; rfl⟩ (show l.length - (i + 1) < l.length - i by omega) ⟨rfl, rfl, rfl, rfl, trivial⟩ rfl
  · skip
    refine d_reg ?_
    refine h_q hflS rfl ?_
    refine h_val rfl (.int .i64 (l.length : Int)) (fun b w hb hH => e_slen ((argEs hv hU hS hH).1) Tryz.underlying52 rfl rfl hb) ?_
    refine h_val rfl (.bool false) (fun b w hb hH => xCm rfl rfl rfl (cmp_lss_f (by omega)) hb) ?_
    refine h_done (d_else rfl (d_exit (fTe (fTe (f_block_exit (f_to (d_reg ?_)))))))
    refine h_q hflS rfl ?_
    refine h_done (d_ret ?_)
    exact f_fin1 (.tmp rfl) (fun w h => tells (⟨ev, L⟩ : EsV) rfl [0] rfl h (fun z hz => ⟨z, .refl _, fact_add (xs := [_]) (show L.map (·.e) = l.map (·.e) by rw [hI2, List.take_of_length_le hi]) hz⟩)) rfl
end Go.Proofs.YtaipejaeeohpkaaGreatDoor.Sep
namespace Go.Proofs.YtaipejaeeohpkaaGreatDoor.Sep
open Go.RowKit
open Go.Proofs.YtaipejaeeohpkaaGreatDoor.Mem (Dist Blk Chg below0)
end Go.Proofs.YtaipejaeeohpkaaGreatDoor.Sep
namespace Go.Proofs.YtaipejaeeohpkaaGreatDoor.Sep
open Go.RowKit
def OpD.size : OpD → Nat
  | .app _ b => b.length
  | _ => 0
def DiskD.fit (d : DiskD) : Prop := usedF d.syn + (d.wait.map OpD.size).sum ≤ 1099511627776 ∧ d.wait.length ≤ 10000
def ShortL (m n : Nat) (L : List (List UInt8)) : Prop := L.length ≤ m ∧ ∀ b, b ∈ L → b.length ≤ n
theorem flat_le {n : Nat} : ∀ {L : List (List UInt8)}, (∀ b, b ∈ L → b.length ≤ n) → L.flatten.length ≤ L.length * n
  | [], _ => by simp
  | b :: r, h => by
    have h1 := h b (List.mem_cons_self ..)
    have h2 := flat_le (L := r) fun c hc => h c (List.mem_cons_of_mem _ hc)
    rw [List.flatten_cons, List.length_append, List.length_cons, Nat.succ_mul]
    omega
theorem ShortL.flat {m n : Nat} {L : List (List UInt8)} (h : ShortL m n L) : L.flatten.length ≤ m * n := Nat.le_trans (flat_le h.2) (Nat.mul_le_mul_right n h.1)
theorem ShortL.take {m n : Nat} {L : List (List UInt8)} (h : ShortL m n L) (i : Nat) : ShortL m n (L.take i) := ⟨by have := h.1; rw [List.length_take]; omega, fun b hb => h.2 b (List.mem_of_mem_take hb)⟩
def encKs (s : List UInt8) : List Value := [.string (bs s)]
end Go.Proofs.YtaipejaeeohpkaaGreatDoor.Sep
