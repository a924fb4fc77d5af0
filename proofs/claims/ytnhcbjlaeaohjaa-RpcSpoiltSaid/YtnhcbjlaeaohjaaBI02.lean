/-
  RpcS
-/
import Derived.Test.YtnhcbjlaeaohjaaBI01
set_option linter.unusedSimpArgs false
set_option linter.unusedVariables false

namespace Go.Proofs.Ytnhcbjlaeaohjaa.Sep
open Go.RowKit
open Go.Proofs.Ytnhcbjlaeaohjaa.Mem (Dist Blk Chg below0)

theorem REOk_fault {R : List EntD × List UInt8 × Nat} {x : REX} {es : List EntD} {l : List UInt8} {f : Nat} (h : REOk R x) (e : R = (es, l, f)) (hn : x.en ≠ 0) : x.en = f ∧ f ≠ 0 := by
  subst e
  rcases h with ⟨_, h, _⟩ | ⟨h0, ⟨h, _⟩ | ⟨h, _⟩⟩
  · exact absurd h hn
  · exact ⟨h, h0⟩
  · exact absurd h hn
theorem reok_end {x : REX} {es : List EntD} {l : List UInt8} {f : Nat} (h : (f = 0 ∧ x.en = 0 ∧ x.l = l ∧ x.f = 0 ∧ x.es.map (·.e) = es) ∨ (f ≠ 0 ∧ ((x.en = f ∧ x.f = 0) ∨ (x.en = 0 ∧ x.f = f)))) (hn : x.en = 0) : rend x.l x.f = rend l f ∧ (rend x.l x.f = 0 → x.es.map (·.e) = es) := by
  rcases h with ⟨h1, _, h3, h4, h5⟩ | ⟨h1, ⟨h2, h3⟩ | ⟨h2, h3⟩⟩
  · rw [h3, h4, h1]; exact ⟨rfl, fun _ => h5⟩
  · exact absurd (h2.symm.trans hn) h1
  · rw [h3]
    refine ⟨rend_stuck h1, fun h => ?_⟩
    rw [rend_fault h1] at h
    exact absurd h h1
/-- a message in its variable, its entries and bytes, and what is known of it -/
def GotM (g : Nat) (Q : MsgV → Prop) : Ass := fun rs => ∃ v : MsgV, Q v ∧ Parts [cell g 28 #[.int .i64 v.m.k, .int .i64 v.m.a, .int .i64 v.m.b, .int .u64 v.m.t, .int .u64 v.m.i, .int .u64 v.m.lt, v.ev, .int .u64 v.m.co, .bool v.m.rf, .int .u64 v.m.bi, .int .u64 v.m.bt, .int .i64 v.m.bc, .int .i64 v.m.o, v.dv, .bool v.m.la], Ents 36 v.ev v.es, Vec 5 1 encB v.dv v.m.d] rs
theorem gotM_mk {g : Nat} {Q : MsgV → Prop} (v : MsgV) (h : Q v) : ∀ rs, Parts [cell g 28 #[.int .i64 v.m.k, .int .i64 v.m.a, .int .i64 v.m.b, .int .u64 v.m.t, .int .u64 v.m.i, .int .u64 v.m.lt, v.ev, .int .u64 v.m.co, .bool v.m.rf, .int .u64 v.m.bi, .int .u64 v.m.bt, .int .i64 v.m.bc, .int .i64 v.m.o, v.dv, .bool v.m.la], Ents 36 v.ev v.es, Vec 5 1 encB v.dv v.m.d] rs → GotM g Q rs := fun rs hr => ⟨v, h, hr⟩
theorem gotM_open {g : Nat} {Q : MsgV → Prop} : ∀ rs, GotM g Q rs → ∃ v : MsgV, Parts [cell g 28 #[.int .i64 v.m.k, .int .i64 v.m.a, .int .i64 v.m.b, .int .u64 v.m.t, .int .u64 v.m.i, .int .u64 v.m.lt, v.ev, .int .u64 v.m.co, .bool v.m.rf, .int .u64 v.m.bi, .int .u64 v.m.bt, .int .i64 v.m.bc, .int .i64 v.m.o, v.dv, .bool v.m.la], Ents 36 v.ev v.es, Vec 5 1 encB v.dv v.m.d, fact (Q v)] rs := fun rs ⟨v, h, hr⟩ => ⟨v, fact_add (xs := [_, _, _]) h hr⟩

set_option maxHeartbeats 1000000 in
set_option maxRecDepth 100000 in
theorem rdecodeM_does (u : World) (v0 : Value) (l : List UInt8) (hv : Sl8 u v0 l) (hl : l.length ≤ 140737488355328) (m : MsgD) (en : Nat) (hD : decM l = (m, en)) : DoesU u Try.prog 33 #[v0] [] (fun (x : MsgV) => .tuple #[.agg #[.int .i64 x.m.k, .int .i64 x.m.a, .int .i64 x.m.b, .int .u64 x.m.t, .int .u64 x.m.i, .int .u64 x.m.lt, x.ev, .int .u64 x.m.co, .bool x.m.rf, .int .u64 x.m.bi, .int .u64 x.m.bt, .int .i64 x.m.bc, .int .i64 x.m.o, x.dv, .bool x.m.la], .int .i64 (en : Int)]) (fun (x : MsgV) => [Ents 36 x.ev x.es, Vec 5 1 encB x.dv x.m.d, fact (x.m = m ∧ x.m.es = x.es.map (·.e))]) := by
  refine d_insU (args := [v0]) 116 Try.func33 rfl rfl rfl ?_; intro w rs hU hS
  refine d_reg ?_
  refine h_q hflS rfl ?_
  refine h_act (post := fun g2 => [cell g2 28 #[.int .i64 0, .int .i64 0, .int .i64 0, .int .u64 0, .int .u64 0, .int .u64 0, .slice none 0 0, .int .u64 0, .bool false, .int .u64 0, .int .u64 0, .int .i64 0, .int .i64 0, .slice none 0 0, .bool false]]) rfl (a_alloc ze_api_Msg rfl) ?_; rintro g2
  refine h_q hflS rfl ?_
  refine h_done (d_seq ?_)
  by_cases h16 : 1024 < l.length
  · skip
    obtain ⟨rfl, rfl⟩ := decM_is (decM_long h16) hD
    refine d_reg ?_
    refine h_q hflS rfl ?_
    refine h_val rfl (.int .i64 (l.length : Int)) (fun b w hb hH => e_slen ((arg8 hv hU hS hH).rd) Try.underlying26 rfl rfl hb) ?_
    refine h_val rfl (.bool true) (fun b w hb hH => exec_cmp rfl rfl rfl (cmp_gtr_t (by omega)) hb) ?_
    refine h_done (d_then rfl ?_)
    refine d_new (t := Ents 36 (.slice none 0 0) ([])) (entsT_nil) ?_
    refine d_nilvec 5 1 encB ?_
    refine d_reg ?_
    refine h_q hflS rfl ?_
    refine h_val rfl (.agg #[.int .i64 0, .int .i64 0, .int .i64 0, .int .u64 0, .int .u64 0, .int .u64 0, .slice none 0 0, .int .u64 0, .bool false, .int .u64 0, .int .u64 0, .int .i64 0, .int .i64 0, .slice none 0 0, .bool false]) (fun b w hb hH => exec_build rfl rfl (by kernel_rfl) hb) ?_
    refine h_acts (post := fun _ => [Vec 5 1 encB (.slice none 0 0) ([]), Ents 36 (.slice none 0 0) ([]), cell g2 28 #[.int .i64 0, .int .i64 0, .int .i64 0, .int .u64 0, .int .u64 0, .int .u64 0, .slice none 0 0, .int .u64 0, .bool false, .int .u64 0, .int .u64 0, .int .i64 0, .int .i64 0, .slice none 0 0, .bool false]]) rfl rfl (a_store 2 (v := .agg #[.int .i64 0, .int .i64 0, .int .i64 0, .int .u64 0, .int .u64 0, .int .u64 0, .slice none 0 0, .int .u64 0, .bool false, .int .u64 0, .int .u64 0, .int .i64 0, .int .i64 0, .slice none 0 0, .bool false]) #[.int .i64 0, .int .i64 0, .int .i64 0, .int .u64 0, .int .u64 0, .int .u64 0, .slice none 0 0, .int .u64 0, .bool false, .int .u64 0, .int .u64 0, .int .i64 0, .int .i64 0, .slice none 0 0, .bool false] ty_api_Msg.2 rfl rfl rfl rfl rfl rfl rfl rfl rfl) ?_; rintro ⟨⟩
    refine h_q hflS rfl ?_
    refine h_done (d_ret (f_then_ret ?_))
    exact f_fin2 (.cell 2 (v := .agg #[.int .i64 0, .int .i64 0, .int .i64 0, .int .u64 0, .int .u64 0, .int .u64 0, .slice none 0 0, .int .u64 0, .bool false, .int .u64 0, .int .u64 0, .int .i64 0, .int .i64 0, .slice none 0 0, .bool false]) (reads_agg (cs := [.int .i64 0, .int .i64 0, .int .i64 0, .int .u64 0, .int .u64 0, .int .u64 0, .slice none 0 0, .int .u64 0, .bool false, .int .u64 0, .int .u64 0, .int .i64 0, .int .i64 0, .slice none 0 0, .bool false]) ty_api_Msg rfl) rfl rfl) (.tmp rfl) (fun w h => tells (⟨.zero, [], none, 0, none, 0⟩ : MsgV) rfl [1, 0] rfl h (fun z hz => ⟨z, .refl _, fact_add (xs := [_, _]) (show _ = _ ∧ _ = _ from ⟨rfl, rfl⟩) hz⟩)) rfl
  · skip
    obtain ⟨⟨bd, e0⟩, hu⟩ : ∃ R, unsealed l = R := ⟨_, rfl⟩
    have hbd0 := unsealed_len hu
    have hbd : bd.length ≤ 1024 := by omega
    have hbd2 : bd.length ≤ 140737488355328 := by omega
    refine d_reg ?_
    refine h_q hflS rfl ?_
    refine h_val rfl (.int .i64 (l.length : Int)) (fun b w hb hH => e_slen ((arg8 hv hU hS hH).rd) Try.underlying26 rfl rfl hb) ?_
    refine h_val rfl (.bool false) (fun b w hb hH => exec_cmp rfl rfl rfl (cmp_gtr_f (by omega)) hb) ?_
    refine h_done (d_else rfl (d_skip (f_to (d_reg ?_))))
    refine h_q hflS rfl ?_
    refine h_act (post := fun B => [Vec 5 1 encB B bd, cell g2 28 #[.int .i64 0, .int .i64 0, .int .i64 0, .int .u64 0, .int .u64 0, .int .u64 0, .slice none 0 0, .int .u64 0, .bool false, .int .u64 0, .int .u64 0, .int .i64 0, .int .i64 0, .slice none 0 0, .bool false]]) rfl (a_doesU hU hS (os' := fun B => [Vec 5 1 encB B bd, cell g2 28 #[.int .i64 0, .int .i64 0, .int .i64 0, .int .u64 0, .int .u64 0, .int .u64 0, .slice none 0 0, .int .u64 0, .bool false, .int .u64 0, .int .u64 0, .int .i64 0, .int .i64 0, .slice none 0 0, .bool false]]) [] 0 (ent_of Try.func73 (by kernel_rfl) rfl) (runseal_mk hv hl bd e0 hu) rfl rfl rfl (fun _ => rfl) rfl rfl rfl) ?_; rintro B
    refine WL2.fact 0 rfl (fun _ h => Vec.is h) ?_; rintro ⟨A0, c0, rfl⟩
    refine h_q hflS rfl ?_
    refine h_done (d_seq ?_)
    by_cases he0 : e0 = 0
    · skip
      rw [he0] at hu
      obtain ⟨⟨m0, l', f'⟩, hM⟩ : ∃ R, readM bd = R := ⟨_, rfl⟩
      obtain ⟨⟨k, l0, f0, h0, a, l1, f1, h1, bb, l2, f2, h2, t, l3, f3, h3, i, l4, f4, h4, lt, l5, f5, h5, co, l6, f6, h6, es, l7, f7, h7, rf, l8, f8, h8, bi, bt, bc, l9, f9, h9, o, l10, f10, h10, la, l11, f11, h11, d, h12, hm⟩⟩ := readM_steps hM
      have hk6 := rbyte_le 6 bd 0
      rw [h0] at hk6
      have hk6 : k ≤ 6 := hk6
      obtain ⟨b1, hb1⟩ : ∃ b1, wth (fm (k : Int)) 1 = b1 := ⟨_, rfl⟩
      rw [hb1] at h4
      obtain ⟨b2, hb2⟩ : ∃ b2, wth (fm (k : Int)) 2 = b2 := ⟨_, rfl⟩
      rw [hb2] at h5
      obtain ⟨b3, hb3⟩ : ∃ b3, wth (fm (k : Int)) 4 = b3 := ⟨_, rfl⟩
      rw [hb3] at h6
      obtain ⟨b4, hb4⟩ : ∃ b4, wth (fm (k : Int)) 8 = b4 := ⟨_, rfl⟩
      rw [hb4] at h7
      obtain ⟨b5, hb5⟩ : ∃ b5, wth (fm (k : Int)) 16 = b5 := ⟨_, rfl⟩
      rw [hb5] at h8
      obtain ⟨b6, hb6⟩ : ∃ b6, wth (fm (k : Int)) 32 = b6 := ⟨_, rfl⟩
      rw [hb6] at h9
      obtain ⟨b7, hb7⟩ : ∃ b7, wth (fm (k : Int)) 64 = b7 := ⟨_, rfl⟩
      rw [hb7] at h10
      obtain ⟨b8, hb8⟩ : ∃ b8, wth (fm (k : Int)) 128 = b8 := ⟨_, rfl⟩
      rw [hb8] at h11
      obtain ⟨b9, hb9⟩ : ∃ b9, wth (fm (k : Int)) 256 = b9 := ⟨_, rfl⟩
      rw [hb9] at h12
      obtain ⟨lw, hl_⟩ : ∃ lw, ofM (k : Int) = lw := ⟨_, rfl⟩
      have hll : lw.length ≤ 9223372036854775806 := by have := ofM_len (k : Int); rw [hl_] at this; omega
      have hq1 : hasB lw [105, 110, 100, 101, 120] = b1 := by rw [← hl_, hasM_index, hb1]
      have hq2 : hasB lw [108, 111, 103, 116, 101, 114, 109] = b2 := by rw [← hl_, hasM_logterm, hb2]
      have hq3 : hasB lw [99, 111, 109, 109, 105, 116] = b3 := by rw [← hl_, hasM_commit, hb3]
      have hq4 : hasB lw [101, 110, 116, 114, 105, 101, 115] = b4 := by rw [← hl_, hasM_entries, hb4]
      have hq5 : hasB lw [114, 101, 102, 117, 115, 101, 100] = b5 := by rw [← hl_, hasM_refused, hb5]
      have hq6 : hasB lw [98, 97, 115, 101] = b6 := by rw [← hl_, hasM_base, hb6]
      have hq7 : hasB lw [111, 102, 102, 115, 101, 116] = b7 := by rw [← hl_, hasM_offset, hb7]
      have hq8 : hasB lw [108, 97, 115, 116] = b8 := by rw [← hl_, hasM_last, hb8]
      have hq9 : hasB lw [100, 97, 116, 97] = b9 := by rw [← hl_, hasM_data, hb9]
      refine WC2.keep (env' := [(0, v0), (2, .pointer (some ⟨g2, 0, none⟩)), (3, .int .i64 0), (11, v0), (12, .int .i64 (l.length : Int)), (13, .bool false), (16, v0), (17, .tuple #[.slice A0 bd.length c0, .int .i64 (e0 : Int)]), (15, .tuple #[.slice A0 bd.length c0, .int .i64 (e0 : Int)]), (18, .slice A0 bd.length c0), (19, .int .i64 (e0 : Int)), (4, .slice A0 bd.length c0), (5, .int .i64 (e0 : Int))]) ⟨rfl, rfl, rfl, rfl, rfl, rfl, rfl, rfl, rfl, rfl, rfl, rfl, rfl, trivial⟩ ?_
      refine WC2.mid [Vec 5 1 encB (.slice A0 bd.length c0) bd, cell g2 28 #[.int .i64 0, .int .i64 0, .int .i64 0, .int .u64 0, .int .u64 0, .int .u64 0, .slice none 0 0, .int .u64 0, .bool false, .int .u64 0, .int .u64 0, .int .i64 0, .int .i64 0, .slice none 0 0, .bool false]] (.refl _) ?_
      refine d_reg ?_
      refine h_q hflS rfl ?_
      refine h_val rfl (.bool false) (fun b w hb hH => exec_cmp rfl rfl rfl (cmp_neq_f (by omega)) hb) ?_
      refine h_done (d_else rfl (d_skip (f_to (d_reg ?_))))
      refine h_q hflS rfl ?_
      refine h_val rfl (.agg #[.slice A0 bd.length c0, .int .i64 0, .int .i64 0]) (fun b w hb hH => exec_build rfl rfl (by kernel_rfl) hb) ?_
      refine h_act (post := fun g => [cell g 82 #[.slice A0 bd.length c0, .int .i64 0, .int .i64 0], Vec 5 1 encB (.slice A0 bd.length c0) bd, cell g2 28 #[.int .i64 0, .int .i64 0, .int .i64 0, .int .u64 0, .int .u64 0, .int .u64 0, .slice none 0 0, .int .u64 0, .bool false, .int .u64 0, .int .u64 0, .int .i64 0, .int .i64 0, .slice none 0 0, .bool false]]) rfl (a_box (cs := #[.slice A0 bd.length c0, .int .i64 0, .int .i64 0]) rfl rfl rfl) ?_; rintro g
      refine h_q hflS rfl ?_
      refine h_done ?_
      refine d_close [0] rfl (rr_mk (B := .slice A0 bd.length c0) (b := bd) (g := g)) rfl ?_
      refine d_reg ?_
      refine h_q hflS rfl ?_
      refine h_act (post := fun gm => [cell gm 28 #[.int .i64 0, .int .i64 0, .int .i64 0, .int .u64 0, .int .u64 0, .int .u64 0, .slice none 0 0, .int .u64 0, .bool false, .int .u64 0, .int .u64 0, .int .i64 0, .int .i64 0, .slice none 0 0, .bool false], RrT (.slice A0 bd.length c0) bd g bd 0, Vec 5 1 encB (.slice A0 bd.length c0) bd, cell g2 28 #[.int .i64 0, .int .i64 0, .int .i64 0, .int .u64 0, .int .u64 0, .int .u64 0, .slice none 0 0, .int .u64 0, .bool false, .int .u64 0, .int .u64 0, .int .i64 0, .int .i64 0, .slice none 0 0, .bool false]]) rfl (a_alloc ze_api_Msg rfl) ?_; rintro gm
      refine h_done (d_reg ?_)
      refine h_q hflS rfl ?_
      refine h_act (post := fun _ => [cell gm 28 #[.int .i64 0, .int .i64 0, .int .i64 0, .int .u64 0, .int .u64 0, .int .u64 0, .slice none 0 0, .int .u64 0, .bool false, .int .u64 0, .int .u64 0, .int .i64 0, .int .i64 0, .slice none 0 0, .bool false], RrT (.slice A0 bd.length c0) bd g l0 f0, Vec 5 1 encB (.slice A0 bd.length c0) bd, cell g2 28 #[.int .i64 0, .int .i64 0, .int .i64 0, .int .u64 0, .int .u64 0, .int .u64 0, .slice none 0 0, .int .u64 0, .bool false, .int .u64 0, .int .u64 0, .int .i64 0, .int .i64 0, .slice none 0 0, .bool false]]) rfl (a_does (os' := fun _ => [cell gm 28 #[.int .i64 0, .int .i64 0, .int .i64 0, .int .u64 0, .int .u64 0, .int .u64 0, .slice none 0 0, .int .u64 0, .bool false, .int .u64 0, .int .u64 0, .int .i64 0, .int .i64 0, .slice none 0 0, .bool false], RrT (.slice A0 bd.length c0) bd g l0 f0, Vec 5 1 encB (.slice A0 bd.length c0) bd, cell g2 28 #[.int .i64 0, .int .i64 0, .int .i64 0, .int .u64 0, .int .u64 0, .int .u64 0, .slice none 0 0, .int .u64 0, .bool false, .int .u64 0, .int .u64 0, .int .i64 0, .int .i64 0, .slice none 0 0, .bool false]]) [1, 2] 0 (ent_of Try.func62 (by kernel_rfl) rfl) (rx_byte hbd2 6 (by decide) (k, l0, f0) h0) rfl rfl rfl (fun _ => rfl) rfl rfl rfl) ?_; rintro ⟨⟩
      refine h_val rfl (.int .i64 (k : Int)) (fun b w hb hH => exec_conv Try.underlying5 Try.underlying3 (IntWalk.i64_in _ (by omega)) rfl rfl hb) ?_
      refine h_q hflS rfl ?_
      refine h_acts (post := fun _ => [cell gm 28 #[.int .i64 (k : Int), .int .i64 0, .int .i64 0, .int .u64 0, .int .u64 0, .int .u64 0, .slice none 0 0, .int .u64 0, .bool false, .int .u64 0, .int .u64 0, .int .i64 0, .int .i64 0, .slice none 0 0, .bool false], RrT (.slice A0 bd.length c0) bd g l0 f0, Vec 5 1 encB (.slice A0 bd.length c0) bd, cell g2 28 #[.int .i64 0, .int .i64 0, .int .i64 0, .int .u64 0, .int .u64 0, .int .u64 0, .slice none 0 0, .int .u64 0, .bool false, .int .u64 0, .int .u64 0, .int .i64 0, .int .i64 0, .slice none 0 0, .bool false]]) rfl rfl (a_store 0 (v := .int .i64 (k : Int)) #[.int .i64 (k : Int), .int .i64 0, .int .i64 0, .int .u64 0, .int .u64 0, .int .u64 0, .slice none 0 0, .int .u64 0, .bool false, .int .u64 0, .int .u64 0, .int .i64 0, .int .i64 0, .slice none 0 0, .bool false] ty_int.2 rfl rfl rfl rfl rfl rfl rfl rfl rfl) ?_; rintro ⟨⟩
      refine h_done (d_reg ?_)
      refine h_q hflS rfl ?_
      refine h_val rfl (.int .i64 (k : Int)) (fun b w hb hH => exec_load rfl rfl (reads_one ty_int rfl) (hH.row 0 rfl) hb) ?_
      refine h_act (post := fun _ => [cell gm 28 #[.int .i64 (k : Int), .int .i64 0, .int .i64 0, .int .u64 0, .int .u64 0, .int .u64 0, .slice none 0 0, .int .u64 0, .bool false, .int .u64 0, .int .u64 0, .int .i64 0, .int .i64 0, .slice none 0 0, .bool false], RrT (.slice A0 bd.length c0) bd g l0 f0, Vec 5 1 encB (.slice A0 bd.length c0) bd, cell g2 28 #[.int .i64 0, .int .i64 0, .int .i64 0, .int .u64 0, .int .u64 0, .int .u64 0, .slice none 0 0, .int .u64 0, .bool false, .int .u64 0, .int .u64 0, .int .i64 0, .int .i64 0, .slice none 0 0, .bool false]]) rfl (a_call (ent_of Try.func66 (by kernel_rfl) rfl) (fun w hH => ofM_any w (k : Int) lw hl_) rfl rfl rfl) ?_; rintro ⟨⟩
      refine h_q hflS rfl ?_
      refine h_done (d_seq ?_)
      by_cases hk : k = 0
      · skip
        obtain ⟨b_, hb_⟩ : ∃ b_, (k != 0) = b_ := ⟨_, rfl⟩
        obtain rfl : b_ = false := by rw [← hb_, hk]; rfl
        rw [hb_] at h1 h2 h3
        have hz0 : fm (k : Int) = 0 := by rw [hk]; rfl
        obtain rfl : b1 = false := by rw [← hb1, hz0]; rfl
        obtain rfl : b2 = false := by rw [← hb2, hz0]; rfl
        obtain rfl : b3 = false := by rw [← hb3, hz0]; rfl
        obtain rfl : b4 = false := by rw [← hb4, hz0]; rfl
        obtain rfl : b5 = false := by rw [← hb5, hz0]; rfl
        obtain rfl : b6 = false := by rw [← hb6, hz0]; rfl
        obtain rfl : b7 = false := by rw [← hb7, hz0]; rfl
        obtain rfl : b8 = false := by rw [← hb8, hz0]; rfl
        obtain rfl : b9 = false := by rw [← hb9, hz0]; rfl
        obtain ⟨rfl, rfl, rfl⟩ : 0 = a ∧ l0 = l1 ∧ f0 = f1 := by simpa [rI, eq_comm] using h1
        obtain ⟨rfl, rfl, rfl⟩ : 0 = bb ∧ l0 = l2 ∧ f0 = f2 := by simpa [rI, eq_comm] using h2
        obtain ⟨rfl, rfl, rfl⟩ : 0 = t ∧ l0 = l3 ∧ f0 = f3 := by simpa [rI, eq_comm] using h3
        obtain ⟨rfl, rfl, rfl⟩ : 0 = i ∧ l0 = l4 ∧ f0 = f4 := by simpa [rI, eq_comm] using h4
        obtain ⟨rfl, rfl, rfl⟩ : 0 = lt ∧ l0 = l5 ∧ f0 = f5 := by simpa [rI, eq_comm] using h5
        obtain ⟨rfl, rfl, rfl⟩ : 0 = co ∧ l0 = l6 ∧ f0 = f6 := by simpa [rI, eq_comm] using h6
        obtain ⟨rfl, rfl, rfl⟩ : [] = es ∧ l0 = l7 ∧ f0 = f7 := by simpa [rI, eq_comm] using h7
        obtain ⟨rfl, rfl, rfl⟩ : 0 = rf ∧ l0 = l8 ∧ f0 = f8 := by simpa [rI, eq_comm] using h8
        obtain ⟨⟨rfl, rfl, rfl⟩, rfl, rfl⟩ : (0 = bi ∧ 0 = bt ∧ 0 = bc) ∧ l0 = l9 ∧ f0 = f9 := by simpa [rI] using h9
        obtain ⟨rfl, rfl, rfl⟩ : 0 = o ∧ l0 = l10 ∧ f0 = f10 := by simpa [rI, eq_comm] using h10
        obtain ⟨rfl, rfl, rfl⟩ : 0 = la ∧ l0 = l11 ∧ f0 = f11 := by simpa [rI, eq_comm] using h11
        obtain ⟨rfl, rfl, rfl⟩ : [] = d ∧ l0 = l' ∧ f0 = f' := by simpa [rI, eq_comm] using h12
        refine d_reg ?_
        refine h_q hflS rfl ?_
        refine h_val rfl (.int .i64 (k : Int)) (fun b w hb hH => exec_load rfl rfl (reads_one ty_int rfl) (hH.row 0 rfl) hb) ?_
        refine h_val rfl (.bool false) (fun b w hb hH => exec_cmp rfl rfl rfl (cmp_gtr_f (by omega)) hb) ?_
        refine h_done (d_else rfl (d_skip (f_to (d_seq ?_))))
        have q2 : rend l0 f0 = rend l0 f0 := by rfl
        have hQ : (fun v : MsgV => v.m.es = v.es.map (·.e) ∧ (rend l0 f0 = 0 → v.m = m0)) (⟨⟨(k : Int), 0, 0, 0, 0, 0, [], 0, false, 0, 0, 0, 0, [], false⟩, [], none, 0, none, 0⟩ : MsgV) := ⟨rfl, fun hz => by rw [hm]; try rfl⟩
        refine d_new (t := Ents 36 (.slice none 0 0) ([])) (entsT_nil) ?_
        refine d_nilvec 5 1 encB ?_
        refine d_close [2, 1, 0] rfl (gotM_mk (Q := fun v : MsgV => v.m.es = v.es.map (·.e) ∧ (rend l0 f0 = 0 → v.m = m0)) (⟨⟨(k : Int), 0, 0, 0, 0, 0, [], 0, false, 0, 0, 0, 0, [], false⟩, [], none, 0, none, 0⟩ : MsgV) hQ) rfl ?_
        clear hQ
        refine d_open 0 rfl gotM_open (fun _ => rfl) ?_; rintro v
        refine WC2.fact 3 rfl (fun _ h => h.2) ?_; rintro hQ
        refine WC2.leave [3] rfl rfl ?_
        have hes : v.m.es = v.es.map (·.e) := hQ.1
        have hmz : rend l0 f0 = 0 → v.m = m0 := hQ.2
        refine d_reg ?_
        refine h_q hflS rfl ?_
        refine h_act (post := fun _ => [cell gm 28 #[.int .i64 v.m.k, .int .i64 v.m.a, .int .i64 v.m.b, .int .u64 v.m.t, .int .u64 v.m.i, .int .u64 v.m.lt, v.ev, .int .u64 v.m.co, .bool v.m.rf, .int .u64 v.m.bi, .int .u64 v.m.bt, .int .i64 v.m.bc, .int .i64 v.m.o, v.dv, .bool v.m.la], Ents 36 v.ev v.es, Vec 5 1 encB v.dv v.m.d, RrT (.slice A0 bd.length c0) bd g l0 f0, Vec 5 1 encB (.slice A0 bd.length c0) bd, cell g2 28 #[.int .i64 0, .int .i64 0, .int .i64 0, .int .u64 0, .int .u64 0, .int .u64 0, .slice none 0 0, .int .u64 0, .bool false, .int .u64 0, .int .u64 0, .int .i64 0, .int .i64 0, .slice none 0 0, .bool false]]) rfl (a_does (os' := fun _ => [cell gm 28 #[.int .i64 v.m.k, .int .i64 v.m.a, .int .i64 v.m.b, .int .u64 v.m.t, .int .u64 v.m.i, .int .u64 v.m.lt, v.ev, .int .u64 v.m.co, .bool v.m.rf, .int .u64 v.m.bi, .int .u64 v.m.bt, .int .i64 v.m.bc, .int .i64 v.m.o, v.dv, .bool v.m.la], Ents 36 v.ev v.es, Vec 5 1 encB v.dv v.m.d, RrT (.slice A0 bd.length c0) bd g l0 f0, Vec 5 1 encB (.slice A0 bd.length c0) bd, cell g2 28 #[.int .i64 0, .int .i64 0, .int .i64 0, .int .u64 0, .int .u64 0, .int .u64 0, .slice none 0 0, .int .u64 0, .bool false, .int .u64 0, .int .u64 0, .int .i64 0, .int .i64 0, .slice none 0 0, .bool false]]) [3, 4] 0 (ent_of Try.func65 (by kernel_rfl) rfl) (rx_end hbd2 (rend l0 f0) rfl) rfl rfl rfl (fun _ => rfl) rfl rfl rfl) ?_; rintro ⟨⟩
        refine h_q hflS rfl ?_
        refine h_done ?_
        by_cases hz : rend l0 f0 = 0
        · skip
          have hm1 : v.m = m0 := hmz hz
          refine d_reg ?_
          refine h_q hflS rfl ?_
          refine h_val rfl (.bool false) (fun b w hb hH => exec_cmp rfl rfl rfl (cmp_neq_f (by omega)) hb) ?_
          refine h_done (d_else rfl (d_skip (f_to (d_seq ?_))))
          rcases Bool.eq_false_or_eq_true (rightM v.m) with hR | hR
          · skip
            obtain ⟨rfl, rfl⟩ := decM_is (decM_right h16 hu hM (q2.symm.trans hz) (hm1 ▸ hR)) hD
            refine d_reg ?_
            refine h_q hflS rfl ?_
            refine h_val rfl (.agg #[.int .i64 v.m.k, .int .i64 v.m.a, .int .i64 v.m.b, .int .u64 v.m.t, .int .u64 v.m.i, .int .u64 v.m.lt, v.ev, .int .u64 v.m.co, .bool v.m.rf, .int .u64 v.m.bi, .int .u64 v.m.bt, .int .i64 v.m.bc, .int .i64 v.m.o, v.dv, .bool v.m.la]) (fun b w hb hH => exec_load rfl rfl (reads_agg (cs := [.int .i64 v.m.k, .int .i64 v.m.a, .int .i64 v.m.b, .int .u64 v.m.t, .int .u64 v.m.i, .int .u64 v.m.lt, v.ev, .int .u64 v.m.co, .bool v.m.rf, .int .u64 v.m.bi, .int .u64 v.m.bt, .int .i64 v.m.bc, .int .i64 v.m.o, v.dv, .bool v.m.la]) ty_api_Msg rfl) (hH.row 0 rfl) hb) ?_
            refine h_act (post := fun _ => [cell gm 28 #[.int .i64 v.m.k, .int .i64 v.m.a, .int .i64 v.m.b, .int .u64 v.m.t, .int .u64 v.m.i, .int .u64 v.m.lt, v.ev, .int .u64 v.m.co, .bool v.m.rf, .int .u64 v.m.bi, .int .u64 v.m.bt, .int .i64 v.m.bc, .int .i64 v.m.o, v.dv, .bool v.m.la], Ents 36 v.ev v.es, Vec 5 1 encB v.dv v.m.d, RrT (.slice A0 bd.length c0) bd g l0 f0, Vec 5 1 encB (.slice A0 bd.length c0) bd, cell g2 28 #[.int .i64 0, .int .i64 0, .int .i64 0, .int .u64 0, .int .u64 0, .int .u64 0, .slice none 0 0, .int .u64 0, .bool false, .int .u64 0, .int .u64 0, .int .i64 0, .int .i64 0, .slice none 0 0, .bool false]]) rfl (a_call (ent_of Try.func30 (by kernel_rfl) rfl) (fun w hH => rrightM_any w v (msgOk_of hbd hM hm1 hes (hH.ents 1 rfl) (hH.sl8 2 rfl)) true hR) rfl rfl rfl) ?_; rintro ⟨⟩
            refine h_q hflS rfl ?_
            refine h_done (d_else rfl (d_skip (f_to (d_reg ?_))))
            refine h_q hflS rfl ?_
            refine h_val rfl (.agg #[.int .i64 v.m.k, .int .i64 v.m.a, .int .i64 v.m.b, .int .u64 v.m.t, .int .u64 v.m.i, .int .u64 v.m.lt, v.ev, .int .u64 v.m.co, .bool v.m.rf, .int .u64 v.m.bi, .int .u64 v.m.bt, .int .i64 v.m.bc, .int .i64 v.m.o, v.dv, .bool v.m.la]) (fun b w hb hH => exec_load rfl rfl (reads_agg (cs := [.int .i64 v.m.k, .int .i64 v.m.a, .int .i64 v.m.b, .int .u64 v.m.t, .int .u64 v.m.i, .int .u64 v.m.lt, v.ev, .int .u64 v.m.co, .bool v.m.rf, .int .u64 v.m.bi, .int .u64 v.m.bt, .int .i64 v.m.bc, .int .i64 v.m.o, v.dv, .bool v.m.la]) ty_api_Msg rfl) (hH.row 0 rfl) hb) ?_
            refine h_acts (post := fun _ => [cell gm 28 #[.int .i64 v.m.k, .int .i64 v.m.a, .int .i64 v.m.b, .int .u64 v.m.t, .int .u64 v.m.i, .int .u64 v.m.lt, v.ev, .int .u64 v.m.co, .bool v.m.rf, .int .u64 v.m.bi, .int .u64 v.m.bt, .int .i64 v.m.bc, .int .i64 v.m.o, v.dv, .bool v.m.la], Ents 36 v.ev v.es, Vec 5 1 encB v.dv v.m.d, RrT (.slice A0 bd.length c0) bd g l0 f0, Vec 5 1 encB (.slice A0 bd.length c0) bd, cell g2 28 #[.int .i64 v.m.k, .int .i64 v.m.a, .int .i64 v.m.b, .int .u64 v.m.t, .int .u64 v.m.i, .int .u64 v.m.lt, v.ev, .int .u64 v.m.co, .bool v.m.rf, .int .u64 v.m.bi, .int .u64 v.m.bt, .int .i64 v.m.bc, .int .i64 v.m.o, v.dv, .bool v.m.la]]) rfl rfl (a_store 5 (v := .agg #[.int .i64 v.m.k, .int .i64 v.m.a, .int .i64 v.m.b, .int .u64 v.m.t, .int .u64 v.m.i, .int .u64 v.m.lt, v.ev, .int .u64 v.m.co, .bool v.m.rf, .int .u64 v.m.bi, .int .u64 v.m.bt, .int .i64 v.m.bc, .int .i64 v.m.o, v.dv, .bool v.m.la]) #[.int .i64 v.m.k, .int .i64 v.m.a, .int .i64 v.m.b, .int .u64 v.m.t, .int .u64 v.m.i, .int .u64 v.m.lt, v.ev, .int .u64 v.m.co, .bool v.m.rf, .int .u64 v.m.bi, .int .u64 v.m.bt, .int .i64 v.m.bc, .int .i64 v.m.o, v.dv, .bool v.m.la] ty_api_Msg.2 rfl rfl rfl rfl rfl rfl rfl rfl rfl) ?_; rintro ⟨⟩
            refine h_q hflS rfl ?_
            refine h_done (d_ret ?_)
            exact f_fin2 (.cell 5 (v := .agg #[.int .i64 v.m.k, .int .i64 v.m.a, .int .i64 v.m.b, .int .u64 v.m.t, .int .u64 v.m.i, .int .u64 v.m.lt, v.ev, .int .u64 v.m.co, .bool v.m.rf, .int .u64 v.m.bi, .int .u64 v.m.bt, .int .i64 v.m.bc, .int .i64 v.m.o, v.dv, .bool v.m.la]) (reads_agg (cs := [.int .i64 v.m.k, .int .i64 v.m.a, .int .i64 v.m.b, .int .u64 v.m.t, .int .u64 v.m.i, .int .u64 v.m.lt, v.ev, .int .u64 v.m.co, .bool v.m.rf, .int .u64 v.m.bi, .int .u64 v.m.bt, .int .i64 v.m.bc, .int .i64 v.m.o, v.dv, .bool v.m.la]) ty_api_Msg rfl) rfl rfl) (.tmp rfl) (fun w h => tells v rfl [1, 2] rfl h (fun z hz => ⟨z, .refl _, fact_add (xs := [_, _]) ⟨hm1, hes⟩ hz⟩)) rfl
          · skip
            obtain ⟨rfl, rfl⟩ := decM_is (decM_wrong h16 hu hM (q2.symm.trans hz) (hm1 ▸ hR)) hD
            refine d_reg ?_
            refine h_q hflS rfl ?_
            refine h_val rfl (.agg #[.int .i64 v.m.k, .int .i64 v.m.a, .int .i64 v.m.b, .int .u64 v.m.t, .int .u64 v.m.i, .int .u64 v.m.lt, v.ev, .int .u64 v.m.co, .bool v.m.rf, .int .u64 v.m.bi, .int .u64 v.m.bt, .int .i64 v.m.bc, .int .i64 v.m.o, v.dv, .bool v.m.la]) (fun b w hb hH => exec_load rfl rfl (reads_agg (cs := [.int .i64 v.m.k, .int .i64 v.m.a, .int .i64 v.m.b, .int .u64 v.m.t, .int .u64 v.m.i, .int .u64 v.m.lt, v.ev, .int .u64 v.m.co, .bool v.m.rf, .int .u64 v.m.bi, .int .u64 v.m.bt, .int .i64 v.m.bc, .int .i64 v.m.o, v.dv, .bool v.m.la]) ty_api_Msg rfl) (hH.row 0 rfl) hb) ?_
            refine h_act (post := fun _ => [cell gm 28 #[.int .i64 v.m.k, .int .i64 v.m.a, .int .i64 v.m.b, .int .u64 v.m.t, .int .u64 v.m.i, .int .u64 v.m.lt, v.ev, .int .u64 v.m.co, .bool v.m.rf, .int .u64 v.m.bi, .int .u64 v.m.bt, .int .i64 v.m.bc, .int .i64 v.m.o, v.dv, .bool v.m.la], Ents 36 v.ev v.es, Vec 5 1 encB v.dv v.m.d, RrT (.slice A0 bd.length c0) bd g l0 f0, Vec 5 1 encB (.slice A0 bd.length c0) bd, cell g2 28 #[.int .i64 0, .int .i64 0, .int .i64 0, .int .u64 0, .int .u64 0, .int .u64 0, .slice none 0 0, .int .u64 0, .bool false, .int .u64 0, .int .u64 0, .int .i64 0, .int .i64 0, .slice none 0 0, .bool false]]) rfl (a_call (ent_of Try.func30 (by kernel_rfl) rfl) (fun w hH => rrightM_any w v (msgOk_of hbd hM hm1 hes (hH.ents 1 rfl) (hH.sl8 2 rfl)) false hR) rfl rfl rfl) ?_; rintro ⟨⟩
            refine h_q hflS rfl ?_
            refine h_done (d_then rfl ?_)
            refine d_new (t := Ents 36 (.slice none 0 0) ([])) (entsT_nil) ?_
            refine d_nilvec 5 1 encB ?_
            refine d_reg ?_
            refine h_q hflS rfl ?_
            refine h_val rfl (.agg #[.int .i64 0, .int .i64 0, .int .i64 0, .int .u64 0, .int .u64 0, .int .u64 0, .slice none 0 0, .int .u64 0, .bool false, .int .u64 0, .int .u64 0, .int .i64 0, .int .i64 0, .slice none 0 0, .bool false]) (fun b w hb hH => exec_build rfl rfl (by kernel_rfl) hb) ?_
            refine h_acts (post := fun _ => [Vec 5 1 encB (.slice none 0 0) ([]), Ents 36 (.slice none 0 0) ([]), cell gm 28 #[.int .i64 v.m.k, .int .i64 v.m.a, .int .i64 v.m.b, .int .u64 v.m.t, .int .u64 v.m.i, .int .u64 v.m.lt, v.ev, .int .u64 v.m.co, .bool v.m.rf, .int .u64 v.m.bi, .int .u64 v.m.bt, .int .i64 v.m.bc, .int .i64 v.m.o, v.dv, .bool v.m.la], Ents 36 v.ev v.es, Vec 5 1 encB v.dv v.m.d, RrT (.slice A0 bd.length c0) bd g l0 f0, Vec 5 1 encB (.slice A0 bd.length c0) bd, cell g2 28 #[.int .i64 0, .int .i64 0, .int .i64 0, .int .u64 0, .int .u64 0, .int .u64 0, .slice none 0 0, .int .u64 0, .bool false, .int .u64 0, .int .u64 0, .int .i64 0, .int .i64 0, .slice none 0 0, .bool false]]) rfl rfl (a_store 7 (v := .agg #[.int .i64 0, .int .i64 0, .int .i64 0, .int .u64 0, .int .u64 0, .int .u64 0, .slice none 0 0, .int .u64 0, .bool false, .int .u64 0, .int .u64 0, .int .i64 0, .int .i64 0, .slice none 0 0, .bool false]) #[.int .i64 0, .int .i64 0, .int .i64 0, .int .u64 0, .int .u64 0, .int .u64 0, .slice none 0 0, .int .u64 0, .bool false, .int .u64 0, .int .u64 0, .int .i64 0, .int .i64 0, .slice none 0 0, .bool false] ty_api_Msg.2 rfl rfl rfl rfl rfl rfl rfl rfl rfl) ?_; rintro ⟨⟩
            refine h_q hflS rfl ?_
            refine h_done (d_ret (f_then_ret ?_))
            exact f_fin2 (.cell 7 (v := .agg #[.int .i64 0, .int .i64 0, .int .i64 0, .int .u64 0, .int .u64 0, .int .u64 0, .slice none 0 0, .int .u64 0, .bool false, .int .u64 0, .int .u64 0, .int .i64 0, .int .i64 0, .slice none 0 0, .bool false]) (reads_agg (cs := [.int .i64 0, .int .i64 0, .int .i64 0, .int .u64 0, .int .u64 0, .int .u64 0, .slice none 0 0, .int .u64 0, .bool false, .int .u64 0, .int .u64 0, .int .i64 0, .int .i64 0, .slice none 0 0, .bool false]) ty_api_Msg rfl) rfl rfl) (.tmp rfl) (fun w h => tells (⟨.zero, [], none, 0, none, 0⟩ : MsgV) rfl [1, 0] rfl h (fun z hz => ⟨z, .refl _, fact_add (xs := [_, _]) (show _ = _ ∧ _ = _ from ⟨rfl, rfl⟩) hz⟩)) rfl
        · skip
          have hb := decM_bad h16 hu hM (by omega)
          rw [← q2] at hb
          obtain ⟨rfl, rfl⟩ := decM_is hb hD
          refine d_reg ?_
          refine h_q hflS rfl ?_
          refine h_val rfl (.bool true) (fun b w hb hH => exec_cmp rfl rfl rfl (cmp_neq_t (by omega)) hb) ?_
          refine h_done (d_then rfl ?_)
          refine d_new (t := Ents 36 (.slice none 0 0) ([])) (entsT_nil) ?_
          refine d_nilvec 5 1 encB ?_
          refine d_reg ?_
          refine h_q hflS rfl ?_
          refine h_val rfl (.agg #[.int .i64 0, .int .i64 0, .int .i64 0, .int .u64 0, .int .u64 0, .int .u64 0, .slice none 0 0, .int .u64 0, .bool false, .int .u64 0, .int .u64 0, .int .i64 0, .int .i64 0, .slice none 0 0, .bool false]) (fun b w hb hH => exec_build rfl rfl (by kernel_rfl) hb) ?_
          refine h_q hflS rfl ?_
          refine h_acts (post := fun _ => [Vec 5 1 encB (.slice none 0 0) ([]), Ents 36 (.slice none 0 0) ([]), cell gm 28 #[.int .i64 v.m.k, .int .i64 v.m.a, .int .i64 v.m.b, .int .u64 v.m.t, .int .u64 v.m.i, .int .u64 v.m.lt, v.ev, .int .u64 v.m.co, .bool v.m.rf, .int .u64 v.m.bi, .int .u64 v.m.bt, .int .i64 v.m.bc, .int .i64 v.m.o, v.dv, .bool v.m.la], Ents 36 v.ev v.es, Vec 5 1 encB v.dv v.m.d, RrT (.slice A0 bd.length c0) bd g l0 f0, Vec 5 1 encB (.slice A0 bd.length c0) bd, cell g2 28 #[.int .i64 0, .int .i64 0, .int .i64 0, .int .u64 0, .int .u64 0, .int .u64 0, .slice none 0 0, .int .u64 0, .bool false, .int .u64 0, .int .u64 0, .int .i64 0, .int .i64 0, .slice none 0 0, .bool false]]) rfl rfl (a_store 7 (v := .agg #[.int .i64 0, .int .i64 0, .int .i64 0, .int .u64 0, .int .u64 0, .int .u64 0, .slice none 0 0, .int .u64 0, .bool false, .int .u64 0, .int .u64 0, .int .i64 0, .int .i64 0, .slice none 0 0, .bool false]) #[.int .i64 0, .int .i64 0, .int .i64 0, .int .u64 0, .int .u64 0, .int .u64 0, .slice none 0 0, .int .u64 0, .bool false, .int .u64 0, .int .u64 0, .int .i64 0, .int .i64 0, .slice none 0 0, .bool false] ty_api_Msg.2 rfl rfl rfl rfl rfl rfl rfl rfl rfl) ?_; rintro ⟨⟩
          refine h_q hflS rfl ?_
          refine h_done (d_ret (f_then_ret ?_))
          exact f_fin2 (.cell 7 (v := .agg #[.int .i64 0, .int .i64 0, .int .i64 0, .int .u64 0, .int .u64 0, .int .u64 0, .slice none 0 0, .int .u64 0, .bool false, .int .u64 0, .int .u64 0, .int .i64 0, .int .i64 0, .slice none 0 0, .bool false]) (reads_agg (cs := [.int .i64 0, .int .i64 0, .int .i64 0, .int .u64 0, .int .u64 0, .int .u64 0, .slice none 0 0, .int .u64 0, .bool false, .int .u64 0, .int .u64 0, .int .i64 0, .int .i64 0, .slice none 0 0, .bool false]) ty_api_Msg rfl) rfl rfl) (.tmp rfl) (fun w h => tells (⟨.zero, [], none, 0, none, 0⟩ : MsgV) rfl [1, 0] rfl h (fun z hz => ⟨z, .refl _, fact_add (xs := [_, _]) (show _ = _ ∧ _ = _ from ⟨rfl, rfl⟩) hz⟩)) rfl
      · skip
        have hkb : (k != 0) = true := by simpa using hk
        rw [hkb] at h1 h2 h3
        have hna := rbyte_le 7 l0 f0
        rw [show rbyte 7 l0 f0 = (a, l1, f1) from h1] at hna
        have hna : a ≤ 7 := hna
        have hnbb := rbyte_le 7 l1 f1
        rw [show rbyte 7 l1 f1 = (bb, l2, f2) from h2] at hnbb
        have hnbb : bb ≤ 7 := hnbb
        have g0 := rbyte_length 6 bd 0
        rw [h0] at g0
        have g0 : l0.length ≤ bd.length := g0
        have g1 := rbyte_length 7 l0 f0
        rw [show rbyte 7 l0 f0 = (a, l1, f1) from h1] at g1
        have g1 : l1.length ≤ l0.length := g1
        have g2_ := rbyte_length 7 l1 f1
        rw [show rbyte 7 l1 f1 = (bb, l2, f2) from h2] at g2_
        have g2_ : l2.length ≤ l1.length := g2_
        have g3 := rnum_length 72057594037927935 l2 f2
        rw [show rnum 72057594037927935 l2 f2 = (t, l3, f3) from h3] at g3
        have g3 : l3.length ≤ l2.length := g3
        have hlen6 : l6.length ≤ l3.length := by
            have g4 := rI_len (l := l3) (f := f3) b1 (0 : Nat) (rnum_length 72057594037927935 l3 f3)
            rw [h4] at g4
            have g5 := rI_len (l := l4) (f := f4) b2 (0 : Nat) (rnum_length 72057594037927935 l4 f4)
            rw [h5] at g5
            have g6 := rI_len (l := l5) (f := f5) b3 (0 : Nat) (rnum_length 72057594037927935 l5 f5)
            rw [h6] at g6
            simp only at g4 g5 g6
            omega
        refine d_reg ?_
        refine h_q hflS rfl ?_
        refine h_val rfl (.int .i64 (k : Int)) (fun b w hb hH => exec_load rfl rfl (reads_one ty_int rfl) (hH.row 0 rfl) hb) ?_
        refine h_val rfl (.bool true) (fun b w hb hH => exec_cmp rfl rfl rfl (cmp_gtr_t (by omega)) hb) ?_
        refine h_done (d_then rfl (d_reg ?_))
        refine h_q hflS rfl ?_
        refine h_act (post := fun _ => [cell gm 28 #[.int .i64 (k : Int), .int .i64 0, .int .i64 0, .int .u64 0, .int .u64 0, .int .u64 0, .slice none 0 0, .int .u64 0, .bool false, .int .u64 0, .int .u64 0, .int .i64 0, .int .i64 0, .slice none 0 0, .bool false], RrT (.slice A0 bd.length c0) bd g l1 f1, Vec 5 1 encB (.slice A0 bd.length c0) bd, cell g2 28 #[.int .i64 0, .int .i64 0, .int .i64 0, .int .u64 0, .int .u64 0, .int .u64 0, .slice none 0 0, .int .u64 0, .bool false, .int .u64 0, .int .u64 0, .int .i64 0, .int .i64 0, .slice none 0 0, .bool false]]) rfl (a_does (os' := fun _ => [cell gm 28 #[.int .i64 (k : Int), .int .i64 0, .int .i64 0, .int .u64 0, .int .u64 0, .int .u64 0, .slice none 0 0, .int .u64 0, .bool false, .int .u64 0, .int .u64 0, .int .i64 0, .int .i64 0, .slice none 0 0, .bool false], RrT (.slice A0 bd.length c0) bd g l1 f1, Vec 5 1 encB (.slice A0 bd.length c0) bd, cell g2 28 #[.int .i64 0, .int .i64 0, .int .i64 0, .int .u64 0, .int .u64 0, .int .u64 0, .slice none 0 0, .int .u64 0, .bool false, .int .u64 0, .int .u64 0, .int .i64 0, .int .i64 0, .slice none 0 0, .bool false]]) [1, 2] 0 (ent_of Try.func62 (by kernel_rfl) rfl) (rx_byte hbd2 7 (by decide) (a, l1, f1) h1) rfl rfl rfl (fun _ => rfl) rfl rfl rfl) ?_; rintro ⟨⟩
        refine h_val rfl (.int .i64 (a : Int)) (fun b w hb hH => exec_conv Try.underlying5 Try.underlying3 (IntWalk.i64_in _ (by omega)) rfl rfl hb) ?_
        refine h_q hflS rfl ?_
        refine h_acts (post := fun _ => [cell gm 28 #[.int .i64 (k : Int), .int .i64 (a : Int), .int .i64 0, .int .u64 0, .int .u64 0, .int .u64 0, .slice none 0 0, .int .u64 0, .bool false, .int .u64 0, .int .u64 0, .int .i64 0, .int .i64 0, .slice none 0 0, .bool false], RrT (.slice A0 bd.length c0) bd g l1 f1, Vec 5 1 encB (.slice A0 bd.length c0) bd, cell g2 28 #[.int .i64 0, .int .i64 0, .int .i64 0, .int .u64 0, .int .u64 0, .int .u64 0, .slice none 0 0, .int .u64 0, .bool false, .int .u64 0, .int .u64 0, .int .i64 0, .int .i64 0, .slice none 0 0, .bool false]]) rfl rfl (a_store 0 (v := .int .i64 (a : Int)) #[.int .i64 (k : Int), .int .i64 (a : Int), .int .i64 0, .int .u64 0, .int .u64 0, .int .u64 0, .slice none 0 0, .int .u64 0, .bool false, .int .u64 0, .int .u64 0, .int .i64 0, .int .i64 0, .slice none 0 0, .bool false] ty_int.2 rfl rfl rfl rfl rfl rfl rfl rfl rfl) ?_; rintro ⟨⟩
        refine h_done (d_reg ?_)
        refine h_q hflS rfl ?_
        refine h_act (post := fun _ => [cell gm 28 #[.int .i64 (k : Int), .int .i64 (a : Int), .int .i64 0, .int .u64 0, .int .u64 0, .int .u64 0, .slice none 0 0, .int .u64 0, .bool false, .int .u64 0, .int .u64 0, .int .i64 0, .int .i64 0, .slice none 0 0, .bool false], RrT (.slice A0 bd.length c0) bd g l2 f2, Vec 5 1 encB (.slice A0 bd.length c0) bd, cell g2 28 #[.int .i64 0, .int .i64 0, .int .i64 0, .int .u64 0, .int .u64 0, .int .u64 0, .slice none 0 0, .int .u64 0, .bool false, .int .u64 0, .int .u64 0, .int .i64 0, .int .i64 0, .slice none 0 0, .bool false]]) rfl (a_does (os' := fun _ => [cell gm 28 #[.int .i64 (k : Int), .int .i64 (a : Int), .int .i64 0, .int .u64 0, .int .u64 0, .int .u64 0, .slice none 0 0, .int .u64 0, .bool false, .int .u64 0, .int .u64 0, .int .i64 0, .int .i64 0, .slice none 0 0, .bool false], RrT (.slice A0 bd.length c0) bd g l2 f2, Vec 5 1 encB (.slice A0 bd.length c0) bd, cell g2 28 #[.int .i64 0, .int .i64 0, .int .i64 0, .int .u64 0, .int .u64 0, .int .u64 0, .slice none 0 0, .int .u64 0, .bool false, .int .u64 0, .int .u64 0, .int .i64 0, .int .i64 0, .slice none 0 0, .bool false]]) [1, 2] 0 (ent_of Try.func62 (by kernel_rfl) rfl) (rx_byte hbd2 7 (by decide) (bb, l2, f2) h2) rfl rfl rfl (fun _ => rfl) rfl rfl rfl) ?_; rintro ⟨⟩
        refine h_val rfl (.int .i64 (bb : Int)) (fun b w hb hH => exec_conv Try.underlying5 Try.underlying3 (IntWalk.i64_in _ (by omega)) rfl rfl hb) ?_
        refine h_q hflS rfl ?_
        refine h_acts (post := fun _ => [cell gm 28 #[.int .i64 (k : Int), .int .i64 (a : Int), .int .i64 (bb : Int), .int .u64 0, .int .u64 0, .int .u64 0, .slice none 0 0, .int .u64 0, .bool false, .int .u64 0, .int .u64 0, .int .i64 0, .int .i64 0, .slice none 0 0, .bool false], RrT (.slice A0 bd.length c0) bd g l2 f2, Vec 5 1 encB (.slice A0 bd.length c0) bd, cell g2 28 #[.int .i64 0, .int .i64 0, .int .i64 0, .int .u64 0, .int .u64 0, .int .u64 0, .slice none 0 0, .int .u64 0, .bool false, .int .u64 0, .int .u64 0, .int .i64 0, .int .i64 0, .slice none 0 0, .bool false]]) rfl rfl (a_store 0 (v := .int .i64 (bb : Int)) #[.int .i64 (k : Int), .int .i64 (a : Int), .int .i64 (bb : Int), .int .u64 0, .int .u64 0, .int .u64 0, .slice none 0 0, .int .u64 0, .bool false, .int .u64 0, .int .u64 0, .int .i64 0, .int .i64 0, .slice none 0 0, .bool false] ty_int.2 rfl rfl rfl rfl rfl rfl rfl rfl rfl) ?_; rintro ⟨⟩
        refine h_done (d_reg ?_)
        refine h_q hflS rfl ?_
        refine h_act (post := fun _ => [cell gm 28 #[.int .i64 (k : Int), .int .i64 (a : Int), .int .i64 (bb : Int), .int .u64 0, .int .u64 0, .int .u64 0, .slice none 0 0, .int .u64 0, .bool false, .int .u64 0, .int .u64 0, .int .i64 0, .int .i64 0, .slice none 0 0, .bool false], RrT (.slice A0 bd.length c0) bd g l3 f3, Vec 5 1 encB (.slice A0 bd.length c0) bd, cell g2 28 #[.int .i64 0, .int .i64 0, .int .i64 0, .int .u64 0, .int .u64 0, .int .u64 0, .slice none 0 0, .int .u64 0, .bool false, .int .u64 0, .int .u64 0, .int .i64 0, .int .i64 0, .slice none 0 0, .bool false]]) rfl (a_does (os' := fun _ => [cell gm 28 #[.int .i64 (k : Int), .int .i64 (a : Int), .int .i64 (bb : Int), .int .u64 0, .int .u64 0, .int .u64 0, .slice none 0 0, .int .u64 0, .bool false, .int .u64 0, .int .u64 0, .int .i64 0, .int .i64 0, .slice none 0 0, .bool false], RrT (.slice A0 bd.length c0) bd g l3 f3, Vec 5 1 encB (.slice A0 bd.length c0) bd, cell g2 28 #[.int .i64 0, .int .i64 0, .int .i64 0, .int .u64 0, .int .u64 0, .int .u64 0, .slice none 0 0, .int .u64 0, .bool false, .int .u64 0, .int .u64 0, .int .i64 0, .int .i64 0, .slice none 0 0, .bool false]]) [1, 2] 0 (ent_of Try.func63 (by kernel_rfl) rfl) (rx_num hbd2 72057594037927935 (by decide) (t, l3, f3) h3) rfl rfl rfl (fun _ => rfl) rfl rfl rfl) ?_; rintro ⟨⟩
        refine h_q hflS rfl ?_
        refine h_acts (post := fun _ => [cell gm 28 #[.int .i64 (k : Int), .int .i64 (a : Int), .int .i64 (bb : Int), .int .u64 (t : Int), .int .u64 0, .int .u64 0, .slice none 0 0, .int .u64 0, .bool false, .int .u64 0, .int .u64 0, .int .i64 0, .int .i64 0, .slice none 0 0, .bool false], RrT (.slice A0 bd.length c0) bd g l3 f3, Vec 5 1 encB (.slice A0 bd.length c0) bd, cell g2 28 #[.int .i64 0, .int .i64 0, .int .i64 0, .int .u64 0, .int .u64 0, .int .u64 0, .slice none 0 0, .int .u64 0, .bool false, .int .u64 0, .int .u64 0, .int .i64 0, .int .i64 0, .slice none 0 0, .bool false]]) rfl rfl (a_store 0 (v := .int .u64 (t : Int)) #[.int .i64 (k : Int), .int .i64 (a : Int), .int .i64 (bb : Int), .int .u64 (t : Int), .int .u64 0, .int .u64 0, .slice none 0 0, .int .u64 0, .bool false, .int .u64 0, .int .u64 0, .int .i64 0, .int .i64 0, .slice none 0 0, .bool false] ty_uint64.2 rfl rfl rfl rfl rfl rfl rfl rfl rfl) ?_; rintro ⟨⟩
        refine h_done (d_reg ?_)
        refine h_q hflS rfl ?_
        refine h_act (post := fun _ => [cell gm 28 #[.int .i64 (k : Int), .int .i64 (a : Int), .int .i64 (bb : Int), .int .u64 (t : Int), .int .u64 0, .int .u64 0, .slice none 0 0, .int .u64 0, .bool false, .int .u64 0, .int .u64 0, .int .i64 0, .int .i64 0, .slice none 0 0, .bool false], RrT (.slice A0 bd.length c0) bd g l4 f4, Vec 5 1 encB (.slice A0 bd.length c0) bd, cell g2 28 #[.int .i64 0, .int .i64 0, .int .i64 0, .int .u64 0, .int .u64 0, .int .u64 0, .slice none 0 0, .int .u64 0, .bool false, .int .u64 0, .int .u64 0, .int .i64 0, .int .i64 0, .slice none 0 0, .bool false]]) rfl (a_does (os' := fun _ => [cell gm 28 #[.int .i64 (k : Int), .int .i64 (a : Int), .int .i64 (bb : Int), .int .u64 (t : Int), .int .u64 0, .int .u64 0, .slice none 0 0, .int .u64 0, .bool false, .int .u64 0, .int .u64 0, .int .i64 0, .int .i64 0, .slice none 0 0, .bool false], RrT (.slice A0 bd.length c0) bd g l4 f4, Vec 5 1 encB (.slice A0 bd.length c0) bd, cell g2 28 #[.int .i64 0, .int .i64 0, .int .i64 0, .int .u64 0, .int .u64 0, .int .u64 0, .slice none 0 0, .int .u64 0, .bool false, .int .u64 0, .int .u64 0, .int .i64 0, .int .i64 0, .slice none 0 0, .bool false]]) [1, 2] 0 (ent_of Try.func74 (by kernel_rfl) rfl) (take_does (.slice A0 bd.length c0) bd hbd2 g lw [105, 110, 100, 101, 120] l3 f3 72057594037927935 (by decide) b1 hq1 hll i l4 f4 h4) rfl rfl rfl (fun _ => rfl) rfl rfl rfl) ?_; rintro ⟨⟩
        refine h_q hflS rfl ?_
        refine h_acts (post := fun _ => [cell gm 28 #[.int .i64 (k : Int), .int .i64 (a : Int), .int .i64 (bb : Int), .int .u64 (t : Int), .int .u64 (i : Int), .int .u64 0, .slice none 0 0, .int .u64 0, .bool false, .int .u64 0, .int .u64 0, .int .i64 0, .int .i64 0, .slice none 0 0, .bool false], RrT (.slice A0 bd.length c0) bd g l4 f4, Vec 5 1 encB (.slice A0 bd.length c0) bd, cell g2 28 #[.int .i64 0, .int .i64 0, .int .i64 0, .int .u64 0, .int .u64 0, .int .u64 0, .slice none 0 0, .int .u64 0, .bool false, .int .u64 0, .int .u64 0, .int .i64 0, .int .i64 0, .slice none 0 0, .bool false]]) rfl rfl (a_store 0 (v := .int .u64 (i : Int)) #[.int .i64 (k : Int), .int .i64 (a : Int), .int .i64 (bb : Int), .int .u64 (t : Int), .int .u64 (i : Int), .int .u64 0, .slice none 0 0, .int .u64 0, .bool false, .int .u64 0, .int .u64 0, .int .i64 0, .int .i64 0, .slice none 0 0, .bool false] ty_uint64.2 rfl rfl rfl rfl rfl rfl rfl rfl rfl) ?_; rintro ⟨⟩
        refine h_done ?_
        refine WC2.keep (env' := [(2, .pointer (some ⟨g2, 0, none⟩)), (3, .int .i64 0), (6, .pointer (some ⟨g, 0, none⟩)), (7, .pointer (some ⟨gm, 0, none⟩)), (8, .string (bs lw))]) ⟨rfl, rfl, rfl, rfl, rfl, trivial⟩ ?_
        refine d_reg ?_
        refine h_q hflS rfl ?_
        refine h_act (post := fun _ => [cell gm 28 #[.int .i64 (k : Int), .int .i64 (a : Int), .int .i64 (bb : Int), .int .u64 (t : Int), .int .u64 (i : Int), .int .u64 0, .slice none 0 0, .int .u64 0, .bool false, .int .u64 0, .int .u64 0, .int .i64 0, .int .i64 0, .slice none 0 0, .bool false], RrT (.slice A0 bd.length c0) bd g l5 f5, Vec 5 1 encB (.slice A0 bd.length c0) bd, cell g2 28 #[.int .i64 0, .int .i64 0, .int .i64 0, .int .u64 0, .int .u64 0, .int .u64 0, .slice none 0 0, .int .u64 0, .bool false, .int .u64 0, .int .u64 0, .int .i64 0, .int .i64 0, .slice none 0 0, .bool false]]) rfl (a_does (os' := fun _ => [cell gm 28 #[.int .i64 (k : Int), .int .i64 (a : Int), .int .i64 (bb : Int), .int .u64 (t : Int), .int .u64 (i : Int), .int .u64 0, .slice none 0 0, .int .u64 0, .bool false, .int .u64 0, .int .u64 0, .int .i64 0, .int .i64 0, .slice none 0 0, .bool false], RrT (.slice A0 bd.length c0) bd g l5 f5, Vec 5 1 encB (.slice A0 bd.length c0) bd, cell g2 28 #[.int .i64 0, .int .i64 0, .int .i64 0, .int .u64 0, .int .u64 0, .int .u64 0, .slice none 0 0, .int .u64 0, .bool false, .int .u64 0, .int .u64 0, .int .i64 0, .int .i64 0, .slice none 0 0, .bool false]]) [1, 2] 0 (ent_of Try.func74 (by kernel_rfl) rfl) (take_does (.slice A0 bd.length c0) bd hbd2 g lw [108, 111, 103, 116, 101, 114, 109] l4 f4 72057594037927935 (by decide) b2 hq2 hll lt l5 f5 h5) rfl rfl rfl (fun _ => rfl) rfl rfl rfl) ?_; rintro ⟨⟩
        refine h_q hflS rfl ?_
        refine h_acts (post := fun _ => [cell gm 28 #[.int .i64 (k : Int), .int .i64 (a : Int), .int .i64 (bb : Int), .int .u64 (t : Int), .int .u64 (i : Int), .int .u64 (lt : Int), .slice none 0 0, .int .u64 0, .bool false, .int .u64 0, .int .u64 0, .int .i64 0, .int .i64 0, .slice none 0 0, .bool false], RrT (.slice A0 bd.length c0) bd g l5 f5, Vec 5 1 encB (.slice A0 bd.length c0) bd, cell g2 28 #[.int .i64 0, .int .i64 0, .int .i64 0, .int .u64 0, .int .u64 0, .int .u64 0, .slice none 0 0, .int .u64 0, .bool false, .int .u64 0, .int .u64 0, .int .i64 0, .int .i64 0, .slice none 0 0, .bool false]]) rfl rfl (a_store 0 (v := .int .u64 (lt : Int)) #[.int .i64 (k : Int), .int .i64 (a : Int), .int .i64 (bb : Int), .int .u64 (t : Int), .int .u64 (i : Int), .int .u64 (lt : Int), .slice none 0 0, .int .u64 0, .bool false, .int .u64 0, .int .u64 0, .int .i64 0, .int .i64 0, .slice none 0 0, .bool false] ty_uint64.2 rfl rfl rfl rfl rfl rfl rfl rfl rfl) ?_; rintro ⟨⟩
        refine h_done (d_reg ?_)
        refine h_q hflS rfl ?_
        refine h_act (post := fun _ => [cell gm 28 #[.int .i64 (k : Int), .int .i64 (a : Int), .int .i64 (bb : Int), .int .u64 (t : Int), .int .u64 (i : Int), .int .u64 (lt : Int), .slice none 0 0, .int .u64 0, .bool false, .int .u64 0, .int .u64 0, .int .i64 0, .int .i64 0, .slice none 0 0, .bool false], RrT (.slice A0 bd.length c0) bd g l6 f6, Vec 5 1 encB (.slice A0 bd.length c0) bd, cell g2 28 #[.int .i64 0, .int .i64 0, .int .i64 0, .int .u64 0, .int .u64 0, .int .u64 0, .slice none 0 0, .int .u64 0, .bool false, .int .u64 0, .int .u64 0, .int .i64 0, .int .i64 0, .slice none 0 0, .bool false]]) rfl (a_does (os' := fun _ => [cell gm 28 #[.int .i64 (k : Int), .int .i64 (a : Int), .int .i64 (bb : Int), .int .u64 (t : Int), .int .u64 (i : Int), .int .u64 (lt : Int), .slice none 0 0, .int .u64 0, .bool false, .int .u64 0, .int .u64 0, .int .i64 0, .int .i64 0, .slice none 0 0, .bool false], RrT (.slice A0 bd.length c0) bd g l6 f6, Vec 5 1 encB (.slice A0 bd.length c0) bd, cell g2 28 #[.int .i64 0, .int .i64 0, .int .i64 0, .int .u64 0, .int .u64 0, .int .u64 0, .slice none 0 0, .int .u64 0, .bool false, .int .u64 0, .int .u64 0, .int .i64 0, .int .i64 0, .slice none 0 0, .bool false]]) [1, 2] 0 (ent_of Try.func74 (by kernel_rfl) rfl) (take_does (.slice A0 bd.length c0) bd hbd2 g lw [99, 111, 109, 109, 105, 116] l5 f5 72057594037927935 (by decide) b3 hq3 hll co l6 f6 h6) rfl rfl rfl (fun _ => rfl) rfl rfl rfl) ?_; rintro ⟨⟩
        refine h_q hflS rfl ?_
        refine h_acts (post := fun _ => [cell gm 28 #[.int .i64 (k : Int), .int .i64 (a : Int), .int .i64 (bb : Int), .int .u64 (t : Int), .int .u64 (i : Int), .int .u64 (lt : Int), .slice none 0 0, .int .u64 (co : Int), .bool false, .int .u64 0, .int .u64 0, .int .i64 0, .int .i64 0, .slice none 0 0, .bool false], RrT (.slice A0 bd.length c0) bd g l6 f6, Vec 5 1 encB (.slice A0 bd.length c0) bd, cell g2 28 #[.int .i64 0, .int .i64 0, .int .i64 0, .int .u64 0, .int .u64 0, .int .u64 0, .slice none 0 0, .int .u64 0, .bool false, .int .u64 0, .int .u64 0, .int .i64 0, .int .i64 0, .slice none 0 0, .bool false]]) rfl rfl (a_store 0 (v := .int .u64 (co : Int)) #[.int .i64 (k : Int), .int .i64 (a : Int), .int .i64 (bb : Int), .int .u64 (t : Int), .int .u64 (i : Int), .int .u64 (lt : Int), .slice none 0 0, .int .u64 (co : Int), .bool false, .int .u64 0, .int .u64 0, .int .i64 0, .int .i64 0, .slice none 0 0, .bool false] ty_uint64.2 rfl rfl rfl rfl rfl rfl rfl rfl rfl) ?_; rintro ⟨⟩
        refine h_done (d_seq (d_reg ?_))
        refine h_q hflS rfl ?_
        refine h_act (post := fun _ => [cell gm 28 #[.int .i64 (k : Int), .int .i64 (a : Int), .int .i64 (bb : Int), .int .u64 (t : Int), .int .u64 (i : Int), .int .u64 (lt : Int), .slice none 0 0, .int .u64 (co : Int), .bool false, .int .u64 0, .int .u64 0, .int .i64 0, .int .i64 0, .slice none 0 0, .bool false], RrT (.slice A0 bd.length c0) bd g l6 f6, Vec 5 1 encB (.slice A0 bd.length c0) bd, cell g2 28 #[.int .i64 0, .int .i64 0, .int .i64 0, .int .u64 0, .int .u64 0, .int .u64 0, .slice none 0 0, .int .u64 0, .bool false, .int .u64 0, .int .u64 0, .int .i64 0, .int .i64 0, .slice none 0 0, .bool false]]) rfl (a_call (ent_of Try.func67 (by kernel_rfl) rfl) (fun w hH => has_any w lw [101, 110, 116, 114, 105, 101, 115] b4 hq4 hll) rfl rfl rfl) ?_; rintro ⟨⟩
        refine h_done ?_
        cases b4
        · skip
          obtain ⟨rfl, rfl, rfl⟩ : [] = es ∧ l6 = l7 ∧ f6 = f7 := by simpa [rI, eq_comm] using h7
          have ho : o ≤ 32768 := by
            cases b7
            · have h10 : ((0 : Nat), l9, f9) = (o, l10, f10) := h10
              simp only [Prod.mk.injEq] at h10
              omega
            · have := rnum_most 32768 l9 f9
              rw [show rnum 32768 l9 f9 = (o, l10, f10) from h10] at this
              exact this
          refine d_else rfl (d_skip (f_to (d_seq (d_reg ?_))))
          refine h_q hflS rfl ?_
          refine h_act (post := fun _ => [cell gm 28 #[.int .i64 (k : Int), .int .i64 (a : Int), .int .i64 (bb : Int), .int .u64 (t : Int), .int .u64 (i : Int), .int .u64 (lt : Int), .slice none 0 0, .int .u64 (co : Int), .bool false, .int .u64 0, .int .u64 0, .int .i64 0, .int .i64 0, .slice none 0 0, .bool false], RrT (.slice A0 bd.length c0) bd g l6 f6, Vec 5 1 encB (.slice A0 bd.length c0) bd, cell g2 28 #[.int .i64 0, .int .i64 0, .int .i64 0, .int .u64 0, .int .u64 0, .int .u64 0, .slice none 0 0, .int .u64 0, .bool false, .int .u64 0, .int .u64 0, .int .i64 0, .int .i64 0, .slice none 0 0, .bool false]]) rfl (a_call (ent_of Try.func67 (by kernel_rfl) rfl) (fun w hH => has_any w lw [114, 101, 102, 117, 115, 101, 100] b5 hq5 hll) rfl rfl rfl) ?_; rintro ⟨⟩
          refine h_done ?_
          refine d_mid [(2, .pointer (some ⟨g2, 0, none⟩)), (3, .int .i64 0), (6, .pointer (some ⟨g, 0, none⟩)), (7, .pointer (some ⟨gm, 0, none⟩)), (8, .string (bs lw))] [cell gm 28 #[.int .i64 (k : Int), .int .i64 (a : Int), .int .i64 (bb : Int), .int .u64 (t : Int), .int .u64 (i : Int), .int .u64 (lt : Int), .slice none 0 0, .int .u64 (co : Int), .bool (rf == 1), .int .u64 0, .int .u64 0, .int .i64 0, .int .i64 0, .slice none 0 0, .bool false], RrT (.slice A0 bd.length c0) bd g l8 f8, Vec 5 1 encB (.slice A0 bd.length c0) bd, cell g2 28 #[.int .i64 0, .int .i64 0, .int .i64 0, .int .u64 0, .int .u64 0, .int .u64 0, .slice none 0 0, .int .u64 0, .bool false, .int .u64 0, .int .u64 0, .int .i64 0, .int .i64 0, .slice none 0 0, .bool false]] ?_ ?_
          · skip
            cases b5
            · skip
              obtain ⟨rfl, rfl, rfl⟩ : 0 = rf ∧ l6 = l8 ∧ f6 = f8 := by simpa [rI, eq_comm] using h8
              refine d_else rfl (d_skip ?_)
              exact f_mid 0 ⟨rfl, rfl, rfl, rfl, rfl, trivial⟩ rfl
            · skip
              refine d_then rfl (d_reg1 ?_)
              refine h_q hflS rfl ?_
              refine h_act (post := fun _ => [cell gm 28 #[.int .i64 (k : Int), .int .i64 (a : Int), .int .i64 (bb : Int), .int .u64 (t : Int), .int .u64 (i : Int), .int .u64 (lt : Int), .slice none 0 0, .int .u64 (co : Int), .bool false, .int .u64 0, .int .u64 0, .int .i64 0, .int .i64 0, .slice none 0 0, .bool false], RrT (.slice A0 bd.length c0) bd g l8 f8, Vec 5 1 encB (.slice A0 bd.length c0) bd, cell g2 28 #[.int .i64 0, .int .i64 0, .int .i64 0, .int .u64 0, .int .u64 0, .int .u64 0, .slice none 0 0, .int .u64 0, .bool false, .int .u64 0, .int .u64 0, .int .i64 0, .int .i64 0, .slice none 0 0, .bool false]]) rfl (a_does (os' := fun _ => [cell gm 28 #[.int .i64 (k : Int), .int .i64 (a : Int), .int .i64 (bb : Int), .int .u64 (t : Int), .int .u64 (i : Int), .int .u64 (lt : Int), .slice none 0 0, .int .u64 (co : Int), .bool false, .int .u64 0, .int .u64 0, .int .i64 0, .int .i64 0, .slice none 0 0, .bool false], RrT (.slice A0 bd.length c0) bd g l8 f8, Vec 5 1 encB (.slice A0 bd.length c0) bd, cell g2 28 #[.int .i64 0, .int .i64 0, .int .i64 0, .int .u64 0, .int .u64 0, .int .u64 0, .slice none 0 0, .int .u64 0, .bool false, .int .u64 0, .int .u64 0, .int .i64 0, .int .i64 0, .slice none 0 0, .bool false]]) [1, 2] 0 (ent_of Try.func62 (by kernel_rfl) rfl) (rx_byte hbd2 1 (by decide) (rf, l8, f8) h8) rfl rfl rfl (fun _ => rfl) rfl rfl rfl) ?_; rintro ⟨⟩
              refine h_val rfl (.bool (rf == 1)) (fun b w hb hH => exec_cmp rfl rfl rfl (cmp_eq1 rf) hb) ?_
              refine h_q hflS rfl ?_
              refine h_acts (post := fun _ => [cell gm 28 #[.int .i64 (k : Int), .int .i64 (a : Int), .int .i64 (bb : Int), .int .u64 (t : Int), .int .u64 (i : Int), .int .u64 (lt : Int), .slice none 0 0, .int .u64 (co : Int), .bool (rf == 1), .int .u64 0, .int .u64 0, .int .i64 0, .int .i64 0, .slice none 0 0, .bool false], RrT (.slice A0 bd.length c0) bd g l8 f8, Vec 5 1 encB (.slice A0 bd.length c0) bd, cell g2 28 #[.int .i64 0, .int .i64 0, .int .i64 0, .int .u64 0, .int .u64 0, .int .u64 0, .slice none 0 0, .int .u64 0, .bool false, .int .u64 0, .int .u64 0, .int .i64 0, .int .i64 0, .slice none 0 0, .bool false]]) rfl rfl (a_store 0 (v := .bool (rf == 1)) #[.int .i64 (k : Int), .int .i64 (a : Int), .int .i64 (bb : Int), .int .u64 (t : Int), .int .u64 (i : Int), .int .u64 (lt : Int), .slice none 0 0, .int .u64 (co : Int), .bool (rf == 1), .int .u64 0, .int .u64 0, .int .i64 0, .int .i64 0, .slice none 0 0, .bool false] ty_bool.2 rfl rfl rfl rfl rfl rfl rfl rfl rfl) ?_; rintro ⟨⟩
              refine h_nil ?_
              exact f_mid 0 ⟨rfl, rfl, rfl, rfl, rfl, trivial⟩ rfl
          refine f_to (d_seq (d_reg ?_))
          refine h_q hflS rfl ?_
          refine h_act (post := fun _ => [cell gm 28 #[.int .i64 (k : Int), .int .i64 (a : Int), .int .i64 (bb : Int), .int .u64 (t : Int), .int .u64 (i : Int), .int .u64 (lt : Int), .slice none 0 0, .int .u64 (co : Int), .bool (rf == 1), .int .u64 0, .int .u64 0, .int .i64 0, .int .i64 0, .slice none 0 0, .bool false], RrT (.slice A0 bd.length c0) bd g l8 f8, Vec 5 1 encB (.slice A0 bd.length c0) bd, cell g2 28 #[.int .i64 0, .int .i64 0, .int .i64 0, .int .u64 0, .int .u64 0, .int .u64 0, .slice none 0 0, .int .u64 0, .bool false, .int .u64 0, .int .u64 0, .int .i64 0, .int .i64 0, .slice none 0 0, .bool false]]) rfl (a_call (ent_of Try.func67 (by kernel_rfl) rfl) (fun w hH => has_any w lw [98, 97, 115, 101] b6 hq6 hll) rfl rfl rfl) ?_; rintro ⟨⟩
          refine h_done ?_
          refine d_mid [(2, .pointer (some ⟨g2, 0, none⟩)), (3, .int .i64 0), (6, .pointer (some ⟨g, 0, none⟩)), (7, .pointer (some ⟨gm, 0, none⟩)), (8, .string (bs lw))] [cell gm 28 #[.int .i64 (k : Int), .int .i64 (a : Int), .int .i64 (bb : Int), .int .u64 (t : Int), .int .u64 (i : Int), .int .u64 (lt : Int), .slice none 0 0, .int .u64 (co : Int), .bool (rf == 1), .int .u64 bi, .int .u64 bt, .int .i64 bc, .int .i64 0, .slice none 0 0, .bool false], RrT (.slice A0 bd.length c0) bd g l9 f9, Vec 5 1 encB (.slice A0 bd.length c0) bd, cell g2 28 #[.int .i64 0, .int .i64 0, .int .i64 0, .int .u64 0, .int .u64 0, .int .u64 0, .slice none 0 0, .int .u64 0, .bool false, .int .u64 0, .int .u64 0, .int .i64 0, .int .i64 0, .slice none 0 0, .bool false]] ?_ ?_
          · skip
            cases b6
            · skip
              obtain ⟨⟨rfl, rfl, rfl⟩, rfl, rfl⟩ : (0 = bi ∧ 0 = bt ∧ 0 = bc) ∧ l8 = l9 ∧ f8 = f9 := by simpa [rI] using h9
              refine d_else rfl (d_skip ?_)
              exact f_mid 0 ⟨rfl, rfl, rfl, rfl, rfl, trivial⟩ rfl
            · skip
              obtain ⟨⟨n1, lb1, fb1⟩, hb1_⟩ : ∃ R, rnum 72057594037927935 l8 f8 = R := ⟨_, rfl⟩
              obtain ⟨⟨n2, lb2, fb2⟩, hb2_⟩ : ∃ R, rnum 72057594037927935 lb1 fb1 = R := ⟨_, rfl⟩
              obtain ⟨⟨n3, lb3, fb3⟩, hb3_⟩ : ∃ R, rbyte 254 lb2 fb2 = R := ⟨_, rfl⟩
              have hn3 := rbyte_le 254 lb2 fb2
              rw [hb3_] at hn3
              have hn3 : n3 ≤ 254 := hn3
              have e9 := (rbase_of hb1_ hb2_ hb3_).symm.trans h9
              simp only [Prod.mk.injEq] at e9
              obtain ⟨⟨rfl, rfl, rfl⟩, rfl, rfl⟩ := e9
              refine d_then rfl (d_reg ?_)
              refine h_q hflS rfl ?_
              refine h_act (post := fun _ => [cell gm 28 #[.int .i64 (k : Int), .int .i64 (a : Int), .int .i64 (bb : Int), .int .u64 (t : Int), .int .u64 (i : Int), .int .u64 (lt : Int), .slice none 0 0, .int .u64 (co : Int), .bool (rf == 1), .int .u64 0, .int .u64 0, .int .i64 0, .int .i64 0, .slice none 0 0, .bool false], RrT (.slice A0 bd.length c0) bd g lb1 fb1, Vec 5 1 encB (.slice A0 bd.length c0) bd, cell g2 28 #[.int .i64 0, .int .i64 0, .int .i64 0, .int .u64 0, .int .u64 0, .int .u64 0, .slice none 0 0, .int .u64 0, .bool false, .int .u64 0, .int .u64 0, .int .i64 0, .int .i64 0, .slice none 0 0, .bool false]]) rfl (a_does (os' := fun _ => [cell gm 28 #[.int .i64 (k : Int), .int .i64 (a : Int), .int .i64 (bb : Int), .int .u64 (t : Int), .int .u64 (i : Int), .int .u64 (lt : Int), .slice none 0 0, .int .u64 (co : Int), .bool (rf == 1), .int .u64 0, .int .u64 0, .int .i64 0, .int .i64 0, .slice none 0 0, .bool false], RrT (.slice A0 bd.length c0) bd g lb1 fb1, Vec 5 1 encB (.slice A0 bd.length c0) bd, cell g2 28 #[.int .i64 0, .int .i64 0, .int .i64 0, .int .u64 0, .int .u64 0, .int .u64 0, .slice none 0 0, .int .u64 0, .bool false, .int .u64 0, .int .u64 0, .int .i64 0, .int .i64 0, .slice none 0 0, .bool false]]) [1, 2] 0 (ent_of Try.func63 (by kernel_rfl) rfl) (rx_num hbd2 72057594037927935 (by decide) (n1, lb1, fb1) hb1_) rfl rfl rfl (fun _ => rfl) rfl rfl rfl) ?_; rintro ⟨⟩
              refine h_q hflS rfl ?_
              refine h_acts (post := fun _ => [cell gm 28 #[.int .i64 (k : Int), .int .i64 (a : Int), .int .i64 (bb : Int), .int .u64 (t : Int), .int .u64 (i : Int), .int .u64 (lt : Int), .slice none 0 0, .int .u64 (co : Int), .bool (rf == 1), .int .u64 (n1 : Int), .int .u64 0, .int .i64 0, .int .i64 0, .slice none 0 0, .bool false], RrT (.slice A0 bd.length c0) bd g lb1 fb1, Vec 5 1 encB (.slice A0 bd.length c0) bd, cell g2 28 #[.int .i64 0, .int .i64 0, .int .i64 0, .int .u64 0, .int .u64 0, .int .u64 0, .slice none 0 0, .int .u64 0, .bool false, .int .u64 0, .int .u64 0, .int .i64 0, .int .i64 0, .slice none 0 0, .bool false]]) rfl rfl (a_store 0 (v := .int .u64 (n1 : Int)) #[.int .i64 (k : Int), .int .i64 (a : Int), .int .i64 (bb : Int), .int .u64 (t : Int), .int .u64 (i : Int), .int .u64 (lt : Int), .slice none 0 0, .int .u64 (co : Int), .bool (rf == 1), .int .u64 (n1 : Int), .int .u64 0, .int .i64 0, .int .i64 0, .slice none 0 0, .bool false] ty_uint64.2 rfl rfl rfl rfl rfl rfl rfl rfl rfl) ?_; rintro ⟨⟩
              refine h_done (d_reg ?_)
              refine h_q hflS rfl ?_
              refine h_act (post := fun _ => [cell gm 28 #[.int .i64 (k : Int), .int .i64 (a : Int), .int .i64 (bb : Int), .int .u64 (t : Int), .int .u64 (i : Int), .int .u64 (lt : Int), .slice none 0 0, .int .u64 (co : Int), .bool (rf == 1), .int .u64 (n1 : Int), .int .u64 0, .int .i64 0, .int .i64 0, .slice none 0 0, .bool false], RrT (.slice A0 bd.length c0) bd g lb2 fb2, Vec 5 1 encB (.slice A0 bd.length c0) bd, cell g2 28 #[.int .i64 0, .int .i64 0, .int .i64 0, .int .u64 0, .int .u64 0, .int .u64 0, .slice none 0 0, .int .u64 0, .bool false, .int .u64 0, .int .u64 0, .int .i64 0, .int .i64 0, .slice none 0 0, .bool false]]) rfl (a_does (os' := fun _ => [cell gm 28 #[.int .i64 (k : Int), .int .i64 (a : Int), .int .i64 (bb : Int), .int .u64 (t : Int), .int .u64 (i : Int), .int .u64 (lt : Int), .slice none 0 0, .int .u64 (co : Int), .bool (rf == 1), .int .u64 (n1 : Int), .int .u64 0, .int .i64 0, .int .i64 0, .slice none 0 0, .bool false], RrT (.slice A0 bd.length c0) bd g lb2 fb2, Vec 5 1 encB (.slice A0 bd.length c0) bd, cell g2 28 #[.int .i64 0, .int .i64 0, .int .i64 0, .int .u64 0, .int .u64 0, .int .u64 0, .slice none 0 0, .int .u64 0, .bool false, .int .u64 0, .int .u64 0, .int .i64 0, .int .i64 0, .slice none 0 0, .bool false]]) [1, 2] 0 (ent_of Try.func63 (by kernel_rfl) rfl) (rx_num hbd2 72057594037927935 (by decide) (n2, lb2, fb2) hb2_) rfl rfl rfl (fun _ => rfl) rfl rfl rfl) ?_; rintro ⟨⟩
              refine h_q hflS rfl ?_
              refine h_acts (post := fun _ => [cell gm 28 #[.int .i64 (k : Int), .int .i64 (a : Int), .int .i64 (bb : Int), .int .u64 (t : Int), .int .u64 (i : Int), .int .u64 (lt : Int), .slice none 0 0, .int .u64 (co : Int), .bool (rf == 1), .int .u64 (n1 : Int), .int .u64 (n2 : Int), .int .i64 0, .int .i64 0, .slice none 0 0, .bool false], RrT (.slice A0 bd.length c0) bd g lb2 fb2, Vec 5 1 encB (.slice A0 bd.length c0) bd, cell g2 28 #[.int .i64 0, .int .i64 0, .int .i64 0, .int .u64 0, .int .u64 0, .int .u64 0, .slice none 0 0, .int .u64 0, .bool false, .int .u64 0, .int .u64 0, .int .i64 0, .int .i64 0, .slice none 0 0, .bool false]]) rfl rfl (a_store 0 (v := .int .u64 (n2 : Int)) #[.int .i64 (k : Int), .int .i64 (a : Int), .int .i64 (bb : Int), .int .u64 (t : Int), .int .u64 (i : Int), .int .u64 (lt : Int), .slice none 0 0, .int .u64 (co : Int), .bool (rf == 1), .int .u64 (n1 : Int), .int .u64 (n2 : Int), .int .i64 0, .int .i64 0, .slice none 0 0, .bool false] ty_uint64.2 rfl rfl rfl rfl rfl rfl rfl rfl rfl) ?_; rintro ⟨⟩
              refine h_done (d_reg1 ?_)
              refine h_q hflS rfl ?_
              refine h_act (post := fun _ => [cell gm 28 #[.int .i64 (k : Int), .int .i64 (a : Int), .int .i64 (bb : Int), .int .u64 (t : Int), .int .u64 (i : Int), .int .u64 (lt : Int), .slice none 0 0, .int .u64 (co : Int), .bool (rf == 1), .int .u64 (n1 : Int), .int .u64 (n2 : Int), .int .i64 0, .int .i64 0, .slice none 0 0, .bool false], RrT (.slice A0 bd.length c0) bd g lb3 fb3, Vec 5 1 encB (.slice A0 bd.length c0) bd, cell g2 28 #[.int .i64 0, .int .i64 0, .int .i64 0, .int .u64 0, .int .u64 0, .int .u64 0, .slice none 0 0, .int .u64 0, .bool false, .int .u64 0, .int .u64 0, .int .i64 0, .int .i64 0, .slice none 0 0, .bool false]]) rfl (a_does (os' := fun _ => [cell gm 28 #[.int .i64 (k : Int), .int .i64 (a : Int), .int .i64 (bb : Int), .int .u64 (t : Int), .int .u64 (i : Int), .int .u64 (lt : Int), .slice none 0 0, .int .u64 (co : Int), .bool (rf == 1), .int .u64 (n1 : Int), .int .u64 (n2 : Int), .int .i64 0, .int .i64 0, .slice none 0 0, .bool false], RrT (.slice A0 bd.length c0) bd g lb3 fb3, Vec 5 1 encB (.slice A0 bd.length c0) bd, cell g2 28 #[.int .i64 0, .int .i64 0, .int .i64 0, .int .u64 0, .int .u64 0, .int .u64 0, .slice none 0 0, .int .u64 0, .bool false, .int .u64 0, .int .u64 0, .int .i64 0, .int .i64 0, .slice none 0 0, .bool false]]) [1, 2] 0 (ent_of Try.func62 (by kernel_rfl) rfl) (rx_byte hbd2 254 (by decide) (n3, lb3, fb3) hb3_) rfl rfl rfl (fun _ => rfl) rfl rfl rfl) ?_; rintro ⟨⟩
              refine h_val rfl (.int .i64 (n3 : Int)) (fun b w hb hH => exec_conv Try.underlying5 Try.underlying3 (IntWalk.i64_in _ (by omega)) rfl rfl hb) ?_
              refine h_q hflS rfl ?_
              refine h_acts (post := fun _ => [cell gm 28 #[.int .i64 (k : Int), .int .i64 (a : Int), .int .i64 (bb : Int), .int .u64 (t : Int), .int .u64 (i : Int), .int .u64 (lt : Int), .slice none 0 0, .int .u64 (co : Int), .bool (rf == 1), .int .u64 (n1 : Int), .int .u64 (n2 : Int), .int .i64 (n3 : Int), .int .i64 0, .slice none 0 0, .bool false], RrT (.slice A0 bd.length c0) bd g lb3 fb3, Vec 5 1 encB (.slice A0 bd.length c0) bd, cell g2 28 #[.int .i64 0, .int .i64 0, .int .i64 0, .int .u64 0, .int .u64 0, .int .u64 0, .slice none 0 0, .int .u64 0, .bool false, .int .u64 0, .int .u64 0, .int .i64 0, .int .i64 0, .slice none 0 0, .bool false]]) rfl rfl (a_store 0 (v := .int .i64 (n3 : Int)) #[.int .i64 (k : Int), .int .i64 (a : Int), .int .i64 (bb : Int), .int .u64 (t : Int), .int .u64 (i : Int), .int .u64 (lt : Int), .slice none 0 0, .int .u64 (co : Int), .bool (rf == 1), .int .u64 (n1 : Int), .int .u64 (n2 : Int), .int .i64 (n3 : Int), .int .i64 0, .slice none 0 0, .bool false] ty_int.2 rfl rfl rfl rfl rfl rfl rfl rfl rfl) ?_; rintro ⟨⟩
              refine h_nil ?_
              exact f_mid 0 ⟨rfl, rfl, rfl, rfl, rfl, trivial⟩ rfl
          refine f_to (d_reg ?_)
          refine h_q hflS rfl ?_
          refine h_act (post := fun _ => [cell gm 28 #[.int .i64 (k : Int), .int .i64 (a : Int), .int .i64 (bb : Int), .int .u64 (t : Int), .int .u64 (i : Int), .int .u64 (lt : Int), .slice none 0 0, .int .u64 (co : Int), .bool (rf == 1), .int .u64 bi, .int .u64 bt, .int .i64 bc, .int .i64 0, .slice none 0 0, .bool false], RrT (.slice A0 bd.length c0) bd g l10 f10, Vec 5 1 encB (.slice A0 bd.length c0) bd, cell g2 28 #[.int .i64 0, .int .i64 0, .int .i64 0, .int .u64 0, .int .u64 0, .int .u64 0, .slice none 0 0, .int .u64 0, .bool false, .int .u64 0, .int .u64 0, .int .i64 0, .int .i64 0, .slice none 0 0, .bool false]]) rfl (a_does (os' := fun _ => [cell gm 28 #[.int .i64 (k : Int), .int .i64 (a : Int), .int .i64 (bb : Int), .int .u64 (t : Int), .int .u64 (i : Int), .int .u64 (lt : Int), .slice none 0 0, .int .u64 (co : Int), .bool (rf == 1), .int .u64 bi, .int .u64 bt, .int .i64 bc, .int .i64 0, .slice none 0 0, .bool false], RrT (.slice A0 bd.length c0) bd g l10 f10, Vec 5 1 encB (.slice A0 bd.length c0) bd, cell g2 28 #[.int .i64 0, .int .i64 0, .int .i64 0, .int .u64 0, .int .u64 0, .int .u64 0, .slice none 0 0, .int .u64 0, .bool false, .int .u64 0, .int .u64 0, .int .i64 0, .int .i64 0, .slice none 0 0, .bool false]]) [1, 2] 0 (ent_of Try.func74 (by kernel_rfl) rfl) (take_does (.slice A0 bd.length c0) bd hbd2 g lw [111, 102, 102, 115, 101, 116] l9 f9 32768 (by decide) b7 hq7 hll o l10 f10 h10) rfl rfl rfl (fun _ => rfl) rfl rfl rfl) ?_; rintro ⟨⟩
          refine h_val rfl (.int .i64 (o : Int)) (fun b w hb hH => exec_conv Try.underlying22 Try.underlying3 (IntWalk.i64_in _ (by omega)) rfl rfl hb) ?_
          refine h_q hflS rfl ?_
          refine h_acts (post := fun _ => [cell gm 28 #[.int .i64 (k : Int), .int .i64 (a : Int), .int .i64 (bb : Int), .int .u64 (t : Int), .int .u64 (i : Int), .int .u64 (lt : Int), .slice none 0 0, .int .u64 (co : Int), .bool (rf == 1), .int .u64 bi, .int .u64 bt, .int .i64 bc, .int .i64 (o : Int), .slice none 0 0, .bool false], RrT (.slice A0 bd.length c0) bd g l10 f10, Vec 5 1 encB (.slice A0 bd.length c0) bd, cell g2 28 #[.int .i64 0, .int .i64 0, .int .i64 0, .int .u64 0, .int .u64 0, .int .u64 0, .slice none 0 0, .int .u64 0, .bool false, .int .u64 0, .int .u64 0, .int .i64 0, .int .i64 0, .slice none 0 0, .bool false]]) rfl rfl (a_store 0 (v := .int .i64 (o : Int)) #[.int .i64 (k : Int), .int .i64 (a : Int), .int .i64 (bb : Int), .int .u64 (t : Int), .int .u64 (i : Int), .int .u64 (lt : Int), .slice none 0 0, .int .u64 (co : Int), .bool (rf == 1), .int .u64 bi, .int .u64 bt, .int .i64 bc, .int .i64 (o : Int), .slice none 0 0, .bool false] ty_int.2 rfl rfl rfl rfl rfl rfl rfl rfl rfl) ?_; rintro ⟨⟩
          refine h_done (d_seq (d_reg ?_))
          refine h_q hflS rfl ?_
          refine h_act (post := fun _ => [cell gm 28 #[.int .i64 (k : Int), .int .i64 (a : Int), .int .i64 (bb : Int), .int .u64 (t : Int), .int .u64 (i : Int), .int .u64 (lt : Int), .slice none 0 0, .int .u64 (co : Int), .bool (rf == 1), .int .u64 bi, .int .u64 bt, .int .i64 bc, .int .i64 (o : Int), .slice none 0 0, .bool false], RrT (.slice A0 bd.length c0) bd g l10 f10, Vec 5 1 encB (.slice A0 bd.length c0) bd, cell g2 28 #[.int .i64 0, .int .i64 0, .int .i64 0, .int .u64 0, .int .u64 0, .int .u64 0, .slice none 0 0, .int .u64 0, .bool false, .int .u64 0, .int .u64 0, .int .i64 0, .int .i64 0, .slice none 0 0, .bool false]]) rfl (a_call (ent_of Try.func67 (by kernel_rfl) rfl) (fun w hH => has_any w lw [108, 97, 115, 116] b8 hq8 hll) rfl rfl rfl) ?_; rintro ⟨⟩
          refine h_done ?_
          refine d_mid [(2, .pointer (some ⟨g2, 0, none⟩)), (3, .int .i64 0), (6, .pointer (some ⟨g, 0, none⟩)), (7, .pointer (some ⟨gm, 0, none⟩)), (8, .string (bs lw))] [cell gm 28 #[.int .i64 (k : Int), .int .i64 (a : Int), .int .i64 (bb : Int), .int .u64 (t : Int), .int .u64 (i : Int), .int .u64 (lt : Int), .slice none 0 0, .int .u64 (co : Int), .bool (rf == 1), .int .u64 bi, .int .u64 bt, .int .i64 bc, .int .i64 (o : Int), .slice none 0 0, .bool (la == 1)], RrT (.slice A0 bd.length c0) bd g l11 f11, Vec 5 1 encB (.slice A0 bd.length c0) bd, cell g2 28 #[.int .i64 0, .int .i64 0, .int .i64 0, .int .u64 0, .int .u64 0, .int .u64 0, .slice none 0 0, .int .u64 0, .bool false, .int .u64 0, .int .u64 0, .int .i64 0, .int .i64 0, .slice none 0 0, .bool false]] ?_ ?_
          · skip
            cases b8
            · skip
              obtain ⟨rfl, rfl, rfl⟩ : 0 = la ∧ l10 = l11 ∧ f10 = f11 := by simpa [rI, eq_comm] using h11
              refine d_else rfl (d_skip ?_)
              exact f_mid 0 ⟨rfl, rfl, rfl, rfl, rfl, trivial⟩ rfl
            · skip
              refine d_then rfl (d_reg1 ?_)
              refine h_q hflS rfl ?_
              refine h_act (post := fun _ => [cell gm 28 #[.int .i64 (k : Int), .int .i64 (a : Int), .int .i64 (bb : Int), .int .u64 (t : Int), .int .u64 (i : Int), .int .u64 (lt : Int), .slice none 0 0, .int .u64 (co : Int), .bool (rf == 1), .int .u64 bi, .int .u64 bt, .int .i64 bc, .int .i64 (o : Int), .slice none 0 0, .bool false], RrT (.slice A0 bd.length c0) bd g l11 f11, Vec 5 1 encB (.slice A0 bd.length c0) bd, cell g2 28 #[.int .i64 0, .int .i64 0, .int .i64 0, .int .u64 0, .int .u64 0, .int .u64 0, .slice none 0 0, .int .u64 0, .bool false, .int .u64 0, .int .u64 0, .int .i64 0, .int .i64 0, .slice none 0 0, .bool false]]) rfl (a_does (os' := fun _ => [cell gm 28 #[.int .i64 (k : Int), .int .i64 (a : Int), .int .i64 (bb : Int), .int .u64 (t : Int), .int .u64 (i : Int), .int .u64 (lt : Int), .slice none 0 0, .int .u64 (co : Int), .bool (rf == 1), .int .u64 bi, .int .u64 bt, .int .i64 bc, .int .i64 (o : Int), .slice none 0 0, .bool false], RrT (.slice A0 bd.length c0) bd g l11 f11, Vec 5 1 encB (.slice A0 bd.length c0) bd, cell g2 28 #[.int .i64 0, .int .i64 0, .int .i64 0, .int .u64 0, .int .u64 0, .int .u64 0, .slice none 0 0, .int .u64 0, .bool false, .int .u64 0, .int .u64 0, .int .i64 0, .int .i64 0, .slice none 0 0, .bool false]]) [1, 2] 0 (ent_of Try.func62 (by kernel_rfl) rfl) (rx_byte hbd2 1 (by decide) (la, l11, f11) h11) rfl rfl rfl (fun _ => rfl) rfl rfl rfl) ?_; rintro ⟨⟩
              refine h_val rfl (.bool (la == 1)) (fun b w hb hH => exec_cmp rfl rfl rfl (cmp_eq1 la) hb) ?_
              refine h_q hflS rfl ?_
              refine h_acts (post := fun _ => [cell gm 28 #[.int .i64 (k : Int), .int .i64 (a : Int), .int .i64 (bb : Int), .int .u64 (t : Int), .int .u64 (i : Int), .int .u64 (lt : Int), .slice none 0 0, .int .u64 (co : Int), .bool (rf == 1), .int .u64 bi, .int .u64 bt, .int .i64 bc, .int .i64 (o : Int), .slice none 0 0, .bool (la == 1)], RrT (.slice A0 bd.length c0) bd g l11 f11, Vec 5 1 encB (.slice A0 bd.length c0) bd, cell g2 28 #[.int .i64 0, .int .i64 0, .int .i64 0, .int .u64 0, .int .u64 0, .int .u64 0, .slice none 0 0, .int .u64 0, .bool false, .int .u64 0, .int .u64 0, .int .i64 0, .int .i64 0, .slice none 0 0, .bool false]]) rfl rfl (a_store 0 (v := .bool (la == 1)) #[.int .i64 (k : Int), .int .i64 (a : Int), .int .i64 (bb : Int), .int .u64 (t : Int), .int .u64 (i : Int), .int .u64 (lt : Int), .slice none 0 0, .int .u64 (co : Int), .bool (rf == 1), .int .u64 bi, .int .u64 bt, .int .i64 bc, .int .i64 (o : Int), .slice none 0 0, .bool (la == 1)] ty_bool.2 rfl rfl rfl rfl rfl rfl rfl rfl rfl) ?_; rintro ⟨⟩
              refine h_nil ?_
              exact f_mid 0 ⟨rfl, rfl, rfl, rfl, rfl, trivial⟩ rfl
          refine f_to (d_reg ?_)
          refine h_q hflS rfl ?_
          refine h_act (post := fun _ => [cell gm 28 #[.int .i64 (k : Int), .int .i64 (a : Int), .int .i64 (bb : Int), .int .u64 (t : Int), .int .u64 (i : Int), .int .u64 (lt : Int), .slice none 0 0, .int .u64 (co : Int), .bool (rf == 1), .int .u64 bi, .int .u64 bt, .int .i64 bc, .int .i64 (o : Int), .slice none 0 0, .bool (la == 1)], RrT (.slice A0 bd.length c0) bd g l11 f11, Vec 5 1 encB (.slice A0 bd.length c0) bd, cell g2 28 #[.int .i64 0, .int .i64 0, .int .i64 0, .int .u64 0, .int .u64 0, .int .u64 0, .slice none 0 0, .int .u64 0, .bool false, .int .u64 0, .int .u64 0, .int .i64 0, .int .i64 0, .slice none 0 0, .bool false]]) rfl (a_call (ent_of Try.func67 (by kernel_rfl) rfl) (fun w hH => has_any w lw [100, 97, 116, 97] b9 hq9 hll) rfl rfl rfl) ?_; rintro ⟨⟩
          refine h_done ?_
          refine d_nilvec 5 1 encB ?_
          refine d_midx (X := Value) (fun dv => [(2, .pointer (some ⟨g2, 0, none⟩)), (3, .int .i64 0), (6, .pointer (some ⟨g, 0, none⟩)), (7, .pointer (some ⟨gm, 0, none⟩))]) (fun dv => [Vec 5 1 encB dv d, cell gm 28 #[.int .i64 (k : Int), .int .i64 (a : Int), .int .i64 (bb : Int), .int .u64 (t : Int), .int .u64 (i : Int), .int .u64 (lt : Int), .slice none 0 0, .int .u64 (co : Int), .bool (rf == 1), .int .u64 bi, .int .u64 bt, .int .i64 bc, .int .i64 (o : Int), dv, .bool (la == 1)], RrT (.slice A0 bd.length c0) bd g l' f', Vec 5 1 encB (.slice A0 bd.length c0) bd, cell g2 28 #[.int .i64 0, .int .i64 0, .int .i64 0, .int .u64 0, .int .u64 0, .int .u64 0, .slice none 0 0, .int .u64 0, .bool false, .int .u64 0, .int .u64 0, .int .i64 0, .int .i64 0, .slice none 0 0, .bool false]]) ?_ ?_
          · skip
            cases b9
            · skip
              obtain ⟨rfl, rfl, rfl⟩ : [] = d ∧ l11 = l' ∧ f11 = f' := by simpa [rI, eq_comm] using h12
              refine d_else rfl (d_skip ?_)
              exact f_midx (.slice none 0 0) 0 ⟨rfl, rfl, rfl, rfl, trivial⟩ rfl
            · skip
              refine d_then rfl (d_reg1 ?_)
              refine h_q hflS rfl ?_
              refine h_act (post := fun v9 => [Vec 5 1 encB v9 d, Vec 5 1 encB (.slice none 0 0) ([]), cell gm 28 #[.int .i64 (k : Int), .int .i64 (a : Int), .int .i64 (bb : Int), .int .u64 (t : Int), .int .u64 (i : Int), .int .u64 (lt : Int), .slice none 0 0, .int .u64 (co : Int), .bool (rf == 1), .int .u64 bi, .int .u64 bt, .int .i64 bc, .int .i64 (o : Int), .slice none 0 0, .bool (la == 1)], RrT (.slice A0 bd.length c0) bd g l' f', Vec 5 1 encB (.slice A0 bd.length c0) bd, cell g2 28 #[.int .i64 0, .int .i64 0, .int .i64 0, .int .u64 0, .int .u64 0, .int .u64 0, .slice none 0 0, .int .u64 0, .bool false, .int .u64 0, .int .u64 0, .int .i64 0, .int .i64 0, .slice none 0 0, .bool false]]) rfl (a_does (os' := fun v9 => [Vec 5 1 encB v9 d, Vec 5 1 encB (.slice none 0 0) ([]), cell gm 28 #[.int .i64 (k : Int), .int .i64 (a : Int), .int .i64 (bb : Int), .int .u64 (t : Int), .int .u64 (i : Int), .int .u64 (lt : Int), .slice none 0 0, .int .u64 (co : Int), .bool (rf == 1), .int .u64 bi, .int .u64 bt, .int .i64 bc, .int .i64 (o : Int), .slice none 0 0, .bool (la == 1)], RrT (.slice A0 bd.length c0) bd g l' f', Vec 5 1 encB (.slice A0 bd.length c0) bd, cell g2 28 #[.int .i64 0, .int .i64 0, .int .i64 0, .int .u64 0, .int .u64 0, .int .u64 0, .slice none 0 0, .int .u64 0, .bool false, .int .u64 0, .int .u64 0, .int .i64 0, .int .i64 0, .slice none 0 0, .bool false]]) [2, 3] 0 (ent_of Try.func64 (by kernel_rfl) rfl) (rx_text hbd2 256 (by decide) (by decide) (d, l', f') h12) rfl rfl rfl (fun _ => rfl) rfl rfl rfl) ?_; rintro v9
              refine WL2.leave [1] rfl rfl ?_
              refine h_q hflS rfl ?_
              refine h_acts (post := fun _ => [Vec 5 1 encB v9 d, cell gm 28 #[.int .i64 (k : Int), .int .i64 (a : Int), .int .i64 (bb : Int), .int .u64 (t : Int), .int .u64 (i : Int), .int .u64 (lt : Int), .slice none 0 0, .int .u64 (co : Int), .bool (rf == 1), .int .u64 bi, .int .u64 bt, .int .i64 bc, .int .i64 (o : Int), v9, .bool (la == 1)], RrT (.slice A0 bd.length c0) bd g l' f', Vec 5 1 encB (.slice A0 bd.length c0) bd, cell g2 28 #[.int .i64 0, .int .i64 0, .int .i64 0, .int .u64 0, .int .u64 0, .int .u64 0, .slice none 0 0, .int .u64 0, .bool false, .int .u64 0, .int .u64 0, .int .i64 0, .int .i64 0, .slice none 0 0, .bool false]]) rfl rfl (a_storev 1 0 (v := v9) #[.int .i64 (k : Int), .int .i64 (a : Int), .int .i64 (bb : Int), .int .u64 (t : Int), .int .u64 (i : Int), .int .u64 (lt : Int), .slice none 0 0, .int .u64 (co : Int), .bool (rf == 1), .int .u64 bi, .int .u64 bt, .int .i64 bc, .int .i64 (o : Int), v9, .bool (la == 1)] ty_s_uint8.2 rfl (fun _ h => Vec.c1 h) rfl rfl rfl rfl rfl rfl rfl) ?_; rintro ⟨⟩
              refine h_nil ?_
              exact f_midx (v9) 0 ⟨rfl, rfl, rfl, rfl, trivial⟩ rfl
          intro dv
          refine WE2.fact 0 rfl (fun _ h => Vec.is h) ?_; rintro ⟨A9, c9, rfl⟩
          refine f_to (d_seq ?_)
          have q2 : rend l' f' = rend l' f' := by rfl
          have hQ : (fun v : MsgV => v.m.es = v.es.map (·.e) ∧ (rend l' f' = 0 → v.m = m0)) (⟨⟨(k : Int), (a : Int), (bb : Int), (t : Int), (i : Int), (lt : Int), [], (co : Int), rf == 1, bi, bt, bc, (o : Int), d, la == 1⟩, [], none, 0, A9, c9⟩ : MsgV) := ⟨rfl, fun hz => by rw [hm]; try rfl⟩
          refine d_new (t := Ents 36 (.slice none 0 0) ([])) (entsT_nil) ?_
          refine d_close [2, 0, 1] rfl (gotM_mk (Q := fun v : MsgV => v.m.es = v.es.map (·.e) ∧ (rend l' f' = 0 → v.m = m0)) (⟨⟨(k : Int), (a : Int), (bb : Int), (t : Int), (i : Int), (lt : Int), [], (co : Int), rf == 1, bi, bt, bc, (o : Int), d, la == 1⟩, [], none, 0, A9, c9⟩ : MsgV) hQ) rfl ?_
          clear hQ
          refine d_open 0 rfl gotM_open (fun _ => rfl) ?_; rintro v
          refine WC2.fact 3 rfl (fun _ h => h.2) ?_; rintro hQ
          refine WC2.leave [3] rfl rfl ?_
          have hes : v.m.es = v.es.map (·.e) := hQ.1
          have hmz : rend l' f' = 0 → v.m = m0 := hQ.2
          refine d_reg ?_
          refine h_q hflS rfl ?_
          refine h_act (post := fun _ => [cell gm 28 #[.int .i64 v.m.k, .int .i64 v.m.a, .int .i64 v.m.b, .int .u64 v.m.t, .int .u64 v.m.i, .int .u64 v.m.lt, v.ev, .int .u64 v.m.co, .bool v.m.rf, .int .u64 v.m.bi, .int .u64 v.m.bt, .int .i64 v.m.bc, .int .i64 v.m.o, v.dv, .bool v.m.la], Ents 36 v.ev v.es, Vec 5 1 encB v.dv v.m.d, RrT (.slice A0 bd.length c0) bd g l' f', Vec 5 1 encB (.slice A0 bd.length c0) bd, cell g2 28 #[.int .i64 0, .int .i64 0, .int .i64 0, .int .u64 0, .int .u64 0, .int .u64 0, .slice none 0 0, .int .u64 0, .bool false, .int .u64 0, .int .u64 0, .int .i64 0, .int .i64 0, .slice none 0 0, .bool false]]) rfl (a_does (os' := fun _ => [cell gm 28 #[.int .i64 v.m.k, .int .i64 v.m.a, .int .i64 v.m.b, .int .u64 v.m.t, .int .u64 v.m.i, .int .u64 v.m.lt, v.ev, .int .u64 v.m.co, .bool v.m.rf, .int .u64 v.m.bi, .int .u64 v.m.bt, .int .i64 v.m.bc, .int .i64 v.m.o, v.dv, .bool v.m.la], Ents 36 v.ev v.es, Vec 5 1 encB v.dv v.m.d, RrT (.slice A0 bd.length c0) bd g l' f', Vec 5 1 encB (.slice A0 bd.length c0) bd, cell g2 28 #[.int .i64 0, .int .i64 0, .int .i64 0, .int .u64 0, .int .u64 0, .int .u64 0, .slice none 0 0, .int .u64 0, .bool false, .int .u64 0, .int .u64 0, .int .i64 0, .int .i64 0, .slice none 0 0, .bool false]]) [3, 4] 0 (ent_of Try.func65 (by kernel_rfl) rfl) (rx_end hbd2 (rend l' f') rfl) rfl rfl rfl (fun _ => rfl) rfl rfl rfl) ?_; rintro ⟨⟩
          refine h_q hflS rfl ?_
          refine h_done ?_
          by_cases hz : rend l' f' = 0
          · skip
            have hm1 : v.m = m0 := hmz hz
            refine d_reg ?_
            refine h_q hflS rfl ?_
            refine h_val rfl (.bool false) (fun b w hb hH => exec_cmp rfl rfl rfl (cmp_neq_f (by omega)) hb) ?_
            refine h_done (d_else rfl (d_skip (f_to (d_seq ?_))))
            rcases Bool.eq_false_or_eq_true (rightM v.m) with hR | hR
            · skip
              obtain ⟨rfl, rfl⟩ := decM_is (decM_right h16 hu hM (q2.symm.trans hz) (hm1 ▸ hR)) hD
              refine d_reg ?_
              refine h_q hflS rfl ?_
              refine h_val rfl (.agg #[.int .i64 v.m.k, .int .i64 v.m.a, .int .i64 v.m.b, .int .u64 v.m.t, .int .u64 v.m.i, .int .u64 v.m.lt, v.ev, .int .u64 v.m.co, .bool v.m.rf, .int .u64 v.m.bi, .int .u64 v.m.bt, .int .i64 v.m.bc, .int .i64 v.m.o, v.dv, .bool v.m.la]) (fun b w hb hH => exec_load rfl rfl (reads_agg (cs := [.int .i64 v.m.k, .int .i64 v.m.a, .int .i64 v.m.b, .int .u64 v.m.t, .int .u64 v.m.i, .int .u64 v.m.lt, v.ev, .int .u64 v.m.co, .bool v.m.rf, .int .u64 v.m.bi, .int .u64 v.m.bt, .int .i64 v.m.bc, .int .i64 v.m.o, v.dv, .bool v.m.la]) ty_api_Msg rfl) (hH.row 0 rfl) hb) ?_
              refine h_act (post := fun _ => [cell gm 28 #[.int .i64 v.m.k, .int .i64 v.m.a, .int .i64 v.m.b, .int .u64 v.m.t, .int .u64 v.m.i, .int .u64 v.m.lt, v.ev, .int .u64 v.m.co, .bool v.m.rf, .int .u64 v.m.bi, .int .u64 v.m.bt, .int .i64 v.m.bc, .int .i64 v.m.o, v.dv, .bool v.m.la], Ents 36 v.ev v.es, Vec 5 1 encB v.dv v.m.d, RrT (.slice A0 bd.length c0) bd g l' f', Vec 5 1 encB (.slice A0 bd.length c0) bd, cell g2 28 #[.int .i64 0, .int .i64 0, .int .i64 0, .int .u64 0, .int .u64 0, .int .u64 0, .slice none 0 0, .int .u64 0, .bool false, .int .u64 0, .int .u64 0, .int .i64 0, .int .i64 0, .slice none 0 0, .bool false]]) rfl (a_call (ent_of Try.func30 (by kernel_rfl) rfl) (fun w hH => rrightM_any w v (msgOk_of hbd hM hm1 hes (hH.ents 1 rfl) (hH.sl8 2 rfl)) true hR) rfl rfl rfl) ?_; rintro ⟨⟩
              refine h_q hflS rfl ?_
              refine h_done (d_else rfl (d_skip (f_to (d_reg ?_))))
              refine h_q hflS rfl ?_
              refine h_val rfl (.agg #[.int .i64 v.m.k, .int .i64 v.m.a, .int .i64 v.m.b, .int .u64 v.m.t, .int .u64 v.m.i, .int .u64 v.m.lt, v.ev, .int .u64 v.m.co, .bool v.m.rf, .int .u64 v.m.bi, .int .u64 v.m.bt, .int .i64 v.m.bc, .int .i64 v.m.o, v.dv, .bool v.m.la]) (fun b w hb hH => exec_load rfl rfl (reads_agg (cs := [.int .i64 v.m.k, .int .i64 v.m.a, .int .i64 v.m.b, .int .u64 v.m.t, .int .u64 v.m.i, .int .u64 v.m.lt, v.ev, .int .u64 v.m.co, .bool v.m.rf, .int .u64 v.m.bi, .int .u64 v.m.bt, .int .i64 v.m.bc, .int .i64 v.m.o, v.dv, .bool v.m.la]) ty_api_Msg rfl) (hH.row 0 rfl) hb) ?_
              refine h_acts (post := fun _ => [cell gm 28 #[.int .i64 v.m.k, .int .i64 v.m.a, .int .i64 v.m.b, .int .u64 v.m.t, .int .u64 v.m.i, .int .u64 v.m.lt, v.ev, .int .u64 v.m.co, .bool v.m.rf, .int .u64 v.m.bi, .int .u64 v.m.bt, .int .i64 v.m.bc, .int .i64 v.m.o, v.dv, .bool v.m.la], Ents 36 v.ev v.es, Vec 5 1 encB v.dv v.m.d, RrT (.slice A0 bd.length c0) bd g l' f', Vec 5 1 encB (.slice A0 bd.length c0) bd, cell g2 28 #[.int .i64 v.m.k, .int .i64 v.m.a, .int .i64 v.m.b, .int .u64 v.m.t, .int .u64 v.m.i, .int .u64 v.m.lt, v.ev, .int .u64 v.m.co, .bool v.m.rf, .int .u64 v.m.bi, .int .u64 v.m.bt, .int .i64 v.m.bc, .int .i64 v.m.o, v.dv, .bool v.m.la]]) rfl rfl (a_store 5 (v := .agg #[.int .i64 v.m.k, .int .i64 v.m.a, .int .i64 v.m.b, .int .u64 v.m.t, .int .u64 v.m.i, .int .u64 v.m.lt, v.ev, .int .u64 v.m.co, .bool v.m.rf, .int .u64 v.m.bi, .int .u64 v.m.bt, .int .i64 v.m.bc, .int .i64 v.m.o, v.dv, .bool v.m.la]) #[.int .i64 v.m.k, .int .i64 v.m.a, .int .i64 v.m.b, .int .u64 v.m.t, .int .u64 v.m.i, .int .u64 v.m.lt, v.ev, .int .u64 v.m.co, .bool v.m.rf, .int .u64 v.m.bi, .int .u64 v.m.bt, .int .i64 v.m.bc, .int .i64 v.m.o, v.dv, .bool v.m.la] ty_api_Msg.2 rfl rfl rfl rfl rfl rfl rfl rfl rfl) ?_; rintro ⟨⟩
              refine h_q hflS rfl ?_
              refine h_done (d_ret ?_)
              exact f_fin2 (.cell 5 (v := .agg #[.int .i64 v.m.k, .int .i64 v.m.a, .int .i64 v.m.b, .int .u64 v.m.t, .int .u64 v.m.i, .int .u64 v.m.lt, v.ev, .int .u64 v.m.co, .bool v.m.rf, .int .u64 v.m.bi, .int .u64 v.m.bt, .int .i64 v.m.bc, .int .i64 v.m.o, v.dv, .bool v.m.la]) (reads_agg (cs := [.int .i64 v.m.k, .int .i64 v.m.a, .int .i64 v.m.b, .int .u64 v.m.t, .int .u64 v.m.i, .int .u64 v.m.lt, v.ev, .int .u64 v.m.co, .bool v.m.rf, .int .u64 v.m.bi, .int .u64 v.m.bt, .int .i64 v.m.bc, .int .i64 v.m.o, v.dv, .bool v.m.la]) ty_api_Msg rfl) rfl rfl) (.tmp rfl) (fun w h => tells v rfl [1, 2] rfl h (fun z hz => ⟨z, .refl _, fact_add (xs := [_, _]) ⟨hm1, hes⟩ hz⟩)) rfl
            · skip
              obtain ⟨rfl, rfl⟩ := decM_is (decM_wrong h16 hu hM (q2.symm.trans hz) (hm1 ▸ hR)) hD
              refine d_reg ?_
              refine h_q hflS rfl ?_
              refine h_val rfl (.agg #[.int .i64 v.m.k, .int .i64 v.m.a, .int .i64 v.m.b, .int .u64 v.m.t, .int .u64 v.m.i, .int .u64 v.m.lt, v.ev, .int .u64 v.m.co, .bool v.m.rf, .int .u64 v.m.bi, .int .u64 v.m.bt, .int .i64 v.m.bc, .int .i64 v.m.o, v.dv, .bool v.m.la]) (fun b w hb hH => exec_load rfl rfl (reads_agg (cs := [.int .i64 v.m.k, .int .i64 v.m.a, .int .i64 v.m.b, .int .u64 v.m.t, .int .u64 v.m.i, .int .u64 v.m.lt, v.ev, .int .u64 v.m.co, .bool v.m.rf, .int .u64 v.m.bi, .int .u64 v.m.bt, .int .i64 v.m.bc, .int .i64 v.m.o, v.dv, .bool v.m.la]) ty_api_Msg rfl) (hH.row 0 rfl) hb) ?_
              refine h_act (post := fun _ => [cell gm 28 #[.int .i64 v.m.k, .int .i64 v.m.a, .int .i64 v.m.b, .int .u64 v.m.t, .int .u64 v.m.i, .int .u64 v.m.lt, v.ev, .int .u64 v.m.co, .bool v.m.rf, .int .u64 v.m.bi, .int .u64 v.m.bt, .int .i64 v.m.bc, .int .i64 v.m.o, v.dv, .bool v.m.la], Ents 36 v.ev v.es, Vec 5 1 encB v.dv v.m.d, RrT (.slice A0 bd.length c0) bd g l' f', Vec 5 1 encB (.slice A0 bd.length c0) bd, cell g2 28 #[.int .i64 0, .int .i64 0, .int .i64 0, .int .u64 0, .int .u64 0, .int .u64 0, .slice none 0 0, .int .u64 0, .bool false, .int .u64 0, .int .u64 0, .int .i64 0, .int .i64 0, .slice none 0 0, .bool false]]) rfl (a_call (ent_of Try.func30 (by kernel_rfl) rfl) (fun w hH => rrightM_any w v (msgOk_of hbd hM hm1 hes (hH.ents 1 rfl) (hH.sl8 2 rfl)) false hR) rfl rfl rfl) ?_; rintro ⟨⟩
              refine h_q hflS rfl ?_
              refine h_done (d_then rfl ?_)
              refine d_new (t := Ents 36 (.slice none 0 0) ([])) (entsT_nil) ?_
              refine d_nilvec 5 1 encB ?_
              refine d_reg ?_
              refine h_q hflS rfl ?_
              refine h_val rfl (.agg #[.int .i64 0, .int .i64 0, .int .i64 0, .int .u64 0, .int .u64 0, .int .u64 0, .slice none 0 0, .int .u64 0, .bool false, .int .u64 0, .int .u64 0, .int .i64 0, .int .i64 0, .slice none 0 0, .bool false]) (fun b w hb hH => exec_build rfl rfl (by kernel_rfl) hb) ?_
              refine h_acts (post := fun _ => [Vec 5 1 encB (.slice none 0 0) ([]), Ents 36 (.slice none 0 0) ([]), cell gm 28 #[.int .i64 v.m.k, .int .i64 v.m.a, .int .i64 v.m.b, .int .u64 v.m.t, .int .u64 v.m.i, .int .u64 v.m.lt, v.ev, .int .u64 v.m.co, .bool v.m.rf, .int .u64 v.m.bi, .int .u64 v.m.bt, .int .i64 v.m.bc, .int .i64 v.m.o, v.dv, .bool v.m.la], Ents 36 v.ev v.es, Vec 5 1 encB v.dv v.m.d, RrT (.slice A0 bd.length c0) bd g l' f', Vec 5 1 encB (.slice A0 bd.length c0) bd, cell g2 28 #[.int .i64 0, .int .i64 0, .int .i64 0, .int .u64 0, .int .u64 0, .int .u64 0, .slice none 0 0, .int .u64 0, .bool false, .int .u64 0, .int .u64 0, .int .i64 0, .int .i64 0, .slice none 0 0, .bool false]]) rfl rfl (a_store 7 (v := .agg #[.int .i64 0, .int .i64 0, .int .i64 0, .int .u64 0, .int .u64 0, .int .u64 0, .slice none 0 0, .int .u64 0, .bool false, .int .u64 0, .int .u64 0, .int .i64 0, .int .i64 0, .slice none 0 0, .bool false]) #[.int .i64 0, .int .i64 0, .int .i64 0, .int .u64 0, .int .u64 0, .int .u64 0, .slice none 0 0, .int .u64 0, .bool false, .int .u64 0, .int .u64 0, .int .i64 0, .int .i64 0, .slice none 0 0, .bool false] ty_api_Msg.2 rfl rfl rfl rfl rfl rfl rfl rfl rfl) ?_; rintro ⟨⟩
              refine h_q hflS rfl ?_
              refine h_done (d_ret (f_then_ret ?_))
              exact f_fin2 (.cell 7 (v := .agg #[.int .i64 0, .int .i64 0, .int .i64 0, .int .u64 0, .int .u64 0, .int .u64 0, .slice none 0 0, .int .u64 0, .bool false, .int .u64 0, .int .u64 0, .int .i64 0, .int .i64 0, .slice none 0 0, .bool false]) (reads_agg (cs := [.int .i64 0, .int .i64 0, .int .i64 0, .int .u64 0, .int .u64 0, .int .u64 0, .slice none 0 0, .int .u64 0, .bool false, .int .u64 0, .int .u64 0, .int .i64 0, .int .i64 0, .slice none 0 0, .bool false]) ty_api_Msg rfl) rfl rfl) (.tmp rfl) (fun w h => tells (⟨.zero, [], none, 0, none, 0⟩ : MsgV) rfl [1, 0] rfl h (fun z hz => ⟨z, .refl _, fact_add (xs := [_, _]) (show _ = _ ∧ _ = _ from ⟨rfl, rfl⟩) hz⟩)) rfl
          · skip
            have hb := decM_bad h16 hu hM (by omega)
            rw [← q2] at hb
            obtain ⟨rfl, rfl⟩ := decM_is hb hD
            refine d_reg ?_
            refine h_q hflS rfl ?_
            refine h_val rfl (.bool true) (fun b w hb hH => exec_cmp rfl rfl rfl (cmp_neq_t (by omega)) hb) ?_
            refine h_done (d_then rfl ?_)
            refine d_new (t := Ents 36 (.slice none 0 0) ([])) (entsT_nil) ?_
            refine d_nilvec 5 1 encB ?_
            refine d_reg ?_
            refine h_q hflS rfl ?_
            refine h_val rfl (.agg #[.int .i64 0, .int .i64 0, .int .i64 0, .int .u64 0, .int .u64 0, .int .u64 0, .slice none 0 0, .int .u64 0, .bool false, .int .u64 0, .int .u64 0, .int .i64 0, .int .i64 0, .slice none 0 0, .bool false]) (fun b w hb hH => exec_build rfl rfl (by kernel_rfl) hb) ?_
            refine h_q hflS rfl ?_
            refine h_acts (post := fun _ => [Vec 5 1 encB (.slice none 0 0) ([]), Ents 36 (.slice none 0 0) ([]), cell gm 28 #[.int .i64 v.m.k, .int .i64 v.m.a, .int .i64 v.m.b, .int .u64 v.m.t, .int .u64 v.m.i, .int .u64 v.m.lt, v.ev, .int .u64 v.m.co, .bool v.m.rf, .int .u64 v.m.bi, .int .u64 v.m.bt, .int .i64 v.m.bc, .int .i64 v.m.o, v.dv, .bool v.m.la], Ents 36 v.ev v.es, Vec 5 1 encB v.dv v.m.d, RrT (.slice A0 bd.length c0) bd g l' f', Vec 5 1 encB (.slice A0 bd.length c0) bd, cell g2 28 #[.int .i64 0, .int .i64 0, .int .i64 0, .int .u64 0, .int .u64 0, .int .u64 0, .slice none 0 0, .int .u64 0, .bool false, .int .u64 0, .int .u64 0, .int .i64 0, .int .i64 0, .slice none 0 0, .bool false]]) rfl rfl (a_store 7 (v := .agg #[.int .i64 0, .int .i64 0, .int .i64 0, .int .u64 0, .int .u64 0, .int .u64 0, .slice none 0 0, .int .u64 0, .bool false, .int .u64 0, .int .u64 0, .int .i64 0, .int .i64 0, .slice none 0 0, .bool false]) #[.int .i64 0, .int .i64 0, .int .i64 0, .int .u64 0, .int .u64 0, .int .u64 0, .slice none 0 0, .int .u64 0, .bool false, .int .u64 0, .int .u64 0, .int .i64 0, .int .i64 0, .slice none 0 0, .bool false] ty_api_Msg.2 rfl rfl rfl rfl rfl rfl rfl rfl rfl) ?_; rintro ⟨⟩
            refine h_q hflS rfl ?_
            refine h_done (d_ret (f_then_ret ?_))
            exact f_fin2 (.cell 7 (v := .agg #[.int .i64 0, .int .i64 0, .int .i64 0, .int .u64 0, .int .u64 0, .int .u64 0, .slice none 0 0, .int .u64 0, .bool false, .int .u64 0, .int .u64 0, .int .i64 0, .int .i64 0, .slice none 0 0, .bool false]) (reads_agg (cs := [.int .i64 0, .int .i64 0, .int .i64 0, .int .u64 0, .int .u64 0, .int .u64 0, .slice none 0 0, .int .u64 0, .bool false, .int .u64 0, .int .u64 0, .int .i64 0, .int .i64 0, .slice none 0 0, .bool false]) ty_api_Msg rfl) rfl rfl) (.tmp rfl) (fun w h => tells (⟨.zero, [], none, 0, none, 0⟩ : MsgV) rfl [1, 0] rfl h (fun z hz => ⟨z, .refl _, fact_add (xs := [_, _]) (show _ = _ ∧ _ = _ from ⟨rfl, rfl⟩) hz⟩)) rfl
        · skip
          have hl6 : l6.length ≤ 1024 := by have := hlen6; omega
          obtain ⟨q5, q6, q7, q8, q9⟩ := kinds_of6 hk6 hb4
          refine d_then rfl (d_reg ?_)
          refine h_q hflS rfl ?_
          refine h_act rfl (a_does  [1, 2, 0] 0 (ent_of Try.func75 (by kernel_rfl) rfl) (rreadEntries_does (.slice A0 bd.length c0) bd hbd2 g gm l6 f6 hl6 (k : Int) (a : Int) (bb : Int) (t : Int) (i : Int) (lt : Int) (co : Int)) rfl rfl rfl (fun _ => rfl) rfl rfl rfl) ?_; rintro ⟨EA, ec, es2, en2, lz, fz⟩
          refine WL2.fact 1 rfl (fun _ h => h.2) ?_; rintro hRE
          refine WL2.keep (env' := [(2, .pointer (some ⟨g2, 0, none⟩)), (3, .int .i64 0), (6, .pointer (some ⟨g, 0, none⟩)), (7, .pointer (some ⟨gm, 0, none⟩)), (8, .string (bs lw)), (52, .pointer (some ⟨g, 0, none⟩)), (53, .string (bs lw)), (54, .int .u64 (lt : Int)), (55, .pointer (some ⟨gm, 5, none⟩)), (56, .pointer (some ⟨g, 0, none⟩)), (57, .string (bs lw)), (58, .int .u64 (co : Int)), (59, .pointer (some ⟨gm, 7, none⟩)), (60, .string (bs lw)), (61, .bool true), (62, .pointer (some ⟨g, 0, none⟩)), (63, .int .i64 (en2 : Int))]) ⟨rfl, rfl, rfl, rfl, rfl, rfl, rfl, rfl, rfl, rfl, rfl, rfl, rfl, rfl, rfl, rfl, rfl, trivial⟩ ?_
          refine WL2.mid [Ents 36 (.slice EA es2.length ec) es2, fact (REOk (rlist l6 f6) ⟨EA, ec, es2, en2, lz, fz⟩), cell gm 28 #[.int .i64 (k : Int), .int .i64 (a : Int), .int .i64 (bb : Int), .int .u64 (t : Int), .int .u64 (i : Int), .int .u64 (lt : Int), .slice EA es2.length ec, .int .u64 (co : Int), .bool false, .int .u64 0, .int .u64 0, .int .i64 0, .int .i64 0, .slice none 0 0, .bool false], RrT (.slice A0 bd.length c0) bd g lz fz, Vec 5 1 encB (.slice A0 bd.length c0) bd, cell g2 28 #[.int .i64 0, .int .i64 0, .int .i64 0, .int .u64 0, .int .u64 0, .int .u64 0, .slice none 0 0, .int .u64 0, .bool false, .int .u64 0, .int .u64 0, .int .i64 0, .int .i64 0, .slice none 0 0, .bool false]] (.refl _) ?_
          refine h_q hflS rfl ?_
          refine h_done ?_
          by_cases hen : en2 = 0
          · skip
            have hRE2 := REOk_of hRE (show rlist l6 f6 = (es, l7, f7) from h7)
            obtain rfl : b5 = false := hb5.symm.trans q5
            obtain rfl : b6 = false := hb6.symm.trans q6
            obtain rfl : b7 = false := hb7.symm.trans q7
            obtain rfl : b8 = false := hb8.symm.trans q8
            obtain rfl : b9 = false := hb9.symm.trans q9
            obtain ⟨rfl, rfl, rfl⟩ : 0 = rf ∧ l7 = l8 ∧ f7 = f8 := by simpa [rI, eq_comm] using h8
            obtain ⟨⟨rfl, rfl, rfl⟩, rfl, rfl⟩ : (0 = bi ∧ 0 = bt ∧ 0 = bc) ∧ l7 = l9 ∧ f7 = f9 := by simpa [rI] using h9
            obtain ⟨rfl, rfl, rfl⟩ : 0 = o ∧ l7 = l10 ∧ f7 = f10 := by simpa [rI, eq_comm] using h10
            obtain ⟨rfl, rfl, rfl⟩ : 0 = la ∧ l7 = l11 ∧ f7 = f11 := by simpa [rI, eq_comm] using h11
            obtain ⟨rfl, rfl, rfl⟩ : [] = d ∧ l7 = l' ∧ f7 = f' := by simpa [rI, eq_comm] using h12
            refine WC2.leave [1] rfl rfl ?_
            refine d_reg ?_
            refine h_q hflS rfl ?_
            refine h_val rfl (.bool false) (fun b w hb hH => exec_cmp rfl rfl rfl (cmp_neq_f (by omega)) hb) ?_
            refine h_done (d_else rfl (d_skip (f_to (d_seq (d_reg ?_)))))
            refine h_q hflS rfl ?_
            refine h_act (post := fun _ => [Ents 36 (.slice EA es2.length ec) es2, cell gm 28 #[.int .i64 (k : Int), .int .i64 (a : Int), .int .i64 (bb : Int), .int .u64 (t : Int), .int .u64 (i : Int), .int .u64 (lt : Int), .slice EA es2.length ec, .int .u64 (co : Int), .bool false, .int .u64 0, .int .u64 0, .int .i64 0, .int .i64 0, .slice none 0 0, .bool false], RrT (.slice A0 bd.length c0) bd g lz fz, Vec 5 1 encB (.slice A0 bd.length c0) bd, cell g2 28 #[.int .i64 0, .int .i64 0, .int .i64 0, .int .u64 0, .int .u64 0, .int .u64 0, .slice none 0 0, .int .u64 0, .bool false, .int .u64 0, .int .u64 0, .int .i64 0, .int .i64 0, .slice none 0 0, .bool false]]) rfl (a_call (ent_of Try.func67 (by kernel_rfl) rfl) (fun w hH => has_any w lw [114, 101, 102, 117, 115, 101, 100] false hq5 hll) rfl rfl rfl) ?_; rintro ⟨⟩
            refine h_done (d_else rfl (d_skip (f_to (d_seq (d_reg ?_)))))
            refine h_q hflS rfl ?_
            refine h_act (post := fun _ => [Ents 36 (.slice EA es2.length ec) es2, cell gm 28 #[.int .i64 (k : Int), .int .i64 (a : Int), .int .i64 (bb : Int), .int .u64 (t : Int), .int .u64 (i : Int), .int .u64 (lt : Int), .slice EA es2.length ec, .int .u64 (co : Int), .bool false, .int .u64 0, .int .u64 0, .int .i64 0, .int .i64 0, .slice none 0 0, .bool false], RrT (.slice A0 bd.length c0) bd g lz fz, Vec 5 1 encB (.slice A0 bd.length c0) bd, cell g2 28 #[.int .i64 0, .int .i64 0, .int .i64 0, .int .u64 0, .int .u64 0, .int .u64 0, .slice none 0 0, .int .u64 0, .bool false, .int .u64 0, .int .u64 0, .int .i64 0, .int .i64 0, .slice none 0 0, .bool false]]) rfl (a_call (ent_of Try.func67 (by kernel_rfl) rfl) (fun w hH => has_any w lw [98, 97, 115, 101] false hq6 hll) rfl rfl rfl) ?_; rintro ⟨⟩
            refine h_done (d_else rfl (d_skip (f_to (d_reg ?_))))
            refine h_q hflS rfl ?_
            refine h_act (post := fun _ => [Ents 36 (.slice EA es2.length ec) es2, cell gm 28 #[.int .i64 (k : Int), .int .i64 (a : Int), .int .i64 (bb : Int), .int .u64 (t : Int), .int .u64 (i : Int), .int .u64 (lt : Int), .slice EA es2.length ec, .int .u64 (co : Int), .bool false, .int .u64 0, .int .u64 0, .int .i64 0, .int .i64 0, .slice none 0 0, .bool false], RrT (.slice A0 bd.length c0) bd g lz fz, Vec 5 1 encB (.slice A0 bd.length c0) bd, cell g2 28 #[.int .i64 0, .int .i64 0, .int .i64 0, .int .u64 0, .int .u64 0, .int .u64 0, .slice none 0 0, .int .u64 0, .bool false, .int .u64 0, .int .u64 0, .int .i64 0, .int .i64 0, .slice none 0 0, .bool false]]) rfl (a_does (os' := fun _ => [Ents 36 (.slice EA es2.length ec) es2, cell gm 28 #[.int .i64 (k : Int), .int .i64 (a : Int), .int .i64 (bb : Int), .int .u64 (t : Int), .int .u64 (i : Int), .int .u64 (lt : Int), .slice EA es2.length ec, .int .u64 (co : Int), .bool false, .int .u64 0, .int .u64 0, .int .i64 0, .int .i64 0, .slice none 0 0, .bool false], RrT (.slice A0 bd.length c0) bd g lz fz, Vec 5 1 encB (.slice A0 bd.length c0) bd, cell g2 28 #[.int .i64 0, .int .i64 0, .int .i64 0, .int .u64 0, .int .u64 0, .int .u64 0, .slice none 0 0, .int .u64 0, .bool false, .int .u64 0, .int .u64 0, .int .i64 0, .int .i64 0, .slice none 0 0, .bool false]]) [2, 3] 0 (ent_of Try.func74 (by kernel_rfl) rfl) (take_does (.slice A0 bd.length c0) bd hbd2 g lw [111, 102, 102, 115, 101, 116] lz fz 32768 (by decide) false hq7 hll 0 lz fz rfl) rfl rfl rfl (fun _ => rfl) rfl rfl rfl) ?_; rintro ⟨⟩
            refine h_val rfl (.int .i64 ((0 : Nat) : Int)) (fun b w hb hH => exec_conv Try.underlying22 Try.underlying3 (IntWalk.i64_in _ (by omega)) rfl rfl hb) ?_
            refine h_q hflS rfl ?_
            refine h_acts (post := fun _ => [Ents 36 (.slice EA es2.length ec) es2, cell gm 28 #[.int .i64 (k : Int), .int .i64 (a : Int), .int .i64 (bb : Int), .int .u64 (t : Int), .int .u64 (i : Int), .int .u64 (lt : Int), .slice EA es2.length ec, .int .u64 (co : Int), .bool false, .int .u64 0, .int .u64 0, .int .i64 0, .int .i64 ((0 : Nat) : Int), .slice none 0 0, .bool false], RrT (.slice A0 bd.length c0) bd g lz fz, Vec 5 1 encB (.slice A0 bd.length c0) bd, cell g2 28 #[.int .i64 0, .int .i64 0, .int .i64 0, .int .u64 0, .int .u64 0, .int .u64 0, .slice none 0 0, .int .u64 0, .bool false, .int .u64 0, .int .u64 0, .int .i64 0, .int .i64 0, .slice none 0 0, .bool false]]) rfl rfl (a_store 1 (v := .int .i64 ((0 : Nat) : Int)) #[.int .i64 (k : Int), .int .i64 (a : Int), .int .i64 (bb : Int), .int .u64 (t : Int), .int .u64 (i : Int), .int .u64 (lt : Int), .slice EA es2.length ec, .int .u64 (co : Int), .bool false, .int .u64 0, .int .u64 0, .int .i64 0, .int .i64 ((0 : Nat) : Int), .slice none 0 0, .bool false] ty_int.2 rfl rfl rfl rfl rfl rfl rfl rfl rfl) ?_; rintro ⟨⟩
            refine h_done (d_seq (d_reg ?_))
            refine h_q hflS rfl ?_
            refine h_act (post := fun _ => [Ents 36 (.slice EA es2.length ec) es2, cell gm 28 #[.int .i64 (k : Int), .int .i64 (a : Int), .int .i64 (bb : Int), .int .u64 (t : Int), .int .u64 (i : Int), .int .u64 (lt : Int), .slice EA es2.length ec, .int .u64 (co : Int), .bool false, .int .u64 0, .int .u64 0, .int .i64 0, .int .i64 ((0 : Nat) : Int), .slice none 0 0, .bool false], RrT (.slice A0 bd.length c0) bd g lz fz, Vec 5 1 encB (.slice A0 bd.length c0) bd, cell g2 28 #[.int .i64 0, .int .i64 0, .int .i64 0, .int .u64 0, .int .u64 0, .int .u64 0, .slice none 0 0, .int .u64 0, .bool false, .int .u64 0, .int .u64 0, .int .i64 0, .int .i64 0, .slice none 0 0, .bool false]]) rfl (a_call (ent_of Try.func67 (by kernel_rfl) rfl) (fun w hH => has_any w lw [108, 97, 115, 116] false hq8 hll) rfl rfl rfl) ?_; rintro ⟨⟩
            refine h_done (d_else rfl (d_skip (f_to (d_reg ?_))))
            refine h_q hflS rfl ?_
            refine h_act (post := fun _ => [Ents 36 (.slice EA es2.length ec) es2, cell gm 28 #[.int .i64 (k : Int), .int .i64 (a : Int), .int .i64 (bb : Int), .int .u64 (t : Int), .int .u64 (i : Int), .int .u64 (lt : Int), .slice EA es2.length ec, .int .u64 (co : Int), .bool false, .int .u64 0, .int .u64 0, .int .i64 0, .int .i64 ((0 : Nat) : Int), .slice none 0 0, .bool false], RrT (.slice A0 bd.length c0) bd g lz fz, Vec 5 1 encB (.slice A0 bd.length c0) bd, cell g2 28 #[.int .i64 0, .int .i64 0, .int .i64 0, .int .u64 0, .int .u64 0, .int .u64 0, .slice none 0 0, .int .u64 0, .bool false, .int .u64 0, .int .u64 0, .int .i64 0, .int .i64 0, .slice none 0 0, .bool false]]) rfl (a_call (ent_of Try.func67 (by kernel_rfl) rfl) (fun w hH => has_any w lw [100, 97, 116, 97] false hq9 hll) rfl rfl rfl) ?_; rintro ⟨⟩
            refine h_done (d_else rfl (d_skip (f_to (d_seq ?_))))
            have q2 : rend lz fz = rend l7 f7 := by exact (reok_end hRE2 hen).1
            have hQ : (fun v : MsgV => v.m.es = v.es.map (·.e) ∧ (rend lz fz = 0 → v.m = m0)) (⟨⟨(k : Int), (a : Int), (bb : Int), (t : Int), (i : Int), (lt : Int), es2.map (·.e), (co : Int), false, 0, 0, 0, 0, [], false⟩, es2, EA, ec, none, 0⟩ : MsgV) := ⟨rfl, fun hz => by rw [hm]; have h5 := (reok_end hRE2 hen).2 hz; simp only at h5; rw [← h5]; try rfl⟩
            refine d_nilvec 5 1 encB ?_
            refine d_close [2, 1, 0] rfl (gotM_mk (Q := fun v : MsgV => v.m.es = v.es.map (·.e) ∧ (rend lz fz = 0 → v.m = m0)) (⟨⟨(k : Int), (a : Int), (bb : Int), (t : Int), (i : Int), (lt : Int), es2.map (·.e), (co : Int), false, 0, 0, 0, 0, [], false⟩, es2, EA, ec, none, 0⟩ : MsgV) hQ) rfl ?_
            clear hQ
            refine d_open 0 rfl gotM_open (fun _ => rfl) ?_; rintro v
            refine WC2.fact 3 rfl (fun _ h => h.2) ?_; rintro hQ
            refine WC2.leave [3] rfl rfl ?_
            have hes : v.m.es = v.es.map (·.e) := hQ.1
            have hmz : rend lz fz = 0 → v.m = m0 := hQ.2
            refine d_reg ?_
            refine h_q hflS rfl ?_
            refine h_act (post := fun _ => [cell gm 28 #[.int .i64 v.m.k, .int .i64 v.m.a, .int .i64 v.m.b, .int .u64 v.m.t, .int .u64 v.m.i, .int .u64 v.m.lt, v.ev, .int .u64 v.m.co, .bool v.m.rf, .int .u64 v.m.bi, .int .u64 v.m.bt, .int .i64 v.m.bc, .int .i64 v.m.o, v.dv, .bool v.m.la], Ents 36 v.ev v.es, Vec 5 1 encB v.dv v.m.d, RrT (.slice A0 bd.length c0) bd g lz fz, Vec 5 1 encB (.slice A0 bd.length c0) bd, cell g2 28 #[.int .i64 0, .int .i64 0, .int .i64 0, .int .u64 0, .int .u64 0, .int .u64 0, .slice none 0 0, .int .u64 0, .bool false, .int .u64 0, .int .u64 0, .int .i64 0, .int .i64 0, .slice none 0 0, .bool false]]) rfl (a_does (os' := fun _ => [cell gm 28 #[.int .i64 v.m.k, .int .i64 v.m.a, .int .i64 v.m.b, .int .u64 v.m.t, .int .u64 v.m.i, .int .u64 v.m.lt, v.ev, .int .u64 v.m.co, .bool v.m.rf, .int .u64 v.m.bi, .int .u64 v.m.bt, .int .i64 v.m.bc, .int .i64 v.m.o, v.dv, .bool v.m.la], Ents 36 v.ev v.es, Vec 5 1 encB v.dv v.m.d, RrT (.slice A0 bd.length c0) bd g lz fz, Vec 5 1 encB (.slice A0 bd.length c0) bd, cell g2 28 #[.int .i64 0, .int .i64 0, .int .i64 0, .int .u64 0, .int .u64 0, .int .u64 0, .slice none 0 0, .int .u64 0, .bool false, .int .u64 0, .int .u64 0, .int .i64 0, .int .i64 0, .slice none 0 0, .bool false]]) [3, 4] 0 (ent_of Try.func65 (by kernel_rfl) rfl) (rx_end hbd2 (rend lz fz) rfl) rfl rfl rfl (fun _ => rfl) rfl rfl rfl) ?_; rintro ⟨⟩
            refine h_q hflS rfl ?_
            refine h_done ?_
            by_cases hz : rend lz fz = 0
            · skip
              have hm1 : v.m = m0 := hmz hz
              refine d_reg ?_
              refine h_q hflS rfl ?_
              refine h_val rfl (.bool false) (fun b w hb hH => exec_cmp rfl rfl rfl (cmp_neq_f (by omega)) hb) ?_
              refine h_done (d_else rfl (d_skip (f_to (d_seq ?_))))
              rcases Bool.eq_false_or_eq_true (rightM v.m) with hR | hR
              · skip
                obtain ⟨rfl, rfl⟩ := decM_is (decM_right h16 hu hM (q2.symm.trans hz) (hm1 ▸ hR)) hD
                refine d_reg ?_
                refine h_q hflS rfl ?_
                refine h_val rfl (.agg #[.int .i64 v.m.k, .int .i64 v.m.a, .int .i64 v.m.b, .int .u64 v.m.t, .int .u64 v.m.i, .int .u64 v.m.lt, v.ev, .int .u64 v.m.co, .bool v.m.rf, .int .u64 v.m.bi, .int .u64 v.m.bt, .int .i64 v.m.bc, .int .i64 v.m.o, v.dv, .bool v.m.la]) (fun b w hb hH => exec_load rfl rfl (reads_agg (cs := [.int .i64 v.m.k, .int .i64 v.m.a, .int .i64 v.m.b, .int .u64 v.m.t, .int .u64 v.m.i, .int .u64 v.m.lt, v.ev, .int .u64 v.m.co, .bool v.m.rf, .int .u64 v.m.bi, .int .u64 v.m.bt, .int .i64 v.m.bc, .int .i64 v.m.o, v.dv, .bool v.m.la]) ty_api_Msg rfl) (hH.row 0 rfl) hb) ?_
                refine h_act (post := fun _ => [cell gm 28 #[.int .i64 v.m.k, .int .i64 v.m.a, .int .i64 v.m.b, .int .u64 v.m.t, .int .u64 v.m.i, .int .u64 v.m.lt, v.ev, .int .u64 v.m.co, .bool v.m.rf, .int .u64 v.m.bi, .int .u64 v.m.bt, .int .i64 v.m.bc, .int .i64 v.m.o, v.dv, .bool v.m.la], Ents 36 v.ev v.es, Vec 5 1 encB v.dv v.m.d, RrT (.slice A0 bd.length c0) bd g lz fz, Vec 5 1 encB (.slice A0 bd.length c0) bd, cell g2 28 #[.int .i64 0, .int .i64 0, .int .i64 0, .int .u64 0, .int .u64 0, .int .u64 0, .slice none 0 0, .int .u64 0, .bool false, .int .u64 0, .int .u64 0, .int .i64 0, .int .i64 0, .slice none 0 0, .bool false]]) rfl (a_call (ent_of Try.func30 (by kernel_rfl) rfl) (fun w hH => rrightM_any w v (msgOk_of hbd hM hm1 hes (hH.ents 1 rfl) (hH.sl8 2 rfl)) true hR) rfl rfl rfl) ?_; rintro ⟨⟩
                refine h_q hflS rfl ?_
                refine h_done (d_else rfl (d_skip (f_to (d_reg ?_))))
                refine h_q hflS rfl ?_
                refine h_val rfl (.agg #[.int .i64 v.m.k, .int .i64 v.m.a, .int .i64 v.m.b, .int .u64 v.m.t, .int .u64 v.m.i, .int .u64 v.m.lt, v.ev, .int .u64 v.m.co, .bool v.m.rf, .int .u64 v.m.bi, .int .u64 v.m.bt, .int .i64 v.m.bc, .int .i64 v.m.o, v.dv, .bool v.m.la]) (fun b w hb hH => exec_load rfl rfl (reads_agg (cs := [.int .i64 v.m.k, .int .i64 v.m.a, .int .i64 v.m.b, .int .u64 v.m.t, .int .u64 v.m.i, .int .u64 v.m.lt, v.ev, .int .u64 v.m.co, .bool v.m.rf, .int .u64 v.m.bi, .int .u64 v.m.bt, .int .i64 v.m.bc, .int .i64 v.m.o, v.dv, .bool v.m.la]) ty_api_Msg rfl) (hH.row 0 rfl) hb) ?_
                refine h_acts (post := fun _ => [cell gm 28 #[.int .i64 v.m.k, .int .i64 v.m.a, .int .i64 v.m.b, .int .u64 v.m.t, .int .u64 v.m.i, .int .u64 v.m.lt, v.ev, .int .u64 v.m.co, .bool v.m.rf, .int .u64 v.m.bi, .int .u64 v.m.bt, .int .i64 v.m.bc, .int .i64 v.m.o, v.dv, .bool v.m.la], Ents 36 v.ev v.es, Vec 5 1 encB v.dv v.m.d, RrT (.slice A0 bd.length c0) bd g lz fz, Vec 5 1 encB (.slice A0 bd.length c0) bd, cell g2 28 #[.int .i64 v.m.k, .int .i64 v.m.a, .int .i64 v.m.b, .int .u64 v.m.t, .int .u64 v.m.i, .int .u64 v.m.lt, v.ev, .int .u64 v.m.co, .bool v.m.rf, .int .u64 v.m.bi, .int .u64 v.m.bt, .int .i64 v.m.bc, .int .i64 v.m.o, v.dv, .bool v.m.la]]) rfl rfl (a_store 5 (v := .agg #[.int .i64 v.m.k, .int .i64 v.m.a, .int .i64 v.m.b, .int .u64 v.m.t, .int .u64 v.m.i, .int .u64 v.m.lt, v.ev, .int .u64 v.m.co, .bool v.m.rf, .int .u64 v.m.bi, .int .u64 v.m.bt, .int .i64 v.m.bc, .int .i64 v.m.o, v.dv, .bool v.m.la]) #[.int .i64 v.m.k, .int .i64 v.m.a, .int .i64 v.m.b, .int .u64 v.m.t, .int .u64 v.m.i, .int .u64 v.m.lt, v.ev, .int .u64 v.m.co, .bool v.m.rf, .int .u64 v.m.bi, .int .u64 v.m.bt, .int .i64 v.m.bc, .int .i64 v.m.o, v.dv, .bool v.m.la] ty_api_Msg.2 rfl rfl rfl rfl rfl rfl rfl rfl rfl) ?_; rintro ⟨⟩
                refine h_q hflS rfl ?_
                refine h_done (d_ret ?_)
                exact f_fin2 (.cell 5 (v := .agg #[.int .i64 v.m.k, .int .i64 v.m.a, .int .i64 v.m.b, .int .u64 v.m.t, .int .u64 v.m.i, .int .u64 v.m.lt, v.ev, .int .u64 v.m.co, .bool v.m.rf, .int .u64 v.m.bi, .int .u64 v.m.bt, .int .i64 v.m.bc, .int .i64 v.m.o, v.dv, .bool v.m.la]) (reads_agg (cs := [.int .i64 v.m.k, .int .i64 v.m.a, .int .i64 v.m.b, .int .u64 v.m.t, .int .u64 v.m.i, .int .u64 v.m.lt, v.ev, .int .u64 v.m.co, .bool v.m.rf, .int .u64 v.m.bi, .int .u64 v.m.bt, .int .i64 v.m.bc, .int .i64 v.m.o, v.dv, .bool v.m.la]) ty_api_Msg rfl) rfl rfl) (.tmp rfl) (fun w h => tells v rfl [1, 2] rfl h (fun z hz => ⟨z, .refl _, fact_add (xs := [_, _]) ⟨hm1, hes⟩ hz⟩)) rfl
              · skip
                obtain ⟨rfl, rfl⟩ := decM_is (decM_wrong h16 hu hM (q2.symm.trans hz) (hm1 ▸ hR)) hD
                refine d_reg ?_
                refine h_q hflS rfl ?_
                refine h_val rfl (.agg #[.int .i64 v.m.k, .int .i64 v.m.a, .int .i64 v.m.b, .int .u64 v.m.t, .int .u64 v.m.i, .int .u64 v.m.lt, v.ev, .int .u64 v.m.co, .bool v.m.rf, .int .u64 v.m.bi, .int .u64 v.m.bt, .int .i64 v.m.bc, .int .i64 v.m.o, v.dv, .bool v.m.la]) (fun b w hb hH => exec_load rfl rfl (reads_agg (cs := [.int .i64 v.m.k, .int .i64 v.m.a, .int .i64 v.m.b, .int .u64 v.m.t, .int .u64 v.m.i, .int .u64 v.m.lt, v.ev, .int .u64 v.m.co, .bool v.m.rf, .int .u64 v.m.bi, .int .u64 v.m.bt, .int .i64 v.m.bc, .int .i64 v.m.o, v.dv, .bool v.m.la]) ty_api_Msg rfl) (hH.row 0 rfl) hb) ?_
                refine h_act (post := fun _ => [cell gm 28 #[.int .i64 v.m.k, .int .i64 v.m.a, .int .i64 v.m.b, .int .u64 v.m.t, .int .u64 v.m.i, .int .u64 v.m.lt, v.ev, .int .u64 v.m.co, .bool v.m.rf, .int .u64 v.m.bi, .int .u64 v.m.bt, .int .i64 v.m.bc, .int .i64 v.m.o, v.dv, .bool v.m.la], Ents 36 v.ev v.es, Vec 5 1 encB v.dv v.m.d, RrT (.slice A0 bd.length c0) bd g lz fz, Vec 5 1 encB (.slice A0 bd.length c0) bd, cell g2 28 #[.int .i64 0, .int .i64 0, .int .i64 0, .int .u64 0, .int .u64 0, .int .u64 0, .slice none 0 0, .int .u64 0, .bool false, .int .u64 0, .int .u64 0, .int .i64 0, .int .i64 0, .slice none 0 0, .bool false]]) rfl (a_call (ent_of Try.func30 (by kernel_rfl) rfl) (fun w hH => rrightM_any w v (msgOk_of hbd hM hm1 hes (hH.ents 1 rfl) (hH.sl8 2 rfl)) false hR) rfl rfl rfl) ?_; rintro ⟨⟩
                refine h_q hflS rfl ?_
                refine h_done (d_then rfl ?_)
                refine d_new (t := Ents 36 (.slice none 0 0) ([])) (entsT_nil) ?_
                refine d_nilvec 5 1 encB ?_
                refine d_reg ?_
                refine h_q hflS rfl ?_
                refine h_val rfl (.agg #[.int .i64 0, .int .i64 0, .int .i64 0, .int .u64 0, .int .u64 0, .int .u64 0, .slice none 0 0, .int .u64 0, .bool false, .int .u64 0, .int .u64 0, .int .i64 0, .int .i64 0, .slice none 0 0, .bool false]) (fun b w hb hH => exec_build rfl rfl (by kernel_rfl) hb) ?_
                refine h_acts (post := fun _ => [Vec 5 1 encB (.slice none 0 0) ([]), Ents 36 (.slice none 0 0) ([]), cell gm 28 #[.int .i64 v.m.k, .int .i64 v.m.a, .int .i64 v.m.b, .int .u64 v.m.t, .int .u64 v.m.i, .int .u64 v.m.lt, v.ev, .int .u64 v.m.co, .bool v.m.rf, .int .u64 v.m.bi, .int .u64 v.m.bt, .int .i64 v.m.bc, .int .i64 v.m.o, v.dv, .bool v.m.la], Ents 36 v.ev v.es, Vec 5 1 encB v.dv v.m.d, RrT (.slice A0 bd.length c0) bd g lz fz, Vec 5 1 encB (.slice A0 bd.length c0) bd, cell g2 28 #[.int .i64 0, .int .i64 0, .int .i64 0, .int .u64 0, .int .u64 0, .int .u64 0, .slice none 0 0, .int .u64 0, .bool false, .int .u64 0, .int .u64 0, .int .i64 0, .int .i64 0, .slice none 0 0, .bool false]]) rfl rfl (a_store 7 (v := .agg #[.int .i64 0, .int .i64 0, .int .i64 0, .int .u64 0, .int .u64 0, .int .u64 0, .slice none 0 0, .int .u64 0, .bool false, .int .u64 0, .int .u64 0, .int .i64 0, .int .i64 0, .slice none 0 0, .bool false]) #[.int .i64 0, .int .i64 0, .int .i64 0, .int .u64 0, .int .u64 0, .int .u64 0, .slice none 0 0, .int .u64 0, .bool false, .int .u64 0, .int .u64 0, .int .i64 0, .int .i64 0, .slice none 0 0, .bool false] ty_api_Msg.2 rfl rfl rfl rfl rfl rfl rfl rfl rfl) ?_; rintro ⟨⟩
                refine h_q hflS rfl ?_
                refine h_done (d_ret (f_then_ret ?_))
                exact f_fin2 (.cell 7 (v := .agg #[.int .i64 0, .int .i64 0, .int .i64 0, .int .u64 0, .int .u64 0, .int .u64 0, .slice none 0 0, .int .u64 0, .bool false, .int .u64 0, .int .u64 0, .int .i64 0, .int .i64 0, .slice none 0 0, .bool false]) (reads_agg (cs := [.int .i64 0, .int .i64 0, .int .i64 0, .int .u64 0, .int .u64 0, .int .u64 0, .slice none 0 0, .int .u64 0, .bool false, .int .u64 0, .int .u64 0, .int .i64 0, .int .i64 0, .slice none 0 0, .bool false]) ty_api_Msg rfl) rfl rfl) (.tmp rfl) (fun w h => tells (⟨.zero, [], none, 0, none, 0⟩ : MsgV) rfl [1, 0] rfl h (fun z hz => ⟨z, .refl _, fact_add (xs := [_, _]) (show _ = _ ∧ _ = _ from ⟨rfl, rfl⟩) hz⟩)) rfl
            · skip
              have hb := decM_bad h16 hu hM (by omega)
              rw [← q2] at hb
              obtain ⟨rfl, rfl⟩ := decM_is hb hD
              refine d_reg ?_
              refine h_q hflS rfl ?_
              refine h_val rfl (.bool true) (fun b w hb hH => exec_cmp rfl rfl rfl (cmp_neq_t (by omega)) hb) ?_
              refine h_done (d_then rfl ?_)
              refine d_new (t := Ents 36 (.slice none 0 0) ([])) (entsT_nil) ?_
              refine d_nilvec 5 1 encB ?_
              refine d_reg ?_
              refine h_q hflS rfl ?_
              refine h_val rfl (.agg #[.int .i64 0, .int .i64 0, .int .i64 0, .int .u64 0, .int .u64 0, .int .u64 0, .slice none 0 0, .int .u64 0, .bool false, .int .u64 0, .int .u64 0, .int .i64 0, .int .i64 0, .slice none 0 0, .bool false]) (fun b w hb hH => exec_build rfl rfl (by kernel_rfl) hb) ?_
              refine h_q hflS rfl ?_
              refine h_acts (post := fun _ => [Vec 5 1 encB (.slice none 0 0) ([]), Ents 36 (.slice none 0 0) ([]), cell gm 28 #[.int .i64 v.m.k, .int .i64 v.m.a, .int .i64 v.m.b, .int .u64 v.m.t, .int .u64 v.m.i, .int .u64 v.m.lt, v.ev, .int .u64 v.m.co, .bool v.m.rf, .int .u64 v.m.bi, .int .u64 v.m.bt, .int .i64 v.m.bc, .int .i64 v.m.o, v.dv, .bool v.m.la], Ents 36 v.ev v.es, Vec 5 1 encB v.dv v.m.d, RrT (.slice A0 bd.length c0) bd g lz fz, Vec 5 1 encB (.slice A0 bd.length c0) bd, cell g2 28 #[.int .i64 0, .int .i64 0, .int .i64 0, .int .u64 0, .int .u64 0, .int .u64 0, .slice none 0 0, .int .u64 0, .bool false, .int .u64 0, .int .u64 0, .int .i64 0, .int .i64 0, .slice none 0 0, .bool false]]) rfl rfl (a_store 7 (v := .agg #[.int .i64 0, .int .i64 0, .int .i64 0, .int .u64 0, .int .u64 0, .int .u64 0, .slice none 0 0, .int .u64 0, .bool false, .int .u64 0, .int .u64 0, .int .i64 0, .int .i64 0, .slice none 0 0, .bool false]) #[.int .i64 0, .int .i64 0, .int .i64 0, .int .u64 0, .int .u64 0, .int .u64 0, .slice none 0 0, .int .u64 0, .bool false, .int .u64 0, .int .u64 0, .int .i64 0, .int .i64 0, .slice none 0 0, .bool false] ty_api_Msg.2 rfl rfl rfl rfl rfl rfl rfl rfl rfl) ?_; rintro ⟨⟩
              refine h_q hflS rfl ?_
              refine h_done (d_ret (f_then_ret ?_))
              exact f_fin2 (.cell 7 (v := .agg #[.int .i64 0, .int .i64 0, .int .i64 0, .int .u64 0, .int .u64 0, .int .u64 0, .slice none 0 0, .int .u64 0, .bool false, .int .u64 0, .int .u64 0, .int .i64 0, .int .i64 0, .slice none 0 0, .bool false]) (reads_agg (cs := [.int .i64 0, .int .i64 0, .int .i64 0, .int .u64 0, .int .u64 0, .int .u64 0, .slice none 0 0, .int .u64 0, .bool false, .int .u64 0, .int .u64 0, .int .i64 0, .int .i64 0, .slice none 0 0, .bool false]) ty_api_Msg rfl) rfl rfl) (.tmp rfl) (fun w h => tells (⟨.zero, [], none, 0, none, 0⟩ : MsgV) rfl [1, 0] rfl h (fun z hz => ⟨z, .refl _, fact_add (xs := [_, _]) (show _ = _ ∧ _ = _ from ⟨rfl, rfl⟩) hz⟩)) rfl
          · skip
            have hRE2 := REOk_fault hRE (show rlist l6 f6 = (es, l7, f7) from h7) hen
            simp only at hRE2
            obtain ⟨hen2, hfn⟩ := hRE2
            have h8_ := h8
            rw [← hb5] at h8_
            have h9_ := h9
            rw [← hb6] at h9_
            have h10_ := h10
            rw [← hb7] at h10_
            have h11_ := h11
            rw [← hb8] at h11_
            have h12_ := h12
            rw [← hb9] at h12_
            obtain ⟨hl7, hf7⟩ := late_stays hfn h8_ h9_ h10_ h11_ h12_
            have hb2 : rend l' f' = en2 := by rw [rend_fault (by omega)]; omega
            have hb := decM_bad h16 hu hM (by omega)
            rw [hb2] at hb
            obtain ⟨rfl, rfl⟩ := decM_is hb hD
            refine d_reg ?_
            refine h_q hflS rfl ?_
            refine h_val rfl (.bool true) (fun b w hb hH => exec_cmp rfl rfl rfl (cmp_neq_t (by omega)) hb) ?_
            refine h_done (d_then rfl ?_)
            refine d_new (t := Ents 36 (.slice none 0 0) ([])) (entsT_nil) ?_
            refine d_nilvec 5 1 encB ?_
            refine d_reg ?_
            refine h_q hflS rfl ?_
            refine h_val rfl (.agg #[.int .i64 0, .int .i64 0, .int .i64 0, .int .u64 0, .int .u64 0, .int .u64 0, .slice none 0 0, .int .u64 0, .bool false, .int .u64 0, .int .u64 0, .int .i64 0, .int .i64 0, .slice none 0 0, .bool false]) (fun b w hb hH => exec_build rfl rfl (by kernel_rfl) hb) ?_
            refine h_q hflS rfl ?_
            refine h_acts (post := fun _ => [Vec 5 1 encB (.slice none 0 0) ([]), Ents 36 (.slice none 0 0) ([]), Ents 36 (.slice EA es2.length ec) es2, fact (REOk (rlist l6 f6) ⟨EA, ec, es2, en2, lz, fz⟩), cell gm 28 #[.int .i64 (k : Int), .int .i64 (a : Int), .int .i64 (bb : Int), .int .u64 (t : Int), .int .u64 (i : Int), .int .u64 (lt : Int), .slice EA es2.length ec, .int .u64 (co : Int), .bool false, .int .u64 0, .int .u64 0, .int .i64 0, .int .i64 0, .slice none 0 0, .bool false], RrT (.slice A0 bd.length c0) bd g lz fz, Vec 5 1 encB (.slice A0 bd.length c0) bd, cell g2 28 #[.int .i64 0, .int .i64 0, .int .i64 0, .int .u64 0, .int .u64 0, .int .u64 0, .slice none 0 0, .int .u64 0, .bool false, .int .u64 0, .int .u64 0, .int .i64 0, .int .i64 0, .slice none 0 0, .bool false]]) rfl rfl (a_store 7 (v := .agg #[.int .i64 0, .int .i64 0, .int .i64 0, .int .u64 0, .int .u64 0, .int .u64 0, .slice none 0 0, .int .u64 0, .bool false, .int .u64 0, .int .u64 0, .int .i64 0, .int .i64 0, .slice none 0 0, .bool false]) #[.int .i64 0, .int .i64 0, .int .i64 0, .int .u64 0, .int .u64 0, .int .u64 0, .slice none 0 0, .int .u64 0, .bool false, .int .u64 0, .int .u64 0, .int .i64 0, .int .i64 0, .slice none 0 0, .bool false] ty_api_Msg.2 rfl rfl rfl rfl rfl rfl rfl rfl rfl) ?_; rintro ⟨⟩
            refine h_q hflS rfl ?_
            refine h_done (d_ret (f_then_ret (f_then_ret ?_)))
            exact f_fin2 (.cell 7 (v := .agg #[.int .i64 0, .int .i64 0, .int .i64 0, .int .u64 0, .int .u64 0, .int .u64 0, .slice none 0 0, .int .u64 0, .bool false, .int .u64 0, .int .u64 0, .int .i64 0, .int .i64 0, .slice none 0 0, .bool false]) (reads_agg (cs := [.int .i64 0, .int .i64 0, .int .i64 0, .int .u64 0, .int .u64 0, .int .u64 0, .slice none 0 0, .int .u64 0, .bool false, .int .u64 0, .int .u64 0, .int .i64 0, .int .i64 0, .slice none 0 0, .bool false]) ty_api_Msg rfl) rfl rfl) (.tmp rfl) (fun w h => tells (⟨.zero, [], none, 0, none, 0⟩ : MsgV) rfl [1, 0] rfl h (fun z hz => ⟨z, .refl _, fact_add (xs := [_, _]) (show _ = _ ∧ _ = _ from ⟨rfl, rfl⟩) hz⟩)) rfl
    · skip
      obtain ⟨rfl, rfl⟩ := decM_is (decM_seal h16 hu he0) hD
      refine d_reg ?_
      refine h_q hflS rfl ?_
      refine h_val rfl (.bool true) (fun b w hb hH => exec_cmp rfl rfl rfl (cmp_neq_t (by omega)) hb) ?_
      refine h_done (d_then rfl ?_)
      refine d_new (t := Ents 36 (.slice none 0 0) ([])) (entsT_nil) ?_
      refine d_nilvec 5 1 encB ?_
      refine d_reg ?_
      refine h_q hflS rfl ?_
      refine h_val rfl (.agg #[.int .i64 0, .int .i64 0, .int .i64 0, .int .u64 0, .int .u64 0, .int .u64 0, .slice none 0 0, .int .u64 0, .bool false, .int .u64 0, .int .u64 0, .int .i64 0, .int .i64 0, .slice none 0 0, .bool false]) (fun b w hb hH => exec_build rfl rfl (by kernel_rfl) hb) ?_
      refine h_q hflS rfl ?_
      refine h_acts (post := fun _ => [Vec 5 1 encB (.slice none 0 0) ([]), Ents 36 (.slice none 0 0) ([]), Vec 5 1 encB (.slice A0 bd.length c0) bd, cell g2 28 #[.int .i64 0, .int .i64 0, .int .i64 0, .int .u64 0, .int .u64 0, .int .u64 0, .slice none 0 0, .int .u64 0, .bool false, .int .u64 0, .int .u64 0, .int .i64 0, .int .i64 0, .slice none 0 0, .bool false]]) rfl rfl (a_store 3 (v := .agg #[.int .i64 0, .int .i64 0, .int .i64 0, .int .u64 0, .int .u64 0, .int .u64 0, .slice none 0 0, .int .u64 0, .bool false, .int .u64 0, .int .u64 0, .int .i64 0, .int .i64 0, .slice none 0 0, .bool false]) #[.int .i64 0, .int .i64 0, .int .i64 0, .int .u64 0, .int .u64 0, .int .u64 0, .slice none 0 0, .int .u64 0, .bool false, .int .u64 0, .int .u64 0, .int .i64 0, .int .i64 0, .slice none 0 0, .bool false] ty_api_Msg.2 rfl rfl rfl rfl rfl rfl rfl rfl rfl) ?_; rintro ⟨⟩
      refine h_q hflS rfl ?_
      refine h_done (d_ret (f_then_ret ?_))
      exact f_fin2 (.cell 3 (v := .agg #[.int .i64 0, .int .i64 0, .int .i64 0, .int .u64 0, .int .u64 0, .int .u64 0, .slice none 0 0, .int .u64 0, .bool false, .int .u64 0, .int .u64 0, .int .i64 0, .int .i64 0, .slice none 0 0, .bool false]) (reads_agg (cs := [.int .i64 0, .int .i64 0, .int .i64 0, .int .u64 0, .int .u64 0, .int .u64 0, .slice none 0 0, .int .u64 0, .bool false, .int .u64 0, .int .u64 0, .int .i64 0, .int .i64 0, .slice none 0 0, .bool false]) ty_api_Msg rfl) rfl rfl) (.tmp rfl) (fun w h => tells (⟨.zero, [], none, 0, none, 0⟩ : MsgV) rfl [1, 0] rfl h (fun z hz => ⟨z, .refl _, fact_add (xs := [_, _]) (show _ = _ ∧ _ = _ from ⟨rfl, rfl⟩) hz⟩)) rfl
end Go.Proofs.Ytnhcbjlaeaohjaa.Sep
